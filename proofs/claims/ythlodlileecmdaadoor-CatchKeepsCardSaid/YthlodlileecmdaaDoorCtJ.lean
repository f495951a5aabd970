/- The law CatchKeeps. -/
import Derived.Test.YthlodlileecmdaaDoorSyP2
import Derived.Test.YthlodlileecmdaaDoorGrM
import Derived.Test.YthlodlileecmdaaDoorCtT
import Derived.Test.YthlodlileecmdaaDoorCtA
import Derived.Test.YthlodlileecmdaaDoorCtD
import Derived.Test.YthlodlileecmdaaDoorCtU
import Derived.Test.YthlodlileecmdaaDoorCtI
import Derived.KernelRfl
import Derived.Test.YthlodlileecmdaaDoorProg
namespace Go.Proofs.YthlodlileecmdaaDoor.Sy
open Go Go.Rv
set_option linter.unusedVariables false

def g32 : List Int := [0, 1, 28, 2, 29, 14, 24, 3, 30, 22, 20, 15, 25, 17, 4, 8, 31, 27, 13, 23, 21, 19, 16, 7, 26, 12, 18, 6, 11, 5, 10, 9]
def tab1 : Tabs := [(1, .u8, g32)]
noncomputable def reaL (low high : Int) (eg no so : Prop) (a b sex eggs notch shell : Int) : Rows := if reaErr low high a b sex eggs notch shell = 0 then reaR low high eg no so a b eggs notch shell else []
theorem reaL_spec (low high : Int) (eg no so : Prop) (a b sex eggs notch shell : Int) : reaN low high a b sex eggs notch shell = reaN low high a b sex eggs notch shell ∧ (reaL low high eg no so a b sex eggs notch shell).length = reaN low high a b sex eggs notch shell ∧ (∀ r ∈ reaL low high eg no so a b sex eggs notch shell, r.length = 1) ∧
    ∀ i, i < reaN low high a b sex eggs notch shell → (El.fn (Rv.elemOf [.i64] (reaR low high eg no so a b eggs notch shell))).at i = Rv.elemOf [.i64] (reaL low high eg no so a b sex eggs notch shell) i := by
  unfold reaL reaN
  by_cases h : reaErr low high a b sex eggs notch shell = 0
  · rw [if_pos h, if_pos h]
    refine ⟨rfl, rfl, ?_, fun _ _ => rfl⟩
    intro r hr
    simp only [reaR, List.mem_cons, List.not_mem_nil, or_false] at hr
    rcases hr with rfl | rfl | rfl | rfl | rfl <;> rfl
  · rw [if_neg h, if_neg h]
    exact ⟨rfl, rfl, fun r hr => absurd hr (List.not_mem_nil), fun i hi => absurd hi (Nat.not_lt_zero i)⟩
theorem reaL_le (low high : Int) (eg no so : Prop) (a b sex eggs notch shell : Int) : (reaL low high eg no so a b sex eggs notch shell).length ≤ 4000000 ∧ (reaL low high eg no so a b sex eggs notch shell).length ≤ 4000000 := by
  have h := (reaL_spec low high eg no so a b sex eggs notch shell).2.1
  have h2 : reaN low high a b sex eggs notch shell ≤ 5 := by
    unfold reaN
    split <;> omega
  omega

noncomputable def F_law : LawF := ⟨3, [.agg [.i .i64, .i .i64, .b, .b, .b], .agg [.i .i64, .i .i64, .i .i64, .i .i64, .i .i64, .i .i64], .one (.l [.i64])], fun l => match l with | [.z g0, .z g1, .p g2, .p g3, .p g4, .z c0, .z c1, .z c2, .z c3, .z c4, .z c5, .l N] => N.length ≤ 9223372036854775807 | _ => False⟩
noncomputable def A_law : List SV → List Dat → Nat → List SV → Ann := fun xs ds n ts => match xs with
  | [.agg _, .agg _, .lst z _ _ _] => match ds with
    | [.z g0, .z g1, .p g2, .p g3, .p g4, .z c0, .z c1, .z c2, .z c3, .z c4, .z c5, .l N] => match n with
      | 5 => ⟨Unit, fun _ => [], fun _ => [], fun _ => True, fun _ => 0, 4⟩
      | _ => noAnn
    | _ => noAnn
  | _ => noAnn

def V_law : Prop :=
  ∀ (B : RW), hasTabs tab1 B → ∀ (n n_1 : Int) (c c_1 c_2 : Prop) (n_2 n_3 n_4 n_5 n_6 n_7 : Int) (x : RV) (rows : List (List Int)), IsLst B x rows.length ((1 : Nat)) (Rv.elemOf [IntKind.i64] rows) → oneB x = true → (∀
  (row : List Int), row ∈ rows → row.length = (1 : Nat)) → rows.length ≤ (9223372036854775807 : Nat) → ∃ (rows_1 : List (List Int)), Ob (IsLst B x rows.length ((1 : Nat)) (Rv.elemOf [IntKind.i64] rows) ∧ rows_1.length =
  rows.length ∧ (∀ (r : List Int), r ∈ rows_1 → r.length = (1 : Nat)) ∧ ∀ (i : Nat), i < rows.length → Rv.elemOf [IntKind.i64] rows i = Rv.elemOf [IntKind.i64] rows_1 i) ∧ Ob (F_TideOf.named.pre [Dat.l rows_1]) ∧ Ob
  (F_GaugeOf.named.pre ([Dat.z (tideK rows_1 rows_1.length)] ++ [])) ∧ ∀ (v : Int), v = gaQ (tideK rows_1 rows_1.length) → ∀ (v_1 : Int), v_1 = gaLow (tideK rows_1 rows_1.length) → ∀ (v_2 : Int), v_2 = gaHi (tideK rows_1
  rows_1.length) → Ob (F_CaughtOf.named.pre ([Dat.z v] ++ [])) ∧ ∀ (v_3 : Int), v_3 = cgQ v → ∀ (v_4 : Int), v_4 = cgLo v → ∀ (v_5 : Int), v_5 = cgHi v → ∀ (v_6 : Int), v_6 = trSex v → ∀ (v_7 : Int), v_7 = cgEg v → ∀ (v_8
  : Int), v_8 = cgNo v → ∀ (v_9 : Int), v_9 = trSh v → Ob (F_Reasons.named.pre ([Dat.z n, Dat.z n_1, Dat.p c, Dat.p c_1, Dat.p c_2] ++ ([Dat.z n_2, Dat.z n_3, Dat.z n_4, Dat.z n_5, Dat.z n_6, Dat.z n_7] ++ []))) ∧ ∀ (v_10
  : Int), v_10 = reaErr n n_1 n_2 n_3 n_4 n_5 n_6 n_7 → Ob (PlainE (reaN n n_1 n_2 n_3 n_4 n_5 n_6 n_7) (El.fn (Rv.elemOf [IntKind.i64] (reaR n n_1 c c_1 c_2 n_2 n_3 n_5 n_6 n_7)))) ∧ Ob (F_rReasons.named.pre ([Dat.z n,
  Dat.z n_1, Dat.p c, Dat.p c_1, Dat.p c_2] ++ ([Dat.z n_2, Dat.z n_3, Dat.z n_4, Dat.z n_5, Dat.z n_6, Dat.z n_7] ++ []))) ∧ ∀ (v_11 : Int), v_11 = reaErr n n_1 n_2 n_3 n_4 n_5 n_6 n_7 → Ob (PlainE (reaN n n_1 n_2 n_3 n_4
  n_5 n_6 n_7) (El.fn (Rv.elemOf [IntKind.i64] (reaR n n_1 c c_1 c_2 n_2 n_3 n_5 n_6 n_7)))) ∧ Ob (F_Keep.named.pre ([Dat.z n, Dat.z n_1, Dat.p c, Dat.p c_1, Dat.p c_2] ++ ([Dat.z n_2, Dat.z n_3, Dat.z n_4, Dat.z n_5,
  Dat.z n_6, Dat.z n_7] ++ []))) ∧ ∀ (v_12 : Int), v_12 = keepV n n_1 c c_1 c_2 n_2 n_3 n_4 n_5 n_6 n_7 → ∀ (v_13 : Int), v_13 = reaErr n n_1 n_2 n_3 n_4 n_5 n_6 n_7 → Ob (F_rKeep.named.pre ([Dat.z n, Dat.z n_1, Dat.p c,
  Dat.p c_1, Dat.p c_2] ++ ([Dat.z n_2, Dat.z n_3, Dat.z n_4, Dat.z n_5, Dat.z n_6, Dat.z n_7] ++ []))) ∧ ∀ (v_14 : Int), v_14 = keepV n n_1 c c_1 c_2 n_2 n_3 n_4 n_5 n_6 n_7 → ∀ (v_15 : Int), v_15 = reaErr n n_1 n_2 n_3
  n_4 n_5 n_6 n_7 → Ob True ∧ Ob True ∧ (¬¬gErr n n_1 = gErr n n_1 → Ob True ∧ Ob True ∧ (¬¬capErr n_2 n_3 n_4 n_5 n_6 n_7 = capErr n_2 n_3 n_4 n_5 n_6 n_7 → (¬¬v_10 = v_11 → (¬¬v_13 = v_15 → (¬¬v_12 = v_14 → ∃ (rows_2 :
  List (List Int)), Ob (reaN n n_1 n_2 n_3 n_4 n_5 n_6 n_7 = reaN n n_1 n_2 n_3 n_4 n_5 n_6 n_7 ∧ rows_2.length = reaN n n_1 n_2 n_3 n_4 n_5 n_6 n_7 ∧ (∀ (r : List Int), r ∈ rows_2 → r.length = nat_lit 1) ∧ ∀ (i : Nat), i
  < reaN n n_1 n_2 n_3 n_4 n_5 n_6 n_7 → (El.fn (Rv.elemOf [IntKind.i64] (reaR n n_1 c c_1 c_2 n_2 n_3 n_5 n_6 n_7))).at i = Rv.elemOf [IntKind.i64] rows_2 i) ∧ ∃ (rows_3 : List (List Int)), Ob (reaN n n_1 n_2 n_3 n_4 n_5
  n_6 n_7 = reaN n n_1 n_2 n_3 n_4 n_5 n_6 n_7 ∧ rows_3.length = reaN n n_1 n_2 n_3 n_4 n_5 n_6 n_7 ∧ (∀ (r : List Int), r ∈ rows_3 → r.length = nat_lit 1) ∧ ∀ (i : Nat), i < reaN n n_1 n_2 n_3 n_4 n_5 n_6 n_7 → (El.fn
  (Rv.elemOf [IntKind.i64] (reaR n n_1 c c_1 c_2 n_2 n_3 n_5 n_6 n_7))).at i = Rv.elemOf [IntKind.i64] rows_3 i) ∧ Ob (rows_2.length ≤ nat_lit 4000000 ∧ rows_3.length ≤ nat_lit 4000000) ∧ (¬samTo (nat_lit 1) rows_2 rows_3
  rows_2.length → False) ∧ (¬¬samTo (nat_lit 1) rows_2 rows_3 rows_2.length → Ob (F_Reasons.named.pre ([Dat.z v_1, Dat.z v_2, Dat.p (gaEg (tideK rows_1 rows_1.length)), Dat.p (gaNo (tideK rows_1 rows_1.length)), Dat.p
  (gaSo (tideK rows_1 rows_1.length))] ++ ([Dat.z v_4, Dat.z v_5, Dat.z v_6, Dat.z v_7, Dat.z v_8, Dat.z v_9] ++ []))) ∧ ∀ (v_16 : Int), v_16 = reaErr v_1 v_2 v_4 v_5 v_6 v_7 v_8 v_9 → Ob (PlainE (reaN v_1 v_2 v_4 v_5 v_6
  v_7 v_8 v_9) (El.fn (Rv.elemOf [IntKind.i64] (reaR v_1 v_2 (gaEg (tideK rows_1 rows_1.length)) (gaNo (tideK rows_1 rows_1.length)) (gaSo (tideK rows_1 rows_1.length)) v_4 v_5 v_7 v_8 v_9)))) ∧ Ob (F_rReasons.named.pre
  ([Dat.z v_1, Dat.z v_2, Dat.p (gaEg (tideK rows_1 rows_1.length)), Dat.p (gaNo (tideK rows_1 rows_1.length)), Dat.p (gaSo (tideK rows_1 rows_1.length))] ++ ([Dat.z v_4, Dat.z v_5, Dat.z v_6, Dat.z v_7, Dat.z v_8, Dat.z
  v_9] ++ []))) ∧ ∀ (v_17 : Int), v_17 = reaErr v_1 v_2 v_4 v_5 v_6 v_7 v_8 v_9 → Ob (PlainE (reaN v_1 v_2 v_4 v_5 v_6 v_7 v_8 v_9) (El.fn (Rv.elemOf [IntKind.i64] (reaR v_1 v_2 (gaEg (tideK rows_1 rows_1.length)) (gaNo
  (tideK rows_1 rows_1.length)) (gaSo (tideK rows_1 rows_1.length)) v_4 v_5 v_7 v_8 v_9)))) ∧ Ob (F_Keep.named.pre ([Dat.z v_1, Dat.z v_2, Dat.p (gaEg (tideK rows_1 rows_1.length)), Dat.p (gaNo (tideK rows_1
  rows_1.length)), Dat.p (gaSo (tideK rows_1 rows_1.length))] ++ ([Dat.z v_4, Dat.z v_5, Dat.z v_6, Dat.z v_7, Dat.z v_8, Dat.z v_9] ++ []))) ∧ ∀ (v_18 : Int), v_18 = keepV v_1 v_2 (gaEg (tideK rows_1 rows_1.length)) (gaNo
  (tideK rows_1 rows_1.length)) (gaSo (tideK rows_1 rows_1.length)) v_4 v_5 v_6 v_7 v_8 v_9 → ∀ (v_19 : Int), v_19 = reaErr v_1 v_2 v_4 v_5 v_6 v_7 v_8 v_9 → Ob (F_rKeep.named.pre ([Dat.z v_1, Dat.z v_2, Dat.p (gaEg (tideK
  rows_1 rows_1.length)), Dat.p (gaNo (tideK rows_1 rows_1.length)), Dat.p (gaSo (tideK rows_1 rows_1.length))] ++ ([Dat.z v_4, Dat.z v_5, Dat.z v_6, Dat.z v_7, Dat.z v_8, Dat.z v_9] ++ []))) ∧ ∀ (v_20 : Int), v_20 = keepV
  v_1 v_2 (gaEg (tideK rows_1 rows_1.length)) (gaNo (tideK rows_1 rows_1.length)) (gaSo (tideK rows_1 rows_1.length)) v_4 v_5 v_6 v_7 v_8 v_9 → ∀ (v_21 : Int), v_21 = reaErr v_1 v_2 v_4 v_5 v_6 v_7 v_8 v_9 → Ob True ∧ Ob
  True ∧ (¬¬gErr v_1 v_2 = gErr v_1 v_2 → Ob True ∧ Ob True ∧ (¬¬capErr v_4 v_5 v_6 v_7 v_8 v_9 = capErr v_4 v_5 v_6 v_7 v_8 v_9 → (¬¬v_16 = v_17 → (¬¬v_19 = v_21 → (¬¬v_18 = v_20 → ∃ (rows_4 : List (List Int)), Ob (reaN
  v_1 v_2 v_4 v_5 v_6 v_7 v_8 v_9 = reaN v_1 v_2 v_4 v_5 v_6 v_7 v_8 v_9 ∧ rows_4.length = reaN v_1 v_2 v_4 v_5 v_6 v_7 v_8 v_9 ∧ (∀ (r : List Int), r ∈ rows_4 → r.length = nat_lit 1) ∧ ∀ (i : Nat), i < reaN v_1 v_2 v_4
  v_5 v_6 v_7 v_8 v_9 → (El.fn (Rv.elemOf [IntKind.i64] (reaR v_1 v_2 (gaEg (tideK rows_1 rows_1.length)) (gaNo (tideK rows_1 rows_1.length)) (gaSo (tideK rows_1 rows_1.length)) v_4 v_5 v_7 v_8 v_9))).at i = Rv.elemOf
  [IntKind.i64] rows_4 i) ∧ ∃ (rows_5 : List (List Int)), Ob (reaN v_1 v_2 v_4 v_5 v_6 v_7 v_8 v_9 = reaN v_1 v_2 v_4 v_5 v_6 v_7 v_8 v_9 ∧ rows_5.length = reaN v_1 v_2 v_4 v_5 v_6 v_7 v_8 v_9 ∧ (∀ (r : List Int), r ∈
  rows_5 → r.length = nat_lit 1) ∧ ∀ (i : Nat), i < reaN v_1 v_2 v_4 v_5 v_6 v_7 v_8 v_9 → (El.fn (Rv.elemOf [IntKind.i64] (reaR v_1 v_2 (gaEg (tideK rows_1 rows_1.length)) (gaNo (tideK rows_1 rows_1.length)) (gaSo (tideK
  rows_1 rows_1.length)) v_4 v_5 v_7 v_8 v_9))).at i = Rv.elemOf [IntKind.i64] rows_5 i) ∧ Ob (rows_4.length ≤ nat_lit 4000000 ∧ rows_5.length ≤ nat_lit 4000000) ∧ (¬samTo (nat_lit 1) rows_4 rows_5 rows_4.length → False) ∧
  (¬¬samTo (nat_lit 1) rows_4 rows_5 rows_4.length → Ob (F_Reasons.named.pre ([Dat.z v_1, Dat.z v_2, Dat.p (gaEg (tideK rows_1 rows_1.length)), Dat.p (gaNo (tideK rows_1 rows_1.length)), Dat.p (gaSo (tideK rows_1
  rows_1.length))] ++ ([Dat.z n_2, Dat.z n_3, Dat.z n_4, Dat.z n_5, Dat.z n_6, Dat.z n_7] ++ []))) ∧ ∀ (v_22 : Int), v_22 = reaErr v_1 v_2 n_2 n_3 n_4 n_5 n_6 n_7 → Ob (PlainE (reaN v_1 v_2 n_2 n_3 n_4 n_5 n_6 n_7) (El.fn
  (Rv.elemOf [IntKind.i64] (reaR v_1 v_2 (gaEg (tideK rows_1 rows_1.length)) (gaNo (tideK rows_1 rows_1.length)) (gaSo (tideK rows_1 rows_1.length)) n_2 n_3 n_5 n_6 n_7)))) ∧ Ob (F_rReasons.named.pre ([Dat.z v_1, Dat.z
  v_2, Dat.p (gaEg (tideK rows_1 rows_1.length)), Dat.p (gaNo (tideK rows_1 rows_1.length)), Dat.p (gaSo (tideK rows_1 rows_1.length))] ++ ([Dat.z n_2, Dat.z n_3, Dat.z n_4, Dat.z n_5, Dat.z n_6, Dat.z n_7] ++ []))) ∧ ∀
  (v_23 : Int), v_23 = reaErr v_1 v_2 n_2 n_3 n_4 n_5 n_6 n_7 → Ob (PlainE (reaN v_1 v_2 n_2 n_3 n_4 n_5 n_6 n_7) (El.fn (Rv.elemOf [IntKind.i64] (reaR v_1 v_2 (gaEg (tideK rows_1 rows_1.length)) (gaNo (tideK rows_1
  rows_1.length)) (gaSo (tideK rows_1 rows_1.length)) n_2 n_3 n_5 n_6 n_7)))) ∧ Ob (F_Keep.named.pre ([Dat.z v_1, Dat.z v_2, Dat.p (gaEg (tideK rows_1 rows_1.length)), Dat.p (gaNo (tideK rows_1 rows_1.length)), Dat.p (gaSo
  (tideK rows_1 rows_1.length))] ++ ([Dat.z n_2, Dat.z n_3, Dat.z n_4, Dat.z n_5, Dat.z n_6, Dat.z n_7] ++ []))) ∧ ∀ (v_24 : Int), v_24 = keepV v_1 v_2 (gaEg (tideK rows_1 rows_1.length)) (gaNo (tideK rows_1
  rows_1.length)) (gaSo (tideK rows_1 rows_1.length)) n_2 n_3 n_4 n_5 n_6 n_7 → ∀ (v_25 : Int), v_25 = reaErr v_1 v_2 n_2 n_3 n_4 n_5 n_6 n_7 → Ob (F_rKeep.named.pre ([Dat.z v_1, Dat.z v_2, Dat.p (gaEg (tideK rows_1
  rows_1.length)), Dat.p (gaNo (tideK rows_1 rows_1.length)), Dat.p (gaSo (tideK rows_1 rows_1.length))] ++ ([Dat.z n_2, Dat.z n_3, Dat.z n_4, Dat.z n_5, Dat.z n_6, Dat.z n_7] ++ []))) ∧ ∀ (v_26 : Int), v_26 = keepV v_1
  v_2 (gaEg (tideK rows_1 rows_1.length)) (gaNo (tideK rows_1 rows_1.length)) (gaSo (tideK rows_1 rows_1.length)) n_2 n_3 n_4 n_5 n_6 n_7 → ∀ (v_27 : Int), v_27 = reaErr v_1 v_2 n_2 n_3 n_4 n_5 n_6 n_7 → Ob True ∧ Ob True
  ∧ (¬¬gErr v_1 v_2 = gErr v_1 v_2 → Ob True ∧ Ob True ∧ (¬¬capErr n_2 n_3 n_4 n_5 n_6 n_7 = capErr n_2 n_3 n_4 n_5 n_6 n_7 → (¬¬v_22 = v_23 → (¬¬v_25 = v_27 → (¬¬v_24 = v_26 → ∃ (rows_6 : List (List Int)), Ob (reaN v_1
  v_2 n_2 n_3 n_4 n_5 n_6 n_7 = reaN v_1 v_2 n_2 n_3 n_4 n_5 n_6 n_7 ∧ rows_6.length = reaN v_1 v_2 n_2 n_3 n_4 n_5 n_6 n_7 ∧ (∀ (r : List Int), r ∈ rows_6 → r.length = nat_lit 1) ∧ ∀ (i : Nat), i < reaN v_1 v_2 n_2 n_3
  n_4 n_5 n_6 n_7 → (El.fn (Rv.elemOf [IntKind.i64] (reaR v_1 v_2 (gaEg (tideK rows_1 rows_1.length)) (gaNo (tideK rows_1 rows_1.length)) (gaSo (tideK rows_1 rows_1.length)) n_2 n_3 n_5 n_6 n_7))).at i = Rv.elemOf
  [IntKind.i64] rows_6 i) ∧ ∃ (rows_7 : List (List Int)), Ob (reaN v_1 v_2 n_2 n_3 n_4 n_5 n_6 n_7 = reaN v_1 v_2 n_2 n_3 n_4 n_5 n_6 n_7 ∧ rows_7.length = reaN v_1 v_2 n_2 n_3 n_4 n_5 n_6 n_7 ∧ (∀ (r : List Int), r ∈
  rows_7 → r.length = nat_lit 1) ∧ ∀ (i : Nat), i < reaN v_1 v_2 n_2 n_3 n_4 n_5 n_6 n_7 → (El.fn (Rv.elemOf [IntKind.i64] (reaR v_1 v_2 (gaEg (tideK rows_1 rows_1.length)) (gaNo (tideK rows_1 rows_1.length)) (gaSo (tideK
  rows_1 rows_1.length)) n_2 n_3 n_5 n_6 n_7))).at i = Rv.elemOf [IntKind.i64] rows_7 i) ∧ Ob (rows_6.length ≤ nat_lit 4000000 ∧ rows_7.length ≤ nat_lit 4000000) ∧ (¬samTo (nat_lit 1) rows_6 rows_7 rows_6.length → False) ∧
  (¬¬samTo (nat_lit 1) rows_6 rows_7 rows_6.length → Ob (hasTabs tab1 B) ∧ True)) ∧ (¬v_24 = v_26 → False)) ∧ (¬v_25 = v_27 → False)) ∧ (¬v_22 = v_23 → False)) ∧ (¬capErr n_2 n_3 n_4 n_5 n_6 n_7 = capErr n_2 n_3 n_4 n_5
  n_6 n_7 → False)) ∧ (¬gErr v_1 v_2 = gErr v_1 v_2 → False))) ∧ (¬v_18 = v_20 → False)) ∧ (¬v_19 = v_21 → False)) ∧ (¬v_16 = v_17 → False)) ∧ (¬capErr v_4 v_5 v_6 v_7 v_8 v_9 = capErr v_4 v_5 v_6 v_7 v_8 v_9 → False)) ∧
  (¬gErr v_1 v_2 = gErr v_1 v_2 → False))) ∧ (¬v_12 = v_14 → False)) ∧ (¬v_13 = v_15 → False)) ∧ (¬v_10 = v_11 → False)) ∧ (¬capErr n_2 n_3 n_4 n_5 n_6 n_7 = capErr n_2 n_3 n_4 n_5 n_6 n_7 → False)) ∧ (¬gErr n n_1 = gErr n
  n_1 → False)

set_option linter.unusedSimpArgs false in
set_option maxRecDepth 4000 in
set_option maxHeartbeats 400000 in
theorem v_law : V_law := by
  unfold V_law
  intro B htab g0 g1 g2 g3 g4 c0 c1 c2 c3 c4 c5 z N hz hoz hrz hN
  refine ⟨N, ⟨⟨hz, rfl, hrz, fun _ _ => rfl⟩⟩, ⟨hN⟩, ⟨trivial⟩, ?_⟩
  obtain ⟨a, ha⟩ : ∃ a, tideK N N.length = a := ⟨_, rfl⟩
  rw [ha]
  clear ha
  obtain ⟨e, he⟩ : ∃ e, gaEg a = e := ⟨_, rfl⟩
  obtain ⟨n, hn⟩ : ∃ n, gaNo a = n := ⟨_, rfl⟩
  obtain ⟨s, hs⟩ : ∃ s, gaSo a = s := ⟨_, rfl⟩
  rw [he, hn, hs]
  clear he hn hs
  intro v hv v1 hv1 v2 hv2
  clear hv hv1 hv2
  refine ⟨⟨trivial⟩, ?_⟩
  intro v3 hv3 v4 hv4 v5 hv5 v6 hv6 v7 hv7 v8 hv8 v9 hv9
  clear hv3 hv4 hv5 hv6 hv7 hv8 hv9
  refine ⟨⟨trivial⟩, ?_⟩
  intro p hp
  refine ⟨⟨plain_elemOf _ _ _⟩, ⟨trivial⟩, ?_⟩
  intro q hq
  refine ⟨⟨plain_elemOf _ _ _⟩, ⟨trivial⟩, ?_⟩
  intro k hk f hf
  refine ⟨⟨trivial⟩, ?_⟩
  intro l hl h hh
  refine ⟨⟨trivial⟩, ⟨trivial⟩, fun _ => ⟨⟨trivial⟩, ⟨trivial⟩, fun _ => ⟨fun _ => ⟨fun _ => ⟨fun _ => ?_, fun x => x (hk.trans hl.symm)⟩, fun x => x (hf.trans hh.symm)⟩, fun x => x (hp.trans hq.symm)⟩, fun x => x rfl⟩, fun x => x rfl⟩
  clear hp hq hk hf hl hh
  refine ⟨reaL g0 g1 g2 g3 g4 c0 c1 c2 c3 c4 c5, ⟨reaL_spec g0 g1 g2 g3 g4 c0 c1 c2 c3 c4 c5⟩, reaL g0 g1 g2 g3 g4 c0 c1 c2 c3 c4 c5, ⟨reaL_spec g0 g1 g2 g3 g4 c0 c1 c2 c3 c4 c5⟩, ⟨reaL_le g0 g1 g2 g3 g4 c0 c1 c2 c3 c4 c5⟩, fun x => x (sam_self _ _ _), fun _ => ?_⟩
  refine ⟨⟨trivial⟩, ?_⟩
  intro p hp
  refine ⟨⟨plain_elemOf _ _ _⟩, ⟨trivial⟩, ?_⟩
  intro q hq
  refine ⟨⟨plain_elemOf _ _ _⟩, ⟨trivial⟩, ?_⟩
  intro k hk f hf
  refine ⟨⟨trivial⟩, ?_⟩
  intro l hl h hh
  refine ⟨⟨trivial⟩, ⟨trivial⟩, fun _ => ⟨⟨trivial⟩, ⟨trivial⟩, fun _ => ⟨fun _ => ⟨fun _ => ⟨fun _ => ?_, fun x => x (hk.trans hl.symm)⟩, fun x => x (hf.trans hh.symm)⟩, fun x => x (hp.trans hq.symm)⟩, fun x => x rfl⟩, fun x => x rfl⟩
  clear hp hq hk hf hl hh
  refine ⟨reaL v1 v2 e n s v4 v5 v6 v7 v8 v9, ⟨reaL_spec v1 v2 e n s v4 v5 v6 v7 v8 v9⟩, reaL v1 v2 e n s v4 v5 v6 v7 v8 v9, ⟨reaL_spec v1 v2 e n s v4 v5 v6 v7 v8 v9⟩, ⟨reaL_le v1 v2 e n s v4 v5 v6 v7 v8 v9⟩, fun x => x (sam_self _ _ _), fun _ => ?_⟩
  refine ⟨⟨trivial⟩, ?_⟩
  intro p hp
  refine ⟨⟨plain_elemOf _ _ _⟩, ⟨trivial⟩, ?_⟩
  intro q hq
  refine ⟨⟨plain_elemOf _ _ _⟩, ⟨trivial⟩, ?_⟩
  intro k hk f hf
  refine ⟨⟨trivial⟩, ?_⟩
  intro l hl h hh
  refine ⟨⟨trivial⟩, ⟨trivial⟩, fun _ => ⟨⟨trivial⟩, ⟨trivial⟩, fun _ => ⟨fun _ => ⟨fun _ => ⟨fun _ => ?_, fun x => x (hk.trans hl.symm)⟩, fun x => x (hf.trans hh.symm)⟩, fun x => x (hp.trans hq.symm)⟩, fun x => x rfl⟩, fun x => x rfl⟩
  clear hp hq hk hf hl hh
  refine ⟨reaL v1 v2 e n s c0 c1 c2 c3 c4 c5, ⟨reaL_spec v1 v2 e n s c0 c1 c2 c3 c4 c5⟩, reaL v1 v2 e n s c0 c1 c2 c3 c4 c5, ⟨reaL_spec v1 v2 e n s c0 c1 c2 c3 c4 c5⟩, ⟨reaL_le v1 v2 e n s c0 c1 c2 c3 c4 c5⟩, fun x => x (sam_self _ _ _), fun _ => ?_⟩
  exact ⟨⟨htab⟩, trivial⟩

theorem e_law : V_law = needL P [F_cCheck, F_r4Check, F_CheckCaught, F_rCheckCaught, F_SameInts] [F_TideOf.named, F_GaugeOf.named, F_CaughtOf.named, F_Reasons.named, F_rReasons.named, F_Keep.named, F_rKeep.named] 20 tab1 A_law F_law := by kernel_rfl

theorem n_law : Ob (needL P [F_cCheck, F_r4Check, F_CheckCaught, F_rCheckCaught, F_SameInts] [F_TideOf.named, F_GaugeOf.named, F_CaughtOf.named, F_Reasons.named, F_rReasons.named, F_Keep.named, F_rKeep.named] 20 tab1 A_law F_law) := by
  rw [← e_law]
  exact ⟨v_law⟩

theorem b_law : ((P.funcs[3]?).any fun fn => fn.body.isSome) = true := by kernel_rfl

theorem l_law : ([F_cCheck, F_r4Check, F_CheckCaught, F_rCheckCaught, F_SameInts].all fun G => !Nat.beq G.g 20) = true := rfl
theorem le_law : ([F_TideOf.named, F_GaugeOf.named, F_CaughtOf.named, F_Reasons.named, F_rReasons.named, F_Keep.named, F_rKeep.named].all fun G => !Nat.beq G.g 20) = true := rfl
theorem c_law : ∀ F ∈ [F_cCheck, F_r4Check, F_CheckCaught, F_rCheckCaught, F_SameInts], F.Ok P := by
  intro F h
  simp only [List.mem_cons, List.not_mem_nil, or_false] at h
  rcases h with rfl | rfl | rfl | rfl | rfl
  · exact cCheck_ok
  · exact r4Check_ok
  · exact CheckCaught_ok
  · exact rCheckCaught_ok
  · exact SameInts_ok

theorem ce_law : ∀ F ∈ [F_TideOf.named, F_GaugeOf.named, F_CaughtOf.named, F_Reasons.named, F_rReasons.named, F_Keep.named, F_rKeep.named], F.Ok P := by
  intro F h
  simp only [List.mem_cons, List.not_mem_nil, or_false] at h
  rcases h with rfl | rfl | rfl | rfl | rfl | rfl | rfl
  · exact TideOf_ok.named
  · exact GaugeOf_ok.named
  · exact CaughtOf_ok.named
  · exact Reasons_ok.named
  · exact rReasons_ok.named
  · exact Keep_ok.named
  · exact rKeep_ok.named


end Go.Proofs.YthlodlileecmdaaDoor.Sy
