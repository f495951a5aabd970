/- The law CatchCounts. -/
import Derived.Test.YthlodlileecmdaaDoorSyP2
import Derived.Test.YthlodlileecmdaaDoorGrM
import Derived.Test.YthlodlileecmdaaDoorCtT
import Derived.Test.YthlodlileecmdaaDoorCtA
import Derived.Test.YthlodlileecmdaaDoorCtB
import Derived.Test.YthlodlileecmdaaDoorCtC
import Derived.Test.YthlodlileecmdaaDoorCtD
import Derived.Test.YthlodlileecmdaaDoorCtE
import Derived.Test.YthlodlileecmdaaDoorCtF
import Derived.Test.YthlodlileecmdaaDoorCtG
import Derived.Test.YthlodlileecmdaaDoorCtU
import Derived.Test.YthlodlileecmdaaDoorCtV
import Derived.Test.YthlodlileecmdaaDoorCtW
import Derived.KernelRfl
import Derived.Test.YthlodlileecmdaaDoorProg
namespace Go.Proofs.YthlodlileecmdaaDoor.Sy
open Go Go.Rv
set_option linter.unusedVariables false

def g32 : List Int := [0, 1, 28, 2, 29, 14, 24, 3, 30, 22, 20, 15, 25, 17, 4, 8, 31, 27, 13, 23, 21, 19, 16, 7, 26, 12, 18, 6, 11, 5, 10, 9]
def tab1 : Tabs := [(1, .u8, g32)]
theorem cntN_le (E L : Rows) : cntN E L ≤ 20 := by
  unfold cntN
  split
  · rename_i h
    have := edg_len (cnt_ok h).1
    omega
  · omega
theorem cntF_row (E L : Rows) (k : Nat) : ∀ r ∈ cntF E L k, r.length = 2 := by
  intro r hr
  simp only [cntF, List.mem_map] at hr
  obtain ⟨i, _, rfl⟩ := hr
  rfl
theorem cntN_rows (E L : Rows) : ∀ i, i < cntN E L → (El.fn (Rv.elemOf [.i64, .i64] (cntF E L (E.length - 1)))).at i = Rv.elemOf [.i64, .i64] (cntF E L (cntN E L)) i := by
  intro i hi
  have h : cntN E L = E.length - 1 := by
    unfold cntN at hi ⊢
    split at hi
    · rename_i h
      rw [if_pos h]
    · omega
  rw [h]
  rfl

noncomputable def F_law : LawF := ⟨4, [.one (.l [.i64]), i64, .one (.l [.i64, .i64, .i64, .i64, .i64, .i64]), .agg [.i .i64, .i .i64, .i .i64, .i .i64, .i .i64, .i .i64], .one (.l [.i64])], fun l => match l with | [.l E, .z b, .l L, .z c0, .z c1, .z c2, .z c3, .z c4, .z c5, .l N] => E.length ≤ 1048576 ∧ L.length ≤ 1048576 ∧ N.length ≤ 1048576 | _ => False⟩
noncomputable def A_law : List SV → List Dat → Nat → List SV → Ann := fun xs ds n ts => match xs with
  | [.lst x _ _ _, _, .lst y _ _ _, _, .lst z _ _ _] => match ds with
    | [.l E, .z b, .l L, .z c0, .z c1, .z c2, .z c3, .z c4, .z c5, .l N] => match n with
      | 8 => ⟨Unit, fun _ => [], fun _ => [], fun _ => True, fun _ => 0, 5⟩
      | _ => noAnn
    | _ => noAnn
  | _ => noAnn

set_option maxRecDepth 10000 in
def V_law : Prop :=
  ∀ (B : RW), hasTabs tab1 B → ∀ (x : RV) (rows : List (List Int)), IsLst B x rows.length ((1 : Nat)) (Rv.elemOf [IntKind.i64] rows) → oneB x = true → (∀ (row : List Int), row ∈ rows → row.length = (1 : Nat)) → ∀ (n : Int)
  (x_1 : RV) (rows_1 : List (List Int)), IsLst B x_1 rows_1.length ((6 : Nat)) (Rv.elemOf [IntKind.i64, IntKind.i64, IntKind.i64, IntKind.i64, IntKind.i64, IntKind.i64] rows_1) → oneB x_1 = true → (∀ (row : List Int), row
  ∈ rows_1 → row.length = (6 : Nat)) → ∀ (n_1 n_2 n_3 n_4 n_5 n_6 : Int) (x_2 : RV) (rows_2 : List (List Int)), IsLst B x_2 rows_2.length ((1 : Nat)) (Rv.elemOf [IntKind.i64] rows_2) → oneB x_2 = true → (∀ (row : List
  Int), row ∈ rows_2 → row.length = (1 : Nat)) → rows.length ≤ (1048576 : Nat) ∧ rows_1.length ≤ (1048576 : Nat) ∧ rows_2.length ≤ (1048576 : Nat) → Ob (IsLst B x rows.length ((1 : Nat)) (Rv.elemOf [IntKind.i64] rows)) ∧
  (¬(40 : Int) < (↑rows.length : Int) → ∃ (rows_3 : List (List Int)), Ob (IsLst B x_1 rows_1.length ((6 : Nat)) (Rv.elemOf [IntKind.i64, IntKind.i64, IntKind.i64, IntKind.i64, IntKind.i64, IntKind.i64] rows_1) ∧
  rows_3.length = rows_1.length ∧ (∀ (r : List Int), r ∈ rows_3 → r.length = (6 : Nat)) ∧ ∀ (i : Nat), i < rows_1.length → Rv.elemOf [IntKind.i64, IntKind.i64, IntKind.i64, IntKind.i64, IntKind.i64, IntKind.i64] rows_1 i =
  Rv.elemOf [IntKind.i64, IntKind.i64, IntKind.i64, IntKind.i64, IntKind.i64, IntKind.i64] rows_3 i) ∧ Ob True ∧ ((60 : Nat) < rows_3.length ∧ rows_3.length ≤ (600 : Nat) → Ob (hasTabs tab1 B) ∧ True) ∧ (¬((60 : Nat) <
  rows_3.length ∧ rows_3.length ≤ (600 : Nat)) → ∃ (rows_4 : List (List Int)), Ob (IsLst B x_2 rows_2.length ((1 : Nat)) (Rv.elemOf [IntKind.i64] rows_2) ∧ rows_4.length = rows_2.length ∧ (∀ (r : List Int), r ∈ rows_4 →
  r.length = (1 : Nat)) ∧ ∀ (i : Nat), i < rows_2.length → Rv.elemOf [IntKind.i64] rows_2 i = Rv.elemOf [IntKind.i64] rows_4 i) ∧ Ob (F_TideOf.named.pre [Dat.l rows_4]) ∧ Ob (F_Herded.named.pre ([Dat.z (tideK rows_4
  rows_4.length)] ++ [Dat.z (8 : Int)])) ∧ ∀ (v : Int), v = hdQ (hdA (tideK rows_4 rows_4.length) (8 : Int)) (hdN (tideK rows_4 rows_4.length) (8 : Int)).toNat → ∃ (rows_5 : List (List Int)), Ob ((hdN (tideK rows_4
  rows_4.length) (8 : Int)).toNat = (hdN (tideK rows_4 rows_4.length) (8 : Int)).toNat ∧ rows_5.length = (hdN (tideK rows_4 rows_4.length) (8 : Int)).toNat ∧ (∀ (r : List Int), r ∈ rows_5 → r.length = (6 : Nat)) ∧ ∀ (i :
  Nat), i < (hdN (tideK rows_4 rows_4.length) (8 : Int)).toNat → (El.fn (Rv.elemOf [IntKind.i64, IntKind.i64, IntKind.i64, IntKind.i64, IntKind.i64, IntKind.i64] (hdR (hdA (tideK rows_4 rows_4.length) (8 : Int)) (hdN
  (tideK rows_4 rows_4.length) (8 : Int)).toNat))).at i = Rv.elemOf [IntKind.i64, IntKind.i64, IntKind.i64, IntKind.i64, IntKind.i64, IntKind.i64] rows_5 i) ∧ Ob (F_OwnCaught.named.pre [Dat.l rows_5]) ∧ Ob (PlainE
  rows_5.length (El.fn (Rv.elemOf [IntKind.i64, IntKind.i64, IntKind.i64, IntKind.i64, IntKind.i64, IntKind.i64] rows_5))) ∧ Ob (rows_5.length = rows_5.length ∧ ∀ (i : Nat), i < rows_5.length → ((El.fn (Rv.elemOf
  [IntKind.i64, IntKind.i64, IntKind.i64, IntKind.i64, IntKind.i64, IntKind.i64] rows_5)).at i).length = (6 : Nat)) ∧ Ob ((rows_5.length + (1 : Nat)) * (2 : Nat) * (49 : Nat) ≤ (1099511627776 : Nat)) ∧ Ob (rows_5.length =
  rows_5.length) ∧ Ob (oneB x_1 = true) ∧ Ob (F_EdgesOf.named.pre ([Dat.z v] ++ [Dat.z (6 : Int)])) ∧ ∀ (v_1 : Int), v_1 = edQ (edA v (6 : Int)) (edN v (6 : Int)).toNat → Ob (oneB x = true) ∧ Ob (oneB x = true) ∧ Ob
  (F_From.named.pre ([Dat.z v_1] ++ [Dat.z (1 : Int), Dat.z (2000 : Int)])) ∧ ∀ (v_2 : Int), v_2 = belowA v_1 ((2000 : Int) - (1 : Int) + (1 : Int)) → ∀ (v_3 : Int), v_3 = (1 : Int) + belowV v_1 ((2000 : Int) - (1 : Int) +
  (1 : Int)) → Ob (IsLst B x_1 rows_1.length ((6 : Nat)) (Rv.elemOf [IntKind.i64, IntKind.i64, IntKind.i64, IntKind.i64, IntKind.i64, IntKind.i64] rows_1)) ∧ ∃ (rows_6 : List (List Int)), Ob (IsLst B x_1 rows_1.length ((6
  : Nat)) (Rv.elemOf [IntKind.i64, IntKind.i64, IntKind.i64, IntKind.i64, IntKind.i64, IntKind.i64] rows_1) ∧ rows_6.length = rows_1.length ∧ (∀ (r : List Int), r ∈ rows_6 → r.length = nat_lit 6) ∧ ∀ (i : Nat), i <
  rows_1.length → Rv.elemOf [IntKind.i64, IntKind.i64, IntKind.i64, IntKind.i64, IntKind.i64, IntKind.i64] rows_1 i = Rv.elemOf [IntKind.i64, IntKind.i64, IntKind.i64, IntKind.i64, IntKind.i64, IntKind.i64] rows_6 i) ∧ Ob
  (F_OwnCaught.named.pre [Dat.l rows_6]) ∧ Ob (PlainE rows_6.length (El.fn (Rv.elemOf [IntKind.i64, IntKind.i64, IntKind.i64, IntKind.i64, IntKind.i64, IntKind.i64] rows_6))) ∧ Ob (IsLst B x rows.length (nat_lit 1)
  (Rv.elemOf [IntKind.i64] rows)) ∧ ∃ (rows_7 : List (List Int)), Ob (IsLst B x rows.length (nat_lit 1) (Rv.elemOf [IntKind.i64] rows) ∧ rows_7.length = rows.length ∧ (∀ (r : List Int), r ∈ rows_7 → r.length = nat_lit 1) ∧
  ∀ (i : Nat), i < rows.length → Rv.elemOf [IntKind.i64] rows i = Rv.elemOf [IntKind.i64] rows_7 i) ∧ Ob (F_Ints.named.pre [Dat.l rows_7]) ∧ ∃ (rows_8 : List (List Int)), Ob (rows_7.length = rows_7.length ∧ rows_8.length =
  rows_7.length ∧ (∀ (r : List Int), r ∈ rows_8 → r.length = nat_lit 1) ∧ ∀ (i : Nat), i < rows_7.length → (El.fn (Rv.elemOf [IntKind.i64] rows_7)).at i = Rv.elemOf [IntKind.i64] rows_8 i) ∧ ∃ (rows_9 : List (List Int)),
  Ob (rows_6.length = rows_6.length ∧ rows_9.length = rows_6.length ∧ (∀ (r : List Int), r ∈ rows_9 → r.length = nat_lit 6) ∧ ∀ (i : Nat), i < rows_6.length → (El.fn (Rv.elemOf [IntKind.i64, IntKind.i64, IntKind.i64,
  IntKind.i64, IntKind.i64, IntKind.i64] rows_6)).at i = Rv.elemOf [IntKind.i64, IntKind.i64, IntKind.i64, IntKind.i64, IntKind.i64, IntKind.i64] rows_9 i) ∧ Ob (F_CountsG.named.pre [Dat.l rows_8, Dat.l rows_9]) ∧ ∀ (v_4 :
  Int), v_4 = cntErr rows_8 rows_9 → Ob (IsLst B x rows.length (nat_lit 1) (Rv.elemOf [IntKind.i64] rows)) ∧ Ob (IsLst B x_1 rows_1.length (nat_lit 6) (Rv.elemOf [IntKind.i64, IntKind.i64, IntKind.i64, IntKind.i64,
  IntKind.i64, IntKind.i64] rows_1)) ∧ ∃ (rows_10 : List (List Int)), Ob (IsLst B x rows.length (nat_lit 1) (Rv.elemOf [IntKind.i64] rows) ∧ rows_10.length = rows.length ∧ (∀ (r : List Int), r ∈ rows_10 → r.length =
  nat_lit 1) ∧ ∀ (i : Nat), i < rows.length → Rv.elemOf [IntKind.i64] rows i = Rv.elemOf [IntKind.i64] rows_10 i) ∧ ∃ (rows_11 : List (List Int)), Ob (IsLst B x_1 rows_1.length (nat_lit 6) (Rv.elemOf [IntKind.i64,
  IntKind.i64, IntKind.i64, IntKind.i64, IntKind.i64, IntKind.i64] rows_1) ∧ rows_11.length = rows_1.length ∧ (∀ (r : List Int), r ∈ rows_11 → r.length = nat_lit 6) ∧ ∀ (i : Nat), i < rows_1.length → Rv.elemOf
  [IntKind.i64, IntKind.i64, IntKind.i64, IntKind.i64, IntKind.i64, IntKind.i64] rows_1 i = Rv.elemOf [IntKind.i64, IntKind.i64, IntKind.i64, IntKind.i64, IntKind.i64, IntKind.i64] rows_11 i) ∧ Ob (F_rCounts.named.pre
  [Dat.l rows_10, Dat.l rows_11]) ∧ ∀ (v_5 : Int), v_5 = cntErr rows_10 rows_11 → Ob (PlainE (cntN rows_10 rows_11) (El.fn (Rv.elemOf [IntKind.i64, IntKind.i64] (cntF rows_10 rows_11 (rows_10.length - nat_lit 1))))) ∧ ∃
  (rows_12 : List (List Int)), Ob (rows_6.length = rows_6.length ∧ rows_12.length = rows_6.length ∧ (∀ (r : List Int), r ∈ rows_12 → r.length = nat_lit 6) ∧ ∀ (i : Nat), i < rows_6.length → (El.fn (Rv.elemOf [IntKind.i64,
  IntKind.i64, IntKind.i64, IntKind.i64, IntKind.i64, IntKind.i64] rows_6)).at i = Rv.elemOf [IntKind.i64, IntKind.i64, IntKind.i64, IntKind.i64, IntKind.i64, IntKind.i64] rows_12 i) ∧ Ob True ∧ Ob (IsLst B x_1
  rows_1.length (nat_lit 6) (Rv.elemOf [IntKind.i64, IntKind.i64, IntKind.i64, IntKind.i64, IntKind.i64, IntKind.i64] rows_1)) ∧ ∃ (rows_13 : List (List Int)), Ob (IsLst B x_1 rows_1.length (nat_lit 6) (Rv.elemOf
  [IntKind.i64, IntKind.i64, IntKind.i64, IntKind.i64, IntKind.i64, IntKind.i64] rows_1) ∧ rows_13.length = rows_1.length ∧ (∀ (r : List Int), r ∈ rows_13 → r.length = nat_lit 6) ∧ ∀ (i : Nat), i < rows_1.length →
  Rv.elemOf [IntKind.i64, IntKind.i64, IntKind.i64, IntKind.i64, IntKind.i64, IntKind.i64] rows_1 i = Rv.elemOf [IntKind.i64, IntKind.i64, IntKind.i64, IntKind.i64, IntKind.i64, IntKind.i64] rows_13 i) ∧ Ob True ∧ (¬¬v_4 =
  v_5 → (¬¬wgtErr n rows_12 = wgtErr n rows_13 → (¬¬(wgt n rows_12 (nat_lit 0) = wgt n rows_13 (nat_lit 0) ∧ wgt n rows_12 (nat_lit 1) = wgt n rows_13 (nat_lit 1) ∧ True) → ∃ (rows_14 : List (List Int)), Ob (cntN rows_8
  rows_9 = cntN rows_8 rows_9 ∧ rows_14.length = cntN rows_8 rows_9 ∧ (∀ (r : List Int), r ∈ rows_14 → r.length = nat_lit 2) ∧ ∀ (i : Nat), i < cntN rows_8 rows_9 → (El.fn (Rv.elemOf [IntKind.i64, IntKind.i64] (cntF rows_8
  rows_9 (rows_8.length - nat_lit 1)))).at i = Rv.elemOf [IntKind.i64, IntKind.i64] rows_14 i) ∧ ∃ (rows_15 : List (List Int)), Ob (cntN rows_10 rows_11 = cntN rows_10 rows_11 ∧ rows_15.length = cntN rows_10 rows_11 ∧ (∀
  (r : List Int), r ∈ rows_15 → r.length = nat_lit 2) ∧ ∀ (i : Nat), i < cntN rows_10 rows_11 → (El.fn (Rv.elemOf [IntKind.i64, IntKind.i64] (cntF rows_10 rows_11 (rows_10.length - nat_lit 1)))).at i = Rv.elemOf
  [IntKind.i64, IntKind.i64] rows_15 i) ∧ Ob (rows_14.length ≤ nat_lit 4000000 ∧ rows_15.length ≤ nat_lit 4000000) ∧ (¬¬samTo (nat_lit 2) rows_14 rows_15 rows_14.length → ∃ (rows_16 : List (List Int)), Ob (rows_6.length =
  rows_6.length ∧ rows_16.length = rows_6.length ∧ (∀ (r : List Int), r ∈ rows_16 → r.length = nat_lit 6) ∧ ∀ (i : Nat), i < rows_6.length → (El.fn (Rv.elemOf [IntKind.i64, IntKind.i64, IntKind.i64, IntKind.i64,
  IntKind.i64, IntKind.i64] rows_6)).at i = Rv.elemOf [IntKind.i64, IntKind.i64, IntKind.i64, IntKind.i64, IntKind.i64, IntKind.i64] rows_16 i) ∧ ∃ (rows_17 : List (List Int)), Ob (IsLst B x_1 rows_1.length (nat_lit 6)
  (Rv.elemOf [IntKind.i64, IntKind.i64, IntKind.i64, IntKind.i64, IntKind.i64, IntKind.i64] rows_1) ∧ rows_17.length = rows_1.length ∧ (∀ (r : List Int), r ∈ rows_17 → r.length = nat_lit 6) ∧ ∀ (i : Nat), i < rows_1.length
  → Rv.elemOf [IntKind.i64, IntKind.i64, IntKind.i64, IntKind.i64, IntKind.i64, IntKind.i64] rows_1 i = Rv.elemOf [IntKind.i64, IntKind.i64, IntKind.i64, IntKind.i64, IntKind.i64, IntKind.i64] rows_17 i) ∧ Ob
  (rows_16.length ≤ nat_lit 4000000 ∧ rows_17.length ≤ nat_lit 4000000) ∧ (¬¬samTo (nat_lit 6) rows_16 rows_17 rows_16.length → ∃ (rows_18 : List (List Int)), Ob (rows_7.length = rows_7.length ∧ rows_18.length =
  rows_7.length ∧ (∀ (r : List Int), r ∈ rows_18 → r.length = nat_lit 1) ∧ ∀ (i : Nat), i < rows_7.length → (El.fn (Rv.elemOf [IntKind.i64] rows_7)).at i = Rv.elemOf [IntKind.i64] rows_18 i) ∧ ∃ (rows_19 : List (List
  Int)), Ob (IsLst B x rows.length (nat_lit 1) (Rv.elemOf [IntKind.i64] rows) ∧ rows_19.length = rows.length ∧ (∀ (r : List Int), r ∈ rows_19 → r.length = nat_lit 1) ∧ ∀ (i : Nat), i < rows.length → Rv.elemOf [IntKind.i64]
  rows i = Rv.elemOf [IntKind.i64] rows_19 i) ∧ Ob (rows_18.length ≤ nat_lit 4000000 ∧ rows_19.length ≤ nat_lit 4000000) ∧ (¬samTo (nat_lit 1) rows_18 rows_19 rows_18.length → False) ∧ (¬¬samTo (nat_lit 1) rows_18 rows_19
  rows_18.length → ∃ (rows_20 : List (List Int)), Ob ((hdN (tideK rows_4 rows_4.length) (8 : Int)).toNat = (hdN (tideK rows_4 rows_4.length) (8 : Int)).toNat ∧ rows_20.length = (hdN (tideK rows_4 rows_4.length) (8 :
  Int)).toNat ∧ (∀ (r : List Int), r ∈ rows_20 → r.length = nat_lit 6) ∧ ∀ (i : Nat), i < (hdN (tideK rows_4 rows_4.length) (8 : Int)).toNat → (El.fn (Rv.elemOf [IntKind.i64, IntKind.i64, IntKind.i64, IntKind.i64,
  IntKind.i64, IntKind.i64] (hdR (hdA (tideK rows_4 rows_4.length) (8 : Int)) (hdN (tideK rows_4 rows_4.length) (8 : Int)).toNat))).at i = Rv.elemOf [IntKind.i64, IntKind.i64, IntKind.i64, IntKind.i64, IntKind.i64,
  IntKind.i64] rows_20 i) ∧ Ob (F_OwnCaught.named.pre [Dat.l rows_20]) ∧ Ob (PlainE rows_20.length (El.fn (Rv.elemOf [IntKind.i64, IntKind.i64, IntKind.i64, IntKind.i64, IntKind.i64, IntKind.i64] rows_20))) ∧ ∃ (rows_21 :
  List (List Int)), Ob ((edN v (6 : Int)).toNat = (edN v (6 : Int)).toNat ∧ rows_21.length = (edN v (6 : Int)).toNat ∧ (∀ (r : List Int), r ∈ rows_21 → r.length = nat_lit 1) ∧ ∀ (i : Nat), i < (edN v (6 : Int)).toNat →
  (El.fn (Rv.elemOf [IntKind.i64] (edR (edA v (6 : Int)) (belowV v (300 : Int)) (edN v (6 : Int)).toNat))).at i = Rv.elemOf [IntKind.i64] rows_21 i) ∧ Ob (F_Ints.named.pre [Dat.l rows_21]) ∧ ∃ (rows_22 : List (List Int)),
  Ob (rows_21.length = rows_21.length ∧ rows_22.length = rows_21.length ∧ (∀ (r : List Int), r ∈ rows_22 → r.length = nat_lit 1) ∧ ∀ (i : Nat), i < rows_21.length → (El.fn (Rv.elemOf [IntKind.i64] rows_21)).at i =
  Rv.elemOf [IntKind.i64] rows_22 i) ∧ ∃ (rows_23 : List (List Int)), Ob (rows_20.length = rows_20.length ∧ rows_23.length = rows_20.length ∧ (∀ (r : List Int), r ∈ rows_23 → r.length = nat_lit 6) ∧ ∀ (i : Nat), i <
  rows_20.length → (El.fn (Rv.elemOf [IntKind.i64, IntKind.i64, IntKind.i64, IntKind.i64, IntKind.i64, IntKind.i64] rows_20)).at i = Rv.elemOf [IntKind.i64, IntKind.i64, IntKind.i64, IntKind.i64, IntKind.i64, IntKind.i64]
  rows_23 i) ∧ Ob (F_CountsG.named.pre [Dat.l rows_22, Dat.l rows_23]) ∧ ∀ (v_6 : Int), v_6 = cntErr rows_22 rows_23 → ∃ (rows_24 : List (List Int)), Ob ((edN v (6 : Int)).toNat = (edN v (6 : Int)).toNat ∧ rows_24.length =
  (edN v (6 : Int)).toNat ∧ (∀ (r : List Int), r ∈ rows_24 → r.length = nat_lit 1) ∧ ∀ (i : Nat), i < (edN v (6 : Int)).toNat → (El.fn (Rv.elemOf [IntKind.i64] (edR (edA v (6 : Int)) (belowV v (300 : Int)) (edN v (6 :
  Int)).toNat))).at i = Rv.elemOf [IntKind.i64] rows_24 i) ∧ ∃ (rows_25 : List (List Int)), Ob ((hdN (tideK rows_4 rows_4.length) (8 : Int)).toNat = (hdN (tideK rows_4 rows_4.length) (8 : Int)).toNat ∧ rows_25.length =
  (hdN (tideK rows_4 rows_4.length) (8 : Int)).toNat ∧ (∀ (r : List Int), r ∈ rows_25 → r.length = nat_lit 6) ∧ ∀ (i : Nat), i < (hdN (tideK rows_4 rows_4.length) (8 : Int)).toNat → (El.fn (Rv.elemOf [IntKind.i64,
  IntKind.i64, IntKind.i64, IntKind.i64, IntKind.i64, IntKind.i64] (hdR (hdA (tideK rows_4 rows_4.length) (8 : Int)) (hdN (tideK rows_4 rows_4.length) (8 : Int)).toNat))).at i = Rv.elemOf [IntKind.i64, IntKind.i64,
  IntKind.i64, IntKind.i64, IntKind.i64, IntKind.i64] rows_25 i) ∧ Ob (F_rCounts.named.pre [Dat.l rows_24, Dat.l rows_25]) ∧ ∀ (v_7 : Int), v_7 = cntErr rows_24 rows_25 → Ob (PlainE (cntN rows_24 rows_25) (El.fn (Rv.elemOf
  [IntKind.i64, IntKind.i64] (cntF rows_24 rows_25 (rows_24.length - nat_lit 1))))) ∧ ∃ (rows_26 : List (List Int)), Ob (rows_20.length = rows_20.length ∧ rows_26.length = rows_20.length ∧ (∀ (r : List Int), r ∈ rows_26 →
  r.length = nat_lit 6) ∧ ∀ (i : Nat), i < rows_20.length → (El.fn (Rv.elemOf [IntKind.i64, IntKind.i64, IntKind.i64, IntKind.i64, IntKind.i64, IntKind.i64] rows_20)).at i = Rv.elemOf [IntKind.i64, IntKind.i64,
  IntKind.i64, IntKind.i64, IntKind.i64, IntKind.i64] rows_26 i) ∧ Ob True ∧ ∃ (rows_27 : List (List Int)), Ob ((hdN (tideK rows_4 rows_4.length) (8 : Int)).toNat = (hdN (tideK rows_4 rows_4.length) (8 : Int)).toNat ∧
  rows_27.length = (hdN (tideK rows_4 rows_4.length) (8 : Int)).toNat ∧ (∀ (r : List Int), r ∈ rows_27 → r.length = nat_lit 6) ∧ ∀ (i : Nat), i < (hdN (tideK rows_4 rows_4.length) (8 : Int)).toNat → (El.fn (Rv.elemOf
  [IntKind.i64, IntKind.i64, IntKind.i64, IntKind.i64, IntKind.i64, IntKind.i64] (hdR (hdA (tideK rows_4 rows_4.length) (8 : Int)) (hdN (tideK rows_4 rows_4.length) (8 : Int)).toNat))).at i = Rv.elemOf [IntKind.i64,
  IntKind.i64, IntKind.i64, IntKind.i64, IntKind.i64, IntKind.i64] rows_27 i) ∧ Ob True ∧ (¬¬v_6 = v_7 → (¬¬wgtErr v_3 rows_26 = wgtErr v_3 rows_27 → (¬¬(wgt v_3 rows_26 (nat_lit 0) = wgt v_3 rows_27 (nat_lit 0) ∧ wgt v_3
  rows_26 (nat_lit 1) = wgt v_3 rows_27 (nat_lit 1) ∧ True) → ∃ (rows_28 : List (List Int)), Ob (cntN rows_22 rows_23 = cntN rows_22 rows_23 ∧ rows_28.length = cntN rows_22 rows_23 ∧ (∀ (r : List Int), r ∈ rows_28 →
  r.length = nat_lit 2) ∧ ∀ (i : Nat), i < cntN rows_22 rows_23 → (El.fn (Rv.elemOf [IntKind.i64, IntKind.i64] (cntF rows_22 rows_23 (rows_22.length - nat_lit 1)))).at i = Rv.elemOf [IntKind.i64, IntKind.i64] rows_28 i) ∧
  ∃ (rows_29 : List (List Int)), Ob (cntN rows_24 rows_25 = cntN rows_24 rows_25 ∧ rows_29.length = cntN rows_24 rows_25 ∧ (∀ (r : List Int), r ∈ rows_29 → r.length = nat_lit 2) ∧ ∀ (i : Nat), i < cntN rows_24 rows_25 →
  (El.fn (Rv.elemOf [IntKind.i64, IntKind.i64] (cntF rows_24 rows_25 (rows_24.length - nat_lit 1)))).at i = Rv.elemOf [IntKind.i64, IntKind.i64] rows_29 i) ∧ Ob (rows_28.length ≤ nat_lit 4000000 ∧ rows_29.length ≤ nat_lit
  4000000) ∧ (¬¬samTo (nat_lit 2) rows_28 rows_29 rows_28.length → ∃ (rows_30 : List (List Int)), Ob (rows_20.length = rows_20.length ∧ rows_30.length = rows_20.length ∧ (∀ (r : List Int), r ∈ rows_30 → r.length = nat_lit
  6) ∧ ∀ (i : Nat), i < rows_20.length → (El.fn (Rv.elemOf [IntKind.i64, IntKind.i64, IntKind.i64, IntKind.i64, IntKind.i64, IntKind.i64] rows_20)).at i = Rv.elemOf [IntKind.i64, IntKind.i64, IntKind.i64, IntKind.i64,
  IntKind.i64, IntKind.i64] rows_30 i) ∧ ∃ (rows_31 : List (List Int)), Ob ((hdN (tideK rows_4 rows_4.length) (8 : Int)).toNat = (hdN (tideK rows_4 rows_4.length) (8 : Int)).toNat ∧ rows_31.length = (hdN (tideK rows_4
  rows_4.length) (8 : Int)).toNat ∧ (∀ (r : List Int), r ∈ rows_31 → r.length = nat_lit 6) ∧ ∀ (i : Nat), i < (hdN (tideK rows_4 rows_4.length) (8 : Int)).toNat → (El.fn (Rv.elemOf [IntKind.i64, IntKind.i64, IntKind.i64,
  IntKind.i64, IntKind.i64, IntKind.i64] (hdR (hdA (tideK rows_4 rows_4.length) (8 : Int)) (hdN (tideK rows_4 rows_4.length) (8 : Int)).toNat))).at i = Rv.elemOf [IntKind.i64, IntKind.i64, IntKind.i64, IntKind.i64,
  IntKind.i64, IntKind.i64] rows_31 i) ∧ Ob (rows_30.length ≤ nat_lit 4000000 ∧ rows_31.length ≤ nat_lit 4000000) ∧ (¬¬samTo (nat_lit 6) rows_30 rows_31 rows_30.length → ∃ (rows_32 : List (List Int)), Ob (rows_21.length =
  rows_21.length ∧ rows_32.length = rows_21.length ∧ (∀ (r : List Int), r ∈ rows_32 → r.length = nat_lit 1) ∧ ∀ (i : Nat), i < rows_21.length → (El.fn (Rv.elemOf [IntKind.i64] rows_21)).at i = Rv.elemOf [IntKind.i64]
  rows_32 i) ∧ ∃ (rows_33 : List (List Int)), Ob ((edN v (6 : Int)).toNat = (edN v (6 : Int)).toNat ∧ rows_33.length = (edN v (6 : Int)).toNat ∧ (∀ (r : List Int), r ∈ rows_33 → r.length = nat_lit 1) ∧ ∀ (i : Nat), i <
  (edN v (6 : Int)).toNat → (El.fn (Rv.elemOf [IntKind.i64] (edR (edA v (6 : Int)) (belowV v (300 : Int)) (edN v (6 : Int)).toNat))).at i = Rv.elemOf [IntKind.i64] rows_33 i) ∧ Ob (rows_32.length ≤ nat_lit 4000000 ∧
  rows_33.length ≤ nat_lit 4000000) ∧ (¬samTo (nat_lit 1) rows_32 rows_33 rows_32.length → False) ∧ (¬¬samTo (nat_lit 1) rows_32 rows_33 rows_32.length → ∃ (rows_34 : List (List Int)), Ob (rows_5.length + nat_lit 1 =
  rows_5.length + nat_lit 1 ∧ rows_34.length = rows_5.length + nat_lit 1 ∧ (∀ (r : List Int), r ∈ rows_34 → r.length = nat_lit 6) ∧ ∀ (i : Nat), i < rows_5.length + nat_lit 1 → (behind rows_5.length (El.fn (Rv.elemOf
  [IntKind.i64, IntKind.i64, IntKind.i64, IntKind.i64, IntKind.i64, IntKind.i64] rows_5)) (nat_lit 1) (litEl [SV.i IntKind.i64 n_1, SV.i IntKind.i64 n_2, SV.i IntKind.i64 n_3, SV.i IntKind.i64 n_4, SV.i IntKind.i64 n_5,
  SV.i IntKind.i64 n_6] (nat_lit 6) (nat_lit 1))).at i = Rv.elemOf [IntKind.i64, IntKind.i64, IntKind.i64, IntKind.i64, IntKind.i64, IntKind.i64] rows_34 i) ∧ Ob (F_OwnCaught.named.pre [Dat.l rows_34]) ∧ Ob (PlainE
  rows_34.length (El.fn (Rv.elemOf [IntKind.i64, IntKind.i64, IntKind.i64, IntKind.i64, IntKind.i64, IntKind.i64] rows_34))) ∧ Ob (F_Ints.named.pre [Dat.l [[(800 : Int)], [(830 : Int)], [(850 : Int)], [(1300 : Int)]]]) ∧ ∃
  (rows_35 : List (List Int)), Ob (nat_lit 4 = nat_lit 4 ∧ rows_35.length = nat_lit 4 ∧ (∀ (r : List Int), r ∈ rows_35 → r.length = nat_lit 1) ∧ ∀ (i : Nat), i < nat_lit 4 → (El.fn (Rv.elemOf [IntKind.i64] [[(800 : Int)],
  [(830 : Int)], [(850 : Int)], [(1300 : Int)]])).at i = Rv.elemOf [IntKind.i64] rows_35 i) ∧ ∃ (rows_36 : List (List Int)), Ob (rows_34.length = rows_34.length ∧ rows_36.length = rows_34.length ∧ (∀ (r : List Int), r ∈
  rows_36 → r.length = nat_lit 6) ∧ ∀ (i : Nat), i < rows_34.length → (El.fn (Rv.elemOf [IntKind.i64, IntKind.i64, IntKind.i64, IntKind.i64, IntKind.i64, IntKind.i64] rows_34)).at i = Rv.elemOf [IntKind.i64, IntKind.i64,
  IntKind.i64, IntKind.i64, IntKind.i64, IntKind.i64] rows_36 i) ∧ Ob (F_CountsG.named.pre [Dat.l rows_35, Dat.l rows_36]) ∧ ∀ (v_8 : Int), v_8 = cntErr rows_35 rows_36 → ∃ (rows_37 : List (List Int)), Ob (rows_5.length +
  nat_lit 1 = rows_5.length + nat_lit 1 ∧ rows_37.length = rows_5.length + nat_lit 1 ∧ (∀ (r : List Int), r ∈ rows_37 → r.length = nat_lit 6) ∧ ∀ (i : Nat), i < rows_5.length + nat_lit 1 → (behind rows_5.length (El.fn
  (Rv.elemOf [IntKind.i64, IntKind.i64, IntKind.i64, IntKind.i64, IntKind.i64, IntKind.i64] rows_5)) (nat_lit 1) (litEl [SV.i IntKind.i64 n_1, SV.i IntKind.i64 n_2, SV.i IntKind.i64 n_3, SV.i IntKind.i64 n_4, SV.i
  IntKind.i64 n_5, SV.i IntKind.i64 n_6] (nat_lit 6) (nat_lit 1))).at i = Rv.elemOf [IntKind.i64, IntKind.i64, IntKind.i64, IntKind.i64, IntKind.i64, IntKind.i64] rows_37 i) ∧ Ob (F_rCounts.named.pre [Dat.l [[(800 : Int)],
  [(830 : Int)], [(850 : Int)], [(1300 : Int)]], Dat.l rows_37]) ∧ ∀ (v_9 : Int), v_9 = cntErr [[(800 : Int)], [(830 : Int)], [(850 : Int)], [(1300 : Int)]] rows_37 → Ob (PlainE (cntN [[(800 : Int)], [(830 : Int)], [(850 :
  Int)], [(1300 : Int)]] rows_37) (El.fn (Rv.elemOf [IntKind.i64, IntKind.i64] (cntF [[(800 : Int)], [(830 : Int)], [(850 : Int)], [(1300 : Int)]] rows_37 (nat_lit 3))))) ∧ ∃ (rows_38 : List (List Int)), Ob (rows_34.length
  = rows_34.length ∧ rows_38.length = rows_34.length ∧ (∀ (r : List Int), r ∈ rows_38 → r.length = nat_lit 6) ∧ ∀ (i : Nat), i < rows_34.length → (El.fn (Rv.elemOf [IntKind.i64, IntKind.i64, IntKind.i64, IntKind.i64,
  IntKind.i64, IntKind.i64] rows_34)).at i = Rv.elemOf [IntKind.i64, IntKind.i64, IntKind.i64, IntKind.i64, IntKind.i64, IntKind.i64] rows_38 i) ∧ Ob True ∧ ∃ (rows_39 : List (List Int)), Ob (rows_5.length + nat_lit 1 =
  rows_5.length + nat_lit 1 ∧ rows_39.length = rows_5.length + nat_lit 1 ∧ (∀ (r : List Int), r ∈ rows_39 → r.length = nat_lit 6) ∧ ∀ (i : Nat), i < rows_5.length + nat_lit 1 → (behind rows_5.length (El.fn (Rv.elemOf
  [IntKind.i64, IntKind.i64, IntKind.i64, IntKind.i64, IntKind.i64, IntKind.i64] rows_5)) (nat_lit 1) (litEl [SV.i IntKind.i64 n_1, SV.i IntKind.i64 n_2, SV.i IntKind.i64 n_3, SV.i IntKind.i64 n_4, SV.i IntKind.i64 n_5,
  SV.i IntKind.i64 n_6] (nat_lit 6) (nat_lit 1))).at i = Rv.elemOf [IntKind.i64, IntKind.i64, IntKind.i64, IntKind.i64, IntKind.i64, IntKind.i64] rows_39 i) ∧ Ob True ∧ (¬¬v_8 = v_9 → (¬¬wgtErr n rows_38 = wgtErr n rows_39
  → (¬¬(wgt n rows_38 (nat_lit 0) = wgt n rows_39 (nat_lit 0) ∧ wgt n rows_38 (nat_lit 1) = wgt n rows_39 (nat_lit 1) ∧ True) → ∃ (rows_40 : List (List Int)), Ob (cntN rows_35 rows_36 = cntN rows_35 rows_36 ∧
  rows_40.length = cntN rows_35 rows_36 ∧ (∀ (r : List Int), r ∈ rows_40 → r.length = nat_lit 2) ∧ ∀ (i : Nat), i < cntN rows_35 rows_36 → (El.fn (Rv.elemOf [IntKind.i64, IntKind.i64] (cntF rows_35 rows_36 (rows_35.length
  - nat_lit 1)))).at i = Rv.elemOf [IntKind.i64, IntKind.i64] rows_40 i) ∧ ∃ (rows_41 : List (List Int)), Ob (cntN [[(800 : Int)], [(830 : Int)], [(850 : Int)], [(1300 : Int)]] rows_37 = cntN [[(800 : Int)], [(830 : Int)],
  [(850 : Int)], [(1300 : Int)]] rows_37 ∧ rows_41.length = cntN [[(800 : Int)], [(830 : Int)], [(850 : Int)], [(1300 : Int)]] rows_37 ∧ (∀ (r : List Int), r ∈ rows_41 → r.length = nat_lit 2) ∧ ∀ (i : Nat), i < cntN [[(800
  : Int)], [(830 : Int)], [(850 : Int)], [(1300 : Int)]] rows_37 → (El.fn (Rv.elemOf [IntKind.i64, IntKind.i64] (cntF [[(800 : Int)], [(830 : Int)], [(850 : Int)], [(1300 : Int)]] rows_37 (nat_lit 3)))).at i = Rv.elemOf
  [IntKind.i64, IntKind.i64] rows_41 i) ∧ Ob (rows_40.length ≤ nat_lit 4000000 ∧ rows_41.length ≤ nat_lit 4000000) ∧ (¬¬samTo (nat_lit 2) rows_40 rows_41 rows_40.length → ∃ (rows_42 : List (List Int)), Ob (rows_34.length =
  rows_34.length ∧ rows_42.length = rows_34.length ∧ (∀ (r : List Int), r ∈ rows_42 → r.length = nat_lit 6) ∧ ∀ (i : Nat), i < rows_34.length → (El.fn (Rv.elemOf [IntKind.i64, IntKind.i64, IntKind.i64, IntKind.i64,
  IntKind.i64, IntKind.i64] rows_34)).at i = Rv.elemOf [IntKind.i64, IntKind.i64, IntKind.i64, IntKind.i64, IntKind.i64, IntKind.i64] rows_42 i) ∧ ∃ (rows_43 : List (List Int)), Ob (rows_5.length + nat_lit 1 =
  rows_5.length + nat_lit 1 ∧ rows_43.length = rows_5.length + nat_lit 1 ∧ (∀ (r : List Int), r ∈ rows_43 → r.length = nat_lit 6) ∧ ∀ (i : Nat), i < rows_5.length + nat_lit 1 → (behind rows_5.length (El.fn (Rv.elemOf
  [IntKind.i64, IntKind.i64, IntKind.i64, IntKind.i64, IntKind.i64, IntKind.i64] rows_5)) (nat_lit 1) (litEl [SV.i IntKind.i64 n_1, SV.i IntKind.i64 n_2, SV.i IntKind.i64 n_3, SV.i IntKind.i64 n_4, SV.i IntKind.i64 n_5,
  SV.i IntKind.i64 n_6] (nat_lit 6) (nat_lit 1))).at i = Rv.elemOf [IntKind.i64, IntKind.i64, IntKind.i64, IntKind.i64, IntKind.i64, IntKind.i64] rows_43 i) ∧ Ob (rows_42.length ≤ nat_lit 4000000 ∧ rows_43.length ≤ nat_lit
  4000000) ∧ (¬¬samTo (nat_lit 6) rows_42 rows_43 rows_42.length → ∃ (rows_44 : List (List Int)), Ob (nat_lit 4 = nat_lit 4 ∧ rows_44.length = nat_lit 4 ∧ (∀ (r : List Int), r ∈ rows_44 → r.length = nat_lit 1) ∧ ∀ (i :
  Nat), i < nat_lit 4 → (El.fn (Rv.elemOf [IntKind.i64] [[(800 : Int)], [(830 : Int)], [(850 : Int)], [(1300 : Int)]])).at i = Rv.elemOf [IntKind.i64] rows_44 i) ∧ Ob (rows_44.length ≤ nat_lit 4000000 ∧ nat_lit 4 ≤ nat_lit
  4000000) ∧ (¬samTo (nat_lit 1) rows_44 [[(800 : Int)], [(830 : Int)], [(850 : Int)], [(1300 : Int)]] rows_44.length → False) ∧ (¬¬samTo (nat_lit 1) rows_44 [[(800 : Int)], [(830 : Int)], [(850 : Int)], [(1300 : Int)]]
  rows_44.length → ∃ (rows_45 : List (List Int)), Ob ((hdN (tideK rows_4 rows_4.length) (8 : Int)).toNat = (hdN (tideK rows_4 rows_4.length) (8 : Int)).toNat ∧ rows_45.length = (hdN (tideK rows_4 rows_4.length) (8 :
  Int)).toNat ∧ (∀ (r : List Int), r ∈ rows_45 → r.length = nat_lit 6) ∧ ∀ (i : Nat), i < (hdN (tideK rows_4 rows_4.length) (8 : Int)).toNat → (El.fn (Rv.elemOf [IntKind.i64, IntKind.i64, IntKind.i64, IntKind.i64,
  IntKind.i64, IntKind.i64] (hdR (hdA (tideK rows_4 rows_4.length) (8 : Int)) (hdN (tideK rows_4 rows_4.length) (8 : Int)).toNat))).at i = Rv.elemOf [IntKind.i64, IntKind.i64, IntKind.i64, IntKind.i64, IntKind.i64,
  IntKind.i64] rows_45 i) ∧ Ob (F_OwnCaught.named.pre [Dat.l rows_45]) ∧ Ob (PlainE rows_45.length (El.fn (Rv.elemOf [IntKind.i64, IntKind.i64, IntKind.i64, IntKind.i64, IntKind.i64, IntKind.i64] rows_45))) ∧ Ob (IsLst B x
  rows.length (nat_lit 1) (Rv.elemOf [IntKind.i64] rows)) ∧ ∃ (rows_46 : List (List Int)), Ob (IsLst B x rows.length (nat_lit 1) (Rv.elemOf [IntKind.i64] rows) ∧ rows_46.length = rows.length ∧ (∀ (r : List Int), r ∈
  rows_46 → r.length = nat_lit 1) ∧ ∀ (i : Nat), i < rows.length → Rv.elemOf [IntKind.i64] rows i = Rv.elemOf [IntKind.i64] rows_46 i) ∧ Ob (F_Ints.named.pre [Dat.l rows_46]) ∧ ∃ (rows_47 : List (List Int)), Ob
  (rows_46.length = rows_46.length ∧ rows_47.length = rows_46.length ∧ (∀ (r : List Int), r ∈ rows_47 → r.length = nat_lit 1) ∧ ∀ (i : Nat), i < rows_46.length → (El.fn (Rv.elemOf [IntKind.i64] rows_46)).at i = Rv.elemOf
  [IntKind.i64] rows_47 i) ∧ ∃ (rows_48 : List (List Int)), Ob (rows_45.length = rows_45.length ∧ rows_48.length = rows_45.length ∧ (∀ (r : List Int), r ∈ rows_48 → r.length = nat_lit 6) ∧ ∀ (i : Nat), i < rows_45.length →
  (El.fn (Rv.elemOf [IntKind.i64, IntKind.i64, IntKind.i64, IntKind.i64, IntKind.i64, IntKind.i64] rows_45)).at i = Rv.elemOf [IntKind.i64, IntKind.i64, IntKind.i64, IntKind.i64, IntKind.i64, IntKind.i64] rows_48 i) ∧ Ob
  (F_CountsG.named.pre [Dat.l rows_47, Dat.l rows_48]) ∧ ∀ (v_10 : Int), v_10 = cntErr rows_47 rows_48 → Ob (IsLst B x rows.length (nat_lit 1) (Rv.elemOf [IntKind.i64] rows)) ∧ ∃ (rows_49 : List (List Int)), Ob (IsLst B x
  rows.length (nat_lit 1) (Rv.elemOf [IntKind.i64] rows) ∧ rows_49.length = rows.length ∧ (∀ (r : List Int), r ∈ rows_49 → r.length = nat_lit 1) ∧ ∀ (i : Nat), i < rows.length → Rv.elemOf [IntKind.i64] rows i = Rv.elemOf
  [IntKind.i64] rows_49 i) ∧ ∃ (rows_50 : List (List Int)), Ob ((hdN (tideK rows_4 rows_4.length) (8 : Int)).toNat = (hdN (tideK rows_4 rows_4.length) (8 : Int)).toNat ∧ rows_50.length = (hdN (tideK rows_4 rows_4.length)
  (8 : Int)).toNat ∧ (∀ (r : List Int), r ∈ rows_50 → r.length = nat_lit 6) ∧ ∀ (i : Nat), i < (hdN (tideK rows_4 rows_4.length) (8 : Int)).toNat → (El.fn (Rv.elemOf [IntKind.i64, IntKind.i64, IntKind.i64, IntKind.i64,
  IntKind.i64, IntKind.i64] (hdR (hdA (tideK rows_4 rows_4.length) (8 : Int)) (hdN (tideK rows_4 rows_4.length) (8 : Int)).toNat))).at i = Rv.elemOf [IntKind.i64, IntKind.i64, IntKind.i64, IntKind.i64, IntKind.i64,
  IntKind.i64] rows_50 i) ∧ Ob (F_rCounts.named.pre [Dat.l rows_49, Dat.l rows_50]) ∧ ∀ (v_11 : Int), v_11 = cntErr rows_49 rows_50 → Ob (PlainE (cntN rows_49 rows_50) (El.fn (Rv.elemOf [IntKind.i64, IntKind.i64] (cntF
  rows_49 rows_50 (rows_49.length - nat_lit 1))))) ∧ ∃ (rows_51 : List (List Int)), Ob (rows_45.length = rows_45.length ∧ rows_51.length = rows_45.length ∧ (∀ (r : List Int), r ∈ rows_51 → r.length = nat_lit 6) ∧ ∀ (i :
  Nat), i < rows_45.length → (El.fn (Rv.elemOf [IntKind.i64, IntKind.i64, IntKind.i64, IntKind.i64, IntKind.i64, IntKind.i64] rows_45)).at i = Rv.elemOf [IntKind.i64, IntKind.i64, IntKind.i64, IntKind.i64, IntKind.i64,
  IntKind.i64] rows_51 i) ∧ Ob True ∧ ∃ (rows_52 : List (List Int)), Ob ((hdN (tideK rows_4 rows_4.length) (8 : Int)).toNat = (hdN (tideK rows_4 rows_4.length) (8 : Int)).toNat ∧ rows_52.length = (hdN (tideK rows_4
  rows_4.length) (8 : Int)).toNat ∧ (∀ (r : List Int), r ∈ rows_52 → r.length = nat_lit 6) ∧ ∀ (i : Nat), i < (hdN (tideK rows_4 rows_4.length) (8 : Int)).toNat → (El.fn (Rv.elemOf [IntKind.i64, IntKind.i64, IntKind.i64,
  IntKind.i64, IntKind.i64, IntKind.i64] (hdR (hdA (tideK rows_4 rows_4.length) (8 : Int)) (hdN (tideK rows_4 rows_4.length) (8 : Int)).toNat))).at i = Rv.elemOf [IntKind.i64, IntKind.i64, IntKind.i64, IntKind.i64,
  IntKind.i64, IntKind.i64] rows_52 i) ∧ Ob True ∧ (¬¬v_10 = v_11 → (¬¬wgtErr n rows_51 = wgtErr n rows_52 → (¬¬(wgt n rows_51 (nat_lit 0) = wgt n rows_52 (nat_lit 0) ∧ wgt n rows_51 (nat_lit 1) = wgt n rows_52 (nat_lit 1)
  ∧ True) → ∃ (rows_53 : List (List Int)), Ob (cntN rows_47 rows_48 = cntN rows_47 rows_48 ∧ rows_53.length = cntN rows_47 rows_48 ∧ (∀ (r : List Int), r ∈ rows_53 → r.length = nat_lit 2) ∧ ∀ (i : Nat), i < cntN rows_47
  rows_48 → (El.fn (Rv.elemOf [IntKind.i64, IntKind.i64] (cntF rows_47 rows_48 (rows_47.length - nat_lit 1)))).at i = Rv.elemOf [IntKind.i64, IntKind.i64] rows_53 i) ∧ ∃ (rows_54 : List (List Int)), Ob (cntN rows_49
  rows_50 = cntN rows_49 rows_50 ∧ rows_54.length = cntN rows_49 rows_50 ∧ (∀ (r : List Int), r ∈ rows_54 → r.length = nat_lit 2) ∧ ∀ (i : Nat), i < cntN rows_49 rows_50 → (El.fn (Rv.elemOf [IntKind.i64, IntKind.i64] (cntF
  rows_49 rows_50 (rows_49.length - nat_lit 1)))).at i = Rv.elemOf [IntKind.i64, IntKind.i64] rows_54 i) ∧ Ob (rows_53.length ≤ nat_lit 4000000 ∧ rows_54.length ≤ nat_lit 4000000) ∧ (¬¬samTo (nat_lit 2) rows_53 rows_54
  rows_53.length → ∃ (rows_55 : List (List Int)), Ob (rows_45.length = rows_45.length ∧ rows_55.length = rows_45.length ∧ (∀ (r : List Int), r ∈ rows_55 → r.length = nat_lit 6) ∧ ∀ (i : Nat), i < rows_45.length → (El.fn
  (Rv.elemOf [IntKind.i64, IntKind.i64, IntKind.i64, IntKind.i64, IntKind.i64, IntKind.i64] rows_45)).at i = Rv.elemOf [IntKind.i64, IntKind.i64, IntKind.i64, IntKind.i64, IntKind.i64, IntKind.i64] rows_55 i) ∧ ∃ (rows_56
  : List (List Int)), Ob ((hdN (tideK rows_4 rows_4.length) (8 : Int)).toNat = (hdN (tideK rows_4 rows_4.length) (8 : Int)).toNat ∧ rows_56.length = (hdN (tideK rows_4 rows_4.length) (8 : Int)).toNat ∧ (∀ (r : List Int), r
  ∈ rows_56 → r.length = nat_lit 6) ∧ ∀ (i : Nat), i < (hdN (tideK rows_4 rows_4.length) (8 : Int)).toNat → (El.fn (Rv.elemOf [IntKind.i64, IntKind.i64, IntKind.i64, IntKind.i64, IntKind.i64, IntKind.i64] (hdR (hdA (tideK
  rows_4 rows_4.length) (8 : Int)) (hdN (tideK rows_4 rows_4.length) (8 : Int)).toNat))).at i = Rv.elemOf [IntKind.i64, IntKind.i64, IntKind.i64, IntKind.i64, IntKind.i64, IntKind.i64] rows_56 i) ∧ Ob (rows_55.length ≤
  nat_lit 4000000 ∧ rows_56.length ≤ nat_lit 4000000) ∧ (¬¬samTo (nat_lit 6) rows_55 rows_56 rows_55.length → ∃ (rows_57 : List (List Int)), Ob (rows_46.length = rows_46.length ∧ rows_57.length = rows_46.length ∧ (∀ (r :
  List Int), r ∈ rows_57 → r.length = nat_lit 1) ∧ ∀ (i : Nat), i < rows_46.length → (El.fn (Rv.elemOf [IntKind.i64] rows_46)).at i = Rv.elemOf [IntKind.i64] rows_57 i) ∧ ∃ (rows_58 : List (List Int)), Ob (IsLst B x
  rows.length (nat_lit 1) (Rv.elemOf [IntKind.i64] rows) ∧ rows_58.length = rows.length ∧ (∀ (r : List Int), r ∈ rows_58 → r.length = nat_lit 1) ∧ ∀ (i : Nat), i < rows.length → Rv.elemOf [IntKind.i64] rows i = Rv.elemOf
  [IntKind.i64] rows_58 i) ∧ Ob (rows_57.length ≤ nat_lit 4000000 ∧ rows_58.length ≤ nat_lit 4000000) ∧ (¬samTo (nat_lit 1) rows_57 rows_58 rows_57.length → False) ∧ (¬¬samTo (nat_lit 1) rows_57 rows_58 rows_57.length → Ob
  (hasTabs tab1 B) ∧ True)) ∧ (¬samTo (nat_lit 6) rows_55 rows_56 rows_55.length → False)) ∧ (¬samTo (nat_lit 2) rows_53 rows_54 rows_53.length → False)) ∧ (¬(wgt n rows_51 (nat_lit 0) = wgt n rows_52 (nat_lit 0) ∧ wgt n
  rows_51 (nat_lit 1) = wgt n rows_52 (nat_lit 1) ∧ True) → False)) ∧ (¬wgtErr n rows_51 = wgtErr n rows_52 → False)) ∧ (¬v_10 = v_11 → False))) ∧ (¬samTo (nat_lit 6) rows_42 rows_43 rows_42.length → False)) ∧ (¬samTo
  (nat_lit 2) rows_40 rows_41 rows_40.length → False)) ∧ (¬(wgt n rows_38 (nat_lit 0) = wgt n rows_39 (nat_lit 0) ∧ wgt n rows_38 (nat_lit 1) = wgt n rows_39 (nat_lit 1) ∧ True) → False)) ∧ (¬wgtErr n rows_38 = wgtErr n
  rows_39 → False)) ∧ (¬v_8 = v_9 → False))) ∧ (¬samTo (nat_lit 6) rows_30 rows_31 rows_30.length → False)) ∧ (¬samTo (nat_lit 2) rows_28 rows_29 rows_28.length → False)) ∧ (¬(wgt v_3 rows_26 (nat_lit 0) = wgt v_3 rows_27
  (nat_lit 0) ∧ wgt v_3 rows_26 (nat_lit 1) = wgt v_3 rows_27 (nat_lit 1) ∧ True) → False)) ∧ (¬wgtErr v_3 rows_26 = wgtErr v_3 rows_27 → False)) ∧ (¬v_6 = v_7 → False))) ∧ (¬samTo (nat_lit 6) rows_16 rows_17
  rows_16.length → False)) ∧ (¬samTo (nat_lit 2) rows_14 rows_15 rows_14.length → False)) ∧ (¬(wgt n rows_12 (nat_lit 0) = wgt n rows_13 (nat_lit 0) ∧ wgt n rows_12 (nat_lit 1) = wgt n rows_13 (nat_lit 1) ∧ True) → False))
  ∧ (¬wgtErr n rows_12 = wgtErr n rows_13 → False)) ∧ (¬v_4 = v_5 → False))) ∧ ((40 : Int) < (↑rows.length : Int) → Ob (hasTabs tab1 B) ∧ True)

set_option linter.unusedSimpArgs false in
set_option maxRecDepth 4000 in
set_option maxHeartbeats 400000 in
theorem v_law : V_law := by
  unfold V_law
  intro B htab x E hx hox hrx b y L hy hoy hry c0 c1 c2 c3 c4 c5 z N hz hoz hrz ⟨pE, pL, pN⟩
  have srcE : IsLst B x E.length 1 (Rv.elemOf [.i64] E) ∧ E.length = E.length ∧ (∀ r ∈ E, r.length = 1) ∧ ∀ i, i < E.length → Rv.elemOf [.i64] E i = Rv.elemOf [.i64] E i := ⟨hx, rfl, hrx, fun _ _ => rfl⟩
  have srcL : IsLst B y L.length 6 (Rv.elemOf [.i64, .i64, .i64, .i64, .i64, .i64] L) ∧ L.length = L.length ∧ (∀ r ∈ L, r.length = 6) ∧ ∀ i, i < L.length → Rv.elemOf [.i64, .i64, .i64, .i64, .i64, .i64] L i = Rv.elemOf [.i64, .i64, .i64, .i64, .i64, .i64] L i := ⟨hy, rfl, hry, fun _ _ => rfl⟩
  refine ⟨⟨hx⟩, fun _ => ?_, fun _ => ⟨⟨htab⟩, trivial⟩⟩
  refine ⟨L, ⟨srcL⟩, ⟨trivial⟩, fun _ => ⟨⟨htab⟩, trivial⟩, fun _ => ?_⟩
  refine ⟨N, ⟨⟨hz, rfl, hrz, fun _ _ => rfl⟩⟩, ⟨by show N.length ≤ 9223372036854775807; omega⟩, ⟨by show (0 : Int) ≤ 8 ∧ (8 : Int) ≤ 100; omega⟩, ?_⟩
  obtain ⟨a, ha⟩ : ∃ a, tideK N N.length = a := ⟨_, rfl⟩
  rw [ha]
  clear ha
  have hn := hdN_in a (most := 8) (by omega)
  obtain ⟨n, en⟩ : ∃ n, (hdN a 8).toNat = n := ⟨_, rfl⟩
  replace hn : n ≤ 8 := by rw [← en]; omega
  rw [en]
  clear en
  obtain ⟨H, eH⟩ : ∃ H, hdR (hdA a 8) n = H := ⟨_, rfl⟩
  have lH : H.length = n := by rw [← eH]; exact hdR_len _ _
  have rH : ∀ r ∈ H, r.length = 6 := by rw [← eH]; exact hdR_row _ _
  rw [eH]
  clear eH
  intro v hv
  clear hv
  have hm := edN_in v (most := 6) (by omega)
  obtain ⟨m, em⟩ : ∃ m, (edN v 6).toNat = m := ⟨_, rfl⟩
  replace hm : m ≤ 7 := by rw [← em]; omega
  rw [em]
  clear em
  obtain ⟨G, eG⟩ : ∃ G, edR (edA v 6) (belowV v 300) m = G := ⟨_, rfl⟩
  have lG : G.length = m := by rw [← eG]; exact edR_len _ _ _
  have rG : ∀ r ∈ G, r.length = 1 := by rw [← eG]; exact edR_row _ _ _
  rw [eG]
  clear eG
  subst lH lG
  have rS : ∀ r ∈ H ++ [[c0, c1, c2, c3, c4, c5]], r.length = 6 := fun r hr => by
    rcases List.mem_append.1 hr with h | h
    · exact rH r h
    · rw [List.mem_singleton.1 h]; rfl
  have lS : (H ++ [[c0, c1, c2, c3, c4, c5]]).length = H.length + 1 := by simp
  have srcS : H.length + 1 = H.length + 1 ∧ (H ++ [[c0, c1, c2, c3, c4, c5]]).length = H.length + 1 ∧ (∀ r ∈ H ++ [[c0, c1, c2, c3, c4, c5]], r.length = 6) ∧ ∀ i, i < H.length + 1 → (behind H.length (El.fn (Rv.elemOf [.i64, .i64, .i64, .i64, .i64, .i64] H)) 1 (litEl [SV.i .i64 c0, SV.i .i64 c1, SV.i .i64 c2, SV.i .i64 c3, SV.i .i64 c4, SV.i .i64 c5] 6 1)).at i = Rv.elemOf [.i64, .i64, .i64, .i64, .i64, .i64] (H ++ [[c0, c1, c2, c3, c4, c5]]) i :=
    ⟨rfl, lS, rS, fun i hi => snoc_at (R := H) (ks := [.i64, .i64, .i64, .i64, .i64, .i64]) (r := [c0, c1, c2, c3, c4, c5]) (cs := [SV.i .i64 c0, SV.i .i64 c1, SV.i .i64 c2, SV.i .i64 c3, SV.i .i64 c4, SV.i .i64 c5]) rfl (i := i) hi⟩
  obtain ⟨S, hS⟩ : ∃ S, H ++ [[c0, c1, c2, c3, c4, c5]] = S := ⟨_, rfl⟩
  rw [hS] at rS lS srcS
  clear hS
  have cpE : E.length = E.length ∧ E.length = E.length ∧ (∀ r ∈ E, r.length = 1) ∧ ∀ i, i < E.length → (El.fn (Rv.elemOf [.i64] E)).at i = Rv.elemOf [.i64] E i := ⟨rfl, rfl, hrx, fun _ _ => rfl⟩
  have cpL : L.length = L.length ∧ L.length = L.length ∧ (∀ r ∈ L, r.length = 6) ∧ ∀ i, i < L.length → (El.fn (Rv.elemOf [.i64, .i64, .i64, .i64, .i64, .i64] L)).at i = Rv.elemOf [.i64, .i64, .i64, .i64, .i64, .i64] L i := ⟨rfl, rfl, hry, fun _ _ => rfl⟩
  have cpH : H.length = H.length ∧ H.length = H.length ∧ (∀ r ∈ H, r.length = 6) ∧ ∀ i, i < H.length → (El.fn (Rv.elemOf [.i64, .i64, .i64, .i64, .i64, .i64] H)).at i = Rv.elemOf [.i64, .i64, .i64, .i64, .i64, .i64] H i := ⟨rfl, rfl, rH, fun _ _ => rfl⟩
  have cpG : G.length = G.length ∧ G.length = G.length ∧ (∀ r ∈ G, r.length = 1) ∧ ∀ i, i < G.length → (El.fn (Rv.elemOf [.i64] G)).at i = Rv.elemOf [.i64] G i := ⟨rfl, rfl, rG, fun _ _ => rfl⟩
  have cpS : S.length = S.length ∧ S.length = S.length ∧ (∀ r ∈ S, r.length = 6) ∧ ∀ i, i < S.length → (El.fn (Rv.elemOf [.i64, .i64, .i64, .i64, .i64, .i64] S)).at i = Rv.elemOf [.i64, .i64, .i64, .i64, .i64, .i64] S i := ⟨rfl, rfl, rS, fun _ _ => rfl⟩
  have rF : ∀ r ∈ ([[800], [830], [850], [1300]] : Rows), r.length = 1 := by simp
  have cpF : 4 = 4 ∧ ([[800], [830], [850], [1300]] : Rows).length = 4 ∧ (∀ r ∈ ([[800], [830], [850], [1300]] : Rows), r.length = 1) ∧ ∀ i, i < 4 → (El.fn (Rv.elemOf [.i64] [[800], [830], [850], [1300]])).at i = Rv.elemOf [.i64] [[800], [830], [850], [1300]] i := ⟨rfl, rfl, rF, fun _ _ => rfl⟩
  refine ⟨H, ⟨cpH⟩, ⟨by show H.length ≤ 4000000; omega⟩, ⟨plain_elemOf _ _ _⟩, ⟨⟨rfl, fun _ _ => rfl⟩⟩, ⟨by omega⟩, ⟨rfl⟩, ⟨hoy⟩, ⟨by show (1 : Int) ≤ 6 ∧ (6 : Int) ≤ 100; omega⟩, ?_⟩
  intro v1 hv1
  clear hv1
  refine ⟨⟨hox⟩, ⟨hox⟩, ⟨by show (-1000000000000 : Int) ≤ 1 ∧ (1 : Int) ≤ 1000000000000 ∧ (-1000000000000 : Int) ≤ 2000 ∧ (2000 : Int) ≤ 1000000000000; omega⟩, ?_⟩
  intro v2 hv2 v3 hv3
  clear hv2 hv3
  refine ⟨⟨hy⟩, ?_⟩
  refine ⟨L, ⟨srcL⟩, ?_⟩
  refine ⟨⟨by show L.length ≤ 4000000; omega⟩, ?_⟩
  refine ⟨⟨plain_elemOf _ _ _⟩, ?_⟩
  refine ⟨⟨hx⟩, ?_⟩
  refine ⟨E, ⟨srcE⟩, ?_⟩
  refine ⟨⟨by show E.length ≤ 4000000; omega⟩, ?_⟩
  refine ⟨E, ⟨cpE⟩, ?_⟩
  refine ⟨L, ⟨cpL⟩, ?_⟩
  refine ⟨⟨trivial⟩, ?_⟩
  intro p1 hp1
  refine ⟨⟨hx⟩, ?_⟩
  refine ⟨⟨hy⟩, ?_⟩
  refine ⟨E, ⟨srcE⟩, ?_⟩
  refine ⟨L, ⟨srcL⟩, ?_⟩
  refine ⟨⟨trivial⟩, ?_⟩
  intro q1 hq1
  refine ⟨⟨plain_elemOf _ _ _⟩, ?_⟩
  refine ⟨L, ⟨cpL⟩, ?_⟩
  refine ⟨⟨trivial⟩, ?_⟩
  refine ⟨⟨hy⟩, ?_⟩
  refine ⟨L, ⟨srcL⟩, ?_⟩
  refine ⟨⟨trivial⟩, ?_⟩
  refine ⟨fun _ => ⟨fun _ => ⟨fun _ => ?_, fun h => h ⟨rfl, rfl, trivial⟩⟩, fun h => h rfl⟩, fun h => h (hp1.trans hq1.symm)⟩
  clear hp1 hq1
  have bN1 := cntN_le E L
  have lC1 := cntF_len E L (cntN E L)
  refine ⟨cntF E L (cntN E L), ⟨rfl, cntF_len _ _ _, cntF_row _ _ _, cntN_rows _ _⟩, ?_⟩
  refine ⟨cntF E L (cntN E L), ⟨rfl, cntF_len _ _ _, cntF_row _ _ _, cntN_rows _ _⟩, ?_⟩
  refine ⟨⟨by show (cntF E L (cntN E L)).length ≤ 4000000 ∧ (cntF E L (cntN E L)).length ≤ 4000000; omega⟩, ?_⟩
  refine ⟨fun _ => ?_, fun h => h (sam_self _ _ _)⟩
  refine ⟨L, ⟨cpL⟩, ?_⟩
  refine ⟨L, ⟨srcL⟩, ?_⟩
  refine ⟨⟨by show L.length ≤ 4000000 ∧ L.length ≤ 4000000; omega⟩, ?_⟩
  refine ⟨fun _ => ?_, fun h => h (sam_self _ _ _)⟩
  refine ⟨E, ⟨cpE⟩, ?_⟩
  refine ⟨E, ⟨srcE⟩, ?_⟩
  refine ⟨⟨by show E.length ≤ 4000000 ∧ E.length ≤ 4000000; omega⟩, ?_⟩
  refine ⟨fun h => h (sam_self _ _ _), fun _ => ?_⟩
  refine ⟨H, ⟨cpH⟩, ?_⟩
  refine ⟨⟨by show H.length ≤ 4000000; omega⟩, ?_⟩
  refine ⟨⟨plain_elemOf _ _ _⟩, ?_⟩
  refine ⟨G, ⟨cpG⟩, ?_⟩
  refine ⟨⟨by show G.length ≤ 4000000; omega⟩, ?_⟩
  refine ⟨G, ⟨cpG⟩, ?_⟩
  refine ⟨H, ⟨cpH⟩, ?_⟩
  refine ⟨⟨trivial⟩, ?_⟩
  intro p2 hp2
  refine ⟨G, ⟨cpG⟩, ?_⟩
  refine ⟨H, ⟨cpH⟩, ?_⟩
  refine ⟨⟨trivial⟩, ?_⟩
  intro q2 hq2
  refine ⟨⟨plain_elemOf _ _ _⟩, ?_⟩
  refine ⟨H, ⟨cpH⟩, ?_⟩
  refine ⟨⟨trivial⟩, ?_⟩
  refine ⟨H, ⟨cpH⟩, ?_⟩
  refine ⟨⟨trivial⟩, ?_⟩
  refine ⟨fun _ => ⟨fun _ => ⟨fun _ => ?_, fun h => h ⟨rfl, rfl, trivial⟩⟩, fun h => h rfl⟩, fun h => h (hp2.trans hq2.symm)⟩
  clear hp2 hq2
  have bN2 := cntN_le G H
  have lC2 := cntF_len G H (cntN G H)
  refine ⟨cntF G H (cntN G H), ⟨rfl, cntF_len _ _ _, cntF_row _ _ _, cntN_rows _ _⟩, ?_⟩
  refine ⟨cntF G H (cntN G H), ⟨rfl, cntF_len _ _ _, cntF_row _ _ _, cntN_rows _ _⟩, ?_⟩
  refine ⟨⟨by show (cntF G H (cntN G H)).length ≤ 4000000 ∧ (cntF G H (cntN G H)).length ≤ 4000000; omega⟩, ?_⟩
  refine ⟨fun _ => ?_, fun h => h (sam_self _ _ _)⟩
  refine ⟨H, ⟨cpH⟩, ?_⟩
  refine ⟨H, ⟨cpH⟩, ?_⟩
  refine ⟨⟨by show H.length ≤ 4000000 ∧ H.length ≤ 4000000; omega⟩, ?_⟩
  refine ⟨fun _ => ?_, fun h => h (sam_self _ _ _)⟩
  refine ⟨G, ⟨cpG⟩, ?_⟩
  refine ⟨G, ⟨cpG⟩, ?_⟩
  refine ⟨⟨by show G.length ≤ 4000000 ∧ G.length ≤ 4000000; omega⟩, ?_⟩
  refine ⟨fun h => h (sam_self _ _ _), fun _ => ?_⟩
  refine ⟨S, ⟨srcS⟩, ?_⟩
  refine ⟨⟨by show S.length ≤ 4000000; omega⟩, ?_⟩
  refine ⟨⟨plain_elemOf _ _ _⟩, ?_⟩
  refine ⟨⟨by show 4 ≤ 4000000; omega⟩, ?_⟩
  refine ⟨[[800], [830], [850], [1300]], ⟨cpF⟩, ?_⟩
  refine ⟨S, ⟨cpS⟩, ?_⟩
  refine ⟨⟨trivial⟩, ?_⟩
  intro p3 hp3
  refine ⟨S, ⟨srcS⟩, ?_⟩
  refine ⟨⟨trivial⟩, ?_⟩
  intro q3 hq3
  refine ⟨⟨plain_elemOf _ _ _⟩, ?_⟩
  refine ⟨S, ⟨cpS⟩, ?_⟩
  refine ⟨⟨trivial⟩, ?_⟩
  refine ⟨S, ⟨srcS⟩, ?_⟩
  refine ⟨⟨trivial⟩, ?_⟩
  refine ⟨fun _ => ⟨fun _ => ⟨fun _ => ?_, fun h => h ⟨rfl, rfl, trivial⟩⟩, fun h => h rfl⟩, fun h => h (hp3.trans hq3.symm)⟩
  clear hp3 hq3
  have bN3 := cntN_le [[800], [830], [850], [1300]] S
  have lC3 := cntF_len [[800], [830], [850], [1300]] S (cntN [[800], [830], [850], [1300]] S)
  refine ⟨cntF [[800], [830], [850], [1300]] S (cntN [[800], [830], [850], [1300]] S), ⟨rfl, cntF_len _ _ _, cntF_row _ _ _, cntN_rows _ _⟩, ?_⟩
  refine ⟨cntF [[800], [830], [850], [1300]] S (cntN [[800], [830], [850], [1300]] S), ⟨rfl, cntF_len _ _ _, cntF_row _ _ _, cntN_rows _ _⟩, ?_⟩
  refine ⟨⟨by show (cntF [[800], [830], [850], [1300]] S (cntN [[800], [830], [850], [1300]] S)).length ≤ 4000000 ∧ (cntF [[800], [830], [850], [1300]] S (cntN [[800], [830], [850], [1300]] S)).length ≤ 4000000; omega⟩, ?_⟩
  refine ⟨fun _ => ?_, fun h => h (sam_self _ _ _)⟩
  refine ⟨S, ⟨cpS⟩, ?_⟩
  refine ⟨S, ⟨srcS⟩, ?_⟩
  refine ⟨⟨by show S.length ≤ 4000000 ∧ S.length ≤ 4000000; omega⟩, ?_⟩
  refine ⟨fun _ => ?_, fun h => h (sam_self _ _ _)⟩
  refine ⟨[[800], [830], [850], [1300]], ⟨cpF⟩, ?_⟩
  refine ⟨⟨by show 4 ≤ 4000000 ∧ 4 ≤ 4000000; omega⟩, ?_⟩
  refine ⟨fun h => h (sam_self _ _ _), fun _ => ?_⟩
  refine ⟨H, ⟨cpH⟩, ?_⟩
  refine ⟨⟨by show H.length ≤ 4000000; omega⟩, ?_⟩
  refine ⟨⟨plain_elemOf _ _ _⟩, ?_⟩
  refine ⟨⟨hx⟩, ?_⟩
  refine ⟨E, ⟨srcE⟩, ?_⟩
  refine ⟨⟨by show E.length ≤ 4000000; omega⟩, ?_⟩
  refine ⟨E, ⟨cpE⟩, ?_⟩
  refine ⟨H, ⟨cpH⟩, ?_⟩
  refine ⟨⟨trivial⟩, ?_⟩
  intro p4 hp4
  refine ⟨⟨hx⟩, ?_⟩
  refine ⟨E, ⟨srcE⟩, ?_⟩
  refine ⟨H, ⟨cpH⟩, ?_⟩
  refine ⟨⟨trivial⟩, ?_⟩
  intro q4 hq4
  refine ⟨⟨plain_elemOf _ _ _⟩, ?_⟩
  refine ⟨H, ⟨cpH⟩, ?_⟩
  refine ⟨⟨trivial⟩, ?_⟩
  refine ⟨H, ⟨cpH⟩, ?_⟩
  refine ⟨⟨trivial⟩, ?_⟩
  refine ⟨fun _ => ⟨fun _ => ⟨fun _ => ?_, fun h => h ⟨rfl, rfl, trivial⟩⟩, fun h => h rfl⟩, fun h => h (hp4.trans hq4.symm)⟩
  clear hp4 hq4
  have bN4 := cntN_le E H
  have lC4 := cntF_len E H (cntN E H)
  refine ⟨cntF E H (cntN E H), ⟨rfl, cntF_len _ _ _, cntF_row _ _ _, cntN_rows _ _⟩, ?_⟩
  refine ⟨cntF E H (cntN E H), ⟨rfl, cntF_len _ _ _, cntF_row _ _ _, cntN_rows _ _⟩, ?_⟩
  refine ⟨⟨by show (cntF E H (cntN E H)).length ≤ 4000000 ∧ (cntF E H (cntN E H)).length ≤ 4000000; omega⟩, ?_⟩
  refine ⟨fun _ => ?_, fun h => h (sam_self _ _ _)⟩
  refine ⟨H, ⟨cpH⟩, ?_⟩
  refine ⟨H, ⟨cpH⟩, ?_⟩
  refine ⟨⟨by show H.length ≤ 4000000 ∧ H.length ≤ 4000000; omega⟩, ?_⟩
  refine ⟨fun _ => ?_, fun h => h (sam_self _ _ _)⟩
  refine ⟨E, ⟨cpE⟩, ?_⟩
  refine ⟨E, ⟨srcE⟩, ?_⟩
  refine ⟨⟨by show E.length ≤ 4000000 ∧ E.length ≤ 4000000; omega⟩, ?_⟩
  exact ⟨fun h => h (sam_self _ _ _), fun _ => ⟨⟨htab⟩, trivial⟩⟩

theorem e_law : V_law = needL P [F_Weight, F_rWeight, F_manyL, F_SameCaught, F_SameInts, F_SameSpans] [F_TideOf.named, F_Herded.named, F_CountsG.named, F_rCounts.named, F_Below.named, F_From.named, F_OwnCaught.named, F_Ints.named, F_EdgesOf.named] 20 tab1 A_law F_law := by kernel_rfl

theorem n_law : Ob (needL P [F_Weight, F_rWeight, F_manyL, F_SameCaught, F_SameInts, F_SameSpans] [F_TideOf.named, F_Herded.named, F_CountsG.named, F_rCounts.named, F_Below.named, F_From.named, F_OwnCaught.named, F_Ints.named, F_EdgesOf.named] 20 tab1 A_law F_law) := by
  rw [← e_law]
  exact ⟨v_law⟩

theorem b_law : ((P.funcs[4]?).any fun fn => fn.body.isSome) = true := by kernel_rfl

theorem l_law : ([F_Weight, F_rWeight, F_manyL, F_SameCaught, F_SameInts, F_SameSpans].all fun G => !Nat.beq G.g 20) = true := rfl
theorem le_law : ([F_TideOf.named, F_Herded.named, F_CountsG.named, F_rCounts.named, F_Below.named, F_From.named, F_OwnCaught.named, F_Ints.named, F_EdgesOf.named].all fun G => !Nat.beq G.g 20) = true := rfl
theorem c_law : ∀ F ∈ [F_Weight, F_rWeight, F_manyL, F_SameCaught, F_SameInts, F_SameSpans], F.Ok P := by
  intro F h
  simp only [List.mem_cons, List.not_mem_nil, or_false] at h
  rcases h with rfl | rfl | rfl | rfl | rfl | rfl
  · exact Weight_ok
  · exact rWeight_ok
  · exact manyL_ok
  · exact SameCaught_ok
  · exact SameInts_ok
  · exact SameSpans_ok

theorem ce_law : ∀ F ∈ [F_TideOf.named, F_Herded.named, F_CountsG.named, F_rCounts.named, F_Below.named, F_From.named, F_OwnCaught.named, F_Ints.named, F_EdgesOf.named], F.Ok P := by
  intro F h
  simp only [List.mem_cons, List.not_mem_nil, or_false] at h
  rcases h with rfl | rfl | rfl | rfl | rfl | rfl | rfl | rfl | rfl
  · exact TideOf_ok.named
  · exact Herded_ok.named
  · exact CountsG_ok.named
  · exact rCounts_ok.named
  · exact Below_ok.named
  · exact From_ok.named
  · exact OwnCaught_ok.named
  · exact Ints_ok.named
  · exact EdgesOf_ok.named


end Go.Proofs.YthlodlileecmdaaDoor.Sy
