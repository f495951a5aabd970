/- The law CoopClaims. -/
import Derived.Test.YtjgllojnbinchaaSyP2
import Derived.Test.YtjgllojnbinchaaGrM
import Derived.Test.YtjgllojnbinchaaStM
import Derived.Test.YtjgllojnbinchaaKtT
import Derived.Test.YtjgllojnbinchaaKtA
import Derived.Test.YtjgllojnbinchaaKtB
import Derived.Test.YtjgllojnbinchaaKtS
import Derived.Test.YtjgllojnbinchaaKtV
import Derived.Test.YtjgllojnbinchaaKvA
import Derived.Test.YtjgllojnbinchaaSyP2
import Derived.KernelRfl
import Derived.Test.YtjgllojnbinchaaProg
namespace Go.Proofs.Ytjgllojnbinchaa.Sy
open Go Go.Rv
set_option linter.unusedVariables false

theorem pay_row (n : Nat) (f : Nat → Int) : (∀ r ∈ payR n f, r.length = 3) ∧ (payR n f).length ≤ n := by
  unfold payR
  split
  · rename_i h
    have hp := h.choose_spec
    refine ⟨hp.to.row, ?_⟩
    have := (pay_k hp.to (Nat.le_refl _)).nz
    omega
  · simp
theorem stl_row (N : Int) (C : Rows) : (∀ r ∈ stlR N C, r.length = 3) ∧ (stlR N C).length ≤ 12 := by
  unfold stlR
  split
  · rename_i h
    obtain ⟨h1, h2⟩ := pay_row N.toNat (netTo C C.length)
    refine ⟨h1, ?_⟩
    have : N ≤ 12 := by
      unfold clmErr at h
      split at h
      · omega
      · omega
    omega
  · simp

noncomputable def F_law : LawF := ⟨4, [i64, .one (.l [.i64, .i64, .i64]), .one (.l [.i64])], fun l => match l with | [.z n0, .l C, .l N] => N.length ≤ 9223372036854775807 | _ => False⟩
noncomputable def A_law : List SV → List Dat → Nat → List SV → Ann := fun xs ds n ts => match xs with
  | [.i _ _, .lst xc _ _ _, .lst xz _ _ _] => match ds with
    | [.z n0, .l C, .l N] => match n with
      | 7 => ⟨Unit, fun _ => [], fun _ => [], fun _ => True, fun _ => 0, 5⟩
      | _ => noAnn
    | _ => noAnn
  | _ => noAnn

def V_law : Prop :=
  ∀ (B : RW), hasTabs [] B → ∀ (n : Int) (x : RV) (rows : List (List Int)), IsLst B x rows.length 3 (Rv.elemOf [.i64, .i64, .i64] rows) → oneB x = true → (∀ (row : List Int), row ∈ rows → row.length = (3 : Nat)) → ∀ (x_1 :
  RV) (rows_1 : List (List Int)), IsLst B x_1 rows_1.length 1 (Rv.elemOf [.i64] rows_1) → oneB x_1 = true → (∀ (row : List Int), row ∈ rows_1 → row.length = (1 : Nat)) → rows_1.length ≤ (9223372036854775807 : Nat) → Ob
  (IsLst B x rows.length 3 (Rv.elemOf [.i64, .i64, .i64] rows)) ∧ ((60 : Int) < (↑rows.length : Int) → Ob (hasTabs [] B) ∧ True) ∧ (¬(60 : Int) < (↑rows.length : Int) → ∃ (rows_2 : List (List Int)), Ob (IsLst B x_1
  rows_1.length 1 (Rv.elemOf [.i64] rows_1) ∧ rows_2.length = rows_1.length ∧ (∀ (r : List Int), r ∈ rows_2 → r.length = (1 : Nat)) ∧ ∀ (i : Nat), i < rows_1.length → Rv.elemOf [.i64] rows_1 i = Rv.elemOf [.i64] rows_2 i)
  ∧ Ob (F_TideOf.named.pre [Dat.l rows_2]) ∧ Ob (F_From.named.pre ([Dat.z (tideK rows_2 rows_2.length)] ++ [Dat.z (2 : Int), Dat.z (8 : Int)])) ∧ ∀ (v : Int), v = belowA (tideK rows_2 rows_2.length) ((8 : Int) - (2 : Int)
  + (1 : Int)) → ∀ (v_1 : Int), v_1 = (2 : Int) + belowV (tideK rows_2 rows_2.length) ((8 : Int) - (2 : Int) + (1 : Int)) → Ob (F_ClaimsOf.named.pre ([Dat.z v] ++ [Dat.z v_1, Dat.z (12 : Int)])) ∧ ∀ (v_2 : Int), v_2 = itQ
  (cmQ v_1) (belowA v ((12 : Int) + (1 : Int))) (belowV v ((12 : Int) + (1 : Int))).toNat → Ob (oneB x = true) ∧ Ob (oneB x = true) ∧ ∃ (rows_3 : List (List Int)), Ob (IsLst B x rows.length 3 (Rv.elemOf [.i64, .i64, .i64]
  rows) ∧ rows_3.length = rows.length ∧ (∀ (r : List Int), r ∈ rows_3 → r.length = (3 : Nat)) ∧ ∀ (i : Nat), i < rows.length → Rv.elemOf [.i64, .i64, .i64] rows i = Rv.elemOf [.i64, .i64, .i64] rows_3 i) ∧ Ob
  (F_OwnClaims.named.pre [Dat.l rows_3]) ∧ ∃ (rows_4 : List (List Int)), Ob (rows_3.length = rows_3.length ∧ rows_4.length = rows_3.length ∧ (∀ (r : List Int), r ∈ rows_4 → r.length = (3 : Nat)) ∧ ∀ (i : Nat), i <
  rows_3.length → (El.fn (Rv.elemOf [.i64, .i64, .i64] rows_3)).at i = Rv.elemOf [.i64, .i64, .i64] rows_4 i) ∧ Ob (F_Settle.named.pre [Dat.z n, Dat.l rows_4]) ∧ ∀ (v_3 : Int), v_3 = clmErr n rows_4 → Ob (IsLst B x
  rows.length 3 (Rv.elemOf [.i64, .i64, .i64] rows)) ∧ ∃ (rows_5 : List (List Int)), Ob (IsLst B x rows.length 3 (Rv.elemOf [.i64, .i64, .i64] rows) ∧ rows_5.length = rows.length ∧ (∀ (r : List Int), r ∈ rows_5 → r.length
  = (3 : Nat)) ∧ ∀ (i : Nat), i < rows.length → Rv.elemOf [.i64, .i64, .i64] rows i = Rv.elemOf [.i64, .i64, .i64] rows_5 i) ∧ Ob (F_SettleR.named.pre [Dat.z n, Dat.l rows_5]) ∧ ∀ (v_4 : Int), v_4 = clmErr n rows_5 → Ob
  (PlainE (List.length (stlR n rows_5)) (El.fn (Rv.elemOf [.i64, .i64, .i64] (stlR n rows_5)))) ∧ (¬¬v_3 = v_4 → ∃ (rows_6 : List (List Int)), Ob (List.length (stlR n rows_4) = List.length (stlR n rows_4) ∧ rows_6.length =
  List.length (stlR n rows_4) ∧ (∀ (r : List Int), r ∈ rows_6 → r.length = (3 : Nat)) ∧ ∀ (i : Nat), i < List.length (stlR n rows_4) → (El.fn (Rv.elemOf [.i64, .i64, .i64] (stlR n rows_4))).at i = Rv.elemOf [.i64, .i64,
  .i64] rows_6 i) ∧ ∃ (rows_7 : List (List Int)), Ob (List.length (stlR n rows_5) = List.length (stlR n rows_5) ∧ rows_7.length = List.length (stlR n rows_5) ∧ (∀ (r : List Int), r ∈ rows_7 → r.length = (3 : Nat)) ∧ ∀ (i :
  Nat), i < List.length (stlR n rows_5) → (El.fn (Rv.elemOf [.i64, .i64, .i64] (stlR n rows_5))).at i = Rv.elemOf [.i64, .i64, .i64] rows_7 i) ∧ Ob (rows_6.length ≤ (4000000 : Nat) ∧ rows_7.length ≤ (4000000 : Nat)) ∧
  (¬¬samTo 3 rows_6 rows_7 rows_6.length → ∃ (rows_8 : List (List Int)), Ob (rows_3.length = rows_3.length ∧ rows_8.length = rows_3.length ∧ (∀ (r : List Int), r ∈ rows_8 → r.length = (3 : Nat)) ∧ ∀ (i : Nat), i <
  rows_3.length → (El.fn (Rv.elemOf [.i64, .i64, .i64] rows_3)).at i = Rv.elemOf [.i64, .i64, .i64] rows_8 i) ∧ ∃ (rows_9 : List (List Int)), Ob (IsLst B x rows.length 3 (Rv.elemOf [.i64, .i64, .i64] rows) ∧ rows_9.length
  = rows.length ∧ (∀ (r : List Int), r ∈ rows_9 → r.length = (3 : Nat)) ∧ ∀ (i : Nat), i < rows.length → Rv.elemOf [.i64, .i64, .i64] rows i = Rv.elemOf [.i64, .i64, .i64] rows_9 i) ∧ Ob (rows_8.length ≤ (4000000 : Nat) ∧
  rows_9.length ≤ (4000000 : Nat)) ∧ (¬samTo 3 rows_8 rows_9 rows_8.length → False) ∧ (¬¬samTo 3 rows_8 rows_9 rows_8.length → ∃ (rows_10 : List (List Int)), Ob ((belowV v ((12 : Int) + (1 : Int))).toNat = (belowV v ((12 :
  Int) + (1 : Int))).toNat ∧ rows_10.length = (belowV v ((12 : Int) + (1 : Int))).toNat ∧ (∀ (r : List Int), r ∈ rows_10 → r.length = (3 : Nat)) ∧ ∀ (i : Nat), i < (belowV v ((12 : Int) + (1 : Int))).toNat → (El.fn
  (Rv.elemOf [.i64, .i64, .i64] (itR (cmQ v_1) (cmRow v_1) (belowA v ((12 : Int) + (1 : Int))) (belowV v ((12 : Int) + (1 : Int))).toNat))).at i = Rv.elemOf [.i64, .i64, .i64] rows_10 i) ∧ Ob (F_OwnClaims.named.pre [Dat.l
  rows_10]) ∧ ∃ (rows_11 : List (List Int)), Ob (rows_10.length = rows_10.length ∧ rows_11.length = rows_10.length ∧ (∀ (r : List Int), r ∈ rows_11 → r.length = (3 : Nat)) ∧ ∀ (i : Nat), i < rows_10.length → (El.fn
  (Rv.elemOf [.i64, .i64, .i64] rows_10)).at i = Rv.elemOf [.i64, .i64, .i64] rows_11 i) ∧ Ob (F_Settle.named.pre [Dat.z v_1, Dat.l rows_11]) ∧ ∀ (v_5 : Int), v_5 = clmErr v_1 rows_11 → ∃ (rows_12 : List (List Int)), Ob
  ((belowV v ((12 : Int) + (1 : Int))).toNat = (belowV v ((12 : Int) + (1 : Int))).toNat ∧ rows_12.length = (belowV v ((12 : Int) + (1 : Int))).toNat ∧ (∀ (r : List Int), r ∈ rows_12 → r.length = (3 : Nat)) ∧ ∀ (i : Nat),
  i < (belowV v ((12 : Int) + (1 : Int))).toNat → (El.fn (Rv.elemOf [.i64, .i64, .i64] (itR (cmQ v_1) (cmRow v_1) (belowA v ((12 : Int) + (1 : Int))) (belowV v ((12 : Int) + (1 : Int))).toNat))).at i = Rv.elemOf [.i64,
  .i64, .i64] rows_12 i) ∧ Ob (F_SettleR.named.pre [Dat.z v_1, Dat.l rows_12]) ∧ ∀ (v_6 : Int), v_6 = clmErr v_1 rows_12 → Ob (PlainE (List.length (stlR v_1 rows_12)) (El.fn (Rv.elemOf [.i64, .i64, .i64] (stlR v_1
  rows_12)))) ∧ (¬¬v_5 = v_6 → ∃ (rows_13 : List (List Int)), Ob (List.length (stlR v_1 rows_11) = List.length (stlR v_1 rows_11) ∧ rows_13.length = List.length (stlR v_1 rows_11) ∧ (∀ (r : List Int), r ∈ rows_13 →
  r.length = (3 : Nat)) ∧ ∀ (i : Nat), i < List.length (stlR v_1 rows_11) → (El.fn (Rv.elemOf [.i64, .i64, .i64] (stlR v_1 rows_11))).at i = Rv.elemOf [.i64, .i64, .i64] rows_13 i) ∧ ∃ (rows_14 : List (List Int)), Ob
  (List.length (stlR v_1 rows_12) = List.length (stlR v_1 rows_12) ∧ rows_14.length = List.length (stlR v_1 rows_12) ∧ (∀ (r : List Int), r ∈ rows_14 → r.length = (3 : Nat)) ∧ ∀ (i : Nat), i < List.length (stlR v_1
  rows_12) → (El.fn (Rv.elemOf [.i64, .i64, .i64] (stlR v_1 rows_12))).at i = Rv.elemOf [.i64, .i64, .i64] rows_14 i) ∧ Ob (rows_13.length ≤ (4000000 : Nat) ∧ rows_14.length ≤ (4000000 : Nat)) ∧ (¬¬samTo 3 rows_13 rows_14
  rows_13.length → ∃ (rows_15 : List (List Int)), Ob (rows_10.length = rows_10.length ∧ rows_15.length = rows_10.length ∧ (∀ (r : List Int), r ∈ rows_15 → r.length = (3 : Nat)) ∧ ∀ (i : Nat), i < rows_10.length → (El.fn
  (Rv.elemOf [.i64, .i64, .i64] rows_10)).at i = Rv.elemOf [.i64, .i64, .i64] rows_15 i) ∧ ∃ (rows_16 : List (List Int)), Ob ((belowV v ((12 : Int) + (1 : Int))).toNat = (belowV v ((12 : Int) + (1 : Int))).toNat ∧
  rows_16.length = (belowV v ((12 : Int) + (1 : Int))).toNat ∧ (∀ (r : List Int), r ∈ rows_16 → r.length = (3 : Nat)) ∧ ∀ (i : Nat), i < (belowV v ((12 : Int) + (1 : Int))).toNat → (El.fn (Rv.elemOf [.i64, .i64, .i64] (itR
  (cmQ v_1) (cmRow v_1) (belowA v ((12 : Int) + (1 : Int))) (belowV v ((12 : Int) + (1 : Int))).toNat))).at i = Rv.elemOf [.i64, .i64, .i64] rows_16 i) ∧ Ob (rows_15.length ≤ (4000000 : Nat) ∧ rows_16.length ≤ (4000000 :
  Nat)) ∧ (¬samTo 3 rows_15 rows_16 rows_15.length → False) ∧ (¬¬samTo 3 rows_15 rows_16 rows_15.length → ∃ (rows_17 : List (List Int)), Ob (IsLst B x rows.length 3 (Rv.elemOf [.i64, .i64, .i64] rows) ∧ rows_17.length =
  rows.length ∧ (∀ (r : List Int), r ∈ rows_17 → r.length = (3 : Nat)) ∧ ∀ (i : Nat), i < rows.length → Rv.elemOf [.i64, .i64, .i64] rows i = Rv.elemOf [.i64, .i64, .i64] rows_17 i) ∧ Ob (F_OwnClaims.named.pre [Dat.l
  rows_17]) ∧ ∃ (rows_18 : List (List Int)), Ob (rows_17.length = rows_17.length ∧ rows_18.length = rows_17.length ∧ (∀ (r : List Int), r ∈ rows_18 → r.length = (3 : Nat)) ∧ ∀ (i : Nat), i < rows_17.length → (El.fn
  (Rv.elemOf [.i64, .i64, .i64] rows_17)).at i = Rv.elemOf [.i64, .i64, .i64] rows_18 i) ∧ Ob (F_Settle.named.pre [Dat.z v_1, Dat.l rows_18]) ∧ ∀ (v_7 : Int), v_7 = clmErr v_1 rows_18 → Ob (IsLst B x rows.length 3
  (Rv.elemOf [.i64, .i64, .i64] rows)) ∧ ∃ (rows_19 : List (List Int)), Ob (IsLst B x rows.length 3 (Rv.elemOf [.i64, .i64, .i64] rows) ∧ rows_19.length = rows.length ∧ (∀ (r : List Int), r ∈ rows_19 → r.length = (3 :
  Nat)) ∧ ∀ (i : Nat), i < rows.length → Rv.elemOf [.i64, .i64, .i64] rows i = Rv.elemOf [.i64, .i64, .i64] rows_19 i) ∧ Ob (F_SettleR.named.pre [Dat.z v_1, Dat.l rows_19]) ∧ ∀ (v_8 : Int), v_8 = clmErr v_1 rows_19 → Ob
  (PlainE (List.length (stlR v_1 rows_19)) (El.fn (Rv.elemOf [.i64, .i64, .i64] (stlR v_1 rows_19)))) ∧ (¬¬v_7 = v_8 → ∃ (rows_20 : List (List Int)), Ob (List.length (stlR v_1 rows_18) = List.length (stlR v_1 rows_18) ∧
  rows_20.length = List.length (stlR v_1 rows_18) ∧ (∀ (r : List Int), r ∈ rows_20 → r.length = (3 : Nat)) ∧ ∀ (i : Nat), i < List.length (stlR v_1 rows_18) → (El.fn (Rv.elemOf [.i64, .i64, .i64] (stlR v_1 rows_18))).at i
  = Rv.elemOf [.i64, .i64, .i64] rows_20 i) ∧ ∃ (rows_21 : List (List Int)), Ob (List.length (stlR v_1 rows_19) = List.length (stlR v_1 rows_19) ∧ rows_21.length = List.length (stlR v_1 rows_19) ∧ (∀ (r : List Int), r ∈
  rows_21 → r.length = (3 : Nat)) ∧ ∀ (i : Nat), i < List.length (stlR v_1 rows_19) → (El.fn (Rv.elemOf [.i64, .i64, .i64] (stlR v_1 rows_19))).at i = Rv.elemOf [.i64, .i64, .i64] rows_21 i) ∧ Ob (rows_20.length ≤ (4000000
  : Nat) ∧ rows_21.length ≤ (4000000 : Nat)) ∧ (¬¬samTo 3 rows_20 rows_21 rows_20.length → ∃ (rows_22 : List (List Int)), Ob (rows_17.length = rows_17.length ∧ rows_22.length = rows_17.length ∧ (∀ (r : List Int), r ∈
  rows_22 → r.length = (3 : Nat)) ∧ ∀ (i : Nat), i < rows_17.length → (El.fn (Rv.elemOf [.i64, .i64, .i64] rows_17)).at i = Rv.elemOf [.i64, .i64, .i64] rows_22 i) ∧ ∃ (rows_23 : List (List Int)), Ob (IsLst B x rows.length
  3 (Rv.elemOf [.i64, .i64, .i64] rows) ∧ rows_23.length = rows.length ∧ (∀ (r : List Int), r ∈ rows_23 → r.length = (3 : Nat)) ∧ ∀ (i : Nat), i < rows.length → Rv.elemOf [.i64, .i64, .i64] rows i = Rv.elemOf [.i64, .i64,
  .i64] rows_23 i) ∧ Ob (rows_22.length ≤ (4000000 : Nat) ∧ rows_23.length ≤ (4000000 : Nat)) ∧ (¬samTo 3 rows_22 rows_23 rows_22.length → False) ∧ (¬¬samTo 3 rows_22 rows_23 rows_22.length → Ob (hasTabs [] B) ∧ True)) ∧
  (¬samTo 3 rows_20 rows_21 rows_20.length → False)) ∧ (¬v_7 = v_8 → False))) ∧ (¬samTo 3 rows_13 rows_14 rows_13.length → False)) ∧ (¬v_5 = v_6 → False))) ∧ (¬samTo 3 rows_6 rows_7 rows_6.length → False)) ∧ (¬v_3 = v_4 →
  False))

set_option linter.unusedSimpArgs false in
set_option maxRecDepth 4000 in
set_option maxHeartbeats 400000 in
theorem v_law : V_law := by
  unfold V_law
  intro B htab n xc C hc hoc hrc xz N hz hoz hrz hN
  refine ⟨⟨hc⟩, fun h1 => ⟨⟨htab⟩, trivial⟩, fun h1 => ?_⟩
  refine ⟨N, ⟨⟨hz, rfl, hrz, fun _ _ => rfl⟩⟩, ⟨hN⟩, ?_⟩
  obtain ⟨a, ha⟩ : ∃ a, tideK N N.length = a := ⟨_, rfl⟩
  rw [ha]
  clear ha
  refine ⟨⟨by show (-1000000000000 : Int) ≤ 2 ∧ (2 : Int) ≤ 1000000000000 ∧ (-1000000000000 : Int) ≤ 8 ∧ (8 : Int) ≤ 1000000000000; omega⟩, ?_⟩
  intro v hv v1 hv1
  have b1 : 2 ≤ v1 ∧ v1 ≤ 8 := by
    have h := belowV_in a (8 - 2 + 1)
    obtain ⟨x, hx⟩ : ∃ x, x = belowV a (8 - 2 + 1) := ⟨_, rfl⟩
    rw [← hx] at h hv1
    clear hx
    omega
  clear hv hv1
  refine ⟨⟨by show 2 ≤ v1 ∧ v1 ≤ 1000 ∧ (0 : Int) ≤ 12 ∧ (12 : Int) ≤ 1000; omega⟩, ?_⟩
  intro v2 hv2
  clear hv2
  have hk : (belowV v ((12 : Int) + 1)).toNat ≤ 12 := by
    have h := belowV_in v ((12 : Int) + 1)
    obtain ⟨x, hx⟩ : ∃ x, x = belowV v ((12 : Int) + 1) := ⟨_, rfl⟩
    rw [← hx] at h ⊢
    clear hx
    omega
  obtain ⟨k, ek⟩ : ∃ k, (belowV v ((12 : Int) + 1)).toNat = k := ⟨_, rfl⟩
  rw [ek] at hk ⊢
  clear ek
  obtain ⟨G, hG⟩ : ∃ G, itR (cmQ v1) (cmRow v1) (belowA v ((12 : Int) + 1)) k = G := ⟨_, rfl⟩
  have lG : G.length = k := by rw [← hG]; exact it_len _ _ _ _
  have hrG : ∀ r ∈ G, r.length = 3 := by rw [← hG]; exact it_mem (p := fun r => r.length = 3) (fun _ => rfl) _
  rw [hG]
  clear hG
  subst lG
  have c1 : C.length ≤ 4000000 := by omega
  have c2 : G.length ≤ 4000000 := by omega
  have s1 := stl_row n C
  have s2 := stl_row v1 C
  have s3 := stl_row v1 G
  have d1 : (stlR n C).length ≤ 4000000 := by omega
  have d2 : (stlR v1 C).length ≤ 4000000 := by omega
  have d3 : (stlR v1 G).length ≤ 4000000 := by omega
  clear h1 hk b1
  repeat (first
    | exact ⟨⟨htab⟩, trivial⟩
    | refine ⟨⟨hoc⟩, ?_⟩
    | refine ⟨⟨hc⟩, ?_⟩
    | refine ⟨C, ⟨⟨hc, rfl, hrc, fun _ _ => rfl⟩⟩, ?_⟩
    | refine ⟨C, ⟨⟨rfl, rfl, hrc, fun _ _ => rfl⟩⟩, ?_⟩
    | refine ⟨G, ⟨⟨rfl, rfl, hrG, fun _ _ => rfl⟩⟩, ?_⟩
    | refine ⟨stlR n C, ⟨⟨rfl, rfl, s1.1, fun _ _ => rfl⟩⟩, ?_⟩
    | refine ⟨stlR v1 C, ⟨⟨rfl, rfl, s2.1, fun _ _ => rfl⟩⟩, ?_⟩
    | refine ⟨stlR v1 G, ⟨⟨rfl, rfl, s3.1, fun _ _ => rfl⟩⟩, ?_⟩
    | refine ⟨⟨plain_elemOf _ _ _⟩, ?_⟩
    | refine ⟨⟨⟨c1, c1⟩⟩, ?_⟩
    | refine ⟨⟨⟨c2, c2⟩⟩, ?_⟩
    | refine ⟨⟨⟨d1, d1⟩⟩, ?_⟩
    | refine ⟨⟨⟨d2, d2⟩⟩, ?_⟩
    | refine ⟨⟨⟨d3, d3⟩⟩, ?_⟩
    | refine ⟨⟨c1⟩, ?_⟩
    | refine ⟨⟨c2⟩, ?_⟩
    | refine ⟨fun _ => ?_, fun h => h rfl⟩
    | refine ⟨fun _ => ?_, fun h => h (sam_self _ _ _)⟩
    | refine ⟨fun h => h (sam_self _ _ _), fun _ => ?_⟩
    | (intro w hw; subst hw))

theorem e_law : V_law = needL P [F_SameClaims] [F_TideOf.named, F_From.named, F_ClaimsOf.named, F_OwnClaims.named, F_Settle.named, F_SettleR.named] 9 ([] : Tabs) A_law F_law := by kernel_rfl

theorem n_law : Ob (needL P [F_SameClaims] [F_TideOf.named, F_From.named, F_ClaimsOf.named, F_OwnClaims.named, F_Settle.named, F_SettleR.named] 9 ([] : Tabs) A_law F_law) := by
  rw [← e_law]
  exact ⟨v_law⟩

theorem l_law : (([F_SameClaims] : List Fn0).all fun G => !Nat.beq G.g 9) = true := rfl
theorem le_law : ([F_TideOf.named, F_From.named, F_ClaimsOf.named, F_OwnClaims.named, F_Settle.named, F_SettleR.named].all fun G => !Nat.beq G.g 9) = true := rfl
theorem c_law : ∀ F ∈ ([F_SameClaims] : List Fn0), F.Ok P := by
  intro F h
  simp only [List.mem_cons, List.not_mem_nil, or_false] at h
  rcases h with rfl
  · exact SameClaims_ok

theorem ce_law : ∀ F ∈ [F_TideOf.named, F_From.named, F_ClaimsOf.named, F_OwnClaims.named, F_Settle.named, F_SettleR.named], F.Ok P := by
  intro F h
  simp only [List.mem_cons, List.not_mem_nil, or_false] at h
  rcases h with rfl | rfl | rfl | rfl | rfl | rfl
  · exact TideOf_ok.named
  · exact From_ok.named
  · exact ClaimsOf_ok.named
  · exact OwnClaims_ok.named
  · exact Settle_ok.named
  · exact SettleR_ok.named

end Go.Proofs.Ytjgllojnbinchaa.Sy
