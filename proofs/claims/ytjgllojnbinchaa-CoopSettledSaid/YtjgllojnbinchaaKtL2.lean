/- The law CoopSettled. -/
import Derived.Test.YtjgllojnbinchaaSyP2
import Derived.Test.YtjgllojnbinchaaGrM
import Derived.Test.YtjgllojnbinchaaStM
import Derived.Test.YtjgllojnbinchaaKtT
import Derived.Test.YtjgllojnbinchaaKtA
import Derived.Test.YtjgllojnbinchaaKtB
import Derived.Test.YtjgllojnbinchaaKtS
import Derived.Test.YtjgllojnbinchaaKtV
import Derived.Test.YtjgllojnbinchaaKvA
import Derived.Test.YtjgllojnbinchaaSyP2
import Derived.KernelRfl
import Derived.Test.YtjgllojnbinchaaProg
namespace Go.Proofs.Ytjgllojnbinchaa.Sy
open Go Go.Rv
set_option linter.unusedVariables false

structure Ls where
  n : Int
  k : Nat
  q : Int
  C : Rows
  R : Rows
structure Ls.Ok (v : Ls) : Prop where
  n : 2 ≤ v.n ∧ v.n ≤ 8
  l : v.C.length ≤ 15
  c : ∀ j, j < v.C.length → Clm v.n.toNat v.C j ∧ cell v.C j 2 ≤ 500
  p : Paid v.n.toNat (netTo v.C v.C.length) v.R

theorem pay_ex {n : Nat} {f : Nat → Int} (hs : sumF f n = 0) : ∀ (m : Nat) (R : Rows), nzF (lft f R R.length) n = m → PayTo n f R → ∃ S, Paid n f S := by
  intro m
  induction m using Nat.strongRecOn with
  | _ m ih =>
    intro R hm hR
    have hk := pay_k hR (Nat.le_refl _)
    have hsum : sumF (lft f R R.length) n = 0 := hk.sum.trans hs
    by_cases h : ∃ a, FNeg (lft f R R.length) n a
    · obtain ⟨a, ha⟩ := h
      obtain ⟨b, hb⟩ := sum_pos hsum ha.1 ha.2.1
      have h1 := (pay_stp ha hb rfl).nz
      exact ih _ (by rw [← hm]; exact h1) _ rfl (pay_next hR ha hb)
    · refine ⟨R, hR, sum_none hsum fun i hi => ?_⟩
      by_cases h2 : lft f R R.length i < 0
      · exfalso
        have : ∃ c, FPos (fun j => -(lft f R R.length j)) n c := fpos_of i hi (by show 0 < -(lft f R R.length i); omega)
        obtain ⟨c, c1, c2, c3⟩ := this
        exact h ⟨c, c1, by have : 0 < -(lft f R R.length c) := c2; omega, fun j hj => by have : -(lft f R R.length j) ≤ 0 := c3 j hj; omega⟩
      · omega
theorem pay_is {n : Nat} {f : Nat → Int} (hs : sumF f n = 0) : Paid n f (payR n f) := by
  obtain ⟨S, hS⟩ := pay_ex hs _ [] rfl (pay_nil n f)
  rw [payR_eq hS]
  exact hS
theorem clm_zero {n : Nat} {C : Rows} {k : Nat} (h : Clm n C k) (h2 : cell C k 2 ≤ 1000000000) : clmAt n C k = 0 := by
  unfold clmAt
  have := h.a1
  have := h.b1
  rw [if_pos ⟨h.a0, by omega, h.b0, by omega⟩, if_neg h.ne, if_pos ⟨h.c0, h2⟩]
theorem clmTo_zero {n : Int} {C : Rows} : ∀ {k : Nat}, (∀ j, j < k → clmAt n C j = 0) → clmTo n C k = 0
  | 0, _ => rfl
  | k + 1, h => by
    show (if clmTo n C k = 0 then clmAt n C k else clmTo n C k) = 0
    rw [if_pos (clmTo_zero fun j hj => h j (by omega))]
    exact h k (by omega)
theorem clmErr_zero {n : Int} {C : Rows} (hn : 1 ≤ n ∧ n ≤ 12) (hl : C.length ≤ 40) (h : ∀ j, j < C.length → Clm n.toNat C j ∧ cell C j 2 ≤ 1000000000) : clmErr n C = 0 := by
  unfold clmErr
  rw [if_pos hn, if_neg (by omega)]
  refine clmTo_zero fun j hj => ?_
  have := clm_zero (h j hj).1 (h j hj).2
  rwa [show ((n.toNat : Nat) : Int) = n by omega] at this
theorem sumF_le {f : Nat → Int} {M : Int} : ∀ {n : Nat}, (∀ i, i < n → f i ≤ M) → sumF f n ≤ n * M
  | 0, _ => by simp [sumF]
  | n + 1, h => by
    have h1 := sumF_le (f := f) (M := M) (n := n) fun i hi => h i (by omega)
    have h2 := h n (by omega)
    have e : ((n + 1 : Nat) : Int) * M = n * M + M := by rw [Int.natCast_add, Int.add_mul]; simp
    rw [e]
    simp only [sumF]
    generalize (n : Int) * M = q at *
    omega
theorem Ls.Ok.net {v : Ls} (h : v.Ok) (i : Nat) : -7500 ≤ netTo v.C v.C.length i ∧ netTo v.C v.C.length i ≤ 7500 := by
  have h1 := net_bd (n := v.n.toNat) (C := v.C) (M := 500) (by omega) (k := v.C.length) h.c i
  have h2 := h.l
  have h3 : (v.C.length : Int) * 500 ≤ 15 * 500 := Int.mul_le_mul_of_nonneg_right (by omega) (by omega)
  omega
theorem Ls.Ok.due {v : Ls} (h : v.Ok) {k : Nat} (hk : k ≤ v.n.toNat) : 0 ≤ sumF (fun i => max 0 (netTo v.C v.C.length i)) k ∧ sumF (fun i => max 0 (netTo v.C v.C.length i)) k ≤ 60000 := by
  have h1 : sumF (fun i => max 0 (netTo v.C v.C.length i)) k ≤ k * 7500 := sumF_le fun i _ => by
    have := h.net i
    show max 0 (netTo v.C v.C.length i) ≤ 7500
    omega
  have h0 : 0 ≤ sumF (fun i => max 0 (netTo v.C v.C.length i)) k := sumF_nn fun i _ => by show 0 ≤ max 0 (netTo v.C v.C.length i); omega
  have h2 := h.n
  have h3 : (k : Int) * 7500 ≤ 8 * 7500 := Int.mul_le_mul_of_nonneg_right (by omega) (by omega)
  omega
theorem paid_nn {n : Nat} {f : Nat → Int} {R : Rows} (h : PayTo n f R) : ∀ {k : Nat}, k ≤ R.length → 0 ≤ paidTo R k
  | 0, _ => by simp [paidTo]
  | k + 1, hk => by
    have ih := paid_nn h (k := k) (by omega)
    obtain ⟨a, b, _, _, _, _, _, _, h1, _⟩ := pay_claim h (k := k) (by omega)
    simp only [paidTo]
    omega
theorem Ls.Ok.paid {v : Ls} (h : v.Ok) {k : Nat} (hk : k ≤ v.R.length) : 0 ≤ paidTo v.R k ∧ paidTo v.R k ≤ 60000 := by
  have h1 := (pay_k h.p.to hk).due
  have h2 := h.due (Nat.le_refl _)
  have h3 : 0 ≤ sumF (fun i => max 0 (lft (netTo v.C v.C.length) v.R k i)) v.n.toNat := sumF_nn fun i _ => by show 0 ≤ max 0 (lft (netTo v.C v.C.length) v.R k i); omega
  have h4 := paid_nn h.p.to hk
  omega
theorem Ls.Ok.clm {v : Ls} (h : v.Ok) {k : Nat} (hk : k < v.R.length) : Clm v.n.toNat v.R k ∧ cell v.R k 2 ≤ 1000000000000 ∧ netTo v.C v.C.length (cell v.R k 0).toNat < 0 ∧ 0 < netTo v.C v.C.length (cell v.R k 1).toNat := by
  obtain ⟨a, b, h1, h2, h3, h4, h5, h6, h7, h8, h9⟩ := pay_claim h.p.to hk
  have hb := h.net b
  rw [h1, h2]
  refine ⟨⟨by omega, by omega, by omega, by omega, ?_, h7⟩, by omega, h5, h6⟩
  rw [h1, h2]
  intro e
  have : a = b := by omega
  subst this
  omega
def listOf (f : Nat → Int) (n : Nat) : Rows := (List.range n).map fun i => [f i]
theorem listOf_len (f : Nat → Int) (n : Nat) : (listOf f n).length = n := by simp [listOf]
theorem listOf_row (f : Nat → Int) (n : Nat) : ∀ r ∈ listOf f n, r.length = 1 := by
  intro r hr
  obtain ⟨i, _, rfl⟩ := List.mem_map.1 hr
  rfl
theorem listOf_at (f : Nat → Int) {n i : Nat} (h : i < n) : (El.fn fun i => [SV.i .i64 (f i)]).at i = Rv.elemOf [.i64] (listOf f n) i := by
  show [SV.i .i64 (f i)] = [SV.i .i64 (cell (listOf f n) i 0)]
  unfold cell listOf
  simp [List.getD_eq_getElem?_getD, h]
theorem listOf_congr {f g : Nat → Int} {n : Nat} (h : ∀ i, i < n → f i = g i) : listOf f n = listOf g n := by
  unfold listOf
  apply List.map_congr_left
  intro i hi
  rw [h i (List.mem_range.1 hi)]

noncomputable def F_law : LawF := ⟨8, [.one (.l [.i64])], fun l => match l with | [.l N] => N.length ≤ 9223372036854775807 | _ => False⟩
noncomputable def A_law : List SV → List Dat → Nat → List SV → Ann := fun xs ds n ts => match xs with
  | [.lst xz _ _ _] => match ds with
    | [.l N] => match n with
      | 9 => ⟨Ls, fun v => [none, none, none, none, some (.i .i64 v.n), none, some (.gsl 2 v.R.length 3 true), none, some (.gsl 3 v.n.toNat 1 false), some (.i .i64 (paidTo v.R v.k)), some (.i .i64 v.k), none, none, none, none, none, none, none, none, none, none, none, none, none, none, none, none, none, none, none, none, none, none, none, none, none, none, none, none, none, none, none, none, none, none, none, none, none, none, none, none, none, none, none, none, none, none, none, none, none, none, none, none, none, none, none, none, none, none, none, none, none, none, none, none, none, none, none, none, none, none, none, none, none, none, none, none, none, none, none, none, none, none, none, none, none, none, none, none, none, none, none, none, none, none, none, none, none, none, none, none, none, none, none, none, none, none, none], fun v => [.gr v.n.toNat 1 (.fn fun i => [.i .i64 (netTo v.C v.C.length i)]) .ex false, .gr v.R.length 3 (.fn (Rv.elemOf [.i64, .i64, .i64] v.R)) .gr true, .gr v.C.length 3 (.fn (Rv.elemOf [.i64, .i64, .i64] v.C)) .gr true, .cells [.i .u64 v.q] .ex], fun v => v.Ok ∧ v.k ≤ v.R.length, fun v => v.R.length - v.k, 0⟩
      | 17 => ⟨Ls, fun v => [none, none, none, none, some (.i .i64 v.n), none, some (.gsl 2 v.R.length 3 true), none, some (.gsl 3 v.n.toNat 1 false), some (.i .i64 (paidTo v.R v.R.length)), none, none, some (.i .i64 (sumF (fun i => max 0 (netTo v.C v.C.length i)) v.k)), some (.i .i64 v.k), none, none, none, none, none, none, none, none, none, none, none, none, none, none, none, none, none, none, none, none, none, none, none, none, none, none, none, none, none, none, none, none, none, none, none, none, none, none, none, none, none, none, none, none, none, none, none, none, none, none, none, none, none, none, none, none, none, none, none, none, none, none, none, none, none, none, none, none, none, none, none, none, none, none, none, none, none, none, none, none, none, none, none, none, none, none, none, none, none, none, none, none, none, none, none, none, none, none, none, none, none, none, none, none], fun v => [.gr v.n.toNat 1 (.fn fun i => [.i .i64 (netTo v.C v.C.length i)]) .ex false, .gr v.R.length 3 (.fn (Rv.elemOf [.i64, .i64, .i64] v.R)) .gr true, .gr v.C.length 3 (.fn (Rv.elemOf [.i64, .i64, .i64] v.C)) .gr true, .cells [.i .u64 v.q] .ex], fun v => v.Ok ∧ v.k ≤ v.n.toNat, fun v => v.n.toNat - v.k, 0⟩
      | _ => noAnn
    | _ => noAnn
  | _ => noAnn

def V_law : Prop :=
  ∀ (B : RW), hasTabs [] B → ∀ (x : RV) (rows : List (List Int)), IsLst B x rows.length 1 (Rv.elemOf [.i64] rows) → oneB x = true → (∀ (row : List Int), row ∈ rows → row.length = (1 : Nat)) → rows.length ≤
  (9223372036854775807 : Nat) → ∃ (rows_1 : List (List Int)), Ob (IsLst B x rows.length 1 (Rv.elemOf [.i64] rows) ∧ rows_1.length = rows.length ∧ (∀ (r : List Int), r ∈ rows_1 → r.length = (1 : Nat)) ∧ ∀ (i : Nat), i <
  rows.length → Rv.elemOf [.i64] rows i = Rv.elemOf [.i64] rows_1 i) ∧ Ob (F_TideOf.named.pre [Dat.l rows_1]) ∧ Ob (F_From.named.pre ([Dat.z (tideK rows_1 rows_1.length)] ++ [Dat.z (2 : Int), Dat.z (8 : Int)])) ∧ ∀ (v :
  Int), v = belowA (tideK rows_1 rows_1.length) ((8 : Int) - (2 : Int) + (1 : Int)) → ∀ (v_1 : Int), v_1 = (2 : Int) + belowV (tideK rows_1 rows_1.length) ((8 : Int) - (2 : Int) + (1 : Int)) → Ob (F_ClaimsOf.named.pre
  ([Dat.z v] ++ [Dat.z v_1, Dat.z (15 : Int)])) ∧ ∀ (v_2 : Int), v_2 = itQ (cmQ v_1) (belowA v ((15 : Int) + (1 : Int))) (belowV v ((15 : Int) + (1 : Int))).toNat → ∃ (rows_2 : List (List Int)), Ob ((belowV v ((15 : Int) +
  (1 : Int))).toNat = (belowV v ((15 : Int) + (1 : Int))).toNat ∧ rows_2.length = (belowV v ((15 : Int) + (1 : Int))).toNat ∧ (∀ (r : List Int), r ∈ rows_2 → r.length = (3 : Nat)) ∧ ∀ (i : Nat), i < (belowV v ((15 : Int) +
  (1 : Int))).toNat → (El.fn (Rv.elemOf [.i64, .i64, .i64] (itR (cmQ v_1) (cmRow v_1) (belowA v ((15 : Int) + (1 : Int))) (belowV v ((15 : Int) + (1 : Int))).toNat))).at i = Rv.elemOf [.i64, .i64, .i64] rows_2 i) ∧ Ob
  (F_Settle.named.pre [Dat.z v_1, Dat.l rows_2]) ∧ ∀ (v_3 : Int), v_3 = clmErr v_1 rows_2 → (¬¬v_3 = (0 : Int) → (v_1 ≤ (↑(List.length (stlR v_1 rows_2)) : Int) → False) ∧ (¬v_1 ≤ (↑(List.length (stlR v_1 rows_2)) : Int) →
  ∃ (rows_3 : List (List Int)), Ob ((belowV v ((15 : Int) + (1 : Int))).toNat = (belowV v ((15 : Int) + (1 : Int))).toNat ∧ rows_3.length = (belowV v ((15 : Int) + (1 : Int))).toNat ∧ (∀ (r : List Int), r ∈ rows_3 →
  r.length = (3 : Nat)) ∧ ∀ (i : Nat), i < (belowV v ((15 : Int) + (1 : Int))).toNat → (El.fn (Rv.elemOf [.i64, .i64, .i64] (itR (cmQ v_1) (cmRow v_1) (belowA v ((15 : Int) + (1 : Int))) (belowV v ((15 : Int) + (1 :
  Int))).toNat))).at i = Rv.elemOf [.i64, .i64, .i64] rows_3 i) ∧ Ob (F_NetsR.named.pre [Dat.z v_1, Dat.l rows_3]) ∧ (∃ (a : Ls), Ob (a.Ok ∧ a.k ≤ List.length a.R) ∧ Ob (v_1 = a.n) ∧ Ob (List.length (stlR v_1 rows_2) =
  List.length a.R) ∧ Ob (v_1.toNat = a.n.toNat) ∧ Ob ((0 : Int) = paidTo a.R a.k) ∧ Ob ((0 : Int) = (↑a.k : Int)) ∧ Ob (v_1.toNat = a.n.toNat ∧ ∀ (i : Nat), i < a.n.toNat → (El.fn fun (i : Nat) ↦ [SV.i .i64 (netTo rows_3
  rows_3.length i)]).at i = (El.fn fun (i : Nat) ↦ [SV.i .i64 (netTo a.C (List.length a.C) i)]).at i) ∧ Ob (List.length (stlR v_1 rows_2) = List.length a.R ∧ ∀ (i : Nat), i < List.length a.R → (El.fn (Rv.elemOf [.i64,
  .i64, .i64] (stlR v_1 rows_2))).at i = (El.fn (Rv.elemOf [.i64, .i64, .i64] a.R)).at i) ∧ Ob ((belowV v ((15 : Int) + (1 : Int))).toNat = List.length a.C ∧ ∀ (i : Nat), i < List.length a.C → (El.fn (Rv.elemOf [.i64,
  .i64, .i64] (itR (cmQ v_1) (cmRow v_1) (belowA v ((15 : Int) + (1 : Int))) (belowV v ((15 : Int) + (1 : Int))).toNat))).at i = (El.fn (Rv.elemOf [.i64, .i64, .i64] a.C)).at i) ∧ Ob (v_2 = a.q) ∧ Ob (PlainE a.n.toNat
  (El.fn fun (i : Nat) ↦ [SV.i .i64 (netTo a.C (List.length a.C) i)])) ∧ Ob (PlainE (List.length a.R) (El.fn (Rv.elemOf [.i64, .i64, .i64] a.R))) ∧ Ob (PlainE (List.length a.C) (El.fn (Rv.elemOf [.i64, .i64, .i64] a.C))) ∧
  True) ∧ ∀ (a : Ls), a.Ok ∧ a.k ≤ List.length a.R → ∀ (z z_1 z_2 z_3 z_4 z_5 z_6 z_7 z_8 z_9 z_10 z_11 z_12 z_13 z_14 z_15 z_16 z_17 z_18 z_19 z_20 z_21 z_22 z_23 z_24 z_25 z_26 z_27 z_28 z_29 z_30 z_31 z_32 z_33 z_34
  z_35 z_36 z_37 z_38 z_39 z_40 z_41 z_42 z_43 z_44 z_45 z_46 z_47 z_48 z_49 z_50 z_51 z_52 z_53 z_54 z_55 z_56 z_57 z_58 z_59 z_60 z_61 z_62 z_63 z_64 z_65 z_66 z_67 z_68 z_69 z_70 z_71 z_72 z_73 z_74 z_75 z_76 z_77 z_78
  z_79 z_80 z_81 z_82 z_83 z_84 z_85 z_86 z_87 z_88 z_89 z_90 z_91 z_92 z_93 z_94 z_95 z_96 z_97 z_98 z_99 z_100 z_101 z_102 z_103 z_104 z_105 z_106 z_107 z_108 z_109 z_110 z_111 z_112 : Value), ((↑a.k : Int) <
  (↑(List.length a.R) : Int) → Ob ((0 : Int) ≤ (↑a.k : Int) ∧ a.k < List.length a.R) ∧ Ob (a.k < List.length a.R) ∧ (¬cell a.R a.k 0 < (0 : Int) → (¬a.n ≤ cell a.R a.k 0 → (¬cell a.R a.k 1 < (0 : Int) → (¬a.n ≤ cell a.R
  a.k 1 → (¬cell a.R a.k 2 < (1 : Int) → Ob ((0 : Int) ≤ cell a.R a.k 0 ∧ (cell a.R a.k 0).toNat < a.n.toNat) ∧ Ob ((cell a.R a.k 0).toNat < a.n.toNat) ∧ (¬(0 : Int) ≤ netTo a.C (List.length a.C) (cell a.R a.k 0).toNat →
  Ob ((0 : Int) ≤ cell a.R a.k 1 ∧ (cell a.R a.k 1).toNat < a.n.toNat) ∧ Ob ((cell a.R a.k 1).toNat < a.n.toNat) ∧ (netTo a.C (List.length a.C) (cell a.R a.k 1).toNat ≤ (0 : Int) → False) ∧ (¬netTo a.C (List.length a.C)
  (cell a.R a.k 1).toNat ≤ (0 : Int) → Ob (InR .i64 (paidTo a.R a.k + cell a.R a.k 2)) ∧ Ob (InR .i64 ((↑a.k : Int) + (1 : Int))) ∧ ∃ (a' : Ls), Ob ((a'.Ok ∧ a'.k ≤ List.length a'.R) ∧ List.length a'.R - a'.k < List.length
  a.R - a.k) ∧ Ob (a.n = a'.n) ∧ Ob (List.length a.R = List.length a'.R) ∧ Ob (a.n.toNat = a'.n.toNat) ∧ Ob (paidTo a.R a.k + cell a.R a.k 2 = paidTo a'.R a'.k) ∧ Ob ((↑a.k : Int) + (1 : Int) = (↑a'.k : Int)) ∧ Ob
  (a.n.toNat = a'.n.toNat ∧ ∀ (i : Nat), i < a'.n.toNat → (El.fn fun (i : Nat) ↦ [SV.i .i64 (netTo a.C (List.length a.C) i)]).at i = (El.fn fun (i : Nat) ↦ [SV.i .i64 (netTo a'.C (List.length a'.C) i)]).at i) ∧ Ob
  (List.length a.R = List.length a'.R ∧ ∀ (i : Nat), i < List.length a'.R → (El.fn (Rv.elemOf [.i64, .i64, .i64] a.R)).at i = (El.fn (Rv.elemOf [.i64, .i64, .i64] a'.R)).at i) ∧ Ob (List.length a.C = List.length a'.C ∧ ∀
  (i : Nat), i < List.length a'.C → (El.fn (Rv.elemOf [.i64, .i64, .i64] a.C)).at i = (El.fn (Rv.elemOf [.i64, .i64, .i64] a'.C)).at i) ∧ Ob (a.q = a'.q) ∧ Ob (PlainE a'.n.toNat (El.fn fun (i : Nat) ↦ [SV.i .i64 (netTo
  a'.C (List.length a'.C) i)])) ∧ Ob (PlainE (List.length a'.R) (El.fn (Rv.elemOf [.i64, .i64, .i64] a'.R))) ∧ Ob (PlainE (List.length a'.C) (El.fn (Rv.elemOf [.i64, .i64, .i64] a'.C))) ∧ True)) ∧ ((0 : Int) ≤ netTo a.C
  (List.length a.C) (cell a.R a.k 0).toNat → False)) ∧ (cell a.R a.k 2 < (1 : Int) → False)) ∧ (a.n ≤ cell a.R a.k 1 → False)) ∧ (cell a.R a.k 1 < (0 : Int) → False)) ∧ (a.n ≤ cell a.R a.k 0 → False)) ∧ (cell a.R a.k 0 <
  (0 : Int) → False)) ∧ (¬(↑a.k : Int) < (↑(List.length a.R) : Int) → (∃ (a_1 : Ls), Ob (a_1.Ok ∧ a_1.k ≤ a_1.n.toNat) ∧ Ob (a.n = a_1.n) ∧ Ob (List.length a.R = List.length a_1.R) ∧ Ob (a.n.toNat = a_1.n.toNat) ∧ Ob
  (paidTo a.R a.k = paidTo a_1.R (List.length a_1.R)) ∧ Ob ((0 : Int) = sumF (fun (i : Nat) ↦ max (0 : Int) (netTo a_1.C (List.length a_1.C) i)) a_1.k) ∧ Ob ((0 : Int) = (↑a_1.k : Int)) ∧ Ob (a.n.toNat = a_1.n.toNat ∧ ∀ (i
  : Nat), i < a_1.n.toNat → (El.fn fun (i : Nat) ↦ [SV.i .i64 (netTo a.C (List.length a.C) i)]).at i = (El.fn fun (i : Nat) ↦ [SV.i .i64 (netTo a_1.C (List.length a_1.C) i)]).at i) ∧ Ob (List.length a.R = List.length a_1.R
  ∧ ∀ (i : Nat), i < List.length a_1.R → (El.fn (Rv.elemOf [.i64, .i64, .i64] a.R)).at i = (El.fn (Rv.elemOf [.i64, .i64, .i64] a_1.R)).at i) ∧ Ob (List.length a.C = List.length a_1.C ∧ ∀ (i : Nat), i < List.length a_1.C →
  (El.fn (Rv.elemOf [.i64, .i64, .i64] a.C)).at i = (El.fn (Rv.elemOf [.i64, .i64, .i64] a_1.C)).at i) ∧ Ob (a.q = a_1.q) ∧ Ob (PlainE a_1.n.toNat (El.fn fun (i : Nat) ↦ [SV.i .i64 (netTo a_1.C (List.length a_1.C) i)])) ∧
  Ob (PlainE (List.length a_1.R) (El.fn (Rv.elemOf [.i64, .i64, .i64] a_1.R))) ∧ Ob (PlainE (List.length a_1.C) (El.fn (Rv.elemOf [.i64, .i64, .i64] a_1.C))) ∧ True) ∧ ∀ (a_1 : Ls), a_1.Ok ∧ a_1.k ≤ a_1.n.toNat → ∀ (z_113
  z_114 z_115 z_116 z_117 z_118 z_119 z_120 z_121 z_122 z_123 z_124 z_125 z_126 z_127 z_128 z_129 z_130 z_131 z_132 z_133 z_134 z_135 z_136 z_137 z_138 z_139 z_140 z_141 z_142 z_143 z_144 z_145 z_146 z_147 z_148 z_149
  z_150 z_151 z_152 z_153 z_154 z_155 z_156 z_157 z_158 z_159 z_160 z_161 z_162 z_163 z_164 z_165 z_166 z_167 z_168 z_169 z_170 z_171 z_172 z_173 z_174 z_175 z_176 z_177 z_178 z_179 z_180 z_181 z_182 z_183 z_184 z_185
  z_186 z_187 z_188 z_189 z_190 z_191 z_192 z_193 z_194 z_195 z_196 z_197 z_198 z_199 z_200 z_201 z_202 z_203 z_204 z_205 z_206 z_207 z_208 z_209 z_210 z_211 z_212 z_213 z_214 z_215 z_216 z_217 z_218 z_219 z_220 z_221
  z_222 z_223 z_224 : Value), ((↑a_1.k : Int) < a_1.n → Ob ((0 : Int) ≤ (↑a_1.k : Int) ∧ a_1.k < a_1.n.toNat) ∧ Ob (a_1.k < a_1.n.toNat) ∧ Ob (InR .i64 (sumF (fun (i : Nat) ↦ max (0 : Int) (netTo a_1.C (List.length a_1.C)
  i)) a_1.k + max (0 : Int) (netTo a_1.C (List.length a_1.C) a_1.k))) ∧ Ob (InR .i64 ((↑a_1.k : Int) + (1 : Int))) ∧ ∃ (a' : Ls), Ob ((a'.Ok ∧ a'.k ≤ a'.n.toNat) ∧ a'.n.toNat - a'.k < a_1.n.toNat - a_1.k) ∧ Ob (a_1.n =
  a'.n) ∧ Ob (List.length a_1.R = List.length a'.R) ∧ Ob (a_1.n.toNat = a'.n.toNat) ∧ Ob (paidTo a_1.R (List.length a_1.R) = paidTo a'.R (List.length a'.R)) ∧ Ob (sumF (fun (i : Nat) ↦ max (0 : Int) (netTo a_1.C
  (List.length a_1.C) i)) a_1.k + max (0 : Int) (netTo a_1.C (List.length a_1.C) a_1.k) = sumF (fun (i : Nat) ↦ max (0 : Int) (netTo a'.C (List.length a'.C) i)) a'.k) ∧ Ob ((↑a_1.k : Int) + (1 : Int) = (↑a'.k : Int)) ∧ Ob
  (a_1.n.toNat = a'.n.toNat ∧ ∀ (i : Nat), i < a'.n.toNat → (El.fn fun (i : Nat) ↦ [SV.i .i64 (netTo a_1.C (List.length a_1.C) i)]).at i = (El.fn fun (i : Nat) ↦ [SV.i .i64 (netTo a'.C (List.length a'.C) i)]).at i) ∧ Ob
  (List.length a_1.R = List.length a'.R ∧ ∀ (i : Nat), i < List.length a'.R → (El.fn (Rv.elemOf [.i64, .i64, .i64] a_1.R)).at i = (El.fn (Rv.elemOf [.i64, .i64, .i64] a'.R)).at i) ∧ Ob (List.length a_1.C = List.length a'.C
  ∧ ∀ (i : Nat), i < List.length a'.C → (El.fn (Rv.elemOf [.i64, .i64, .i64] a_1.C)).at i = (El.fn (Rv.elemOf [.i64, .i64, .i64] a'.C)).at i) ∧ Ob (a_1.q = a'.q) ∧ Ob (PlainE a'.n.toNat (El.fn fun (i : Nat) ↦ [SV.i .i64
  (netTo a'.C (List.length a'.C) i)])) ∧ Ob (PlainE (List.length a'.R) (El.fn (Rv.elemOf [.i64, .i64, .i64] a'.R))) ∧ Ob (PlainE (List.length a'.C) (El.fn (Rv.elemOf [.i64, .i64, .i64] a'.C))) ∧ True) ∧ (¬(↑a_1.k : Int) <
  a_1.n → (paidTo a_1.R (List.length a_1.R) = sumF (fun (i : Nat) ↦ max (0 : Int) (netTo a_1.C (List.length a_1.C) i)) a_1.k → ∃ (rows_4 : List (List Int)), Ob (List.length a_1.R = List.length a_1.R ∧ rows_4.length =
  List.length a_1.R ∧ (∀ (r : List Int), r ∈ rows_4 → r.length = (3 : Nat)) ∧ ∀ (i : Nat), i < List.length a_1.R → (El.fn (Rv.elemOf [.i64, .i64, .i64] a_1.R)).at i = Rv.elemOf [.i64, .i64, .i64] rows_4 i) ∧ Ob
  (F_NetsR.named.pre [Dat.z a_1.n, Dat.l rows_4]) ∧ ∃ (rows_5 : List (List Int)), Ob (a_1.n.toNat = a_1.n.toNat ∧ rows_5.length = a_1.n.toNat ∧ (∀ (r : List Int), r ∈ rows_5 → r.length = (1 : Nat)) ∧ ∀ (i : Nat), i <
  a_1.n.toNat → (El.fn fun (i : Nat) ↦ [SV.i .i64 (netTo rows_4 rows_4.length i)]).at i = Rv.elemOf [.i64] rows_5 i) ∧ ∃ (rows_6 : List (List Int)), Ob (a_1.n.toNat = a_1.n.toNat ∧ rows_6.length = a_1.n.toNat ∧ (∀ (r :
  List Int), r ∈ rows_6 → r.length = (1 : Nat)) ∧ ∀ (i : Nat), i < a_1.n.toNat → (El.fn fun (i : Nat) ↦ [SV.i .i64 (netTo a_1.C (List.length a_1.C) i)]).at i = Rv.elemOf [.i64] rows_6 i) ∧ Ob (rows_5.length ≤ (4000000 :
  Nat) ∧ rows_6.length ≤ (4000000 : Nat)) ∧ (samTo 1 rows_5 rows_6 rows_5.length → Ob (hasTabs [] B) ∧ True) ∧ (¬samTo 1 rows_5 rows_6 rows_5.length → False)) ∧ (¬paidTo a_1.R (List.length a_1.R) = sumF (fun (i : Nat) ↦
  max (0 : Int) (netTo a_1.C (List.length a_1.C) i)) a_1.k → False))))) ∧ (¬v_3 = (0 : Int) → False)

set_option linter.unusedSimpArgs false in
set_option maxRecDepth 4000 in
set_option maxHeartbeats 400000 in
theorem v_law : V_law := by
  unfold V_law
  intro B htab xz N hz hoz hrz hN
  refine ⟨N, ⟨⟨hz, rfl, hrz, fun _ _ => rfl⟩⟩, ⟨hN⟩, ?_⟩
  obtain ⟨a, ha⟩ : ∃ a, tideK N N.length = a := ⟨_, rfl⟩
  rw [ha]
  clear ha
  refine ⟨⟨by show (-1000000000000 : Int) ≤ 2 ∧ (2 : Int) ≤ 1000000000000 ∧ (-1000000000000 : Int) ≤ 8 ∧ (8 : Int) ≤ 1000000000000; omega⟩, ?_⟩
  intro v hv v1 hv1
  have b1 : 2 ≤ v1 ∧ v1 ≤ 8 := by
    have h := belowV_in a (8 - 2 + 1)
    obtain ⟨x, hx⟩ : ∃ x, x = belowV a (8 - 2 + 1) := ⟨_, rfl⟩
    rw [← hx] at h hv1
    clear hx
    omega
  clear hv hv1
  refine ⟨⟨by show 2 ≤ v1 ∧ v1 ≤ 1000 ∧ (0 : Int) ≤ 15 ∧ (15 : Int) ≤ 1000; omega⟩, ?_⟩
  intro v2 hv2
  clear hv2
  have hk : (belowV v ((15 : Int) + 1)).toNat ≤ 15 := by
    have h := belowV_in v ((15 : Int) + 1)
    obtain ⟨x, hx⟩ : ∃ x, x = belowV v ((15 : Int) + 1) := ⟨_, rfl⟩
    rw [← hx] at h ⊢
    clear hx
    omega
  obtain ⟨k, ek⟩ : ∃ k, (belowV v ((15 : Int) + 1)).toNat = k := ⟨_, rfl⟩
  rw [ek] at hk ⊢
  clear ek
  obtain ⟨n, rfl⟩ : ∃ n : Nat, v1 = (n : Int) := ⟨v1.toNat, by omega⟩
  obtain ⟨G, hG⟩ : ∃ G, itR (cmQ n) (cmRow n) (belowA v ((15 : Int) + 1)) k = G := ⟨_, rfl⟩
  have lG : G.length = k := by rw [← hG]; exact it_len _ _ _ _
  have hrG : ∀ r ∈ G, r.length = 3 := by rw [← hG]; exact it_mem (p := fun r => r.length = 3) (fun _ => rfl) _
  have hcG : ∀ j, j < G.length → Clm n G j ∧ cell G j 2 ≤ 500 := by
    intro j hj
    rw [← hG]
    exact cm_clm _ (by omega) k (by rw [← lG]; exact hj)
  rw [hG]
  clear hG
  subst lG
  have e0 : clmErr n G = 0 := clmErr_zero (by omega) (by omega) fun j hj => ⟨(hcG j hj).1, by have := (hcG j hj).2; omega⟩
  have hP : Paid n (netTo G G.length) (payR n (netTo G G.length)) := pay_is (net_sum fun j hj => (hcG j hj).1)
  have eS : stlR n G = payR n (netTo G G.length) := by unfold stlR; rw [if_pos e0]; rfl
  have hl := paid_len hP (by omega)
  obtain ⟨R, hR⟩ : ∃ R, stlR n G = R := ⟨_, rfl⟩
  rw [← eS, hR] at hP hl
  have hn1 : ((n : Int)).toNat = n := rfl
  refine ⟨G, ⟨⟨rfl, rfl, hrG, fun _ _ => rfl⟩⟩, ⟨by show G.length ≤ 4000000; omega⟩, ?_⟩
  intro v3 hv3
  rw [e0] at hv3
  subst hv3
  rw [hR]
  clear eS hR e0
  refine ⟨fun _ => ⟨fun h => by omega, fun h1 => ?_⟩, fun h => h rfl⟩
  refine ⟨G, ⟨⟨rfl, rfl, hrG, fun _ _ => rfl⟩⟩, ⟨⟨by omega, by omega, by omega, fun j hj => ⟨(hcG j hj).1, by have := (hcG j hj).2; omega⟩⟩⟩, ?_⟩
  have hok : ∀ k q, (Ls.mk n k q G R).Ok := fun k q => ⟨b1, hk, hcG, hP⟩
  constructor
  · refine ⟨⟨n, 0, v2, G, R⟩, ⟨⟨hok 0 v2, Nat.zero_le _⟩⟩, ?_⟩
    dsimp only
    repeat' (with_reducible apply And.intro)
    all_goals first | exact ⟨rfl⟩ | exact ⟨plain_elemOf _ _ _⟩ | exact ⟨plain_fn1 _ _⟩ | exact ⟨⟨rfl, fun _ _ => rfl⟩⟩ | trivial
  clear hok hcG hP hl hrG h1 hk
  clear R G
  intro v hv
  obtain ⟨hv, hk⟩ := hv
  intros
  constructor
  · intro h1
    have hk' : v.k < v.R.length := by omega
    obtain ⟨c1, c2, c3, c4⟩ := hv.clm hk'
    have c5 := hv.paid (k := v.k + 1) (by omega)
    have c6 := hv.paid (k := v.k) (by omega)
    have c7 := hv.n
    have p0 := c1.a0
    have p1 := c1.a1
    have p2 := c1.b0
    have p3 := c1.b1
    have p4 := c1.c0
    have t0 : (cell v.R v.k 0).toNat < v.n.toNat := by omega
    have t1 : (cell v.R v.k 1).toNat < v.n.toNat := by omega
    have es : paidTo v.R (v.k + 1) = paidTo v.R v.k + cell v.R v.k 2 := rfl
    have hR12 : v.R.length ≤ 8 := by
      have := paid_len hv.p (by omega)
      omega
    refine ⟨⟨⟨by omega, hk'⟩⟩, ⟨hk'⟩, fun _ => ⟨fun _ => ⟨fun _ => ⟨fun _ => ⟨fun _ => ⟨⟨⟨p0, t0⟩⟩, ⟨t0⟩, fun _ => ⟨⟨⟨p2, t1⟩⟩, ⟨t1⟩, fun h => absurd h (Int.not_le.2 c4), fun _ => ?_⟩, fun h => absurd h (Int.not_le.2 c3)⟩, fun h => by omega⟩, fun h => by omega⟩, fun h => by omega⟩, fun h => by omega⟩, fun h => by omega⟩
    refine ⟨⟨by simp only [InR]; omega⟩, ⟨by simp only [InR]; omega⟩, ⟨v.n, v.k + 1, v.q, v.C, v.R⟩, ⟨⟨⟨⟨hv.n, hv.l, hv.c, hv.p⟩, hk'⟩, by show v.R.length - (v.k + 1) < v.R.length - v.k; omega⟩⟩, ?_⟩
    dsimp only
    repeat' (with_reducible apply And.intro)
    all_goals first | exact ⟨rfl⟩ | exact ⟨plain_elemOf _ _ _⟩ | exact ⟨plain_fn1 _ _⟩ | exact ⟨⟨rfl, fun _ _ => rfl⟩⟩ | trivial
  intro h1
  have ek : v.k = v.R.length := by omega
  constructor
  · refine ⟨⟨v.n, 0, v.q, v.C, v.R⟩, ⟨⟨⟨hv.n, hv.l, hv.c, hv.p⟩, Nat.zero_le _⟩⟩, ?_⟩
    dsimp only
    rw [ek]
    repeat' (with_reducible apply And.intro)
    all_goals first | exact ⟨rfl⟩ | exact ⟨plain_elemOf _ _ _⟩ | exact ⟨plain_fn1 _ _⟩ | exact ⟨⟨rfl, fun _ _ => rfl⟩⟩ | trivial
  clear hv hk h1 ek
  clear v
  intro v hv
  obtain ⟨hv, hk⟩ := hv
  intros
  have c7 := hv.n
  constructor
  · intro h1
    have hk' : v.k < v.n.toNat := by omega
    have c5 := hv.due (k := v.k + 1) (by omega)
    have es : sumF (fun i => max 0 (netTo v.C v.C.length i)) (v.k + 1) = sumF (fun i => max 0 (netTo v.C v.C.length i)) v.k + max 0 (netTo v.C v.C.length v.k) := rfl
    rw [es] at c5
    refine ⟨⟨⟨by omega, hk'⟩⟩, ⟨hk'⟩, ⟨by simp only [InR]; omega⟩, ⟨by simp only [InR]; omega⟩, ⟨v.n, v.k + 1, v.q, v.C, v.R⟩, ⟨⟨⟨⟨hv.n, hv.l, hv.c, hv.p⟩, hk'⟩, by show v.n.toNat - (v.k + 1) < v.n.toNat - v.k; omega⟩⟩, ?_⟩
    dsimp only
    repeat' (with_reducible apply And.intro)
    all_goals first | exact ⟨rfl⟩ | exact ⟨plain_elemOf _ _ _⟩ | exact ⟨plain_fn1 _ _⟩ | exact ⟨⟨rfl, fun _ _ => rfl⟩⟩ | trivial
  intro h1
  have ek : v.k = v.n.toNat := by omega
  have hd := paid_due hv.p
  rw [ek]
  have hR12 : v.R.length ≤ 8 := by
    have := paid_len hv.p (by omega)
    omega
  refine ⟨fun _ => ?_, fun h => h hd⟩
  have eL : listOf (netTo v.R v.R.length) v.n.toNat = listOf (netTo v.C v.C.length) v.n.toNat := listOf_congr fun i hi => paid_net hv.p hi
  refine ⟨v.R, ⟨⟨rfl, rfl, hv.p.to.row, fun _ _ => rfl⟩⟩, ⟨⟨by omega, by omega, by omega, fun j hj => ⟨(hv.clm hj).1, (hv.clm hj).2.1⟩⟩⟩, ?_⟩
  refine ⟨listOf (netTo v.R v.R.length) v.n.toNat, ⟨⟨rfl, listOf_len _ _, listOf_row _ _, fun i hi => listOf_at _ hi⟩⟩, ?_⟩
  refine ⟨listOf (netTo v.C v.C.length) v.n.toNat, ⟨⟨rfl, listOf_len _ _, listOf_row _ _, fun i hi => listOf_at _ hi⟩⟩, ?_⟩
  rw [eL]
  have hll : (listOf (netTo v.C v.C.length) v.n.toNat).length ≤ 4000000 := by rw [listOf_len]; omega
  exact ⟨⟨⟨hll, hll⟩⟩, fun _ => ⟨⟨htab⟩, trivial⟩, fun h => h (sam_self _ _ _)⟩

theorem e_law : V_law = needL P [F_SameInts] [F_TideOf.named, F_From.named, F_ClaimsOf.named, F_Settle.named, F_NetsR.named] 9 ([] : Tabs) A_law F_law := by kernel_rfl

theorem n_law : Ob (needL P [F_SameInts] [F_TideOf.named, F_From.named, F_ClaimsOf.named, F_Settle.named, F_NetsR.named] 9 ([] : Tabs) A_law F_law) := by
  rw [← e_law]
  exact ⟨v_law⟩

theorem l_law : (([F_SameInts] : List Fn0).all fun G => !Nat.beq G.g 9) = true := rfl
theorem le_law : ([F_TideOf.named, F_From.named, F_ClaimsOf.named, F_Settle.named, F_NetsR.named].all fun G => !Nat.beq G.g 9) = true := rfl
theorem c_law : ∀ F ∈ ([F_SameInts] : List Fn0), F.Ok P := by
  intro F h
  simp only [List.mem_cons, List.not_mem_nil, or_false] at h
  rcases h with rfl
  · exact SameInts_ok

theorem ce_law : ∀ F ∈ [F_TideOf.named, F_From.named, F_ClaimsOf.named, F_Settle.named, F_NetsR.named], F.Ok P := by
  intro F h
  simp only [List.mem_cons, List.not_mem_nil, or_false] at h
  rcases h with rfl | rfl | rfl | rfl | rfl
  · exact TideOf_ok.named
  · exact From_ok.named
  · exact ClaimsOf_ok.named
  · exact Settle_ok.named
  · exact NetsR_ok.named

end Go.Proofs.Ytjgllojnbinchaa.Sy
