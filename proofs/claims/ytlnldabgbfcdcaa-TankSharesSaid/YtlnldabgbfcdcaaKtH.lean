/- Water in an hour. -/
import Derived.Test.YtlnldabgbfcdcaaSyP2
import Derived.Test.YtlnldabgbfcdcaaGrM
import Derived.Test.YtlnldabgbfcdcaaKtG
import Derived.Test.YtlnldabgbfcdcaaSyP2
import Derived.KernelRfl
import Derived.Test.YtlnldabgbfcdcaaProg
namespace Go.Proofs.Ytlnldabgbfcdcaa.Sy
open Go Go.Rv
set_option linter.unusedVariables false

def wTot (L F Gr N S G U : Int) : Int := 1000 * ((L - F) * N + F * S + L * G) + U * Gr
def wLo (L F Gr N S G U lo hi : Int) : Int := min (max (wTot L F Gr N S G U / (1000 * L)) lo) hi
def wHi (L F Gr N S G U lo hi : Int) : Int := min (max (0 - (0 - wTot L F Gr N S G U) / (1000 * L)) lo) hi
structure NxtOk (L F Gr : Int) (xs : List Int) : Prop where
  l : 1 ≤ L ∧ L ≤ 100000
  f : -100000 ≤ F ∧ F ≤ 100000
  g : 0 ≤ Gr ∧ Gr ≤ 10000000
  x : ∀ x ∈ xs, -100000 ≤ x ∧ x ≤ 100000
theorem NxtOk.m {L F Gr : Int} {xs : List Int} (h : NxtOk L F Gr xs) {N : Int} (hN : N ∈ xs) : -10000000000 ≤ L * N ∧ L * N ≤ 10000000000 ∧ -10000000000 ≤ F * N ∧ F * N ≤ 10000000000 ∧ -20000000000 ≤ (L - F) * N ∧ (L - F) * N ≤ 20000000000 ∧ -1000000000000 ≤ N * Gr ∧ N * Gr ≤ 1000000000000 := by
  have x := h.x N hN
  have hl := h.l
  have hf := h.f
  have hg := h.g
  have mb : ∀ {a b A C : Int}, -A ≤ a → a ≤ A → -C ≤ b → b ≤ C → 0 ≤ A → 0 ≤ C → -(A * C) ≤ a * b ∧ a * b ≤ A * C := by
    intro a b A C h1 h2 h3 h4 h5 h6
    have n : (a * b).natAbs ≤ A.natAbs * C.natAbs := by
      rw [Int.natAbs_mul]
      exact Nat.mul_le_mul (by omega) (by omega)
    have e : ((A.natAbs * C.natAbs : Nat) : Int) = A * C := by
      rw [Int.natCast_mul, Int.natAbs_of_nonneg h5, Int.natAbs_of_nonneg h6]
    omega
  have a1 := mb (a := L) (b := N) (A := 100000) (C := 100000) (by omega) (by omega) (by omega) (by omega) (by omega) (by omega)
  have a2 := mb (a := F) (b := N) (A := 100000) (C := 100000) (by omega) (by omega) (by omega) (by omega) (by omega) (by omega)
  have a3 := mb (a := L - F) (b := N) (A := 200000) (C := 100000) (by omega) (by omega) (by omega) (by omega) (by omega) (by omega)
  have a4 := mb (a := N) (b := Gr) (A := 100000) (C := 10000000) (by omega) (by omega) (by omega) (by omega) (by omega) (by omega)
  omega
section
variable {L F Gr : Int} {xs : List Int} {N S G U : Int}
theorem NxtOk.i1 (h : NxtOk L F Gr xs) : InR .i64 (L - F) := by have := h.l; have := h.f; simp only [InR]; omega
theorem NxtOk.i2 (h : NxtOk L F Gr xs) (hN : N ∈ xs) : InR .i64 ((L - F) * N) := by have := h.m hN; simp only [InR]; omega
theorem NxtOk.i3 (h : NxtOk L F Gr xs) (hS : S ∈ xs) : InR .i64 (F * S) := by have := h.m hS; simp only [InR]; omega
theorem NxtOk.i4 (h : NxtOk L F Gr xs) (hN : N ∈ xs) (hS : S ∈ xs) : InR .i64 ((L - F) * N + F * S) := by have := h.m hN; have := h.m hS; simp only [InR]; omega
theorem NxtOk.i5 (h : NxtOk L F Gr xs) (hG : G ∈ xs) : InR .i64 (L * G) := by have := h.m hG; simp only [InR]; omega
theorem NxtOk.i6 (h : NxtOk L F Gr xs) (hN : N ∈ xs) (hS : S ∈ xs) (hG : G ∈ xs) : InR .i64 ((L - F) * N + F * S + L * G) := by have := h.m hN; have := h.m hS; have := h.m hG; simp only [InR]; omega
theorem NxtOk.i7 (h : NxtOk L F Gr xs) (hN : N ∈ xs) (hS : S ∈ xs) (hG : G ∈ xs) : InR .i64 (1000 * ((L - F) * N + F * S + L * G)) := by have := h.m hN; have := h.m hS; have := h.m hG; simp only [InR]; omega
theorem NxtOk.i8 (h : NxtOk L F Gr xs) (hU : U ∈ xs) : InR .i64 (U * Gr) := by have := h.m hU; simp only [InR]; omega
theorem NxtOk.t (h : NxtOk L F Gr xs) (hN : N ∈ xs) (hS : S ∈ xs) (hG : G ∈ xs) (hU : U ∈ xs) : -50000000000000 ≤ wTot L F Gr N S G U ∧ wTot L F Gr N S G U ≤ 50000000000000 := by have := h.m hN; have := h.m hS; have := h.m hG; have := h.m hU; unfold wTot; omega
theorem NxtOk.i9 (h : NxtOk L F Gr xs) (hN : N ∈ xs) (hS : S ∈ xs) (hG : G ∈ xs) (hU : U ∈ xs) : InR .i64 (1000 * ((L - F) * N + F * S + L * G) + U * Gr) := by have := h.t hN hS hG hU; unfold wTot at this; simp only [InR]; omega
end
def pick2 (s a b : Int) : Int := if s = 0 then a else b
def pick6 (q s a b c d e f : Int) : Int := if q = 0 then pick2 s a b else if q = 1 then pick2 s c d else pick2 s e f

noncomputable def F_total : Fn0 := ⟨61, [.one (.e .i64 2), .ptr [.l [.i64, .i64, .i64, .i64, .i64, .i64, .i64, .i64], .l [.i64, .i64], .i .i64, .i .i64, .i .i64, .i .i64, .i .i64, .i .i64, .i .i64, .i .i64, .i .i64, .i .i64, .i .i64, .i .i64, .i .i64, .i .i64, .i .i64, .i .i64, .i .i64, .i .i64, .i .i64, .i .i64, .i .i64, .i .i64, .i .i64, .i .i64, .i .i64, .i .i64, .i .i64], .ptr [.i .i64], .ptr [.i .i64, .i .i64, .i .i64, .i .i64, .i .i64, .i .i64], .ptr [.e .i64 3], .ptr [.i .i64, .i .i64], .ptr [.i .i64, .i .i64], .ptr [.i .i64, .i .i64]], fun l => match l with | .z sd :: .l T :: .l R :: .z s1 :: .z s2 :: .z s3 :: .z s4 :: .z s5 :: .z s6 :: .z u1 :: .z u2 :: .z v1 :: .z v2 :: .z a1 :: .z a2 :: .z g1 :: .z g2 :: .z le :: .z mo :: .z w1 :: .z w2 :: .z lt :: .z gr :: .z t1 :: .z t2 :: .z t3 :: .z t4 :: .z t5 :: .z t6 :: .z nu :: .z fl :: .z n1 :: .z n2 :: .z n3 :: .z n4 :: .z n5 :: .z n6 :: .z q :: .z se1 :: .z se2 :: .z gi1 :: .z gi2 :: .z lo1 :: .z lo2 :: [] => NxtOk lt fl gr [n1, n2, n3, n4, n5, n6, se1, se2, gi1, gi2, lo1, lo2] | _ => False, fun l => match l with | .z sd :: .l T :: .l R :: .z s1 :: .z s2 :: .z s3 :: .z s4 :: .z s5 :: .z s6 :: .z u1 :: .z u2 :: .z v1 :: .z v2 :: .z a1 :: .z a2 :: .z g1 :: .z g2 :: .z le :: .z mo :: .z w1 :: .z w2 :: .z lt :: .z gr :: .z t1 :: .z t2 :: .z t3 :: .z t4 :: .z t5 :: .z t6 :: .z nu :: .z fl :: .z n1 :: .z n2 :: .z n3 :: .z n4 :: .z n5 :: .z n6 :: .z q :: .z se1 :: .z se2 :: .z gi1 :: .z gi2 :: .z lo1 :: .z lo2 :: [] => .i .i64 (wTot lt fl gr (pick6 q sd n1 n2 n3 n4 n5 n6) (pick2 sd se1 se2) (pick2 sd gi1 gi2) (pick2 sd lo1 lo2)) | _ => .v undef⟩
noncomputable def A_total : List SV → List Dat → Nat → List SV → Ann := fun _ _ _ _ => noAnn

set_option maxRecDepth 10000 in
def V_total : Prop :=
  ∀ (B : RW), (True ∧ ∀ (x x_1 : RV) (rows : List (List Int)), IsLst B x_1 rows.length ((8 : Nat)) (Rv.elemOf [IntKind.i64, IntKind.i64, IntKind.i64, IntKind.i64, IntKind.i64, IntKind.i64, IntKind.i64, IntKind.i64] rows) →
  oneB x_1 = true → (∀ (row : List Int), row ∈ rows → row.length = (8 : Nat)) → ∀ (x_2 : RV) (rows_1 : List (List Int)), IsLst B x_2 rows_1.length ((2 : Nat)) (Rv.elemOf [IntKind.i64, IntKind.i64] rows_1) → oneB x_2 = true
  → (∀ (row : List Int), row ∈ rows_1 → row.length = (2 : Nat)) → ∀ (n n_1 n_2 n_3 n_4 n_5 n_6 n_7 n_8 n_9 n_10 n_11 n_12 n_13 n_14 n_15 n_16 n_17 n_18 n_19 n_20 n_21 n_22 n_23 n_24 n_25 n_26 : Int), (IsLst B x ((1 : Nat))
  ((29 : Nat)) fun (x : Nat) ↦ [SV.lst x_1 rows.length ((8 : Nat)) (Rv.elemOf [IntKind.i64, IntKind.i64, IntKind.i64, IntKind.i64, IntKind.i64, IntKind.i64, IntKind.i64, IntKind.i64] rows), SV.lst x_2 rows_1.length ((2 :
  Nat)) (Rv.elemOf [IntKind.i64, IntKind.i64] rows_1), SV.i IntKind.i64 n, SV.i IntKind.i64 n_1, SV.i IntKind.i64 n_2, SV.i IntKind.i64 n_3, SV.i IntKind.i64 n_4, SV.i IntKind.i64 n_5, SV.i IntKind.i64 n_6, SV.i
  IntKind.i64 n_7, SV.i IntKind.i64 n_8, SV.i IntKind.i64 n_9, SV.i IntKind.i64 n_10, SV.i IntKind.i64 n_11, SV.i IntKind.i64 n_12, SV.i IntKind.i64 n_13, SV.i IntKind.i64 n_14, SV.i IntKind.i64 n_15, SV.i IntKind.i64
  n_16, SV.i IntKind.i64 n_17, SV.i IntKind.i64 n_18, SV.i IntKind.i64 n_19, SV.i IntKind.i64 n_20, SV.i IntKind.i64 n_21, SV.i IntKind.i64 n_22, SV.i IntKind.i64 n_23, SV.i IntKind.i64 n_24, SV.i IntKind.i64 n_25, SV.i
  IntKind.i64 n_26]) → ∀ (x_3 : RV) (n_27 : Int), (IsLst B x_3 ((1 : Nat)) ((1 : Nat)) fun (x : Nat) ↦ [SV.i IntKind.i64 n_27]) → ∀ (x_4 : RV) (n_28 n_29 n_30 n_31 n_32 n_33 : Int), (IsLst B x_4 ((1 : Nat)) ((6 : Nat)) fun
  (x : Nat) ↦ [SV.i IntKind.i64 n_28, SV.i IntKind.i64 n_29, SV.i IntKind.i64 n_30, SV.i IntKind.i64 n_31, SV.i IntKind.i64 n_32, SV.i IntKind.i64 n_33]) → ∀ (x_5 : RV), ((True ∧ ((IsLst B x_5 ((1 : Nat)) ((1 : Nat)) fun
  (x : Nat) ↦ [SV.v (Value.int IntKind.i64 (Int.ofNat ((0 : Nat))))]) → ∀ (x_6 : RV) (n_34 n_35 : Int), (IsLst B x_6 ((1 : Nat)) ((2 : Nat)) fun (x : Nat) ↦ [SV.i IntKind.i64 n_34, SV.i IntKind.i64 n_35]) → ∀ (x_7 : RV)
  (n_36 n_37 : Int), (IsLst B x_7 ((1 : Nat)) ((2 : Nat)) fun (x : Nat) ↦ [SV.i IntKind.i64 n_36, SV.i IntKind.i64 n_37]) → ∀ (x_8 : RV) (n_38 n_39 : Int), (IsLst B x_8 ((1 : Nat)) ((2 : Nat)) fun (x : Nat) ↦ [SV.i
  IntKind.i64 n_38, SV.i IntKind.i64 n_39]) → NxtOk n_18 n_27 n_19 [n_28, n_29, n_30, n_31, n_32, n_33, n_34, n_35, n_36, n_37, n_38, n_39] → Ob ((IsLst B x ((1 : Nat)) ((29 : Nat)) fun (x : Nat) ↦ [SV.lst x_1 rows.length
  ((8 : Nat)) (Rv.elemOf [IntKind.i64, IntKind.i64, IntKind.i64, IntKind.i64, IntKind.i64, IntKind.i64, IntKind.i64, IntKind.i64] rows), SV.lst x_2 rows_1.length ((2 : Nat)) (Rv.elemOf [IntKind.i64, IntKind.i64] rows_1),
  SV.i IntKind.i64 n, SV.i IntKind.i64 n_1, SV.i IntKind.i64 n_2, SV.i IntKind.i64 n_3, SV.i IntKind.i64 n_4, SV.i IntKind.i64 n_5, SV.i IntKind.i64 n_6, SV.i IntKind.i64 n_7, SV.i IntKind.i64 n_8, SV.i IntKind.i64 n_9,
  SV.i IntKind.i64 n_10, SV.i IntKind.i64 n_11, SV.i IntKind.i64 n_12, SV.i IntKind.i64 n_13, SV.i IntKind.i64 n_14, SV.i IntKind.i64 n_15, SV.i IntKind.i64 n_16, SV.i IntKind.i64 n_17, SV.i IntKind.i64 n_18, SV.i
  IntKind.i64 n_19, SV.i IntKind.i64 n_20, SV.i IntKind.i64 n_21, SV.i IntKind.i64 n_22, SV.i IntKind.i64 n_23, SV.i IntKind.i64 n_24, SV.i IntKind.i64 n_25, SV.i IntKind.i64 n_26]) ∧ (0 : Nat) < (1 : Nat)) ∧ Ob ((IsLst B
  x ((1 : Nat)) ((29 : Nat)) fun (x : Nat) ↦ [SV.lst x_1 rows.length ((8 : Nat)) (Rv.elemOf [IntKind.i64, IntKind.i64, IntKind.i64, IntKind.i64, IntKind.i64, IntKind.i64, IntKind.i64, IntKind.i64] rows), SV.lst x_2
  rows_1.length ((2 : Nat)) (Rv.elemOf [IntKind.i64, IntKind.i64] rows_1), SV.i IntKind.i64 n, SV.i IntKind.i64 n_1, SV.i IntKind.i64 n_2, SV.i IntKind.i64 n_3, SV.i IntKind.i64 n_4, SV.i IntKind.i64 n_5, SV.i IntKind.i64
  n_6, SV.i IntKind.i64 n_7, SV.i IntKind.i64 n_8, SV.i IntKind.i64 n_9, SV.i IntKind.i64 n_10, SV.i IntKind.i64 n_11, SV.i IntKind.i64 n_12, SV.i IntKind.i64 n_13, SV.i IntKind.i64 n_14, SV.i IntKind.i64 n_15, SV.i
  IntKind.i64 n_16, SV.i IntKind.i64 n_17, SV.i IntKind.i64 n_18, SV.i IntKind.i64 n_19, SV.i IntKind.i64 n_20, SV.i IntKind.i64 n_21, SV.i IntKind.i64 n_22, SV.i IntKind.i64 n_23, SV.i IntKind.i64 n_24, SV.i IntKind.i64
  n_25, SV.i IntKind.i64 n_26]) ∧ (0 : Nat) < (1 : Nat)) ∧ Ob ((IsLst B x ((1 : Nat)) ((29 : Nat)) fun (x : Nat) ↦ [SV.lst x_1 rows.length ((8 : Nat)) (Rv.elemOf [IntKind.i64, IntKind.i64, IntKind.i64, IntKind.i64,
  IntKind.i64, IntKind.i64, IntKind.i64, IntKind.i64] rows), SV.lst x_2 rows_1.length ((2 : Nat)) (Rv.elemOf [IntKind.i64, IntKind.i64] rows_1), SV.i IntKind.i64 n, SV.i IntKind.i64 n_1, SV.i IntKind.i64 n_2, SV.i
  IntKind.i64 n_3, SV.i IntKind.i64 n_4, SV.i IntKind.i64 n_5, SV.i IntKind.i64 n_6, SV.i IntKind.i64 n_7, SV.i IntKind.i64 n_8, SV.i IntKind.i64 n_9, SV.i IntKind.i64 n_10, SV.i IntKind.i64 n_11, SV.i IntKind.i64 n_12,
  SV.i IntKind.i64 n_13, SV.i IntKind.i64 n_14, SV.i IntKind.i64 n_15, SV.i IntKind.i64 n_16, SV.i IntKind.i64 n_17, SV.i IntKind.i64 n_18, SV.i IntKind.i64 n_19, SV.i IntKind.i64 n_20, SV.i IntKind.i64 n_21, SV.i
  IntKind.i64 n_22, SV.i IntKind.i64 n_23, SV.i IntKind.i64 n_24, SV.i IntKind.i64 n_25, SV.i IntKind.i64 n_26]) ∧ (0 : Nat) < (1 : Nat)) ∧ Ob ((IsLst B x_3 ((1 : Nat)) ((1 : Nat)) fun (x : Nat) ↦ [SV.i IntKind.i64 n_27])
  ∧ (0 : Nat) < (1 : Nat)) ∧ Ob (InR IntKind.i64 (n_18 - n_27)) ∧ Ob ((IsLst B x_5 ((1 : Nat)) ((1 : Nat)) fun (x : Nat) ↦ [SV.v (Value.int IntKind.i64 (Int.ofNat ((0 : Nat))))]) ∧ (0 : Nat) < (1 : Nat)) ∧ Ob ((IsLst B x_4
  ((1 : Nat)) ((6 : Nat)) fun (x : Nat) ↦ [SV.i IntKind.i64 n_28, SV.i IntKind.i64 n_29, SV.i IntKind.i64 n_30, SV.i IntKind.i64 n_31, SV.i IntKind.i64 n_32, SV.i IntKind.i64 n_33]) ∧ (0 : Nat) < (1 : Nat)) ∧ Ob ((IsLst B
  x_4 ((1 : Nat)) ((6 : Nat)) fun (x : Nat) ↦ [SV.i IntKind.i64 n_28, SV.i IntKind.i64 n_29, SV.i IntKind.i64 n_30, SV.i IntKind.i64 n_31, SV.i IntKind.i64 n_32, SV.i IntKind.i64 n_33]) ∧ (0 : Nat) < (1 : Nat)) ∧ Ob
  ((IsLst B x_4 ((1 : Nat)) ((6 : Nat)) fun (x : Nat) ↦ [SV.i IntKind.i64 n_28, SV.i IntKind.i64 n_29, SV.i IntKind.i64 n_30, SV.i IntKind.i64 n_31, SV.i IntKind.i64 n_32, SV.i IntKind.i64 n_33]) ∧ (0 : Nat) < (1 : Nat)) ∧
  Ob (InR IntKind.i64 ((n_18 - n_27) * n_28)) ∧ Ob ((IsLst B x_3 ((1 : Nat)) ((1 : Nat)) fun (x : Nat) ↦ [SV.i IntKind.i64 n_27]) ∧ (0 : Nat) < (1 : Nat)) ∧ Ob ((IsLst B x_6 ((1 : Nat)) ((2 : Nat)) fun (x : Nat) ↦ [SV.i
  IntKind.i64 n_34, SV.i IntKind.i64 n_35]) ∧ (0 : Nat) < (1 : Nat)) ∧ Ob ((IsLst B x_6 ((1 : Nat)) ((2 : Nat)) fun (x : Nat) ↦ [SV.i IntKind.i64 n_34, SV.i IntKind.i64 n_35]) ∧ (0 : Nat) < (1 : Nat)) ∧ Ob (InR IntKind.i64
  (n_27 * n_34)) ∧ Ob (InR IntKind.i64 ((n_18 - n_27) * n_28 + n_27 * n_34)) ∧ Ob ((IsLst B x ((1 : Nat)) ((29 : Nat)) fun (x : Nat) ↦ [SV.lst x_1 rows.length ((8 : Nat)) (Rv.elemOf [IntKind.i64, IntKind.i64, IntKind.i64,
  IntKind.i64, IntKind.i64, IntKind.i64, IntKind.i64, IntKind.i64] rows), SV.lst x_2 rows_1.length ((2 : Nat)) (Rv.elemOf [IntKind.i64, IntKind.i64] rows_1), SV.i IntKind.i64 n, SV.i IntKind.i64 n_1, SV.i IntKind.i64 n_2,
  SV.i IntKind.i64 n_3, SV.i IntKind.i64 n_4, SV.i IntKind.i64 n_5, SV.i IntKind.i64 n_6, SV.i IntKind.i64 n_7, SV.i IntKind.i64 n_8, SV.i IntKind.i64 n_9, SV.i IntKind.i64 n_10, SV.i IntKind.i64 n_11, SV.i IntKind.i64
  n_12, SV.i IntKind.i64 n_13, SV.i IntKind.i64 n_14, SV.i IntKind.i64 n_15, SV.i IntKind.i64 n_16, SV.i IntKind.i64 n_17, SV.i IntKind.i64 n_18, SV.i IntKind.i64 n_19, SV.i IntKind.i64 n_20, SV.i IntKind.i64 n_21, SV.i
  IntKind.i64 n_22, SV.i IntKind.i64 n_23, SV.i IntKind.i64 n_24, SV.i IntKind.i64 n_25, SV.i IntKind.i64 n_26]) ∧ (0 : Nat) < (1 : Nat)) ∧ Ob ((IsLst B x ((1 : Nat)) ((29 : Nat)) fun (x : Nat) ↦ [SV.lst x_1 rows.length
  ((8 : Nat)) (Rv.elemOf [IntKind.i64, IntKind.i64, IntKind.i64, IntKind.i64, IntKind.i64, IntKind.i64, IntKind.i64, IntKind.i64] rows), SV.lst x_2 rows_1.length ((2 : Nat)) (Rv.elemOf [IntKind.i64, IntKind.i64] rows_1),
  SV.i IntKind.i64 n, SV.i IntKind.i64 n_1, SV.i IntKind.i64 n_2, SV.i IntKind.i64 n_3, SV.i IntKind.i64 n_4, SV.i IntKind.i64 n_5, SV.i IntKind.i64 n_6, SV.i IntKind.i64 n_7, SV.i IntKind.i64 n_8, SV.i IntKind.i64 n_9,
  SV.i IntKind.i64 n_10, SV.i IntKind.i64 n_11, SV.i IntKind.i64 n_12, SV.i IntKind.i64 n_13, SV.i IntKind.i64 n_14, SV.i IntKind.i64 n_15, SV.i IntKind.i64 n_16, SV.i IntKind.i64 n_17, SV.i IntKind.i64 n_18, SV.i
  IntKind.i64 n_19, SV.i IntKind.i64 n_20, SV.i IntKind.i64 n_21, SV.i IntKind.i64 n_22, SV.i IntKind.i64 n_23, SV.i IntKind.i64 n_24, SV.i IntKind.i64 n_25, SV.i IntKind.i64 n_26]) ∧ (0 : Nat) < (1 : Nat)) ∧ Ob ((IsLst B
  x ((1 : Nat)) ((29 : Nat)) fun (x : Nat) ↦ [SV.lst x_1 rows.length ((8 : Nat)) (Rv.elemOf [IntKind.i64, IntKind.i64, IntKind.i64, IntKind.i64, IntKind.i64, IntKind.i64, IntKind.i64, IntKind.i64] rows), SV.lst x_2
  rows_1.length ((2 : Nat)) (Rv.elemOf [IntKind.i64, IntKind.i64] rows_1), SV.i IntKind.i64 n, SV.i IntKind.i64 n_1, SV.i IntKind.i64 n_2, SV.i IntKind.i64 n_3, SV.i IntKind.i64 n_4, SV.i IntKind.i64 n_5, SV.i IntKind.i64
  n_6, SV.i IntKind.i64 n_7, SV.i IntKind.i64 n_8, SV.i IntKind.i64 n_9, SV.i IntKind.i64 n_10, SV.i IntKind.i64 n_11, SV.i IntKind.i64 n_12, SV.i IntKind.i64 n_13, SV.i IntKind.i64 n_14, SV.i IntKind.i64 n_15, SV.i
  IntKind.i64 n_16, SV.i IntKind.i64 n_17, SV.i IntKind.i64 n_18, SV.i IntKind.i64 n_19, SV.i IntKind.i64 n_20, SV.i IntKind.i64 n_21, SV.i IntKind.i64 n_22, SV.i IntKind.i64 n_23, SV.i IntKind.i64 n_24, SV.i IntKind.i64
  n_25, SV.i IntKind.i64 n_26]) ∧ (0 : Nat) < (1 : Nat)) ∧ Ob ((IsLst B x_7 ((1 : Nat)) ((2 : Nat)) fun (x : Nat) ↦ [SV.i IntKind.i64 n_36, SV.i IntKind.i64 n_37]) ∧ (0 : Nat) < (1 : Nat)) ∧ Ob ((IsLst B x_7 ((1 : Nat))
  ((2 : Nat)) fun (x : Nat) ↦ [SV.i IntKind.i64 n_36, SV.i IntKind.i64 n_37]) ∧ (0 : Nat) < (1 : Nat)) ∧ Ob (InR IntKind.i64 (n_18 * n_36)) ∧ Ob (InR IntKind.i64 ((n_18 - n_27) * n_28 + n_27 * n_34 + n_18 * n_36)) ∧ Ob
  (InR IntKind.i64 ((1000 : Int) * ((n_18 - n_27) * n_28 + n_27 * n_34 + n_18 * n_36))) ∧ Ob ((IsLst B x_8 ((1 : Nat)) ((2 : Nat)) fun (x : Nat) ↦ [SV.i IntKind.i64 n_38, SV.i IntKind.i64 n_39]) ∧ (0 : Nat) < (1 : Nat)) ∧
  Ob ((IsLst B x_8 ((1 : Nat)) ((2 : Nat)) fun (x : Nat) ↦ [SV.i IntKind.i64 n_38, SV.i IntKind.i64 n_39]) ∧ (0 : Nat) < (1 : Nat)) ∧ Ob ((IsLst B x ((1 : Nat)) ((29 : Nat)) fun (x : Nat) ↦ [SV.lst x_1 rows.length ((8 :
  Nat)) (Rv.elemOf [IntKind.i64, IntKind.i64, IntKind.i64, IntKind.i64, IntKind.i64, IntKind.i64, IntKind.i64, IntKind.i64] rows), SV.lst x_2 rows_1.length ((2 : Nat)) (Rv.elemOf [IntKind.i64, IntKind.i64] rows_1), SV.i
  IntKind.i64 n, SV.i IntKind.i64 n_1, SV.i IntKind.i64 n_2, SV.i IntKind.i64 n_3, SV.i IntKind.i64 n_4, SV.i IntKind.i64 n_5, SV.i IntKind.i64 n_6, SV.i IntKind.i64 n_7, SV.i IntKind.i64 n_8, SV.i IntKind.i64 n_9, SV.i
  IntKind.i64 n_10, SV.i IntKind.i64 n_11, SV.i IntKind.i64 n_12, SV.i IntKind.i64 n_13, SV.i IntKind.i64 n_14, SV.i IntKind.i64 n_15, SV.i IntKind.i64 n_16, SV.i IntKind.i64 n_17, SV.i IntKind.i64 n_18, SV.i IntKind.i64
  n_19, SV.i IntKind.i64 n_20, SV.i IntKind.i64 n_21, SV.i IntKind.i64 n_22, SV.i IntKind.i64 n_23, SV.i IntKind.i64 n_24, SV.i IntKind.i64 n_25, SV.i IntKind.i64 n_26]) ∧ (0 : Nat) < (1 : Nat)) ∧ Ob ((IsLst B x ((1 :
  Nat)) ((29 : Nat)) fun (x : Nat) ↦ [SV.lst x_1 rows.length ((8 : Nat)) (Rv.elemOf [IntKind.i64, IntKind.i64, IntKind.i64, IntKind.i64, IntKind.i64, IntKind.i64, IntKind.i64, IntKind.i64] rows), SV.lst x_2 rows_1.length
  ((2 : Nat)) (Rv.elemOf [IntKind.i64, IntKind.i64] rows_1), SV.i IntKind.i64 n, SV.i IntKind.i64 n_1, SV.i IntKind.i64 n_2, SV.i IntKind.i64 n_3, SV.i IntKind.i64 n_4, SV.i IntKind.i64 n_5, SV.i IntKind.i64 n_6, SV.i
  IntKind.i64 n_7, SV.i IntKind.i64 n_8, SV.i IntKind.i64 n_9, SV.i IntKind.i64 n_10, SV.i IntKind.i64 n_11, SV.i IntKind.i64 n_12, SV.i IntKind.i64 n_13, SV.i IntKind.i64 n_14, SV.i IntKind.i64 n_15, SV.i IntKind.i64
  n_16, SV.i IntKind.i64 n_17, SV.i IntKind.i64 n_18, SV.i IntKind.i64 n_19, SV.i IntKind.i64 n_20, SV.i IntKind.i64 n_21, SV.i IntKind.i64 n_22, SV.i IntKind.i64 n_23, SV.i IntKind.i64 n_24, SV.i IntKind.i64 n_25, SV.i
  IntKind.i64 n_26]) ∧ (0 : Nat) < (1 : Nat)) ∧ Ob ((IsLst B x ((1 : Nat)) ((29 : Nat)) fun (x : Nat) ↦ [SV.lst x_1 rows.length ((8 : Nat)) (Rv.elemOf [IntKind.i64, IntKind.i64, IntKind.i64, IntKind.i64, IntKind.i64,
  IntKind.i64, IntKind.i64, IntKind.i64] rows), SV.lst x_2 rows_1.length ((2 : Nat)) (Rv.elemOf [IntKind.i64, IntKind.i64] rows_1), SV.i IntKind.i64 n, SV.i IntKind.i64 n_1, SV.i IntKind.i64 n_2, SV.i IntKind.i64 n_3, SV.i
  IntKind.i64 n_4, SV.i IntKind.i64 n_5, SV.i IntKind.i64 n_6, SV.i IntKind.i64 n_7, SV.i IntKind.i64 n_8, SV.i IntKind.i64 n_9, SV.i IntKind.i64 n_10, SV.i IntKind.i64 n_11, SV.i IntKind.i64 n_12, SV.i IntKind.i64 n_13,
  SV.i IntKind.i64 n_14, SV.i IntKind.i64 n_15, SV.i IntKind.i64 n_16, SV.i IntKind.i64 n_17, SV.i IntKind.i64 n_18, SV.i IntKind.i64 n_19, SV.i IntKind.i64 n_20, SV.i IntKind.i64 n_21, SV.i IntKind.i64 n_22, SV.i
  IntKind.i64 n_23, SV.i IntKind.i64 n_24, SV.i IntKind.i64 n_25, SV.i IntKind.i64 n_26]) ∧ (0 : Nat) < (1 : Nat)) ∧ Ob (InR IntKind.i64 (n_38 * n_19)) ∧ Ob (InR IntKind.i64 ((1000 : Int) * ((n_18 - n_27) * n_28 + n_27 *
  n_34 + n_18 * n_36) + n_38 * n_19)) ∧ Ob ((1000 : Int) * ((n_18 - n_27) * n_28 + n_27 * n_34 + n_18 * n_36) + n_38 * n_19 = wTot n_18 n_27 n_19 (pick6 (Int.ofNat ((0 : Nat))) (Int.ofNat ((0 : Nat))) n_28 n_29 n_30 n_31
  n_32 n_33) (pick2 (Int.ofNat ((0 : Nat))) n_34 n_35) (pick2 (Int.ofNat ((0 : Nat))) n_36 n_37) (pick2 (Int.ofNat ((0 : Nat))) n_38 n_39)) ∧ True)) ∧ ((IsLst B x_5 ((1 : Nat)) ((1 : Nat)) fun (x : Nat) ↦ [SV.v (Value.int
  IntKind.i64 (Int.ofNat ((1 : Nat))))]) → ∀ (x_6 : RV) (n_34 n_35 : Int), (IsLst B x_6 ((1 : Nat)) ((2 : Nat)) fun (x : Nat) ↦ [SV.i IntKind.i64 n_34, SV.i IntKind.i64 n_35]) → ∀ (x_7 : RV) (n_36 n_37 : Int), (IsLst B x_7
  ((1 : Nat)) ((2 : Nat)) fun (x : Nat) ↦ [SV.i IntKind.i64 n_36, SV.i IntKind.i64 n_37]) → ∀ (x_8 : RV) (n_38 n_39 : Int), (IsLst B x_8 ((1 : Nat)) ((2 : Nat)) fun (x : Nat) ↦ [SV.i IntKind.i64 n_38, SV.i IntKind.i64
  n_39]) → NxtOk n_18 n_27 n_19 [n_28, n_29, n_30, n_31, n_32, n_33, n_34, n_35, n_36, n_37, n_38, n_39] → Ob ((IsLst B x ((1 : Nat)) ((29 : Nat)) fun (x : Nat) ↦ [SV.lst x_1 rows.length ((8 : Nat)) (Rv.elemOf
  [IntKind.i64, IntKind.i64, IntKind.i64, IntKind.i64, IntKind.i64, IntKind.i64, IntKind.i64, IntKind.i64] rows), SV.lst x_2 rows_1.length ((2 : Nat)) (Rv.elemOf [IntKind.i64, IntKind.i64] rows_1), SV.i IntKind.i64 n, SV.i
  IntKind.i64 n_1, SV.i IntKind.i64 n_2, SV.i IntKind.i64 n_3, SV.i IntKind.i64 n_4, SV.i IntKind.i64 n_5, SV.i IntKind.i64 n_6, SV.i IntKind.i64 n_7, SV.i IntKind.i64 n_8, SV.i IntKind.i64 n_9, SV.i IntKind.i64 n_10, SV.i
  IntKind.i64 n_11, SV.i IntKind.i64 n_12, SV.i IntKind.i64 n_13, SV.i IntKind.i64 n_14, SV.i IntKind.i64 n_15, SV.i IntKind.i64 n_16, SV.i IntKind.i64 n_17, SV.i IntKind.i64 n_18, SV.i IntKind.i64 n_19, SV.i IntKind.i64
  n_20, SV.i IntKind.i64 n_21, SV.i IntKind.i64 n_22, SV.i IntKind.i64 n_23, SV.i IntKind.i64 n_24, SV.i IntKind.i64 n_25, SV.i IntKind.i64 n_26]) ∧ (0 : Nat) < (1 : Nat)) ∧ Ob ((IsLst B x ((1 : Nat)) ((29 : Nat)) fun (x :
  Nat) ↦ [SV.lst x_1 rows.length ((8 : Nat)) (Rv.elemOf [IntKind.i64, IntKind.i64, IntKind.i64, IntKind.i64, IntKind.i64, IntKind.i64, IntKind.i64, IntKind.i64] rows), SV.lst x_2 rows_1.length ((2 : Nat)) (Rv.elemOf
  [IntKind.i64, IntKind.i64] rows_1), SV.i IntKind.i64 n, SV.i IntKind.i64 n_1, SV.i IntKind.i64 n_2, SV.i IntKind.i64 n_3, SV.i IntKind.i64 n_4, SV.i IntKind.i64 n_5, SV.i IntKind.i64 n_6, SV.i IntKind.i64 n_7, SV.i
  IntKind.i64 n_8, SV.i IntKind.i64 n_9, SV.i IntKind.i64 n_10, SV.i IntKind.i64 n_11, SV.i IntKind.i64 n_12, SV.i IntKind.i64 n_13, SV.i IntKind.i64 n_14, SV.i IntKind.i64 n_15, SV.i IntKind.i64 n_16, SV.i IntKind.i64
  n_17, SV.i IntKind.i64 n_18, SV.i IntKind.i64 n_19, SV.i IntKind.i64 n_20, SV.i IntKind.i64 n_21, SV.i IntKind.i64 n_22, SV.i IntKind.i64 n_23, SV.i IntKind.i64 n_24, SV.i IntKind.i64 n_25, SV.i IntKind.i64 n_26]) ∧ (0 :
  Nat) < (1 : Nat)) ∧ Ob ((IsLst B x ((1 : Nat)) ((29 : Nat)) fun (x : Nat) ↦ [SV.lst x_1 rows.length ((8 : Nat)) (Rv.elemOf [IntKind.i64, IntKind.i64, IntKind.i64, IntKind.i64, IntKind.i64, IntKind.i64, IntKind.i64,
  IntKind.i64] rows), SV.lst x_2 rows_1.length ((2 : Nat)) (Rv.elemOf [IntKind.i64, IntKind.i64] rows_1), SV.i IntKind.i64 n, SV.i IntKind.i64 n_1, SV.i IntKind.i64 n_2, SV.i IntKind.i64 n_3, SV.i IntKind.i64 n_4, SV.i
  IntKind.i64 n_5, SV.i IntKind.i64 n_6, SV.i IntKind.i64 n_7, SV.i IntKind.i64 n_8, SV.i IntKind.i64 n_9, SV.i IntKind.i64 n_10, SV.i IntKind.i64 n_11, SV.i IntKind.i64 n_12, SV.i IntKind.i64 n_13, SV.i IntKind.i64 n_14,
  SV.i IntKind.i64 n_15, SV.i IntKind.i64 n_16, SV.i IntKind.i64 n_17, SV.i IntKind.i64 n_18, SV.i IntKind.i64 n_19, SV.i IntKind.i64 n_20, SV.i IntKind.i64 n_21, SV.i IntKind.i64 n_22, SV.i IntKind.i64 n_23, SV.i
  IntKind.i64 n_24, SV.i IntKind.i64 n_25, SV.i IntKind.i64 n_26]) ∧ (0 : Nat) < (1 : Nat)) ∧ Ob ((IsLst B x_3 ((1 : Nat)) ((1 : Nat)) fun (x : Nat) ↦ [SV.i IntKind.i64 n_27]) ∧ (0 : Nat) < (1 : Nat)) ∧ Ob (InR IntKind.i64
  (n_18 - n_27)) ∧ Ob ((IsLst B x_5 ((1 : Nat)) ((1 : Nat)) fun (x : Nat) ↦ [SV.v (Value.int IntKind.i64 (Int.ofNat ((1 : Nat))))]) ∧ (0 : Nat) < (1 : Nat)) ∧ Ob ((IsLst B x_4 ((1 : Nat)) ((6 : Nat)) fun (x : Nat) ↦ [SV.i
  IntKind.i64 n_28, SV.i IntKind.i64 n_29, SV.i IntKind.i64 n_30, SV.i IntKind.i64 n_31, SV.i IntKind.i64 n_32, SV.i IntKind.i64 n_33]) ∧ (0 : Nat) < (1 : Nat)) ∧ Ob ((IsLst B x_4 ((1 : Nat)) ((6 : Nat)) fun (x : Nat) ↦
  [SV.i IntKind.i64 n_28, SV.i IntKind.i64 n_29, SV.i IntKind.i64 n_30, SV.i IntKind.i64 n_31, SV.i IntKind.i64 n_32, SV.i IntKind.i64 n_33]) ∧ (0 : Nat) < (1 : Nat)) ∧ Ob ((IsLst B x_4 ((1 : Nat)) ((6 : Nat)) fun (x :
  Nat) ↦ [SV.i IntKind.i64 n_28, SV.i IntKind.i64 n_29, SV.i IntKind.i64 n_30, SV.i IntKind.i64 n_31, SV.i IntKind.i64 n_32, SV.i IntKind.i64 n_33]) ∧ (0 : Nat) < (1 : Nat)) ∧ Ob (InR IntKind.i64 ((n_18 - n_27) * n_30)) ∧
  Ob ((IsLst B x_3 ((1 : Nat)) ((1 : Nat)) fun (x : Nat) ↦ [SV.i IntKind.i64 n_27]) ∧ (0 : Nat) < (1 : Nat)) ∧ Ob ((IsLst B x_6 ((1 : Nat)) ((2 : Nat)) fun (x : Nat) ↦ [SV.i IntKind.i64 n_34, SV.i IntKind.i64 n_35]) ∧ (0 :
  Nat) < (1 : Nat)) ∧ Ob ((IsLst B x_6 ((1 : Nat)) ((2 : Nat)) fun (x : Nat) ↦ [SV.i IntKind.i64 n_34, SV.i IntKind.i64 n_35]) ∧ (0 : Nat) < (1 : Nat)) ∧ Ob (InR IntKind.i64 (n_27 * n_34)) ∧ Ob (InR IntKind.i64 ((n_18 -
  n_27) * n_30 + n_27 * n_34)) ∧ Ob ((IsLst B x ((1 : Nat)) ((29 : Nat)) fun (x : Nat) ↦ [SV.lst x_1 rows.length ((8 : Nat)) (Rv.elemOf [IntKind.i64, IntKind.i64, IntKind.i64, IntKind.i64, IntKind.i64, IntKind.i64,
  IntKind.i64, IntKind.i64] rows), SV.lst x_2 rows_1.length ((2 : Nat)) (Rv.elemOf [IntKind.i64, IntKind.i64] rows_1), SV.i IntKind.i64 n, SV.i IntKind.i64 n_1, SV.i IntKind.i64 n_2, SV.i IntKind.i64 n_3, SV.i IntKind.i64
  n_4, SV.i IntKind.i64 n_5, SV.i IntKind.i64 n_6, SV.i IntKind.i64 n_7, SV.i IntKind.i64 n_8, SV.i IntKind.i64 n_9, SV.i IntKind.i64 n_10, SV.i IntKind.i64 n_11, SV.i IntKind.i64 n_12, SV.i IntKind.i64 n_13, SV.i
  IntKind.i64 n_14, SV.i IntKind.i64 n_15, SV.i IntKind.i64 n_16, SV.i IntKind.i64 n_17, SV.i IntKind.i64 n_18, SV.i IntKind.i64 n_19, SV.i IntKind.i64 n_20, SV.i IntKind.i64 n_21, SV.i IntKind.i64 n_22, SV.i IntKind.i64
  n_23, SV.i IntKind.i64 n_24, SV.i IntKind.i64 n_25, SV.i IntKind.i64 n_26]) ∧ (0 : Nat) < (1 : Nat)) ∧ Ob ((IsLst B x ((1 : Nat)) ((29 : Nat)) fun (x : Nat) ↦ [SV.lst x_1 rows.length ((8 : Nat)) (Rv.elemOf [IntKind.i64,
  IntKind.i64, IntKind.i64, IntKind.i64, IntKind.i64, IntKind.i64, IntKind.i64, IntKind.i64] rows), SV.lst x_2 rows_1.length ((2 : Nat)) (Rv.elemOf [IntKind.i64, IntKind.i64] rows_1), SV.i IntKind.i64 n, SV.i IntKind.i64
  n_1, SV.i IntKind.i64 n_2, SV.i IntKind.i64 n_3, SV.i IntKind.i64 n_4, SV.i IntKind.i64 n_5, SV.i IntKind.i64 n_6, SV.i IntKind.i64 n_7, SV.i IntKind.i64 n_8, SV.i IntKind.i64 n_9, SV.i IntKind.i64 n_10, SV.i IntKind.i64
  n_11, SV.i IntKind.i64 n_12, SV.i IntKind.i64 n_13, SV.i IntKind.i64 n_14, SV.i IntKind.i64 n_15, SV.i IntKind.i64 n_16, SV.i IntKind.i64 n_17, SV.i IntKind.i64 n_18, SV.i IntKind.i64 n_19, SV.i IntKind.i64 n_20, SV.i
  IntKind.i64 n_21, SV.i IntKind.i64 n_22, SV.i IntKind.i64 n_23, SV.i IntKind.i64 n_24, SV.i IntKind.i64 n_25, SV.i IntKind.i64 n_26]) ∧ (0 : Nat) < (1 : Nat)) ∧ Ob ((IsLst B x ((1 : Nat)) ((29 : Nat)) fun (x : Nat) ↦
  [SV.lst x_1 rows.length ((8 : Nat)) (Rv.elemOf [IntKind.i64, IntKind.i64, IntKind.i64, IntKind.i64, IntKind.i64, IntKind.i64, IntKind.i64, IntKind.i64] rows), SV.lst x_2 rows_1.length ((2 : Nat)) (Rv.elemOf [IntKind.i64,
  IntKind.i64] rows_1), SV.i IntKind.i64 n, SV.i IntKind.i64 n_1, SV.i IntKind.i64 n_2, SV.i IntKind.i64 n_3, SV.i IntKind.i64 n_4, SV.i IntKind.i64 n_5, SV.i IntKind.i64 n_6, SV.i IntKind.i64 n_7, SV.i IntKind.i64 n_8,
  SV.i IntKind.i64 n_9, SV.i IntKind.i64 n_10, SV.i IntKind.i64 n_11, SV.i IntKind.i64 n_12, SV.i IntKind.i64 n_13, SV.i IntKind.i64 n_14, SV.i IntKind.i64 n_15, SV.i IntKind.i64 n_16, SV.i IntKind.i64 n_17, SV.i
  IntKind.i64 n_18, SV.i IntKind.i64 n_19, SV.i IntKind.i64 n_20, SV.i IntKind.i64 n_21, SV.i IntKind.i64 n_22, SV.i IntKind.i64 n_23, SV.i IntKind.i64 n_24, SV.i IntKind.i64 n_25, SV.i IntKind.i64 n_26]) ∧ (0 : Nat) < (1
  : Nat)) ∧ Ob ((IsLst B x_7 ((1 : Nat)) ((2 : Nat)) fun (x : Nat) ↦ [SV.i IntKind.i64 n_36, SV.i IntKind.i64 n_37]) ∧ (0 : Nat) < (1 : Nat)) ∧ Ob ((IsLst B x_7 ((1 : Nat)) ((2 : Nat)) fun (x : Nat) ↦ [SV.i IntKind.i64
  n_36, SV.i IntKind.i64 n_37]) ∧ (0 : Nat) < (1 : Nat)) ∧ Ob (InR IntKind.i64 (n_18 * n_36)) ∧ Ob (InR IntKind.i64 ((n_18 - n_27) * n_30 + n_27 * n_34 + n_18 * n_36)) ∧ Ob (InR IntKind.i64 ((1000 : Int) * ((n_18 - n_27) *
  n_30 + n_27 * n_34 + n_18 * n_36))) ∧ Ob ((IsLst B x_8 ((1 : Nat)) ((2 : Nat)) fun (x : Nat) ↦ [SV.i IntKind.i64 n_38, SV.i IntKind.i64 n_39]) ∧ (0 : Nat) < (1 : Nat)) ∧ Ob ((IsLst B x_8 ((1 : Nat)) ((2 : Nat)) fun (x :
  Nat) ↦ [SV.i IntKind.i64 n_38, SV.i IntKind.i64 n_39]) ∧ (0 : Nat) < (1 : Nat)) ∧ Ob ((IsLst B x ((1 : Nat)) ((29 : Nat)) fun (x : Nat) ↦ [SV.lst x_1 rows.length ((8 : Nat)) (Rv.elemOf [IntKind.i64, IntKind.i64,
  IntKind.i64, IntKind.i64, IntKind.i64, IntKind.i64, IntKind.i64, IntKind.i64] rows), SV.lst x_2 rows_1.length ((2 : Nat)) (Rv.elemOf [IntKind.i64, IntKind.i64] rows_1), SV.i IntKind.i64 n, SV.i IntKind.i64 n_1, SV.i
  IntKind.i64 n_2, SV.i IntKind.i64 n_3, SV.i IntKind.i64 n_4, SV.i IntKind.i64 n_5, SV.i IntKind.i64 n_6, SV.i IntKind.i64 n_7, SV.i IntKind.i64 n_8, SV.i IntKind.i64 n_9, SV.i IntKind.i64 n_10, SV.i IntKind.i64 n_11,
  SV.i IntKind.i64 n_12, SV.i IntKind.i64 n_13, SV.i IntKind.i64 n_14, SV.i IntKind.i64 n_15, SV.i IntKind.i64 n_16, SV.i IntKind.i64 n_17, SV.i IntKind.i64 n_18, SV.i IntKind.i64 n_19, SV.i IntKind.i64 n_20, SV.i
  IntKind.i64 n_21, SV.i IntKind.i64 n_22, SV.i IntKind.i64 n_23, SV.i IntKind.i64 n_24, SV.i IntKind.i64 n_25, SV.i IntKind.i64 n_26]) ∧ (0 : Nat) < (1 : Nat)) ∧ Ob ((IsLst B x ((1 : Nat)) ((29 : Nat)) fun (x : Nat) ↦
  [SV.lst x_1 rows.length ((8 : Nat)) (Rv.elemOf [IntKind.i64, IntKind.i64, IntKind.i64, IntKind.i64, IntKind.i64, IntKind.i64, IntKind.i64, IntKind.i64] rows), SV.lst x_2 rows_1.length ((2 : Nat)) (Rv.elemOf [IntKind.i64,
  IntKind.i64] rows_1), SV.i IntKind.i64 n, SV.i IntKind.i64 n_1, SV.i IntKind.i64 n_2, SV.i IntKind.i64 n_3, SV.i IntKind.i64 n_4, SV.i IntKind.i64 n_5, SV.i IntKind.i64 n_6, SV.i IntKind.i64 n_7, SV.i IntKind.i64 n_8,
  SV.i IntKind.i64 n_9, SV.i IntKind.i64 n_10, SV.i IntKind.i64 n_11, SV.i IntKind.i64 n_12, SV.i IntKind.i64 n_13, SV.i IntKind.i64 n_14, SV.i IntKind.i64 n_15, SV.i IntKind.i64 n_16, SV.i IntKind.i64 n_17, SV.i
  IntKind.i64 n_18, SV.i IntKind.i64 n_19, SV.i IntKind.i64 n_20, SV.i IntKind.i64 n_21, SV.i IntKind.i64 n_22, SV.i IntKind.i64 n_23, SV.i IntKind.i64 n_24, SV.i IntKind.i64 n_25, SV.i IntKind.i64 n_26]) ∧ (0 : Nat) < (1
  : Nat)) ∧ Ob ((IsLst B x ((1 : Nat)) ((29 : Nat)) fun (x : Nat) ↦ [SV.lst x_1 rows.length ((8 : Nat)) (Rv.elemOf [IntKind.i64, IntKind.i64, IntKind.i64, IntKind.i64, IntKind.i64, IntKind.i64, IntKind.i64, IntKind.i64]
  rows), SV.lst x_2 rows_1.length ((2 : Nat)) (Rv.elemOf [IntKind.i64, IntKind.i64] rows_1), SV.i IntKind.i64 n, SV.i IntKind.i64 n_1, SV.i IntKind.i64 n_2, SV.i IntKind.i64 n_3, SV.i IntKind.i64 n_4, SV.i IntKind.i64 n_5,
  SV.i IntKind.i64 n_6, SV.i IntKind.i64 n_7, SV.i IntKind.i64 n_8, SV.i IntKind.i64 n_9, SV.i IntKind.i64 n_10, SV.i IntKind.i64 n_11, SV.i IntKind.i64 n_12, SV.i IntKind.i64 n_13, SV.i IntKind.i64 n_14, SV.i IntKind.i64
  n_15, SV.i IntKind.i64 n_16, SV.i IntKind.i64 n_17, SV.i IntKind.i64 n_18, SV.i IntKind.i64 n_19, SV.i IntKind.i64 n_20, SV.i IntKind.i64 n_21, SV.i IntKind.i64 n_22, SV.i IntKind.i64 n_23, SV.i IntKind.i64 n_24, SV.i
  IntKind.i64 n_25, SV.i IntKind.i64 n_26]) ∧ (0 : Nat) < (1 : Nat)) ∧ Ob (InR IntKind.i64 (n_38 * n_19)) ∧ Ob (InR IntKind.i64 ((1000 : Int) * ((n_18 - n_27) * n_30 + n_27 * n_34 + n_18 * n_36) + n_38 * n_19)) ∧ Ob ((1000
  : Int) * ((n_18 - n_27) * n_30 + n_27 * n_34 + n_18 * n_36) + n_38 * n_19 = wTot n_18 n_27 n_19 (pick6 (Int.ofNat ((1 : Nat))) (Int.ofNat ((0 : Nat))) n_28 n_29 n_30 n_31 n_32 n_33) (pick2 (Int.ofNat ((0 : Nat))) n_34
  n_35) (pick2 (Int.ofNat ((0 : Nat))) n_36 n_37) (pick2 (Int.ofNat ((0 : Nat))) n_38 n_39)) ∧ True)) ∧ ((IsLst B x_5 ((1 : Nat)) ((1 : Nat)) fun (x : Nat) ↦ [SV.v (Value.int IntKind.i64 (Int.ofNat ((2 : Nat))))]) → ∀ (x_6
  : RV) (n_34 n_35 : Int), (IsLst B x_6 ((1 : Nat)) ((2 : Nat)) fun (x : Nat) ↦ [SV.i IntKind.i64 n_34, SV.i IntKind.i64 n_35]) → ∀ (x_7 : RV) (n_36 n_37 : Int), (IsLst B x_7 ((1 : Nat)) ((2 : Nat)) fun (x : Nat) ↦ [SV.i
  IntKind.i64 n_36, SV.i IntKind.i64 n_37]) → ∀ (x_8 : RV) (n_38 n_39 : Int), (IsLst B x_8 ((1 : Nat)) ((2 : Nat)) fun (x : Nat) ↦ [SV.i IntKind.i64 n_38, SV.i IntKind.i64 n_39]) → NxtOk n_18 n_27 n_19 [n_28, n_29, n_30,
  n_31, n_32, n_33, n_34, n_35, n_36, n_37, n_38, n_39] → Ob ((IsLst B x ((1 : Nat)) ((29 : Nat)) fun (x : Nat) ↦ [SV.lst x_1 rows.length ((8 : Nat)) (Rv.elemOf [IntKind.i64, IntKind.i64, IntKind.i64, IntKind.i64,
  IntKind.i64, IntKind.i64, IntKind.i64, IntKind.i64] rows), SV.lst x_2 rows_1.length ((2 : Nat)) (Rv.elemOf [IntKind.i64, IntKind.i64] rows_1), SV.i IntKind.i64 n, SV.i IntKind.i64 n_1, SV.i IntKind.i64 n_2, SV.i
  IntKind.i64 n_3, SV.i IntKind.i64 n_4, SV.i IntKind.i64 n_5, SV.i IntKind.i64 n_6, SV.i IntKind.i64 n_7, SV.i IntKind.i64 n_8, SV.i IntKind.i64 n_9, SV.i IntKind.i64 n_10, SV.i IntKind.i64 n_11, SV.i IntKind.i64 n_12,
  SV.i IntKind.i64 n_13, SV.i IntKind.i64 n_14, SV.i IntKind.i64 n_15, SV.i IntKind.i64 n_16, SV.i IntKind.i64 n_17, SV.i IntKind.i64 n_18, SV.i IntKind.i64 n_19, SV.i IntKind.i64 n_20, SV.i IntKind.i64 n_21, SV.i
  IntKind.i64 n_22, SV.i IntKind.i64 n_23, SV.i IntKind.i64 n_24, SV.i IntKind.i64 n_25, SV.i IntKind.i64 n_26]) ∧ (0 : Nat) < (1 : Nat)) ∧ Ob ((IsLst B x ((1 : Nat)) ((29 : Nat)) fun (x : Nat) ↦ [SV.lst x_1 rows.length
  ((8 : Nat)) (Rv.elemOf [IntKind.i64, IntKind.i64, IntKind.i64, IntKind.i64, IntKind.i64, IntKind.i64, IntKind.i64, IntKind.i64] rows), SV.lst x_2 rows_1.length ((2 : Nat)) (Rv.elemOf [IntKind.i64, IntKind.i64] rows_1),
  SV.i IntKind.i64 n, SV.i IntKind.i64 n_1, SV.i IntKind.i64 n_2, SV.i IntKind.i64 n_3, SV.i IntKind.i64 n_4, SV.i IntKind.i64 n_5, SV.i IntKind.i64 n_6, SV.i IntKind.i64 n_7, SV.i IntKind.i64 n_8, SV.i IntKind.i64 n_9,
  SV.i IntKind.i64 n_10, SV.i IntKind.i64 n_11, SV.i IntKind.i64 n_12, SV.i IntKind.i64 n_13, SV.i IntKind.i64 n_14, SV.i IntKind.i64 n_15, SV.i IntKind.i64 n_16, SV.i IntKind.i64 n_17, SV.i IntKind.i64 n_18, SV.i
  IntKind.i64 n_19, SV.i IntKind.i64 n_20, SV.i IntKind.i64 n_21, SV.i IntKind.i64 n_22, SV.i IntKind.i64 n_23, SV.i IntKind.i64 n_24, SV.i IntKind.i64 n_25, SV.i IntKind.i64 n_26]) ∧ (0 : Nat) < (1 : Nat)) ∧ Ob ((IsLst B
  x ((1 : Nat)) ((29 : Nat)) fun (x : Nat) ↦ [SV.lst x_1 rows.length ((8 : Nat)) (Rv.elemOf [IntKind.i64, IntKind.i64, IntKind.i64, IntKind.i64, IntKind.i64, IntKind.i64, IntKind.i64, IntKind.i64] rows), SV.lst x_2
  rows_1.length ((2 : Nat)) (Rv.elemOf [IntKind.i64, IntKind.i64] rows_1), SV.i IntKind.i64 n, SV.i IntKind.i64 n_1, SV.i IntKind.i64 n_2, SV.i IntKind.i64 n_3, SV.i IntKind.i64 n_4, SV.i IntKind.i64 n_5, SV.i IntKind.i64
  n_6, SV.i IntKind.i64 n_7, SV.i IntKind.i64 n_8, SV.i IntKind.i64 n_9, SV.i IntKind.i64 n_10, SV.i IntKind.i64 n_11, SV.i IntKind.i64 n_12, SV.i IntKind.i64 n_13, SV.i IntKind.i64 n_14, SV.i IntKind.i64 n_15, SV.i
  IntKind.i64 n_16, SV.i IntKind.i64 n_17, SV.i IntKind.i64 n_18, SV.i IntKind.i64 n_19, SV.i IntKind.i64 n_20, SV.i IntKind.i64 n_21, SV.i IntKind.i64 n_22, SV.i IntKind.i64 n_23, SV.i IntKind.i64 n_24, SV.i IntKind.i64
  n_25, SV.i IntKind.i64 n_26]) ∧ (0 : Nat) < (1 : Nat)) ∧ Ob ((IsLst B x_3 ((1 : Nat)) ((1 : Nat)) fun (x : Nat) ↦ [SV.i IntKind.i64 n_27]) ∧ (0 : Nat) < (1 : Nat)) ∧ Ob (InR IntKind.i64 (n_18 - n_27)) ∧ Ob ((IsLst B x_5
  ((1 : Nat)) ((1 : Nat)) fun (x : Nat) ↦ [SV.v (Value.int IntKind.i64 (Int.ofNat ((2 : Nat))))]) ∧ (0 : Nat) < (1 : Nat)) ∧ Ob ((IsLst B x_4 ((1 : Nat)) ((6 : Nat)) fun (x : Nat) ↦ [SV.i IntKind.i64 n_28, SV.i IntKind.i64
  n_29, SV.i IntKind.i64 n_30, SV.i IntKind.i64 n_31, SV.i IntKind.i64 n_32, SV.i IntKind.i64 n_33]) ∧ (0 : Nat) < (1 : Nat)) ∧ Ob ((IsLst B x_4 ((1 : Nat)) ((6 : Nat)) fun (x : Nat) ↦ [SV.i IntKind.i64 n_28, SV.i
  IntKind.i64 n_29, SV.i IntKind.i64 n_30, SV.i IntKind.i64 n_31, SV.i IntKind.i64 n_32, SV.i IntKind.i64 n_33]) ∧ (0 : Nat) < (1 : Nat)) ∧ Ob ((IsLst B x_4 ((1 : Nat)) ((6 : Nat)) fun (x : Nat) ↦ [SV.i IntKind.i64 n_28,
  SV.i IntKind.i64 n_29, SV.i IntKind.i64 n_30, SV.i IntKind.i64 n_31, SV.i IntKind.i64 n_32, SV.i IntKind.i64 n_33]) ∧ (0 : Nat) < (1 : Nat)) ∧ Ob (InR IntKind.i64 ((n_18 - n_27) * n_32)) ∧ Ob ((IsLst B x_3 ((1 : Nat))
  ((1 : Nat)) fun (x : Nat) ↦ [SV.i IntKind.i64 n_27]) ∧ (0 : Nat) < (1 : Nat)) ∧ Ob ((IsLst B x_6 ((1 : Nat)) ((2 : Nat)) fun (x : Nat) ↦ [SV.i IntKind.i64 n_34, SV.i IntKind.i64 n_35]) ∧ (0 : Nat) < (1 : Nat)) ∧ Ob
  ((IsLst B x_6 ((1 : Nat)) ((2 : Nat)) fun (x : Nat) ↦ [SV.i IntKind.i64 n_34, SV.i IntKind.i64 n_35]) ∧ (0 : Nat) < (1 : Nat)) ∧ Ob (InR IntKind.i64 (n_27 * n_34)) ∧ Ob (InR IntKind.i64 ((n_18 - n_27) * n_32 + n_27 *
  n_34)) ∧ Ob ((IsLst B x ((1 : Nat)) ((29 : Nat)) fun (x : Nat) ↦ [SV.lst x_1 rows.length ((8 : Nat)) (Rv.elemOf [IntKind.i64, IntKind.i64, IntKind.i64, IntKind.i64, IntKind.i64, IntKind.i64, IntKind.i64, IntKind.i64]
  rows), SV.lst x_2 rows_1.length ((2 : Nat)) (Rv.elemOf [IntKind.i64, IntKind.i64] rows_1), SV.i IntKind.i64 n, SV.i IntKind.i64 n_1, SV.i IntKind.i64 n_2, SV.i IntKind.i64 n_3, SV.i IntKind.i64 n_4, SV.i IntKind.i64 n_5,
  SV.i IntKind.i64 n_6, SV.i IntKind.i64 n_7, SV.i IntKind.i64 n_8, SV.i IntKind.i64 n_9, SV.i IntKind.i64 n_10, SV.i IntKind.i64 n_11, SV.i IntKind.i64 n_12, SV.i IntKind.i64 n_13, SV.i IntKind.i64 n_14, SV.i IntKind.i64
  n_15, SV.i IntKind.i64 n_16, SV.i IntKind.i64 n_17, SV.i IntKind.i64 n_18, SV.i IntKind.i64 n_19, SV.i IntKind.i64 n_20, SV.i IntKind.i64 n_21, SV.i IntKind.i64 n_22, SV.i IntKind.i64 n_23, SV.i IntKind.i64 n_24, SV.i
  IntKind.i64 n_25, SV.i IntKind.i64 n_26]) ∧ (0 : Nat) < (1 : Nat)) ∧ Ob ((IsLst B x ((1 : Nat)) ((29 : Nat)) fun (x : Nat) ↦ [SV.lst x_1 rows.length ((8 : Nat)) (Rv.elemOf [IntKind.i64, IntKind.i64, IntKind.i64,
  IntKind.i64, IntKind.i64, IntKind.i64, IntKind.i64, IntKind.i64] rows), SV.lst x_2 rows_1.length ((2 : Nat)) (Rv.elemOf [IntKind.i64, IntKind.i64] rows_1), SV.i IntKind.i64 n, SV.i IntKind.i64 n_1, SV.i IntKind.i64 n_2,
  SV.i IntKind.i64 n_3, SV.i IntKind.i64 n_4, SV.i IntKind.i64 n_5, SV.i IntKind.i64 n_6, SV.i IntKind.i64 n_7, SV.i IntKind.i64 n_8, SV.i IntKind.i64 n_9, SV.i IntKind.i64 n_10, SV.i IntKind.i64 n_11, SV.i IntKind.i64
  n_12, SV.i IntKind.i64 n_13, SV.i IntKind.i64 n_14, SV.i IntKind.i64 n_15, SV.i IntKind.i64 n_16, SV.i IntKind.i64 n_17, SV.i IntKind.i64 n_18, SV.i IntKind.i64 n_19, SV.i IntKind.i64 n_20, SV.i IntKind.i64 n_21, SV.i
  IntKind.i64 n_22, SV.i IntKind.i64 n_23, SV.i IntKind.i64 n_24, SV.i IntKind.i64 n_25, SV.i IntKind.i64 n_26]) ∧ (0 : Nat) < (1 : Nat)) ∧ Ob ((IsLst B x ((1 : Nat)) ((29 : Nat)) fun (x : Nat) ↦ [SV.lst x_1 rows.length
  ((8 : Nat)) (Rv.elemOf [IntKind.i64, IntKind.i64, IntKind.i64, IntKind.i64, IntKind.i64, IntKind.i64, IntKind.i64, IntKind.i64] rows), SV.lst x_2 rows_1.length ((2 : Nat)) (Rv.elemOf [IntKind.i64, IntKind.i64] rows_1),
  SV.i IntKind.i64 n, SV.i IntKind.i64 n_1, SV.i IntKind.i64 n_2, SV.i IntKind.i64 n_3, SV.i IntKind.i64 n_4, SV.i IntKind.i64 n_5, SV.i IntKind.i64 n_6, SV.i IntKind.i64 n_7, SV.i IntKind.i64 n_8, SV.i IntKind.i64 n_9,
  SV.i IntKind.i64 n_10, SV.i IntKind.i64 n_11, SV.i IntKind.i64 n_12, SV.i IntKind.i64 n_13, SV.i IntKind.i64 n_14, SV.i IntKind.i64 n_15, SV.i IntKind.i64 n_16, SV.i IntKind.i64 n_17, SV.i IntKind.i64 n_18, SV.i
  IntKind.i64 n_19, SV.i IntKind.i64 n_20, SV.i IntKind.i64 n_21, SV.i IntKind.i64 n_22, SV.i IntKind.i64 n_23, SV.i IntKind.i64 n_24, SV.i IntKind.i64 n_25, SV.i IntKind.i64 n_26]) ∧ (0 : Nat) < (1 : Nat)) ∧ Ob ((IsLst B
  x_7 ((1 : Nat)) ((2 : Nat)) fun (x : Nat) ↦ [SV.i IntKind.i64 n_36, SV.i IntKind.i64 n_37]) ∧ (0 : Nat) < (1 : Nat)) ∧ Ob ((IsLst B x_7 ((1 : Nat)) ((2 : Nat)) fun (x : Nat) ↦ [SV.i IntKind.i64 n_36, SV.i IntKind.i64
  n_37]) ∧ (0 : Nat) < (1 : Nat)) ∧ Ob (InR IntKind.i64 (n_18 * n_36)) ∧ Ob (InR IntKind.i64 ((n_18 - n_27) * n_32 + n_27 * n_34 + n_18 * n_36)) ∧ Ob (InR IntKind.i64 ((1000 : Int) * ((n_18 - n_27) * n_32 + n_27 * n_34 +
  n_18 * n_36))) ∧ Ob ((IsLst B x_8 ((1 : Nat)) ((2 : Nat)) fun (x : Nat) ↦ [SV.i IntKind.i64 n_38, SV.i IntKind.i64 n_39]) ∧ (0 : Nat) < (1 : Nat)) ∧ Ob ((IsLst B x_8 ((1 : Nat)) ((2 : Nat)) fun (x : Nat) ↦ [SV.i
  IntKind.i64 n_38, SV.i IntKind.i64 n_39]) ∧ (0 : Nat) < (1 : Nat)) ∧ Ob ((IsLst B x ((1 : Nat)) ((29 : Nat)) fun (x : Nat) ↦ [SV.lst x_1 rows.length ((8 : Nat)) (Rv.elemOf [IntKind.i64, IntKind.i64, IntKind.i64,
  IntKind.i64, IntKind.i64, IntKind.i64, IntKind.i64, IntKind.i64] rows), SV.lst x_2 rows_1.length ((2 : Nat)) (Rv.elemOf [IntKind.i64, IntKind.i64] rows_1), SV.i IntKind.i64 n, SV.i IntKind.i64 n_1, SV.i IntKind.i64 n_2,
  SV.i IntKind.i64 n_3, SV.i IntKind.i64 n_4, SV.i IntKind.i64 n_5, SV.i IntKind.i64 n_6, SV.i IntKind.i64 n_7, SV.i IntKind.i64 n_8, SV.i IntKind.i64 n_9, SV.i IntKind.i64 n_10, SV.i IntKind.i64 n_11, SV.i IntKind.i64
  n_12, SV.i IntKind.i64 n_13, SV.i IntKind.i64 n_14, SV.i IntKind.i64 n_15, SV.i IntKind.i64 n_16, SV.i IntKind.i64 n_17, SV.i IntKind.i64 n_18, SV.i IntKind.i64 n_19, SV.i IntKind.i64 n_20, SV.i IntKind.i64 n_21, SV.i
  IntKind.i64 n_22, SV.i IntKind.i64 n_23, SV.i IntKind.i64 n_24, SV.i IntKind.i64 n_25, SV.i IntKind.i64 n_26]) ∧ (0 : Nat) < (1 : Nat)) ∧ Ob ((IsLst B x ((1 : Nat)) ((29 : Nat)) fun (x : Nat) ↦ [SV.lst x_1 rows.length
  ((8 : Nat)) (Rv.elemOf [IntKind.i64, IntKind.i64, IntKind.i64, IntKind.i64, IntKind.i64, IntKind.i64, IntKind.i64, IntKind.i64] rows), SV.lst x_2 rows_1.length ((2 : Nat)) (Rv.elemOf [IntKind.i64, IntKind.i64] rows_1),
  SV.i IntKind.i64 n, SV.i IntKind.i64 n_1, SV.i IntKind.i64 n_2, SV.i IntKind.i64 n_3, SV.i IntKind.i64 n_4, SV.i IntKind.i64 n_5, SV.i IntKind.i64 n_6, SV.i IntKind.i64 n_7, SV.i IntKind.i64 n_8, SV.i IntKind.i64 n_9,
  SV.i IntKind.i64 n_10, SV.i IntKind.i64 n_11, SV.i IntKind.i64 n_12, SV.i IntKind.i64 n_13, SV.i IntKind.i64 n_14, SV.i IntKind.i64 n_15, SV.i IntKind.i64 n_16, SV.i IntKind.i64 n_17, SV.i IntKind.i64 n_18, SV.i
  IntKind.i64 n_19, SV.i IntKind.i64 n_20, SV.i IntKind.i64 n_21, SV.i IntKind.i64 n_22, SV.i IntKind.i64 n_23, SV.i IntKind.i64 n_24, SV.i IntKind.i64 n_25, SV.i IntKind.i64 n_26]) ∧ (0 : Nat) < (1 : Nat)) ∧ Ob ((IsLst B
  x ((1 : Nat)) ((29 : Nat)) fun (x : Nat) ↦ [SV.lst x_1 rows.length ((8 : Nat)) (Rv.elemOf [IntKind.i64, IntKind.i64, IntKind.i64, IntKind.i64, IntKind.i64, IntKind.i64, IntKind.i64, IntKind.i64] rows), SV.lst x_2
  rows_1.length ((2 : Nat)) (Rv.elemOf [IntKind.i64, IntKind.i64] rows_1), SV.i IntKind.i64 n, SV.i IntKind.i64 n_1, SV.i IntKind.i64 n_2, SV.i IntKind.i64 n_3, SV.i IntKind.i64 n_4, SV.i IntKind.i64 n_5, SV.i IntKind.i64
  n_6, SV.i IntKind.i64 n_7, SV.i IntKind.i64 n_8, SV.i IntKind.i64 n_9, SV.i IntKind.i64 n_10, SV.i IntKind.i64 n_11, SV.i IntKind.i64 n_12, SV.i IntKind.i64 n_13, SV.i IntKind.i64 n_14, SV.i IntKind.i64 n_15, SV.i
  IntKind.i64 n_16, SV.i IntKind.i64 n_17, SV.i IntKind.i64 n_18, SV.i IntKind.i64 n_19, SV.i IntKind.i64 n_20, SV.i IntKind.i64 n_21, SV.i IntKind.i64 n_22, SV.i IntKind.i64 n_23, SV.i IntKind.i64 n_24, SV.i IntKind.i64
  n_25, SV.i IntKind.i64 n_26]) ∧ (0 : Nat) < (1 : Nat)) ∧ Ob (InR IntKind.i64 (n_38 * n_19)) ∧ Ob (InR IntKind.i64 ((1000 : Int) * ((n_18 - n_27) * n_32 + n_27 * n_34 + n_18 * n_36) + n_38 * n_19)) ∧ Ob ((1000 : Int) *
  ((n_18 - n_27) * n_32 + n_27 * n_34 + n_18 * n_36) + n_38 * n_19 = wTot n_18 n_27 n_19 (pick6 (Int.ofNat ((2 : Nat))) (Int.ofNat ((0 : Nat))) n_28 n_29 n_30 n_31 n_32 n_33) (pick2 (Int.ofNat ((0 : Nat))) n_34 n_35)
  (pick2 (Int.ofNat ((0 : Nat))) n_36 n_37) (pick2 (Int.ofNat ((0 : Nat))) n_38 n_39)) ∧ True)) ∧ ∀ (x x_1 : RV) (rows : List (List Int)), IsLst B x_1 rows.length ((8 : Nat)) (Rv.elemOf [IntKind.i64, IntKind.i64,
  IntKind.i64, IntKind.i64, IntKind.i64, IntKind.i64, IntKind.i64, IntKind.i64] rows) → oneB x_1 = true → (∀ (row : List Int), row ∈ rows → row.length = (8 : Nat)) → ∀ (x_2 : RV) (rows_1 : List (List Int)), IsLst B x_2
  rows_1.length ((2 : Nat)) (Rv.elemOf [IntKind.i64, IntKind.i64] rows_1) → oneB x_2 = true → (∀ (row : List Int), row ∈ rows_1 → row.length = (2 : Nat)) → ∀ (n n_1 n_2 n_3 n_4 n_5 n_6 n_7 n_8 n_9 n_10 n_11 n_12 n_13 n_14
  n_15 n_16 n_17 n_18 n_19 n_20 n_21 n_22 n_23 n_24 n_25 n_26 : Int), (IsLst B x ((1 : Nat)) ((29 : Nat)) fun (x : Nat) ↦ [SV.lst x_1 rows.length ((8 : Nat)) (Rv.elemOf [IntKind.i64, IntKind.i64, IntKind.i64, IntKind.i64,
  IntKind.i64, IntKind.i64, IntKind.i64, IntKind.i64] rows), SV.lst x_2 rows_1.length ((2 : Nat)) (Rv.elemOf [IntKind.i64, IntKind.i64] rows_1), SV.i IntKind.i64 n, SV.i IntKind.i64 n_1, SV.i IntKind.i64 n_2, SV.i
  IntKind.i64 n_3, SV.i IntKind.i64 n_4, SV.i IntKind.i64 n_5, SV.i IntKind.i64 n_6, SV.i IntKind.i64 n_7, SV.i IntKind.i64 n_8, SV.i IntKind.i64 n_9, SV.i IntKind.i64 n_10, SV.i IntKind.i64 n_11, SV.i IntKind.i64 n_12,
  SV.i IntKind.i64 n_13, SV.i IntKind.i64 n_14, SV.i IntKind.i64 n_15, SV.i IntKind.i64 n_16, SV.i IntKind.i64 n_17, SV.i IntKind.i64 n_18, SV.i IntKind.i64 n_19, SV.i IntKind.i64 n_20, SV.i IntKind.i64 n_21, SV.i
  IntKind.i64 n_22, SV.i IntKind.i64 n_23, SV.i IntKind.i64 n_24, SV.i IntKind.i64 n_25, SV.i IntKind.i64 n_26]) → ∀ (x_3 : RV) (n_27 : Int), (IsLst B x_3 ((1 : Nat)) ((1 : Nat)) fun (x : Nat) ↦ [SV.i IntKind.i64 n_27]) →
  ∀ (x_4 : RV) (n_28 n_29 n_30 n_31 n_32 n_33 : Int), (IsLst B x_4 ((1 : Nat)) ((6 : Nat)) fun (x : Nat) ↦ [SV.i IntKind.i64 n_28, SV.i IntKind.i64 n_29, SV.i IntKind.i64 n_30, SV.i IntKind.i64 n_31, SV.i IntKind.i64 n_32,
  SV.i IntKind.i64 n_33]) → ∀ (x_5 : RV), ((True ∧ ((IsLst B x_5 ((1 : Nat)) ((1 : Nat)) fun (x : Nat) ↦ [SV.v (Value.int IntKind.i64 (Int.ofNat ((0 : Nat))))]) → ∀ (x_6 : RV) (n_34 n_35 : Int), (IsLst B x_6 ((1 : Nat))
  ((2 : Nat)) fun (x : Nat) ↦ [SV.i IntKind.i64 n_34, SV.i IntKind.i64 n_35]) → ∀ (x_7 : RV) (n_36 n_37 : Int), (IsLst B x_7 ((1 : Nat)) ((2 : Nat)) fun (x : Nat) ↦ [SV.i IntKind.i64 n_36, SV.i IntKind.i64 n_37]) → ∀ (x_8
  : RV) (n_38 n_39 : Int), (IsLst B x_8 ((1 : Nat)) ((2 : Nat)) fun (x : Nat) ↦ [SV.i IntKind.i64 n_38, SV.i IntKind.i64 n_39]) → NxtOk n_18 n_27 n_19 [n_28, n_29, n_30, n_31, n_32, n_33, n_34, n_35, n_36, n_37, n_38,
  n_39] → Ob ((IsLst B x ((1 : Nat)) ((29 : Nat)) fun (x : Nat) ↦ [SV.lst x_1 rows.length ((8 : Nat)) (Rv.elemOf [IntKind.i64, IntKind.i64, IntKind.i64, IntKind.i64, IntKind.i64, IntKind.i64, IntKind.i64, IntKind.i64]
  rows), SV.lst x_2 rows_1.length ((2 : Nat)) (Rv.elemOf [IntKind.i64, IntKind.i64] rows_1), SV.i IntKind.i64 n, SV.i IntKind.i64 n_1, SV.i IntKind.i64 n_2, SV.i IntKind.i64 n_3, SV.i IntKind.i64 n_4, SV.i IntKind.i64 n_5,
  SV.i IntKind.i64 n_6, SV.i IntKind.i64 n_7, SV.i IntKind.i64 n_8, SV.i IntKind.i64 n_9, SV.i IntKind.i64 n_10, SV.i IntKind.i64 n_11, SV.i IntKind.i64 n_12, SV.i IntKind.i64 n_13, SV.i IntKind.i64 n_14, SV.i IntKind.i64
  n_15, SV.i IntKind.i64 n_16, SV.i IntKind.i64 n_17, SV.i IntKind.i64 n_18, SV.i IntKind.i64 n_19, SV.i IntKind.i64 n_20, SV.i IntKind.i64 n_21, SV.i IntKind.i64 n_22, SV.i IntKind.i64 n_23, SV.i IntKind.i64 n_24, SV.i
  IntKind.i64 n_25, SV.i IntKind.i64 n_26]) ∧ (0 : Nat) < (1 : Nat)) ∧ Ob ((IsLst B x ((1 : Nat)) ((29 : Nat)) fun (x : Nat) ↦ [SV.lst x_1 rows.length ((8 : Nat)) (Rv.elemOf [IntKind.i64, IntKind.i64, IntKind.i64,
  IntKind.i64, IntKind.i64, IntKind.i64, IntKind.i64, IntKind.i64] rows), SV.lst x_2 rows_1.length ((2 : Nat)) (Rv.elemOf [IntKind.i64, IntKind.i64] rows_1), SV.i IntKind.i64 n, SV.i IntKind.i64 n_1, SV.i IntKind.i64 n_2,
  SV.i IntKind.i64 n_3, SV.i IntKind.i64 n_4, SV.i IntKind.i64 n_5, SV.i IntKind.i64 n_6, SV.i IntKind.i64 n_7, SV.i IntKind.i64 n_8, SV.i IntKind.i64 n_9, SV.i IntKind.i64 n_10, SV.i IntKind.i64 n_11, SV.i IntKind.i64
  n_12, SV.i IntKind.i64 n_13, SV.i IntKind.i64 n_14, SV.i IntKind.i64 n_15, SV.i IntKind.i64 n_16, SV.i IntKind.i64 n_17, SV.i IntKind.i64 n_18, SV.i IntKind.i64 n_19, SV.i IntKind.i64 n_20, SV.i IntKind.i64 n_21, SV.i
  IntKind.i64 n_22, SV.i IntKind.i64 n_23, SV.i IntKind.i64 n_24, SV.i IntKind.i64 n_25, SV.i IntKind.i64 n_26]) ∧ (0 : Nat) < (1 : Nat)) ∧ Ob ((IsLst B x ((1 : Nat)) ((29 : Nat)) fun (x : Nat) ↦ [SV.lst x_1 rows.length
  ((8 : Nat)) (Rv.elemOf [IntKind.i64, IntKind.i64, IntKind.i64, IntKind.i64, IntKind.i64, IntKind.i64, IntKind.i64, IntKind.i64] rows), SV.lst x_2 rows_1.length ((2 : Nat)) (Rv.elemOf [IntKind.i64, IntKind.i64] rows_1),
  SV.i IntKind.i64 n, SV.i IntKind.i64 n_1, SV.i IntKind.i64 n_2, SV.i IntKind.i64 n_3, SV.i IntKind.i64 n_4, SV.i IntKind.i64 n_5, SV.i IntKind.i64 n_6, SV.i IntKind.i64 n_7, SV.i IntKind.i64 n_8, SV.i IntKind.i64 n_9,
  SV.i IntKind.i64 n_10, SV.i IntKind.i64 n_11, SV.i IntKind.i64 n_12, SV.i IntKind.i64 n_13, SV.i IntKind.i64 n_14, SV.i IntKind.i64 n_15, SV.i IntKind.i64 n_16, SV.i IntKind.i64 n_17, SV.i IntKind.i64 n_18, SV.i
  IntKind.i64 n_19, SV.i IntKind.i64 n_20, SV.i IntKind.i64 n_21, SV.i IntKind.i64 n_22, SV.i IntKind.i64 n_23, SV.i IntKind.i64 n_24, SV.i IntKind.i64 n_25, SV.i IntKind.i64 n_26]) ∧ (0 : Nat) < (1 : Nat)) ∧ Ob ((IsLst B
  x_3 ((1 : Nat)) ((1 : Nat)) fun (x : Nat) ↦ [SV.i IntKind.i64 n_27]) ∧ (0 : Nat) < (1 : Nat)) ∧ Ob (InR IntKind.i64 (n_18 - n_27)) ∧ Ob ((IsLst B x_5 ((1 : Nat)) ((1 : Nat)) fun (x : Nat) ↦ [SV.v (Value.int IntKind.i64
  (Int.ofNat ((0 : Nat))))]) ∧ (0 : Nat) < (1 : Nat)) ∧ Ob ((IsLst B x_4 ((1 : Nat)) ((6 : Nat)) fun (x : Nat) ↦ [SV.i IntKind.i64 n_28, SV.i IntKind.i64 n_29, SV.i IntKind.i64 n_30, SV.i IntKind.i64 n_31, SV.i IntKind.i64
  n_32, SV.i IntKind.i64 n_33]) ∧ (0 : Nat) < (1 : Nat)) ∧ Ob ((IsLst B x_4 ((1 : Nat)) ((6 : Nat)) fun (x : Nat) ↦ [SV.i IntKind.i64 n_28, SV.i IntKind.i64 n_29, SV.i IntKind.i64 n_30, SV.i IntKind.i64 n_31, SV.i
  IntKind.i64 n_32, SV.i IntKind.i64 n_33]) ∧ (0 : Nat) < (1 : Nat)) ∧ Ob ((IsLst B x_4 ((1 : Nat)) ((6 : Nat)) fun (x : Nat) ↦ [SV.i IntKind.i64 n_28, SV.i IntKind.i64 n_29, SV.i IntKind.i64 n_30, SV.i IntKind.i64 n_31,
  SV.i IntKind.i64 n_32, SV.i IntKind.i64 n_33]) ∧ (0 : Nat) < (1 : Nat)) ∧ Ob (InR IntKind.i64 ((n_18 - n_27) * n_29)) ∧ Ob ((IsLst B x_3 ((1 : Nat)) ((1 : Nat)) fun (x : Nat) ↦ [SV.i IntKind.i64 n_27]) ∧ (0 : Nat) < (1 :
  Nat)) ∧ Ob ((IsLst B x_6 ((1 : Nat)) ((2 : Nat)) fun (x : Nat) ↦ [SV.i IntKind.i64 n_34, SV.i IntKind.i64 n_35]) ∧ (0 : Nat) < (1 : Nat)) ∧ Ob ((IsLst B x_6 ((1 : Nat)) ((2 : Nat)) fun (x : Nat) ↦ [SV.i IntKind.i64 n_34,
  SV.i IntKind.i64 n_35]) ∧ (0 : Nat) < (1 : Nat)) ∧ Ob (InR IntKind.i64 (n_27 * n_35)) ∧ Ob (InR IntKind.i64 ((n_18 - n_27) * n_29 + n_27 * n_35)) ∧ Ob ((IsLst B x ((1 : Nat)) ((29 : Nat)) fun (x : Nat) ↦ [SV.lst x_1
  rows.length ((8 : Nat)) (Rv.elemOf [IntKind.i64, IntKind.i64, IntKind.i64, IntKind.i64, IntKind.i64, IntKind.i64, IntKind.i64, IntKind.i64] rows), SV.lst x_2 rows_1.length ((2 : Nat)) (Rv.elemOf [IntKind.i64,
  IntKind.i64] rows_1), SV.i IntKind.i64 n, SV.i IntKind.i64 n_1, SV.i IntKind.i64 n_2, SV.i IntKind.i64 n_3, SV.i IntKind.i64 n_4, SV.i IntKind.i64 n_5, SV.i IntKind.i64 n_6, SV.i IntKind.i64 n_7, SV.i IntKind.i64 n_8,
  SV.i IntKind.i64 n_9, SV.i IntKind.i64 n_10, SV.i IntKind.i64 n_11, SV.i IntKind.i64 n_12, SV.i IntKind.i64 n_13, SV.i IntKind.i64 n_14, SV.i IntKind.i64 n_15, SV.i IntKind.i64 n_16, SV.i IntKind.i64 n_17, SV.i
  IntKind.i64 n_18, SV.i IntKind.i64 n_19, SV.i IntKind.i64 n_20, SV.i IntKind.i64 n_21, SV.i IntKind.i64 n_22, SV.i IntKind.i64 n_23, SV.i IntKind.i64 n_24, SV.i IntKind.i64 n_25, SV.i IntKind.i64 n_26]) ∧ (0 : Nat) < (1
  : Nat)) ∧ Ob ((IsLst B x ((1 : Nat)) ((29 : Nat)) fun (x : Nat) ↦ [SV.lst x_1 rows.length ((8 : Nat)) (Rv.elemOf [IntKind.i64, IntKind.i64, IntKind.i64, IntKind.i64, IntKind.i64, IntKind.i64, IntKind.i64, IntKind.i64]
  rows), SV.lst x_2 rows_1.length ((2 : Nat)) (Rv.elemOf [IntKind.i64, IntKind.i64] rows_1), SV.i IntKind.i64 n, SV.i IntKind.i64 n_1, SV.i IntKind.i64 n_2, SV.i IntKind.i64 n_3, SV.i IntKind.i64 n_4, SV.i IntKind.i64 n_5,
  SV.i IntKind.i64 n_6, SV.i IntKind.i64 n_7, SV.i IntKind.i64 n_8, SV.i IntKind.i64 n_9, SV.i IntKind.i64 n_10, SV.i IntKind.i64 n_11, SV.i IntKind.i64 n_12, SV.i IntKind.i64 n_13, SV.i IntKind.i64 n_14, SV.i IntKind.i64
  n_15, SV.i IntKind.i64 n_16, SV.i IntKind.i64 n_17, SV.i IntKind.i64 n_18, SV.i IntKind.i64 n_19, SV.i IntKind.i64 n_20, SV.i IntKind.i64 n_21, SV.i IntKind.i64 n_22, SV.i IntKind.i64 n_23, SV.i IntKind.i64 n_24, SV.i
  IntKind.i64 n_25, SV.i IntKind.i64 n_26]) ∧ (0 : Nat) < (1 : Nat)) ∧ Ob ((IsLst B x ((1 : Nat)) ((29 : Nat)) fun (x : Nat) ↦ [SV.lst x_1 rows.length ((8 : Nat)) (Rv.elemOf [IntKind.i64, IntKind.i64, IntKind.i64,
  IntKind.i64, IntKind.i64, IntKind.i64, IntKind.i64, IntKind.i64] rows), SV.lst x_2 rows_1.length ((2 : Nat)) (Rv.elemOf [IntKind.i64, IntKind.i64] rows_1), SV.i IntKind.i64 n, SV.i IntKind.i64 n_1, SV.i IntKind.i64 n_2,
  SV.i IntKind.i64 n_3, SV.i IntKind.i64 n_4, SV.i IntKind.i64 n_5, SV.i IntKind.i64 n_6, SV.i IntKind.i64 n_7, SV.i IntKind.i64 n_8, SV.i IntKind.i64 n_9, SV.i IntKind.i64 n_10, SV.i IntKind.i64 n_11, SV.i IntKind.i64
  n_12, SV.i IntKind.i64 n_13, SV.i IntKind.i64 n_14, SV.i IntKind.i64 n_15, SV.i IntKind.i64 n_16, SV.i IntKind.i64 n_17, SV.i IntKind.i64 n_18, SV.i IntKind.i64 n_19, SV.i IntKind.i64 n_20, SV.i IntKind.i64 n_21, SV.i
  IntKind.i64 n_22, SV.i IntKind.i64 n_23, SV.i IntKind.i64 n_24, SV.i IntKind.i64 n_25, SV.i IntKind.i64 n_26]) ∧ (0 : Nat) < (1 : Nat)) ∧ Ob ((IsLst B x_7 ((1 : Nat)) ((2 : Nat)) fun (x : Nat) ↦ [SV.i IntKind.i64 n_36,
  SV.i IntKind.i64 n_37]) ∧ (0 : Nat) < (1 : Nat)) ∧ Ob ((IsLst B x_7 ((1 : Nat)) ((2 : Nat)) fun (x : Nat) ↦ [SV.i IntKind.i64 n_36, SV.i IntKind.i64 n_37]) ∧ (0 : Nat) < (1 : Nat)) ∧ Ob (InR IntKind.i64 (n_18 * n_37)) ∧
  Ob (InR IntKind.i64 ((n_18 - n_27) * n_29 + n_27 * n_35 + n_18 * n_37)) ∧ Ob (InR IntKind.i64 ((1000 : Int) * ((n_18 - n_27) * n_29 + n_27 * n_35 + n_18 * n_37))) ∧ Ob ((IsLst B x_8 ((1 : Nat)) ((2 : Nat)) fun (x : Nat)
  ↦ [SV.i IntKind.i64 n_38, SV.i IntKind.i64 n_39]) ∧ (0 : Nat) < (1 : Nat)) ∧ Ob ((IsLst B x_8 ((1 : Nat)) ((2 : Nat)) fun (x : Nat) ↦ [SV.i IntKind.i64 n_38, SV.i IntKind.i64 n_39]) ∧ (0 : Nat) < (1 : Nat)) ∧ Ob ((IsLst
  B x ((1 : Nat)) ((29 : Nat)) fun (x : Nat) ↦ [SV.lst x_1 rows.length ((8 : Nat)) (Rv.elemOf [IntKind.i64, IntKind.i64, IntKind.i64, IntKind.i64, IntKind.i64, IntKind.i64, IntKind.i64, IntKind.i64] rows), SV.lst x_2
  rows_1.length ((2 : Nat)) (Rv.elemOf [IntKind.i64, IntKind.i64] rows_1), SV.i IntKind.i64 n, SV.i IntKind.i64 n_1, SV.i IntKind.i64 n_2, SV.i IntKind.i64 n_3, SV.i IntKind.i64 n_4, SV.i IntKind.i64 n_5, SV.i IntKind.i64
  n_6, SV.i IntKind.i64 n_7, SV.i IntKind.i64 n_8, SV.i IntKind.i64 n_9, SV.i IntKind.i64 n_10, SV.i IntKind.i64 n_11, SV.i IntKind.i64 n_12, SV.i IntKind.i64 n_13, SV.i IntKind.i64 n_14, SV.i IntKind.i64 n_15, SV.i
  IntKind.i64 n_16, SV.i IntKind.i64 n_17, SV.i IntKind.i64 n_18, SV.i IntKind.i64 n_19, SV.i IntKind.i64 n_20, SV.i IntKind.i64 n_21, SV.i IntKind.i64 n_22, SV.i IntKind.i64 n_23, SV.i IntKind.i64 n_24, SV.i IntKind.i64
  n_25, SV.i IntKind.i64 n_26]) ∧ (0 : Nat) < (1 : Nat)) ∧ Ob ((IsLst B x ((1 : Nat)) ((29 : Nat)) fun (x : Nat) ↦ [SV.lst x_1 rows.length ((8 : Nat)) (Rv.elemOf [IntKind.i64, IntKind.i64, IntKind.i64, IntKind.i64,
  IntKind.i64, IntKind.i64, IntKind.i64, IntKind.i64] rows), SV.lst x_2 rows_1.length ((2 : Nat)) (Rv.elemOf [IntKind.i64, IntKind.i64] rows_1), SV.i IntKind.i64 n, SV.i IntKind.i64 n_1, SV.i IntKind.i64 n_2, SV.i
  IntKind.i64 n_3, SV.i IntKind.i64 n_4, SV.i IntKind.i64 n_5, SV.i IntKind.i64 n_6, SV.i IntKind.i64 n_7, SV.i IntKind.i64 n_8, SV.i IntKind.i64 n_9, SV.i IntKind.i64 n_10, SV.i IntKind.i64 n_11, SV.i IntKind.i64 n_12,
  SV.i IntKind.i64 n_13, SV.i IntKind.i64 n_14, SV.i IntKind.i64 n_15, SV.i IntKind.i64 n_16, SV.i IntKind.i64 n_17, SV.i IntKind.i64 n_18, SV.i IntKind.i64 n_19, SV.i IntKind.i64 n_20, SV.i IntKind.i64 n_21, SV.i
  IntKind.i64 n_22, SV.i IntKind.i64 n_23, SV.i IntKind.i64 n_24, SV.i IntKind.i64 n_25, SV.i IntKind.i64 n_26]) ∧ (0 : Nat) < (1 : Nat)) ∧ Ob ((IsLst B x ((1 : Nat)) ((29 : Nat)) fun (x : Nat) ↦ [SV.lst x_1 rows.length
  ((8 : Nat)) (Rv.elemOf [IntKind.i64, IntKind.i64, IntKind.i64, IntKind.i64, IntKind.i64, IntKind.i64, IntKind.i64, IntKind.i64] rows), SV.lst x_2 rows_1.length ((2 : Nat)) (Rv.elemOf [IntKind.i64, IntKind.i64] rows_1),
  SV.i IntKind.i64 n, SV.i IntKind.i64 n_1, SV.i IntKind.i64 n_2, SV.i IntKind.i64 n_3, SV.i IntKind.i64 n_4, SV.i IntKind.i64 n_5, SV.i IntKind.i64 n_6, SV.i IntKind.i64 n_7, SV.i IntKind.i64 n_8, SV.i IntKind.i64 n_9,
  SV.i IntKind.i64 n_10, SV.i IntKind.i64 n_11, SV.i IntKind.i64 n_12, SV.i IntKind.i64 n_13, SV.i IntKind.i64 n_14, SV.i IntKind.i64 n_15, SV.i IntKind.i64 n_16, SV.i IntKind.i64 n_17, SV.i IntKind.i64 n_18, SV.i
  IntKind.i64 n_19, SV.i IntKind.i64 n_20, SV.i IntKind.i64 n_21, SV.i IntKind.i64 n_22, SV.i IntKind.i64 n_23, SV.i IntKind.i64 n_24, SV.i IntKind.i64 n_25, SV.i IntKind.i64 n_26]) ∧ (0 : Nat) < (1 : Nat)) ∧ Ob (InR
  IntKind.i64 (n_39 * n_19)) ∧ Ob (InR IntKind.i64 ((1000 : Int) * ((n_18 - n_27) * n_29 + n_27 * n_35 + n_18 * n_37) + n_39 * n_19)) ∧ Ob ((1000 : Int) * ((n_18 - n_27) * n_29 + n_27 * n_35 + n_18 * n_37) + n_39 * n_19 =
  wTot n_18 n_27 n_19 (pick6 (Int.ofNat ((0 : Nat))) (Int.ofNat ((1 : Nat))) n_28 n_29 n_30 n_31 n_32 n_33) (pick2 (Int.ofNat ((1 : Nat))) n_34 n_35) (pick2 (Int.ofNat ((1 : Nat))) n_36 n_37) (pick2 (Int.ofNat ((1 : Nat)))
  n_38 n_39)) ∧ True)) ∧ ((IsLst B x_5 ((1 : Nat)) ((1 : Nat)) fun (x : Nat) ↦ [SV.v (Value.int IntKind.i64 (Int.ofNat ((1 : Nat))))]) → ∀ (x_6 : RV) (n_34 n_35 : Int), (IsLst B x_6 ((1 : Nat)) ((2 : Nat)) fun (x : Nat) ↦
  [SV.i IntKind.i64 n_34, SV.i IntKind.i64 n_35]) → ∀ (x_7 : RV) (n_36 n_37 : Int), (IsLst B x_7 ((1 : Nat)) ((2 : Nat)) fun (x : Nat) ↦ [SV.i IntKind.i64 n_36, SV.i IntKind.i64 n_37]) → ∀ (x_8 : RV) (n_38 n_39 : Int),
  (IsLst B x_8 ((1 : Nat)) ((2 : Nat)) fun (x : Nat) ↦ [SV.i IntKind.i64 n_38, SV.i IntKind.i64 n_39]) → NxtOk n_18 n_27 n_19 [n_28, n_29, n_30, n_31, n_32, n_33, n_34, n_35, n_36, n_37, n_38, n_39] → Ob ((IsLst B x ((1 :
  Nat)) ((29 : Nat)) fun (x : Nat) ↦ [SV.lst x_1 rows.length ((8 : Nat)) (Rv.elemOf [IntKind.i64, IntKind.i64, IntKind.i64, IntKind.i64, IntKind.i64, IntKind.i64, IntKind.i64, IntKind.i64] rows), SV.lst x_2 rows_1.length
  ((2 : Nat)) (Rv.elemOf [IntKind.i64, IntKind.i64] rows_1), SV.i IntKind.i64 n, SV.i IntKind.i64 n_1, SV.i IntKind.i64 n_2, SV.i IntKind.i64 n_3, SV.i IntKind.i64 n_4, SV.i IntKind.i64 n_5, SV.i IntKind.i64 n_6, SV.i
  IntKind.i64 n_7, SV.i IntKind.i64 n_8, SV.i IntKind.i64 n_9, SV.i IntKind.i64 n_10, SV.i IntKind.i64 n_11, SV.i IntKind.i64 n_12, SV.i IntKind.i64 n_13, SV.i IntKind.i64 n_14, SV.i IntKind.i64 n_15, SV.i IntKind.i64
  n_16, SV.i IntKind.i64 n_17, SV.i IntKind.i64 n_18, SV.i IntKind.i64 n_19, SV.i IntKind.i64 n_20, SV.i IntKind.i64 n_21, SV.i IntKind.i64 n_22, SV.i IntKind.i64 n_23, SV.i IntKind.i64 n_24, SV.i IntKind.i64 n_25, SV.i
  IntKind.i64 n_26]) ∧ (0 : Nat) < (1 : Nat)) ∧ Ob ((IsLst B x ((1 : Nat)) ((29 : Nat)) fun (x : Nat) ↦ [SV.lst x_1 rows.length ((8 : Nat)) (Rv.elemOf [IntKind.i64, IntKind.i64, IntKind.i64, IntKind.i64, IntKind.i64,
  IntKind.i64, IntKind.i64, IntKind.i64] rows), SV.lst x_2 rows_1.length ((2 : Nat)) (Rv.elemOf [IntKind.i64, IntKind.i64] rows_1), SV.i IntKind.i64 n, SV.i IntKind.i64 n_1, SV.i IntKind.i64 n_2, SV.i IntKind.i64 n_3, SV.i
  IntKind.i64 n_4, SV.i IntKind.i64 n_5, SV.i IntKind.i64 n_6, SV.i IntKind.i64 n_7, SV.i IntKind.i64 n_8, SV.i IntKind.i64 n_9, SV.i IntKind.i64 n_10, SV.i IntKind.i64 n_11, SV.i IntKind.i64 n_12, SV.i IntKind.i64 n_13,
  SV.i IntKind.i64 n_14, SV.i IntKind.i64 n_15, SV.i IntKind.i64 n_16, SV.i IntKind.i64 n_17, SV.i IntKind.i64 n_18, SV.i IntKind.i64 n_19, SV.i IntKind.i64 n_20, SV.i IntKind.i64 n_21, SV.i IntKind.i64 n_22, SV.i
  IntKind.i64 n_23, SV.i IntKind.i64 n_24, SV.i IntKind.i64 n_25, SV.i IntKind.i64 n_26]) ∧ (0 : Nat) < (1 : Nat)) ∧ Ob ((IsLst B x ((1 : Nat)) ((29 : Nat)) fun (x : Nat) ↦ [SV.lst x_1 rows.length ((8 : Nat)) (Rv.elemOf
  [IntKind.i64, IntKind.i64, IntKind.i64, IntKind.i64, IntKind.i64, IntKind.i64, IntKind.i64, IntKind.i64] rows), SV.lst x_2 rows_1.length ((2 : Nat)) (Rv.elemOf [IntKind.i64, IntKind.i64] rows_1), SV.i IntKind.i64 n, SV.i
  IntKind.i64 n_1, SV.i IntKind.i64 n_2, SV.i IntKind.i64 n_3, SV.i IntKind.i64 n_4, SV.i IntKind.i64 n_5, SV.i IntKind.i64 n_6, SV.i IntKind.i64 n_7, SV.i IntKind.i64 n_8, SV.i IntKind.i64 n_9, SV.i IntKind.i64 n_10, SV.i
  IntKind.i64 n_11, SV.i IntKind.i64 n_12, SV.i IntKind.i64 n_13, SV.i IntKind.i64 n_14, SV.i IntKind.i64 n_15, SV.i IntKind.i64 n_16, SV.i IntKind.i64 n_17, SV.i IntKind.i64 n_18, SV.i IntKind.i64 n_19, SV.i IntKind.i64
  n_20, SV.i IntKind.i64 n_21, SV.i IntKind.i64 n_22, SV.i IntKind.i64 n_23, SV.i IntKind.i64 n_24, SV.i IntKind.i64 n_25, SV.i IntKind.i64 n_26]) ∧ (0 : Nat) < (1 : Nat)) ∧ Ob ((IsLst B x_3 ((1 : Nat)) ((1 : Nat)) fun (x
  : Nat) ↦ [SV.i IntKind.i64 n_27]) ∧ (0 : Nat) < (1 : Nat)) ∧ Ob (InR IntKind.i64 (n_18 - n_27)) ∧ Ob ((IsLst B x_5 ((1 : Nat)) ((1 : Nat)) fun (x : Nat) ↦ [SV.v (Value.int IntKind.i64 (Int.ofNat ((1 : Nat))))]) ∧ (0 :
  Nat) < (1 : Nat)) ∧ Ob ((IsLst B x_4 ((1 : Nat)) ((6 : Nat)) fun (x : Nat) ↦ [SV.i IntKind.i64 n_28, SV.i IntKind.i64 n_29, SV.i IntKind.i64 n_30, SV.i IntKind.i64 n_31, SV.i IntKind.i64 n_32, SV.i IntKind.i64 n_33]) ∧
  (0 : Nat) < (1 : Nat)) ∧ Ob ((IsLst B x_4 ((1 : Nat)) ((6 : Nat)) fun (x : Nat) ↦ [SV.i IntKind.i64 n_28, SV.i IntKind.i64 n_29, SV.i IntKind.i64 n_30, SV.i IntKind.i64 n_31, SV.i IntKind.i64 n_32, SV.i IntKind.i64
  n_33]) ∧ (0 : Nat) < (1 : Nat)) ∧ Ob ((IsLst B x_4 ((1 : Nat)) ((6 : Nat)) fun (x : Nat) ↦ [SV.i IntKind.i64 n_28, SV.i IntKind.i64 n_29, SV.i IntKind.i64 n_30, SV.i IntKind.i64 n_31, SV.i IntKind.i64 n_32, SV.i
  IntKind.i64 n_33]) ∧ (0 : Nat) < (1 : Nat)) ∧ Ob (InR IntKind.i64 ((n_18 - n_27) * n_31)) ∧ Ob ((IsLst B x_3 ((1 : Nat)) ((1 : Nat)) fun (x : Nat) ↦ [SV.i IntKind.i64 n_27]) ∧ (0 : Nat) < (1 : Nat)) ∧ Ob ((IsLst B x_6
  ((1 : Nat)) ((2 : Nat)) fun (x : Nat) ↦ [SV.i IntKind.i64 n_34, SV.i IntKind.i64 n_35]) ∧ (0 : Nat) < (1 : Nat)) ∧ Ob ((IsLst B x_6 ((1 : Nat)) ((2 : Nat)) fun (x : Nat) ↦ [SV.i IntKind.i64 n_34, SV.i IntKind.i64 n_35])
  ∧ (0 : Nat) < (1 : Nat)) ∧ Ob (InR IntKind.i64 (n_27 * n_35)) ∧ Ob (InR IntKind.i64 ((n_18 - n_27) * n_31 + n_27 * n_35)) ∧ Ob ((IsLst B x ((1 : Nat)) ((29 : Nat)) fun (x : Nat) ↦ [SV.lst x_1 rows.length ((8 : Nat))
  (Rv.elemOf [IntKind.i64, IntKind.i64, IntKind.i64, IntKind.i64, IntKind.i64, IntKind.i64, IntKind.i64, IntKind.i64] rows), SV.lst x_2 rows_1.length ((2 : Nat)) (Rv.elemOf [IntKind.i64, IntKind.i64] rows_1), SV.i
  IntKind.i64 n, SV.i IntKind.i64 n_1, SV.i IntKind.i64 n_2, SV.i IntKind.i64 n_3, SV.i IntKind.i64 n_4, SV.i IntKind.i64 n_5, SV.i IntKind.i64 n_6, SV.i IntKind.i64 n_7, SV.i IntKind.i64 n_8, SV.i IntKind.i64 n_9, SV.i
  IntKind.i64 n_10, SV.i IntKind.i64 n_11, SV.i IntKind.i64 n_12, SV.i IntKind.i64 n_13, SV.i IntKind.i64 n_14, SV.i IntKind.i64 n_15, SV.i IntKind.i64 n_16, SV.i IntKind.i64 n_17, SV.i IntKind.i64 n_18, SV.i IntKind.i64
  n_19, SV.i IntKind.i64 n_20, SV.i IntKind.i64 n_21, SV.i IntKind.i64 n_22, SV.i IntKind.i64 n_23, SV.i IntKind.i64 n_24, SV.i IntKind.i64 n_25, SV.i IntKind.i64 n_26]) ∧ (0 : Nat) < (1 : Nat)) ∧ Ob ((IsLst B x ((1 :
  Nat)) ((29 : Nat)) fun (x : Nat) ↦ [SV.lst x_1 rows.length ((8 : Nat)) (Rv.elemOf [IntKind.i64, IntKind.i64, IntKind.i64, IntKind.i64, IntKind.i64, IntKind.i64, IntKind.i64, IntKind.i64] rows), SV.lst x_2 rows_1.length
  ((2 : Nat)) (Rv.elemOf [IntKind.i64, IntKind.i64] rows_1), SV.i IntKind.i64 n, SV.i IntKind.i64 n_1, SV.i IntKind.i64 n_2, SV.i IntKind.i64 n_3, SV.i IntKind.i64 n_4, SV.i IntKind.i64 n_5, SV.i IntKind.i64 n_6, SV.i
  IntKind.i64 n_7, SV.i IntKind.i64 n_8, SV.i IntKind.i64 n_9, SV.i IntKind.i64 n_10, SV.i IntKind.i64 n_11, SV.i IntKind.i64 n_12, SV.i IntKind.i64 n_13, SV.i IntKind.i64 n_14, SV.i IntKind.i64 n_15, SV.i IntKind.i64
  n_16, SV.i IntKind.i64 n_17, SV.i IntKind.i64 n_18, SV.i IntKind.i64 n_19, SV.i IntKind.i64 n_20, SV.i IntKind.i64 n_21, SV.i IntKind.i64 n_22, SV.i IntKind.i64 n_23, SV.i IntKind.i64 n_24, SV.i IntKind.i64 n_25, SV.i
  IntKind.i64 n_26]) ∧ (0 : Nat) < (1 : Nat)) ∧ Ob ((IsLst B x ((1 : Nat)) ((29 : Nat)) fun (x : Nat) ↦ [SV.lst x_1 rows.length ((8 : Nat)) (Rv.elemOf [IntKind.i64, IntKind.i64, IntKind.i64, IntKind.i64, IntKind.i64,
  IntKind.i64, IntKind.i64, IntKind.i64] rows), SV.lst x_2 rows_1.length ((2 : Nat)) (Rv.elemOf [IntKind.i64, IntKind.i64] rows_1), SV.i IntKind.i64 n, SV.i IntKind.i64 n_1, SV.i IntKind.i64 n_2, SV.i IntKind.i64 n_3, SV.i
  IntKind.i64 n_4, SV.i IntKind.i64 n_5, SV.i IntKind.i64 n_6, SV.i IntKind.i64 n_7, SV.i IntKind.i64 n_8, SV.i IntKind.i64 n_9, SV.i IntKind.i64 n_10, SV.i IntKind.i64 n_11, SV.i IntKind.i64 n_12, SV.i IntKind.i64 n_13,
  SV.i IntKind.i64 n_14, SV.i IntKind.i64 n_15, SV.i IntKind.i64 n_16, SV.i IntKind.i64 n_17, SV.i IntKind.i64 n_18, SV.i IntKind.i64 n_19, SV.i IntKind.i64 n_20, SV.i IntKind.i64 n_21, SV.i IntKind.i64 n_22, SV.i
  IntKind.i64 n_23, SV.i IntKind.i64 n_24, SV.i IntKind.i64 n_25, SV.i IntKind.i64 n_26]) ∧ (0 : Nat) < (1 : Nat)) ∧ Ob ((IsLst B x_7 ((1 : Nat)) ((2 : Nat)) fun (x : Nat) ↦ [SV.i IntKind.i64 n_36, SV.i IntKind.i64 n_37])
  ∧ (0 : Nat) < (1 : Nat)) ∧ Ob ((IsLst B x_7 ((1 : Nat)) ((2 : Nat)) fun (x : Nat) ↦ [SV.i IntKind.i64 n_36, SV.i IntKind.i64 n_37]) ∧ (0 : Nat) < (1 : Nat)) ∧ Ob (InR IntKind.i64 (n_18 * n_37)) ∧ Ob (InR IntKind.i64
  ((n_18 - n_27) * n_31 + n_27 * n_35 + n_18 * n_37)) ∧ Ob (InR IntKind.i64 ((1000 : Int) * ((n_18 - n_27) * n_31 + n_27 * n_35 + n_18 * n_37))) ∧ Ob ((IsLst B x_8 ((1 : Nat)) ((2 : Nat)) fun (x : Nat) ↦ [SV.i IntKind.i64
  n_38, SV.i IntKind.i64 n_39]) ∧ (0 : Nat) < (1 : Nat)) ∧ Ob ((IsLst B x_8 ((1 : Nat)) ((2 : Nat)) fun (x : Nat) ↦ [SV.i IntKind.i64 n_38, SV.i IntKind.i64 n_39]) ∧ (0 : Nat) < (1 : Nat)) ∧ Ob ((IsLst B x ((1 : Nat)) ((29
  : Nat)) fun (x : Nat) ↦ [SV.lst x_1 rows.length ((8 : Nat)) (Rv.elemOf [IntKind.i64, IntKind.i64, IntKind.i64, IntKind.i64, IntKind.i64, IntKind.i64, IntKind.i64, IntKind.i64] rows), SV.lst x_2 rows_1.length ((2 : Nat))
  (Rv.elemOf [IntKind.i64, IntKind.i64] rows_1), SV.i IntKind.i64 n, SV.i IntKind.i64 n_1, SV.i IntKind.i64 n_2, SV.i IntKind.i64 n_3, SV.i IntKind.i64 n_4, SV.i IntKind.i64 n_5, SV.i IntKind.i64 n_6, SV.i IntKind.i64 n_7,
  SV.i IntKind.i64 n_8, SV.i IntKind.i64 n_9, SV.i IntKind.i64 n_10, SV.i IntKind.i64 n_11, SV.i IntKind.i64 n_12, SV.i IntKind.i64 n_13, SV.i IntKind.i64 n_14, SV.i IntKind.i64 n_15, SV.i IntKind.i64 n_16, SV.i
  IntKind.i64 n_17, SV.i IntKind.i64 n_18, SV.i IntKind.i64 n_19, SV.i IntKind.i64 n_20, SV.i IntKind.i64 n_21, SV.i IntKind.i64 n_22, SV.i IntKind.i64 n_23, SV.i IntKind.i64 n_24, SV.i IntKind.i64 n_25, SV.i IntKind.i64
  n_26]) ∧ (0 : Nat) < (1 : Nat)) ∧ Ob ((IsLst B x ((1 : Nat)) ((29 : Nat)) fun (x : Nat) ↦ [SV.lst x_1 rows.length ((8 : Nat)) (Rv.elemOf [IntKind.i64, IntKind.i64, IntKind.i64, IntKind.i64, IntKind.i64, IntKind.i64,
  IntKind.i64, IntKind.i64] rows), SV.lst x_2 rows_1.length ((2 : Nat)) (Rv.elemOf [IntKind.i64, IntKind.i64] rows_1), SV.i IntKind.i64 n, SV.i IntKind.i64 n_1, SV.i IntKind.i64 n_2, SV.i IntKind.i64 n_3, SV.i IntKind.i64
  n_4, SV.i IntKind.i64 n_5, SV.i IntKind.i64 n_6, SV.i IntKind.i64 n_7, SV.i IntKind.i64 n_8, SV.i IntKind.i64 n_9, SV.i IntKind.i64 n_10, SV.i IntKind.i64 n_11, SV.i IntKind.i64 n_12, SV.i IntKind.i64 n_13, SV.i
  IntKind.i64 n_14, SV.i IntKind.i64 n_15, SV.i IntKind.i64 n_16, SV.i IntKind.i64 n_17, SV.i IntKind.i64 n_18, SV.i IntKind.i64 n_19, SV.i IntKind.i64 n_20, SV.i IntKind.i64 n_21, SV.i IntKind.i64 n_22, SV.i IntKind.i64
  n_23, SV.i IntKind.i64 n_24, SV.i IntKind.i64 n_25, SV.i IntKind.i64 n_26]) ∧ (0 : Nat) < (1 : Nat)) ∧ Ob ((IsLst B x ((1 : Nat)) ((29 : Nat)) fun (x : Nat) ↦ [SV.lst x_1 rows.length ((8 : Nat)) (Rv.elemOf [IntKind.i64,
  IntKind.i64, IntKind.i64, IntKind.i64, IntKind.i64, IntKind.i64, IntKind.i64, IntKind.i64] rows), SV.lst x_2 rows_1.length ((2 : Nat)) (Rv.elemOf [IntKind.i64, IntKind.i64] rows_1), SV.i IntKind.i64 n, SV.i IntKind.i64
  n_1, SV.i IntKind.i64 n_2, SV.i IntKind.i64 n_3, SV.i IntKind.i64 n_4, SV.i IntKind.i64 n_5, SV.i IntKind.i64 n_6, SV.i IntKind.i64 n_7, SV.i IntKind.i64 n_8, SV.i IntKind.i64 n_9, SV.i IntKind.i64 n_10, SV.i IntKind.i64
  n_11, SV.i IntKind.i64 n_12, SV.i IntKind.i64 n_13, SV.i IntKind.i64 n_14, SV.i IntKind.i64 n_15, SV.i IntKind.i64 n_16, SV.i IntKind.i64 n_17, SV.i IntKind.i64 n_18, SV.i IntKind.i64 n_19, SV.i IntKind.i64 n_20, SV.i
  IntKind.i64 n_21, SV.i IntKind.i64 n_22, SV.i IntKind.i64 n_23, SV.i IntKind.i64 n_24, SV.i IntKind.i64 n_25, SV.i IntKind.i64 n_26]) ∧ (0 : Nat) < (1 : Nat)) ∧ Ob (InR IntKind.i64 (n_39 * n_19)) ∧ Ob (InR IntKind.i64
  ((1000 : Int) * ((n_18 - n_27) * n_31 + n_27 * n_35 + n_18 * n_37) + n_39 * n_19)) ∧ Ob ((1000 : Int) * ((n_18 - n_27) * n_31 + n_27 * n_35 + n_18 * n_37) + n_39 * n_19 = wTot n_18 n_27 n_19 (pick6 (Int.ofNat ((1 :
  Nat))) (Int.ofNat ((1 : Nat))) n_28 n_29 n_30 n_31 n_32 n_33) (pick2 (Int.ofNat ((1 : Nat))) n_34 n_35) (pick2 (Int.ofNat ((1 : Nat))) n_36 n_37) (pick2 (Int.ofNat ((1 : Nat))) n_38 n_39)) ∧ True)) ∧ ((IsLst B x_5 ((1 :
  Nat)) ((1 : Nat)) fun (x : Nat) ↦ [SV.v (Value.int IntKind.i64 (Int.ofNat ((2 : Nat))))]) → ∀ (x_6 : RV) (n_34 n_35 : Int), (IsLst B x_6 ((1 : Nat)) ((2 : Nat)) fun (x : Nat) ↦ [SV.i IntKind.i64 n_34, SV.i IntKind.i64
  n_35]) → ∀ (x_7 : RV) (n_36 n_37 : Int), (IsLst B x_7 ((1 : Nat)) ((2 : Nat)) fun (x : Nat) ↦ [SV.i IntKind.i64 n_36, SV.i IntKind.i64 n_37]) → ∀ (x_8 : RV) (n_38 n_39 : Int), (IsLst B x_8 ((1 : Nat)) ((2 : Nat)) fun (x
  : Nat) ↦ [SV.i IntKind.i64 n_38, SV.i IntKind.i64 n_39]) → NxtOk n_18 n_27 n_19 [n_28, n_29, n_30, n_31, n_32, n_33, n_34, n_35, n_36, n_37, n_38, n_39] → Ob ((IsLst B x ((1 : Nat)) ((29 : Nat)) fun (x : Nat) ↦ [SV.lst
  x_1 rows.length ((8 : Nat)) (Rv.elemOf [IntKind.i64, IntKind.i64, IntKind.i64, IntKind.i64, IntKind.i64, IntKind.i64, IntKind.i64, IntKind.i64] rows), SV.lst x_2 rows_1.length ((2 : Nat)) (Rv.elemOf [IntKind.i64,
  IntKind.i64] rows_1), SV.i IntKind.i64 n, SV.i IntKind.i64 n_1, SV.i IntKind.i64 n_2, SV.i IntKind.i64 n_3, SV.i IntKind.i64 n_4, SV.i IntKind.i64 n_5, SV.i IntKind.i64 n_6, SV.i IntKind.i64 n_7, SV.i IntKind.i64 n_8,
  SV.i IntKind.i64 n_9, SV.i IntKind.i64 n_10, SV.i IntKind.i64 n_11, SV.i IntKind.i64 n_12, SV.i IntKind.i64 n_13, SV.i IntKind.i64 n_14, SV.i IntKind.i64 n_15, SV.i IntKind.i64 n_16, SV.i IntKind.i64 n_17, SV.i
  IntKind.i64 n_18, SV.i IntKind.i64 n_19, SV.i IntKind.i64 n_20, SV.i IntKind.i64 n_21, SV.i IntKind.i64 n_22, SV.i IntKind.i64 n_23, SV.i IntKind.i64 n_24, SV.i IntKind.i64 n_25, SV.i IntKind.i64 n_26]) ∧ (0 : Nat) < (1
  : Nat)) ∧ Ob ((IsLst B x ((1 : Nat)) ((29 : Nat)) fun (x : Nat) ↦ [SV.lst x_1 rows.length ((8 : Nat)) (Rv.elemOf [IntKind.i64, IntKind.i64, IntKind.i64, IntKind.i64, IntKind.i64, IntKind.i64, IntKind.i64, IntKind.i64]
  rows), SV.lst x_2 rows_1.length ((2 : Nat)) (Rv.elemOf [IntKind.i64, IntKind.i64] rows_1), SV.i IntKind.i64 n, SV.i IntKind.i64 n_1, SV.i IntKind.i64 n_2, SV.i IntKind.i64 n_3, SV.i IntKind.i64 n_4, SV.i IntKind.i64 n_5,
  SV.i IntKind.i64 n_6, SV.i IntKind.i64 n_7, SV.i IntKind.i64 n_8, SV.i IntKind.i64 n_9, SV.i IntKind.i64 n_10, SV.i IntKind.i64 n_11, SV.i IntKind.i64 n_12, SV.i IntKind.i64 n_13, SV.i IntKind.i64 n_14, SV.i IntKind.i64
  n_15, SV.i IntKind.i64 n_16, SV.i IntKind.i64 n_17, SV.i IntKind.i64 n_18, SV.i IntKind.i64 n_19, SV.i IntKind.i64 n_20, SV.i IntKind.i64 n_21, SV.i IntKind.i64 n_22, SV.i IntKind.i64 n_23, SV.i IntKind.i64 n_24, SV.i
  IntKind.i64 n_25, SV.i IntKind.i64 n_26]) ∧ (0 : Nat) < (1 : Nat)) ∧ Ob ((IsLst B x ((1 : Nat)) ((29 : Nat)) fun (x : Nat) ↦ [SV.lst x_1 rows.length ((8 : Nat)) (Rv.elemOf [IntKind.i64, IntKind.i64, IntKind.i64,
  IntKind.i64, IntKind.i64, IntKind.i64, IntKind.i64, IntKind.i64] rows), SV.lst x_2 rows_1.length ((2 : Nat)) (Rv.elemOf [IntKind.i64, IntKind.i64] rows_1), SV.i IntKind.i64 n, SV.i IntKind.i64 n_1, SV.i IntKind.i64 n_2,
  SV.i IntKind.i64 n_3, SV.i IntKind.i64 n_4, SV.i IntKind.i64 n_5, SV.i IntKind.i64 n_6, SV.i IntKind.i64 n_7, SV.i IntKind.i64 n_8, SV.i IntKind.i64 n_9, SV.i IntKind.i64 n_10, SV.i IntKind.i64 n_11, SV.i IntKind.i64
  n_12, SV.i IntKind.i64 n_13, SV.i IntKind.i64 n_14, SV.i IntKind.i64 n_15, SV.i IntKind.i64 n_16, SV.i IntKind.i64 n_17, SV.i IntKind.i64 n_18, SV.i IntKind.i64 n_19, SV.i IntKind.i64 n_20, SV.i IntKind.i64 n_21, SV.i
  IntKind.i64 n_22, SV.i IntKind.i64 n_23, SV.i IntKind.i64 n_24, SV.i IntKind.i64 n_25, SV.i IntKind.i64 n_26]) ∧ (0 : Nat) < (1 : Nat)) ∧ Ob ((IsLst B x_3 ((1 : Nat)) ((1 : Nat)) fun (x : Nat) ↦ [SV.i IntKind.i64 n_27])
  ∧ (0 : Nat) < (1 : Nat)) ∧ Ob (InR IntKind.i64 (n_18 - n_27)) ∧ Ob ((IsLst B x_5 ((1 : Nat)) ((1 : Nat)) fun (x : Nat) ↦ [SV.v (Value.int IntKind.i64 (Int.ofNat ((2 : Nat))))]) ∧ (0 : Nat) < (1 : Nat)) ∧ Ob ((IsLst B x_4
  ((1 : Nat)) ((6 : Nat)) fun (x : Nat) ↦ [SV.i IntKind.i64 n_28, SV.i IntKind.i64 n_29, SV.i IntKind.i64 n_30, SV.i IntKind.i64 n_31, SV.i IntKind.i64 n_32, SV.i IntKind.i64 n_33]) ∧ (0 : Nat) < (1 : Nat)) ∧ Ob ((IsLst B
  x_4 ((1 : Nat)) ((6 : Nat)) fun (x : Nat) ↦ [SV.i IntKind.i64 n_28, SV.i IntKind.i64 n_29, SV.i IntKind.i64 n_30, SV.i IntKind.i64 n_31, SV.i IntKind.i64 n_32, SV.i IntKind.i64 n_33]) ∧ (0 : Nat) < (1 : Nat)) ∧ Ob
  ((IsLst B x_4 ((1 : Nat)) ((6 : Nat)) fun (x : Nat) ↦ [SV.i IntKind.i64 n_28, SV.i IntKind.i64 n_29, SV.i IntKind.i64 n_30, SV.i IntKind.i64 n_31, SV.i IntKind.i64 n_32, SV.i IntKind.i64 n_33]) ∧ (0 : Nat) < (1 : Nat)) ∧
  Ob (InR IntKind.i64 ((n_18 - n_27) * n_33)) ∧ Ob ((IsLst B x_3 ((1 : Nat)) ((1 : Nat)) fun (x : Nat) ↦ [SV.i IntKind.i64 n_27]) ∧ (0 : Nat) < (1 : Nat)) ∧ Ob ((IsLst B x_6 ((1 : Nat)) ((2 : Nat)) fun (x : Nat) ↦ [SV.i
  IntKind.i64 n_34, SV.i IntKind.i64 n_35]) ∧ (0 : Nat) < (1 : Nat)) ∧ Ob ((IsLst B x_6 ((1 : Nat)) ((2 : Nat)) fun (x : Nat) ↦ [SV.i IntKind.i64 n_34, SV.i IntKind.i64 n_35]) ∧ (0 : Nat) < (1 : Nat)) ∧ Ob (InR IntKind.i64
  (n_27 * n_35)) ∧ Ob (InR IntKind.i64 ((n_18 - n_27) * n_33 + n_27 * n_35)) ∧ Ob ((IsLst B x ((1 : Nat)) ((29 : Nat)) fun (x : Nat) ↦ [SV.lst x_1 rows.length ((8 : Nat)) (Rv.elemOf [IntKind.i64, IntKind.i64, IntKind.i64,
  IntKind.i64, IntKind.i64, IntKind.i64, IntKind.i64, IntKind.i64] rows), SV.lst x_2 rows_1.length ((2 : Nat)) (Rv.elemOf [IntKind.i64, IntKind.i64] rows_1), SV.i IntKind.i64 n, SV.i IntKind.i64 n_1, SV.i IntKind.i64 n_2,
  SV.i IntKind.i64 n_3, SV.i IntKind.i64 n_4, SV.i IntKind.i64 n_5, SV.i IntKind.i64 n_6, SV.i IntKind.i64 n_7, SV.i IntKind.i64 n_8, SV.i IntKind.i64 n_9, SV.i IntKind.i64 n_10, SV.i IntKind.i64 n_11, SV.i IntKind.i64
  n_12, SV.i IntKind.i64 n_13, SV.i IntKind.i64 n_14, SV.i IntKind.i64 n_15, SV.i IntKind.i64 n_16, SV.i IntKind.i64 n_17, SV.i IntKind.i64 n_18, SV.i IntKind.i64 n_19, SV.i IntKind.i64 n_20, SV.i IntKind.i64 n_21, SV.i
  IntKind.i64 n_22, SV.i IntKind.i64 n_23, SV.i IntKind.i64 n_24, SV.i IntKind.i64 n_25, SV.i IntKind.i64 n_26]) ∧ (0 : Nat) < (1 : Nat)) ∧ Ob ((IsLst B x ((1 : Nat)) ((29 : Nat)) fun (x : Nat) ↦ [SV.lst x_1 rows.length
  ((8 : Nat)) (Rv.elemOf [IntKind.i64, IntKind.i64, IntKind.i64, IntKind.i64, IntKind.i64, IntKind.i64, IntKind.i64, IntKind.i64] rows), SV.lst x_2 rows_1.length ((2 : Nat)) (Rv.elemOf [IntKind.i64, IntKind.i64] rows_1),
  SV.i IntKind.i64 n, SV.i IntKind.i64 n_1, SV.i IntKind.i64 n_2, SV.i IntKind.i64 n_3, SV.i IntKind.i64 n_4, SV.i IntKind.i64 n_5, SV.i IntKind.i64 n_6, SV.i IntKind.i64 n_7, SV.i IntKind.i64 n_8, SV.i IntKind.i64 n_9,
  SV.i IntKind.i64 n_10, SV.i IntKind.i64 n_11, SV.i IntKind.i64 n_12, SV.i IntKind.i64 n_13, SV.i IntKind.i64 n_14, SV.i IntKind.i64 n_15, SV.i IntKind.i64 n_16, SV.i IntKind.i64 n_17, SV.i IntKind.i64 n_18, SV.i
  IntKind.i64 n_19, SV.i IntKind.i64 n_20, SV.i IntKind.i64 n_21, SV.i IntKind.i64 n_22, SV.i IntKind.i64 n_23, SV.i IntKind.i64 n_24, SV.i IntKind.i64 n_25, SV.i IntKind.i64 n_26]) ∧ (0 : Nat) < (1 : Nat)) ∧ Ob ((IsLst B
  x ((1 : Nat)) ((29 : Nat)) fun (x : Nat) ↦ [SV.lst x_1 rows.length ((8 : Nat)) (Rv.elemOf [IntKind.i64, IntKind.i64, IntKind.i64, IntKind.i64, IntKind.i64, IntKind.i64, IntKind.i64, IntKind.i64] rows), SV.lst x_2
  rows_1.length ((2 : Nat)) (Rv.elemOf [IntKind.i64, IntKind.i64] rows_1), SV.i IntKind.i64 n, SV.i IntKind.i64 n_1, SV.i IntKind.i64 n_2, SV.i IntKind.i64 n_3, SV.i IntKind.i64 n_4, SV.i IntKind.i64 n_5, SV.i IntKind.i64
  n_6, SV.i IntKind.i64 n_7, SV.i IntKind.i64 n_8, SV.i IntKind.i64 n_9, SV.i IntKind.i64 n_10, SV.i IntKind.i64 n_11, SV.i IntKind.i64 n_12, SV.i IntKind.i64 n_13, SV.i IntKind.i64 n_14, SV.i IntKind.i64 n_15, SV.i
  IntKind.i64 n_16, SV.i IntKind.i64 n_17, SV.i IntKind.i64 n_18, SV.i IntKind.i64 n_19, SV.i IntKind.i64 n_20, SV.i IntKind.i64 n_21, SV.i IntKind.i64 n_22, SV.i IntKind.i64 n_23, SV.i IntKind.i64 n_24, SV.i IntKind.i64
  n_25, SV.i IntKind.i64 n_26]) ∧ (0 : Nat) < (1 : Nat)) ∧ Ob ((IsLst B x_7 ((1 : Nat)) ((2 : Nat)) fun (x : Nat) ↦ [SV.i IntKind.i64 n_36, SV.i IntKind.i64 n_37]) ∧ (0 : Nat) < (1 : Nat)) ∧ Ob ((IsLst B x_7 ((1 : Nat))
  ((2 : Nat)) fun (x : Nat) ↦ [SV.i IntKind.i64 n_36, SV.i IntKind.i64 n_37]) ∧ (0 : Nat) < (1 : Nat)) ∧ Ob (InR IntKind.i64 (n_18 * n_37)) ∧ Ob (InR IntKind.i64 ((n_18 - n_27) * n_33 + n_27 * n_35 + n_18 * n_37)) ∧ Ob
  (InR IntKind.i64 ((1000 : Int) * ((n_18 - n_27) * n_33 + n_27 * n_35 + n_18 * n_37))) ∧ Ob ((IsLst B x_8 ((1 : Nat)) ((2 : Nat)) fun (x : Nat) ↦ [SV.i IntKind.i64 n_38, SV.i IntKind.i64 n_39]) ∧ (0 : Nat) < (1 : Nat)) ∧
  Ob ((IsLst B x_8 ((1 : Nat)) ((2 : Nat)) fun (x : Nat) ↦ [SV.i IntKind.i64 n_38, SV.i IntKind.i64 n_39]) ∧ (0 : Nat) < (1 : Nat)) ∧ Ob ((IsLst B x ((1 : Nat)) ((29 : Nat)) fun (x : Nat) ↦ [SV.lst x_1 rows.length ((8 :
  Nat)) (Rv.elemOf [IntKind.i64, IntKind.i64, IntKind.i64, IntKind.i64, IntKind.i64, IntKind.i64, IntKind.i64, IntKind.i64] rows), SV.lst x_2 rows_1.length ((2 : Nat)) (Rv.elemOf [IntKind.i64, IntKind.i64] rows_1), SV.i
  IntKind.i64 n, SV.i IntKind.i64 n_1, SV.i IntKind.i64 n_2, SV.i IntKind.i64 n_3, SV.i IntKind.i64 n_4, SV.i IntKind.i64 n_5, SV.i IntKind.i64 n_6, SV.i IntKind.i64 n_7, SV.i IntKind.i64 n_8, SV.i IntKind.i64 n_9, SV.i
  IntKind.i64 n_10, SV.i IntKind.i64 n_11, SV.i IntKind.i64 n_12, SV.i IntKind.i64 n_13, SV.i IntKind.i64 n_14, SV.i IntKind.i64 n_15, SV.i IntKind.i64 n_16, SV.i IntKind.i64 n_17, SV.i IntKind.i64 n_18, SV.i IntKind.i64
  n_19, SV.i IntKind.i64 n_20, SV.i IntKind.i64 n_21, SV.i IntKind.i64 n_22, SV.i IntKind.i64 n_23, SV.i IntKind.i64 n_24, SV.i IntKind.i64 n_25, SV.i IntKind.i64 n_26]) ∧ (0 : Nat) < (1 : Nat)) ∧ Ob ((IsLst B x ((1 :
  Nat)) ((29 : Nat)) fun (x : Nat) ↦ [SV.lst x_1 rows.length ((8 : Nat)) (Rv.elemOf [IntKind.i64, IntKind.i64, IntKind.i64, IntKind.i64, IntKind.i64, IntKind.i64, IntKind.i64, IntKind.i64] rows), SV.lst x_2 rows_1.length
  ((2 : Nat)) (Rv.elemOf [IntKind.i64, IntKind.i64] rows_1), SV.i IntKind.i64 n, SV.i IntKind.i64 n_1, SV.i IntKind.i64 n_2, SV.i IntKind.i64 n_3, SV.i IntKind.i64 n_4, SV.i IntKind.i64 n_5, SV.i IntKind.i64 n_6, SV.i
  IntKind.i64 n_7, SV.i IntKind.i64 n_8, SV.i IntKind.i64 n_9, SV.i IntKind.i64 n_10, SV.i IntKind.i64 n_11, SV.i IntKind.i64 n_12, SV.i IntKind.i64 n_13, SV.i IntKind.i64 n_14, SV.i IntKind.i64 n_15, SV.i IntKind.i64
  n_16, SV.i IntKind.i64 n_17, SV.i IntKind.i64 n_18, SV.i IntKind.i64 n_19, SV.i IntKind.i64 n_20, SV.i IntKind.i64 n_21, SV.i IntKind.i64 n_22, SV.i IntKind.i64 n_23, SV.i IntKind.i64 n_24, SV.i IntKind.i64 n_25, SV.i
  IntKind.i64 n_26]) ∧ (0 : Nat) < (1 : Nat)) ∧ Ob ((IsLst B x ((1 : Nat)) ((29 : Nat)) fun (x : Nat) ↦ [SV.lst x_1 rows.length ((8 : Nat)) (Rv.elemOf [IntKind.i64, IntKind.i64, IntKind.i64, IntKind.i64, IntKind.i64,
  IntKind.i64, IntKind.i64, IntKind.i64] rows), SV.lst x_2 rows_1.length ((2 : Nat)) (Rv.elemOf [IntKind.i64, IntKind.i64] rows_1), SV.i IntKind.i64 n, SV.i IntKind.i64 n_1, SV.i IntKind.i64 n_2, SV.i IntKind.i64 n_3, SV.i
  IntKind.i64 n_4, SV.i IntKind.i64 n_5, SV.i IntKind.i64 n_6, SV.i IntKind.i64 n_7, SV.i IntKind.i64 n_8, SV.i IntKind.i64 n_9, SV.i IntKind.i64 n_10, SV.i IntKind.i64 n_11, SV.i IntKind.i64 n_12, SV.i IntKind.i64 n_13,
  SV.i IntKind.i64 n_14, SV.i IntKind.i64 n_15, SV.i IntKind.i64 n_16, SV.i IntKind.i64 n_17, SV.i IntKind.i64 n_18, SV.i IntKind.i64 n_19, SV.i IntKind.i64 n_20, SV.i IntKind.i64 n_21, SV.i IntKind.i64 n_22, SV.i
  IntKind.i64 n_23, SV.i IntKind.i64 n_24, SV.i IntKind.i64 n_25, SV.i IntKind.i64 n_26]) ∧ (0 : Nat) < (1 : Nat)) ∧ Ob (InR IntKind.i64 (n_39 * n_19)) ∧ Ob (InR IntKind.i64 ((1000 : Int) * ((n_18 - n_27) * n_33 + n_27 *
  n_35 + n_18 * n_37) + n_39 * n_19)) ∧ Ob ((1000 : Int) * ((n_18 - n_27) * n_33 + n_27 * n_35 + n_18 * n_37) + n_39 * n_19 = wTot n_18 n_27 n_19 (pick6 (Int.ofNat ((2 : Nat))) (Int.ofNat ((1 : Nat))) n_28 n_29 n_30 n_31
  n_32 n_33) (pick2 (Int.ofNat ((1 : Nat))) n_34 n_35) (pick2 (Int.ofNat ((1 : Nat))) n_36 n_37) (pick2 (Int.ofNat ((1 : Nat))) n_38 n_39)) ∧ True)

set_option linter.unusedSimpArgs false in
set_option maxRecDepth 4000 in
set_option maxHeartbeats 4000000 in
theorem v_total : V_total := by
  unfold V_total
  simp only [Ob_iff, and_true, true_and]
  intro B
  repeat' (first | (with_reducible apply And.intro) | intro _)
  all_goals first | assumption | exact Nat.lt_succ_self 0 | exact NxtOk.i1 (by assumption) | exact NxtOk.i2 (by assumption) (by simp) | exact NxtOk.i3 (by assumption) (by simp) | exact NxtOk.i4 (by assumption) (by simp) (by simp) | exact NxtOk.i5 (by assumption) (by simp) | exact NxtOk.i6 (by assumption) (by simp) (by simp) (by simp) | exact NxtOk.i7 (by assumption) (by simp) (by simp) (by simp) | exact NxtOk.i8 (by assumption) (by simp) | exact NxtOk.i9 (by assumption) (by simp) (by simp) (by simp) (by simp) | rfl

theorem e_total : V_total = needF P [] A_total F_total := by kernel_rfl

theorem n_total : Ob (needF P [] A_total F_total) := by
  rw [← e_total]
  exact ⟨v_total⟩

theorem b_total : ((P.funcs[61]?).any fun fn => fn.body.isSome) = true := by kernel_rfl

theorem total_ok : Fn0.Ok P F_total := Fn0.ok named (l := []) (A := A_total) (by rfl) (by
  intro F h; simp at h) b_total (by
  intro ds N
  simp only [F_total]
  split <;> rfl) n_total

end Go.Proofs.Ytlnldabgbfcdcaa.Sy
