/- Claims that are settled: the payments. -/
import Derived.Test.YthgpjpjflgeokaaSyP2
import Derived.Test.YthgpjpjflgeokaaGrM
import Derived.Test.YthgpjpjflgeokaaStM
import Derived.Test.YthgpjpjflgeokaaKtT
import Derived.Test.YthgpjpjflgeokaaKtA
import Derived.Test.YthgpjpjflgeokaaKtB
import Derived.Test.YthgpjpjflgeokaaKtS
import Derived.Test.YthgpjpjflgeokaaSyP2
import Derived.KernelRfl
import Derived.Test.YthgpjpjflgeokaaProg
namespace Go.Proofs.Ythgpjpjflgeokaa.Sy
open Go Go.Rv
set_option linter.unusedVariables false

noncomputable def stlR (N : Int) (C : Rows) : Rows := if clmErr N C = 0 then payR N.toNat (netTo C C.length) else []
theorem err_leaf {N e : Int} {C : Rows} (he : clmErr N C = e) (h0 : e ≠ 0) : (stlR N C).length = 0 ∧ e = clmErr N C ∧ (stlR N C).length = 0 ∧ PlainE (stlR N C).length (El.fn (Rv.elemOf [.i64, .i64, .i64] (stlR N C))) := by
  have : (stlR N C).length = 0 := by
    unfold stlR
    rw [if_neg (by rw [he]; exact h0)]
    rfl
  exact ⟨this, he.symm, this, plain_elemOf _ _ _⟩
theorem clm_err_at {N e : Int} {C : Rows} {k : Nat} (hN : 1 ≤ N ∧ N ≤ 12) (hl : ¬ 40 < C.length) (hk : k < C.length) (h0 : clmTo N C k = 0) (he : clmAt N C k = e) (hne : e ≠ 0) : clmErr N C = e := by
  unfold clmErr
  rw [if_pos hN, if_neg hl, clm_at hk h0 (by rw [he]; exact hne), he]
theorem lft_upd {f : Nat → Int} {R : Rows} {a b : Nat} {c : Int} (hab : a ≠ b) (i : Nat) : (updL (updL (El.fn fun i => [SV.i .i64 (lft f R R.length i)]) a 0 [SV.i .i64 (lft f R R.length a + c)]) b 0 [SV.i .i64 (lft f R R.length b - c)]).at i = (El.fn fun i => [SV.i .i64 (lft f (R ++ [[(a : Int), (b : Int), c]]) (R ++ [[(a : Int), (b : Int), c]]).length i)]).at i := by
  simp only [updL, El.at]
  rw [lft_new]
  by_cases e1 : i = b
  · subst e1
    rw [if_pos rfl, if_neg (Ne.symm hab), if_neg (by omega), if_pos rfl]
    simp
  · rw [if_neg e1]
    by_cases e2 : i = a
    · subst e2
      rw [if_pos rfl, if_pos rfl, if_neg (by omega)]
      simp
    · rw [if_neg e2, if_neg (by omega), if_neg (by omega)]
      simp
structure StE (n : Nat) (f : Nat → Int) (R : Rows) : Prop where
  sum : sumF (lft f R R.length) n = 0
  bd : ∀ i, i < n → -100000000000 ≤ lft f R R.length i ∧ lft f R R.length i ≤ 100000000000
theorem ste_of {N : Nat} {C R : Rows} (hl : ¬ 40 < C.length) (hc : ∀ j, j < C.length → Clm N C j ∧ cell C j 2 ≤ 1000000000) (h : PayTo N (netTo C C.length) R) : StE N (netTo C C.length) R := by
  have hk := pay_k h (Nat.le_refl _)
  refine ⟨hk.sum.trans (net_sum fun j hj => (hc j hj).1), fun i hi => ?_⟩
  have h1 := net_bd (n := N) (C := C) (M := 1000000000) (by omega) (k := C.length) hc i
  have h2 := hk.sg i hi
  have h3 : (C.length : Int) * 1000000000 ≤ 40 * 1000000000 := Int.mul_le_mul_of_nonneg_right (by omega) (by omega)
  omega

end Go.Proofs.Ythgpjpjflgeokaa.Sy
