/- Claims that are settled. -/
import Derived.Test.YthgpjpjflgeokaaSyP2
import Derived.Test.YthgpjpjflgeokaaGrM
import Derived.Test.YthgpjpjflgeokaaStM
import Derived.Test.YthgpjpjflgeokaaKtT
import Derived.Test.YthgpjpjflgeokaaKtA
import Derived.Test.YthgpjpjflgeokaaKtB
import Derived.Test.YthgpjpjflgeokaaSyP2
import Derived.KernelRfl
import Derived.Test.YthgpjpjflgeokaaProg
namespace Go.Proofs.Ythgpjpjflgeokaa.Sy
open Go Go.Rv
set_option linter.unusedVariables false

theorem net_upd {C : Rows} {k a b : Nat} (ha : cell C k 0 = a) (hb : cell C k 1 = b) (hab : a ≠ b) (i : Nat) : (updL (updL (El.fn fun i => [SV.i .i64 (netTo C k i)]) a 0 [SV.i .i64 (netTo C k a - cell C k 2)]) b 0 [SV.i .i64 (netTo C k b + cell C k 2)]).at i = (El.fn fun i => [SV.i .i64 (netTo C (k + 1) i)]).at i := by
  simp only [updL, El.at, netTo, ha, hb]
  by_cases e1 : i = b
  · subst e1
    rw [if_pos rfl, if_neg (Ne.symm hab), if_neg (by omega), if_pos rfl]
    simp
  · rw [if_neg e1]
    by_cases e2 : i = a
    · subst e2
      rw [if_pos rfl, if_pos rfl, if_neg (by omega)]
      simp
    · rw [if_neg e2, if_neg (by omega), if_neg (by omega)]
      simp
theorem plain_fn1 (n : Nat) (f : Nat → Int) : PlainE n (.fn fun i => [SV.i .i64 (f i)]) := by
  intro i _ y hy
  simp only [El.at, List.mem_cons, List.not_mem_nil, or_false] at hy
  subst hy
  trivial
theorem len_upd1 (f : Nat → Int) (a i : Nat) (x : Int) : ((updL (.fn fun i => [SV.i .i64 (f i)]) a 0 [SV.i .i64 x]).at i).length = 1 := by
  simp only [updL, El.at]
  split <;> simp

noncomputable def F_within : Fn0 := ⟨26, [i64, i64, i64], fun _ => True, fun l => match l with | [.z n, .z lo, .z hi] => .p (lo ≤ n ∧ n ≤ hi) | _ => .v undef⟩
noncomputable def A_within : List SV → List Dat → Nat → List SV → Ann := fun _ _ _ _ => noAnn

def V_within : Prop :=
  ∀ (B : RW) (n n_1 n_2 : Int), True → (n_1 ≤ n → Ob (n ≤ n_2 ↔ n_1 ≤ n ∧ n ≤ n_2) ∧ True) ∧ (¬n_1 ≤ n → Ob (false = true ↔ n_1 ≤ n ∧ n ≤ n_2) ∧ True)

set_option linter.unusedSimpArgs false in
set_option maxRecDepth 4000 in
set_option maxHeartbeats 400000 in
theorem v_within : V_within := by
  unfold V_within
  intros
  simp only [Ob_iff, and_true, true_and, InR] at *
  all_goals grind

theorem e_within : V_within = needF P [] A_within F_within := by kernel_rfl

theorem n_within : Ob (needF P [] A_within F_within) := by
  rw [← e_within]
  exact ⟨v_within⟩

theorem b_within : ((P.funcs[26]?).any fun fn => fn.body.isSome) = true := by kernel_rfl

theorem within_ok : Fn0.Ok P F_within := Fn0.ok named (l := []) (A := A_within) (by rfl) (by
  intro F h; simp at h) b_within (by
  intro ds N
  simp only [F_within]
  split <;> rfl) n_within

end Go.Proofs.Ythgpjpjflgeokaa.Sy
