/- Lists of a tide. -/
import Derived.Test.YtjgllojnbinchaaSyP2
import Derived.Test.YtjgllojnbinchaaGrM
import Derived.Test.YtjgllojnbinchaaStM
import Derived.Test.YtjgllojnbinchaaKtT
import Derived.Test.YtjgllojnbinchaaKtA
import Derived.Test.YtjgllojnbinchaaSyP2
import Derived.KernelRfl
import Derived.Test.YtjgllojnbinchaaProg
namespace Go.Proofs.Ytjgllojnbinchaa.Sy
open Go Go.Rv
set_option linter.unusedVariables false

/-- rows that follow from numbers, one behind the other -/
def itQ (Q : Int → Int) (a : Int) : Nat → Int
  | 0 => a
  | k + 1 => Q (itQ Q a k)
def itR (Q : Int → Int) (row : Int → List Int) (a : Int) : Nat → Rows
  | 0 => []
  | k + 1 => itR Q row a k ++ [row (itQ Q a k)]
theorem itQ_succ (Q : Int → Int) (a : Int) (k : Nat) : itQ Q a (k + 1) = Q (itQ Q a k) := rfl
theorem itR_succ (Q : Int → Int) (row : Int → List Int) (a : Int) (k : Nat) : itR Q row a (k + 1) = itR Q row a k ++ [row (itQ Q a k)] := rfl
theorem it_len (Q : Int → Int) (row : Int → List Int) (a : Int) : ∀ k, (itR Q row a k).length = k
  | 0 => rfl
  | k + 1 => by simp [itR, it_len Q row a k]
theorem it_mem {Q : Int → Int} {row : Int → List Int} {a : Int} {p : List Int → Prop} (h : ∀ b, p (row b)) : ∀ k, ∀ r ∈ itR Q row a k, p r
  | 0 => by simp [itR]
  | k + 1 => by
    intro r hr
    simp only [itR, List.mem_append, List.mem_singleton] at hr
    rcases hr with hr | rfl
    · exact it_mem h k r hr
    · exact h _
theorem getD_appL {α : Type} {l r : List α} {d : α} {i : Nat} (h : i < l.length) : (l ++ r).getD i d = l.getD i d := by
  rw [List.getD_eq_getElem?_getD, List.getD_eq_getElem?_getD, List.getElem?_append_left h]
theorem it_get (Q : Int → Int) (row : Int → List Int) (a : Int) : ∀ k i, i < k → (itR Q row a k).getD i [] = row (itQ Q a i)
  | 0, i, hi => by omega
  | k + 1, i, hi => by
    have hl := it_len Q row a k
    simp only [itR]
    by_cases e : i = k
    · subst e
      rw [List.getD_eq_getElem?_getD, List.getElem?_append_right (by omega), hl, Nat.sub_self]
      rfl
    · rw [getD_appL (by omega)]
      exact it_get Q row a k i (by omega)
theorem it_cell (Q : Int → Int) (row : Int → List Int) (a : Int) {k i : Nat} (h : i < k) (j : Nat) : cell (itR Q row a k) i j = (row (itQ Q a i)).getD j 0 := by
  unfold cell
  rw [it_get Q row a k i h]
end Go.Proofs.Ytjgllojnbinchaa.Sy
