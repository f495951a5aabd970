/- Lists of a tide. -/
import Derived.Test.YthgpjpjflgeokaaSyP2
import Derived.Test.YthgpjpjflgeokaaGrM
import Derived.Test.YthgpjpjflgeokaaStM
import Derived.Test.YthgpjpjflgeokaaKtT
import Derived.Test.YthgpjpjflgeokaaKtA
import Derived.Test.YthgpjpjflgeokaaSyP2
import Derived.KernelRfl
import Derived.Test.YthgpjpjflgeokaaProg
namespace Go.Proofs.Ythgpjpjflgeokaa.Sy
open Go Go.Rv
set_option linter.unusedVariables false

/-- rows that follow from numbers, one behind the other -/
def itQ (Q : Int → Int) (a : Int) : Nat → Int
  | 0 => a
  | k + 1 => Q (itQ Q a k)
def itR (Q : Int → Int) (row : Int → List Int) (a : Int) : Nat → Rows
  | 0 => []
  | k + 1 => itR Q row a k ++ [row (itQ Q a k)]
theorem itQ_succ (Q : Int → Int) (a : Int) (k : Nat) : itQ Q a (k + 1) = Q (itQ Q a k) := rfl
theorem itR_succ (Q : Int → Int) (row : Int → List Int) (a : Int) (k : Nat) : itR Q row a (k + 1) = itR Q row a k ++ [row (itQ Q a k)] := rfl
theorem it_len (Q : Int → Int) (row : Int → List Int) (a : Int) : ∀ k, (itR Q row a k).length = k
  | 0 => rfl
  | k + 1 => by simp [itR, it_len Q row a k]
theorem it_mem {Q : Int → Int} {row : Int → List Int} {a : Int} {p : List Int → Prop} (h : ∀ b, p (row b)) : ∀ k, ∀ r ∈ itR Q row a k, p r
  | 0 => by simp [itR]
  | k + 1 => by
    intro r hr
    simp only [itR, List.mem_append, List.mem_singleton] at hr
    rcases hr with hr | rfl
    · exact it_mem h k r hr
    · exact h _
theorem getD_appL {α : Type} {l r : List α} {d : α} {i : Nat} (h : i < l.length) : (l ++ r).getD i d = l.getD i d := by
  rw [List.getD_eq_getElem?_getD, List.getD_eq_getElem?_getD, List.getElem?_append_left h]
theorem it_get (Q : Int → Int) (row : Int → List Int) (a : Int) : ∀ k i, i < k → (itR Q row a k).getD i [] = row (itQ Q a i)
  | 0, i, hi => by omega
  | k + 1, i, hi => by
    have hl := it_len Q row a k
    simp only [itR]
    by_cases e : i = k
    · subst e
      rw [List.getD_eq_getElem?_getD, List.getElem?_append_right (by omega), hl, Nat.sub_self]
      rfl
    · rw [getD_appL (by omega)]
      exact it_get Q row a k i (by omega)
theorem it_cell (Q : Int → Int) (row : Int → List Int) (a : Int) {k i : Nat} (h : i < k) (j : Nat) : cell (itR Q row a k) i j = (row (itQ Q a i)).getD j 0 := by
  unfold cell
  rw [it_get Q row a k i h]
theorem snoc3 {R : Rows} {k : Nat} {x y z : Int} (hl : R.length = k) : ∀ i, i < k + 1 → (behind k (.fn (Rv.elemOf [.i64, .i64, .i64] R)) 1 (litEl [SV.i .i64 x, SV.i .i64 y, SV.i .i64 z] 3 1)).at i = (El.fn (Rv.elemOf [.i64, .i64, .i64] (R ++ [[x, y, z]]))).at i := fun i hi => by
  have := snoc_at (R := R) (ks := [.i64, .i64, .i64]) (r := [x, y, z]) (cs := [SV.i .i64 x, SV.i .i64 y, SV.i .i64 z]) rfl (i := i) (by omega)
  rw [hl] at this
  exact this
end Go.Proofs.Ythgpjpjflgeokaa.Sy
