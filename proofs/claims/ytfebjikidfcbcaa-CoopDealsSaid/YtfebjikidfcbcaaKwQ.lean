import Derived.Test.YtfebjikidfcbcaaKwH
import Derived.Test.YtfebjikidfcbcaaKwN
import Derived.Test.YtfebjikidfcbcaaKwO
import Derived.Test.YtfebjikidfcbcaaProg
namespace Go.Proofs.Ytfebjikidfcbcaa.Sy
open Go Go.Rv
set_option linter.unusedVariables false
theorem co_len (a most:Int) (k:Nat):(coR a most k).length=k:=it_len _ _ _ _
theorem co_row (a most:Int) (k:Nat):∀r∈coR a most k,r.length=3:=by
 induction k with
 | zero=>intro r hr; simp [coR,itR]at hr
 | succ k ih =>
  intro r hr
  rw [coR_succ]at hr
  rcases List.mem_append.1 hr with h | h
  ·exact ih r h
  ·rw [List.mem_singleton.1 h]; rfl
theorem ds_len (n a:Int) (k:Nat):(itR (dsQ n) (dsR n) a k).length=k:=it_len _ _ _ _
theorem ds_row (n a:Int) (k:Nat):∀r∈itR (dsQ n) (dsR n) a k,r.length=4:=by
 induction k with
 | zero=>intro r hr; simp [itR]at hr
 | succ k ih =>
  intro r hr
  rw [itR_succ]at hr
  rcases List.mem_append.1 hr with h | h
  ·exact ih r h
  ·rw [List.mem_singleton.1 h]; rfl
end Go.Proofs.Ytfebjikidfcbcaa.Sy
