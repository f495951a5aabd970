/- Plain mathematics of claims that are settled. -/
import Derived.Test.YtjgllojnbinchaaGrM
namespace Go.Proofs.Ytjgllojnbinchaa.Sy
open Go Go.Rv
theorem cell_app {R : Rows} {r : List Int} {k j : Nat} (h : k < R.length) : cell (R ++ [r]) k j = cell R k j := by
  unfold cell
  rw [List.getD_eq_getElem?_getD, List.getD_eq_getElem?_getD, List.getD_eq_getElem?_getD, List.getD_eq_getElem?_getD, List.getElem?_append_left h]
theorem cell_new {R : Rows} {r : List Int} {j : Nat} : cell (R ++ [r]) R.length j = r.getD j 0 := by
  unfold cell
  simp [List.getD_eq_getElem?_getD]
end Go.Proofs.Ytjgllojnbinchaa.Sy
