/- Boxes that are given away one by one. -/
import Derived.Test.YthgpjpjflgeokaaSyP2
import Derived.Test.YthgpjpjflgeokaaGrM
import Derived.Test.YthgpjpjflgeokaaStM
import Derived.Test.YthgpjpjflgeokaaVtM
import Derived.Test.YthgpjpjflgeokaaDhM
import Derived.Test.YthgpjpjflgeokaaKtT
import Derived.Test.YthgpjpjflgeokaaKtA
import Derived.Test.YthgpjpjflgeokaaKtB
import Derived.Test.YthgpjpjflgeokaaSyP2
import Derived.KernelRfl
import Derived.Test.YthgpjpjflgeokaaProg
namespace Go.Proofs.Ythgpjpjflgeokaa.Sy
open Go Go.Rv
set_option linter.unusedVariables false

theorem tot_bd {L : Rows} {M : Int} : ∀ {k : Nat}, (∀ i, i < k → 0 ≤ cell L i 0 ∧ cell L i 0 ≤ M) → 0 ≤ totTo L k ∧ totTo L k ≤ k * M
  | 0, _ => by simp [totTo]
  | k + 1, h => by
    have ih := tot_bd (L := L) (M := M) (k := k) fun i hi => h i (by omega)
    have h0 := h k (by omega)
    have e : ((k + 1 : Nat) : Int) * M = k * M + M := by rw [Int.natCast_add, Int.add_mul]; simp
    rw [e]
    simp only [totTo]
    generalize (k : Int) * M = x at *
    omega

end Go.Proofs.Ythgpjpjflgeokaa.Sy
