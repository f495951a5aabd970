/- Boxes that are given away one by one. -/
import Derived.Test.YtlnldabgbfcdcaaSyP2
import Derived.Test.YtlnldabgbfcdcaaGrM
import Derived.Test.YtlnldabgbfcdcaaStM
import Derived.Test.YtlnldabgbfcdcaaVtM
import Derived.Test.YtlnldabgbfcdcaaDhM
import Derived.Test.YtlnldabgbfcdcaaKtT
import Derived.Test.YtlnldabgbfcdcaaKtA
import Derived.Test.YtlnldabgbfcdcaaKtB
import Derived.Test.YtlnldabgbfcdcaaSyP2
import Derived.KernelRfl
import Derived.Test.YtlnldabgbfcdcaaProg
namespace Go.Proofs.Ytlnldabgbfcdcaa.Sy
open Go Go.Rv
set_option linter.unusedVariables false

theorem tot_bd {L : Rows} {M : Int} : ∀ {k : Nat}, (∀ i, i < k → 0 ≤ cell L i 0 ∧ cell L i 0 ≤ M) → 0 ≤ totTo L k ∧ totTo L k ≤ k * M
  | 0, _ => by simp [totTo]
  | k + 1, h => by
    have ih := tot_bd (L := L) (M := M) (k := k) fun i hi => h i (by omega)
    have h0 := h k (by omega)
    have e : ((k + 1 : Nat) : Int) * M = k * M + M := by rw [Int.natCast_add, Int.add_mul]; simp
    rw [e]
    simp only [totTo]
    generalize (k : Int) * M = x at *
    omega

end Go.Proofs.Ytlnldabgbfcdcaa.Sy
