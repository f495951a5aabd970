/- Copies and comparisons of lists; sums. -/
import Derived.Test.YthgpjpjflgeokaaSyP2
import Derived.Test.YthgpjpjflgeokaaGrM
import Derived.Test.YthgpjpjflgeokaaKtT
import Derived.Test.YthgpjpjflgeokaaSyP2
import Derived.KernelRfl
import Derived.Test.YthgpjpjflgeokaaProg
namespace Go.Proofs.Ythgpjpjflgeokaa.Sy
open Go Go.Rv
set_option linter.unusedVariables false

def eqRow (L M : Rows) (i : Nat) : Nat → Prop
  | 0 => True
  | c + 1 => eqRow L M i c ∧ cell L i c = cell M i c
def totTo (L : Rows) : Nat → Int
  | 0 => 0
  | k + 1 => totTo L k + cell L k 0
end Go.Proofs.Ythgpjpjflgeokaa.Sy
