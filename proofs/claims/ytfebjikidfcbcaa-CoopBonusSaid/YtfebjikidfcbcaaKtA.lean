import Derived.Test.YtfebjikidfcbcaaSyP2
import Derived.Test.YtfebjikidfcbcaaGrM
import Derived.Test.YtfebjikidfcbcaaKtT
import Derived.Test.YtfebjikidfcbcaaSyP2
import Derived.KernelRfl
import Derived.Test.YtfebjikidfcbcaaProg
namespace Go.Proofs.Ytfebjikidfcbcaa.Sy
open Go Go.Rv
set_option linter.unusedVariables false
def eqRow (L M:Rows) (i:Nat):Nat→Prop
 | 0=>True
 | c+1=>eqRow L M i c∧cell L i c=cell M i c
def samTo (w:Nat) (L M:Rows) (k:Nat):Prop:=L.length=M.length∧∀i,i < k→eqRow L M i w
def totTo (L:Rows):Nat→Int
 | 0=>0
 | k+1=>totTo L k+cell L k 0
end Go.Proofs.Ytfebjikidfcbcaa.Sy
