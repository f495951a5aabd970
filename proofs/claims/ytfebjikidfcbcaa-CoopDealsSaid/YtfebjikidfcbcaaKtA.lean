import Derived.Test.YtfebjikidfcbcaaSyP2
import Derived.Test.YtfebjikidfcbcaaGrM
import Derived.Test.YtfebjikidfcbcaaKtT
import Derived.Test.YtfebjikidfcbcaaSyP2
import Derived.KernelRfl
import Derived.Test.YtfebjikidfcbcaaProg
namespace Go.Proofs.Ytfebjikidfcbcaa.Sy
open Go Go.Rv
set_option linter.unusedVariables false
def eqRow (L M:Rows) (i:Nat):Nat→Prop
 | 0=>True
 | c+1=>eqRow L M i c∧cell L i c=cell M i c
def samTo (w:Nat) (L M:Rows) (k:Nat):Prop:=L.length=M.length∧∀i,i < k→eqRow L M i w
theorem sam_zero (w:Nat) (L M:Rows):samTo w L M 0↔L.length=M.length:=⟨fun h=>h.1,fun h=>⟨h,fun i hi=>absurd hi (Nat.not_lt_zero i)⟩⟩
theorem sam_succ {w:Nat} {L M:Rows} {k:Nat} (h:samTo w L M k):samTo w L M (k+1)↔eqRow L M k w:=by
 constructor
 ·intro h2
  exact h2.2 k (by omega)
 ·intro h2
  refine⟨h.1,fun i hi=>?_⟩
  by_cases e:i=k
  ·subst e; exact h2
  ·exact h.2 i (by omega)
theorem sam_stop {w:Nat} {L M:Rows} {k n:Nat} (hk:k≤n) (h:¬ samTo w L M k):¬ samTo w L M n:=fun h2=>h ⟨h2.1,fun i hi=>h2.2 i (by omega)⟩
theorem sam_self (w:Nat) (L:Rows) (n:Nat):samTo w L L n:=by
 refine⟨rfl,fun i _=>?_⟩
 induction w with
 | zero=>trivial
 | succ w ih=>exact⟨ih,rfl⟩
theorem row1 (L M:Rows) (k:Nat):eqRow L M k 1↔cell L k 0=cell M k 0:=⟨fun h=>h.2,fun h=>⟨trivial,h⟩⟩
theorem row3c (L M:Rows) (k:Nat):eqRow L M k 3↔(cell L k 0=cell M k 0∧cell L k 1=cell M k 1∧cell L k 2=cell M k 2):=⟨fun h=>⟨h.1.1.2,h.1.2,h.2⟩,fun h=>⟨⟨⟨trivial,h.1⟩,h.2.1⟩,h.2.2⟩⟩
def totTo (L:Rows):Nat→Int
 | 0=>0
 | k+1=>totTo L k+cell L k 0
end Go.Proofs.Ytfebjikidfcbcaa.Sy
