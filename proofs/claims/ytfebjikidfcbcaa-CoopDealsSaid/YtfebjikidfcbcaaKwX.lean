import Derived.Test.YtfebjikidfcbcaaSyP2
import Derived.Test.YtfebjikidfcbcaaGrM
import Derived.Test.YtfebjikidfcbcaaStM
import Derived.Test.YtfebjikidfcbcaaLrM
import Derived.Test.YtfebjikidfcbcaaDhM
import Derived.Test.YtfebjikidfcbcaaKtT
import Derived.Test.YtfebjikidfcbcaaKtA
import Derived.Test.YtfebjikidfcbcaaKtB
import Derived.Test.YtfebjikidfcbcaaKwA
import Derived.Test.YtfebjikidfcbcaaKwB
import Derived.Test.YtfebjikidfcbcaaKwC
import Derived.Test.YtfebjikidfcbcaaKwD
import Derived.Test.YtfebjikidfcbcaaKwE
import Derived.Test.YtfebjikidfcbcaaKwF
import Derived.Test.YtfebjikidfcbcaaKwI
import Derived.Test.YtfebjikidfcbcaaKwJ
import Derived.Test.YtfebjikidfcbcaaKwK
import Derived.Test.YtfebjikidfcbcaaKwM
import Derived.Test.YtfebjikidfcbcaaKwN
import Derived.Test.YtfebjikidfcbcaaSyP2
import Derived.KernelRfl
import Derived.Test.YtfebjikidfcbcaaProg
namespace Go.Proofs.Ytfebjikidfcbcaa.Sy
open Go Go.Rv
set_option linter.unusedVariables false
theorem doE_chk {fee itr pri cre:Int} {A:Rows} {till k m o q:Int} (h:coopErr fee itr pri cre A till=0):doE fee itr pri cre A till k m o q=afE fee itr pri cre A till k m o q:=by
 unfold doE; rw [if_neg fun hh=>hh h]
theorem doE_bad {fee itr pri cre:Int} {A:Rows} {till k m o q:Int} (h:coopErr fee itr pri cre A till≠0):doE fee itr pri cre A till k m o q=coopErr fee itr pri cre A till:=by
 unfold doE; rw [if_pos h]
theorem plain_upd {n:Nat} {e:El} {j f:Nat} {k:IntKind} {z:Int} (h:PlainE n e):PlainE n (updL e j f [SV.i k z]):=by
 intro i hi y hy
 have hy:y∈(if i=j then (e.at i).set f (SV.i k z)else e.at i):=hy
 split at hy
 ·rcases List.mem_or_eq_of_mem_set hy with h1 | h1
  ·exact h i hi y h1
  ·subst h1; exact trivial
 ·exact h i hi y hy
end Go.Proofs.Ytfebjikidfcbcaa.Sy
