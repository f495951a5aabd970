import Derived.Test.YtfebjikidfcbcaaSyP2
import Derived.Test.YtfebjikidfcbcaaGrM
import Derived.Test.YtfebjikidfcbcaaStM
import Derived.Test.YtfebjikidfcbcaaLrM
import Derived.Test.YtfebjikidfcbcaaDhM
import Derived.Test.YtfebjikidfcbcaaKtT
import Derived.Test.YtfebjikidfcbcaaKtA
import Derived.Test.YtfebjikidfcbcaaKtB
import Derived.Test.YtfebjikidfcbcaaKwA
import Derived.Test.YtfebjikidfcbcaaKwB
import Derived.Test.YtfebjikidfcbcaaKwC
import Derived.Test.YtfebjikidfcbcaaKwD
import Derived.Test.YtfebjikidfcbcaaSyP2
import Derived.KernelRfl
import Derived.Test.YtfebjikidfcbcaaProg
namespace Go.Proofs.Ytfebjikidfcbcaa.Sy
open Go Go.Rv
set_option linter.unusedVariables false
theorem CoopOk.shr {fee itr pri cre:Int} {A:Rows} {till d:Int} (h:CoopOk fee itr pri cre A till) (hd:mny d) (hi:¬ idl A):ShOk d A:=by
 have hc:∀i,i < A.length→0≤cell A i 2∧cell A i 2≤1000000000:=fun i hi=>(h.a i hi).2.2
 refine⟨h.l.2,hc,hd,fun hz=>hi fun i hi=>?_⟩
 have h1:=sumF_mono (f:=fun i=>cell A i 2) (n:=A.length) (k:=i) (by omega) fun j hj=>(hc j hj).1
 have h2:=sumF_mono (f:=fun i=>cell A i 2) (n:=A.length) (k:=i+1) (by omega) fun j hj=>(hc j hj).1
 have e:sumF (fun i=>cell A i 2) (i+1)=sumF (fun i=>cell A i 2) i+cell A i 2:=rfl
 have hz:sumF (fun i=>cell A i 2) A.length=0:=hz
 omega
theorem idl_zero {fee itr pri cre:Int} {A:Rows} {till:Int} (h:CoopOk fee itr pri cre A till):idl A↔colS 2 A A.length=0:=by
 have hc:∀i,i < A.length→0≤cell A i 2∧cell A i 2≤1000000000:=fun i hi=>(h.a i hi).2.2
 constructor
 ·intro hi
  have:∀k,k≤A.length→colS 2 A k=0:=by
   intro k
   induction k with
   | zero=>intro _; rfl
   | succ k ih =>
    intro hk
    have h1:=ih (by omega)
    have h2:=hi k (by omega)
    have h3:=hc k (by omega)
    have e:colS 2 A (k+1)=colS 2 A k+cell A k 2:=rfl
    omega
  exact this _ (Nat.le_refl _)
 ·intro hz
  apply Classical.byContradiction
  intro hi
  exact(h.shr (d:=0) ⟨by omega,by omega⟩ hi).z hz
end Go.Proofs.Ytfebjikidfcbcaa.Sy
