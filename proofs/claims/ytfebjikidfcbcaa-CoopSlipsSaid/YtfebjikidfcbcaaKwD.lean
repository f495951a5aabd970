import Derived.Test.YtfebjikidfcbcaaSyP2
import Derived.Test.YtfebjikidfcbcaaGrM
import Derived.Test.YtfebjikidfcbcaaStM
import Derived.Test.YtfebjikidfcbcaaLrM
import Derived.Test.YtfebjikidfcbcaaDhM
import Derived.Test.YtfebjikidfcbcaaKtT
import Derived.Test.YtfebjikidfcbcaaKtA
import Derived.Test.YtfebjikidfcbcaaKtB
import Derived.Test.YtfebjikidfcbcaaKwA
import Derived.Test.YtfebjikidfcbcaaKwB
import Derived.Test.YtfebjikidfcbcaaKwC
import Derived.Test.YtfebjikidfcbcaaSyP2
import Derived.KernelRfl
import Derived.Test.YtfebjikidfcbcaaProg
namespace Go.Proofs.Ytfebjikidfcbcaa.Sy
open Go Go.Rv
set_option linter.unusedVariables false
theorem plain_fnD (n:Nat) (f:Nat→Int):PlainE n (.fn fun i=>[SV.i .i64 (f i)]):=by
 intro i _ y hy
 simp only [El.at,List.mem_cons,List.not_mem_nil,or_false]at hy
 subst hy
 trivial
structure ShOk (d:Int) (A:Rows):Prop where
 l:A.length≤12
 c:∀i,i < A.length→0≤cell A i 2∧cell A i 2≤1000000000
 d:0≤d∧d≤1000000000
 z:colS 2 A A.length≠0
def cA (A:Rows) (i:Nat):Int:=cell A i 2
def cN (A:Rows):Int:=colS 2 A A.length
def cR (d:Int) (A:Rows):Nat→Int:=rst d (cN A) (cA A)
def cL (d:Int) (A:Rows):Int:=lef d (cN A) (cA A) A.length
def cFl (d:Int) (A:Rows):Nat→Int:=flo d (cN A) (cA A)
noncomputable def cK (d:Int) (A:Rows) (i:Nat):Int:=(rk (cR d A) A.length i:Nat)
noncomputable def cS (d:Int) (A:Rows):Nat→Int:=shr d (cN A) (cA A) A.length
theorem cS_bd {A:Rows} (h:∀i,i < A.length→0≤cell A i 2∧cell A i 2≤1000000000):∀ {k:Nat},k≤A.length→0≤colS 2 A k∧colS 2 A k≤k*1000000000
 | 0,_=>by simp [colS,sumF]
 | k+1,hk=>by
  have ih:=cS_bd h (k:=k) (by omega)
  have hc:=h k (by omega)
  have e:colS 2 A (k+1)=colS 2 A k+cell A k 2:=rfl
  have e2:((k+1:Nat):Int)*1000000000=k*1000000000+1000000000:=by rw [Int.natCast_add,Int.add_mul]; simp
  rw [e,e2]
  omega
theorem ShOk.n {d:Int} {A:Rows} (h:ShOk d A):0 < cN A∧cN A≤12000000000:=by
 have:=cS_bd h.c (Nat.le_refl _)
 have z:=h.z
 have hl:=h.l
 unfold cN
 omega
theorem ShOk.sh {d:Int} {A:Rows} (h:ShOk d A):ShA d (cN A) (cA A) A.length:=
 ⟨h.d.1,fun i hi=>(h.c i hi).1,rfl,h.n.1⟩
theorem cK_nn (d:Int) (A:Rows) (i:Nat):0≤cK d A i:=by unfold cK; omega
theorem cK_inj {d:Int} {A:Rows} {i j:Nat} (hi:i < A.length) (hj:j < A.length) (h:cK d A i=cK d A j):i=j:=rk_inj (R:=cR d A) hi hj (by unfold cK at h; omega)
theorem cFl_bd {d:Int} {A:Rows} (h:ShOk d A) {i:Nat} (hi:i < A.length):0≤cFl d A i∧cFl d A i≤1000000000000000000∧0≤d*cell A i 2∧d*cell A i 2≤1000000000000000000:=by
 have c:=h.c i hi
 have hd:=h.d
 have m0:0≤d*cell A i 2:=Int.mul_nonneg hd.1 c.1
 have m1:d*cell A i 2≤1000000000*1000000000:=Int.mul_le_mul hd.2 c.2 c.1 (by omega)
 have hN:=h.n.1
 have e:cFl d A i=d*cell A i 2 / cN A:=rfl
 rw [e]
 exact⟨Int.ediv_nonneg m0 (by omega),by have:=Int.ediv_le_self (cN A) m0; omega,m0,by omega⟩
theorem sumF_mono {f:Nat→Int}:∀ {n k:Nat},k≤n→(∀i,i < n→0≤f i)→0≤sumF f k∧sumF f k≤sumF f n
 | 0,k,hk,_=>by
  have:k=0:=by omega
  subst this
  simp [sumF]
 | n+1,k,hk,h=>by
  have hn:=sumF_nn (n:=n) (f:=f) fun i hi=>h i (by omega)
  have h1:=h n (by omega)
  by_cases e:k=n+1
  ·subst e
   simp only [sumF]
   omega
  ·have:=sumF_mono (n:=n) (k:=k) (by omega) fun i hi=>h i (by omega)
   simp only [sumF]
   omega
theorem sFl_bd {d:Int} {A:Rows} (h:ShOk d A) {k:Nat} (hk:k≤A.length):0≤sumF (cFl d A) k∧sumF (cFl d A) k≤d:=by
 have h1:=sumF_mono (f:=cFl d A) hk fun i hi=>(cFl_bd h hi).1
 have h2:=h.sh.lefB.1
 have e:lef d (cN A) (cA A) A.length=d-sumF (cFl d A) A.length:=rfl
 omega
end Go.Proofs.Ytfebjikidfcbcaa.Sy
