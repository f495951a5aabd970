import Derived.Test.YtfebjikidfcbcaaSyP2
import Derived.Test.YtfebjikidfcbcaaGrM
import Derived.Test.YtfebjikidfcbcaaStM
import Derived.Test.YtfebjikidfcbcaaLrM
import Derived.Test.YtfebjikidfcbcaaDhM
import Derived.Test.YtfebjikidfcbcaaKtT
import Derived.Test.YtfebjikidfcbcaaKtA
import Derived.Test.YtfebjikidfcbcaaKtB
import Derived.Test.YtfebjikidfcbcaaKwA
import Derived.Test.YtfebjikidfcbcaaKwB
import Derived.Test.YtfebjikidfcbcaaKwC
import Derived.Test.YtfebjikidfcbcaaKwD
import Derived.Test.YtfebjikidfcbcaaKwE
import Derived.Test.YtfebjikidfcbcaaKwF
import Derived.Test.YtfebjikidfcbcaaKwI
import Derived.Test.YtfebjikidfcbcaaKwJ
import Derived.Test.YtfebjikidfcbcaaKwK
import Derived.Test.YtfebjikidfcbcaaKwM
import Derived.Test.YtfebjikidfcbcaaSyP2
import Derived.KernelRfl
import Derived.Test.YtfebjikidfcbcaaProg
namespace Go.Proofs.Ytfebjikidfcbcaa.Sy
open Go Go.Rv
set_option linter.unusedVariables false
theorem sumF_pt {f g:Nat→Int} {m:Nat} {x:Int}:∀ {n:Nat},m < n→(∀i,i < n→g i=if i=m then f i+x else f i)→sumF g n=sumF f n+x
 | 0,h,_=>by omega
 | n+1,h,hg=>by
  show sumF g n+g n=sumF f n+f n+x
  rw [hg n (by omega)]
  by_cases e:n=m
  ·subst e
   rw [if_pos rfl,sumF_congr (g:=f) fun i hi=>by rw [hg i (by omega),if_neg (by omega)]]
   omega
  ·rw [if_neg e,sumF_pt (f:=f) (m:=m) (x:=x) (by omega) fun i hi=>hg i (by omega)]
   omega
theorem sumF_plus {f g h:Nat→Int}:∀ {n:Nat},(∀i,i < n→h i=f i+g i)→sumF h n=sumF f n+sumF g n
 | 0,_=>rfl
 | n+1,hh=>by
  show sumF h n+h n=sumF f n+f n+(sumF g n+g n)
  rw [sumF_plus fun i hi=>hh i (by omega),hh n (by omega)]
  omega
def gnD (fee itr pri k q:Int):Int:=if k=1 then prt q fee else if k=2 then q*pri else if k=3 then prt q itr else if k=7∨k=8 then 0-q else 0
theorem dE_ok {fee itr pri cre:Int} {A:Rows} {till k m o q:Int} (h:dE fee itr pri cre A till k m o q=0) :
  (k=2→q*pri≤cell A m.toNat 0)∧(k=3→cell A m.toNat 1+(q+prt q itr)≤cre)∧(k=4→q≤cell A m.toNat 1∧q≤cell A m.toNat 0)∧(k=5→q≤till∧q≤cell A m.toNat 0)∧(k=6→q≤cell A m.toNat 0)∧(k=7→q≤surp A till∧¬ idl A)∧(k=8→q≤till∧q≤surp A till):=by
 unfold dE at h
 refine⟨?_,?_,?_,?_,?_,?_,?_⟩<;>intro hk<;>subst hk<;>simp at h
 ·omega
 ·omega
 ·omega
 ·omega
 ·omega
 ·split at h
  ·omega
  ·refine⟨by omega,fun hi=>?_⟩
   rw [if_pos hi]at h
   omega
 ·omega
theorem dB_sum {fee itr pri cre:Int} {A:Rows} {till k m o q:Int} (hv:CoopOk fee itr pri cre A till) (h:dchk A.length k m o q=0) (h2:dE fee itr pri cre A till k m o q=0) :
  sumF (dB fee itr pri cre A till k m o q) A.length=colS 0 A A.length+(if k=1 then q-prt q fee else if k=2 then 0-q*pri else if k=3 then q else if k=4∨k=5 then 0-q else if k=7 then q else 0):=by
 have hl:=hv.l
 obtain⟨hk,hm,hq,ho⟩:=dchk_ok (by omega) h
 obtain⟨_,_,_,_,_,h7,_⟩:=dE_ok h2
 have hm1:m.toNat < A.length:=by omega
 unfold colS
 have one:∀x:Int,(∀i,i < A.length→dB fee itr pri cre A till k m o q i=if i=m.toNat then cell A i 0+x else cell A i 0)→sumF (dB fee itr pri cre A till k m o q) A.length=sumF (fun i=>cell A i 0) A.length+x:=fun x hx=>sumF_pt hm1 hx
 have hks:k=1∨k=2∨k=3∨k=4∨k=5∨k=6∨k=7∨k=8:=by omega
 rcases hks with rfl | rfl | rfl | rfl | rfl | rfl | rfl | rfl
 ·exact one _ fun i hi=>by simp [dB]
 ·exact one _ fun i hi=>by simp [dB]; split<;>omega
 ·exact one _ fun i hi=>by simp [dB]
 ·exact one _ fun i hi=>by simp [dB]; split<;>omega
 ·exact one _ fun i hi=>by simp [dB]; split<;>omega
 ·obtain⟨ho1,ho2⟩:=ho rfl
  have ho3:o.toNat < A.length:=by omega
  have e1:=sumF_pt (f:=fun i=>cell A i 0) (g:=fun i=>if i=o.toNat then cell A i 0+q else cell A i 0) (m:=o.toNat) (x:=q) (n:=A.length) ho3 fun i hi=>rfl
  have e2:=sumF_pt (f:=fun i=>if i=o.toNat then cell A i 0+q else cell A i 0) (g:=dB fee itr pri cre A till 6 m o q) (m:=m.toNat) (x:=0-q) (n:=A.length) hm1 fun i hi=>by
   have ne:¬ m.toNat=o.toNat:=by omega
   by_cases e:i=m.toNat
   ·subst e; simp [dB,ne]; omega
   ·simp [dB,e]
  simp
  omega
 ·have sh:=hv.shr (d:=q) (by unfold mny; omega) (h7 rfl).2
  have e1:=sumF_plus (f:=fun i=>cell A i 0) (g:=cS q A) (h:=dB fee itr pri cre A till 7 m o q) (n:=A.length) fun i hi=>by simp [dB]
  have e2:sumF (cS q A) A.length=q:=sh.sh.sum
  simp
  omega
 ·have e1:=sumF_congr (f:=dB fee itr pri cre A till 8 m o q) (g:=fun i=>cell A i 0) (n:=A.length) fun i hi=>by simp [dB]
  simp
  omega
theorem dD_sum {fee itr pri cre:Int} {A:Rows} {till k m o q:Int} (hv:CoopOk fee itr pri cre A till) (h:dchk A.length k m o q=0) :
  sumF (dD itr A k m q) A.length=colS 1 A A.length+(if k=3 then q+prt q itr else if k=4 then 0-q else 0):=by
 have hl:=hv.l
 obtain⟨hk,hm,hq,ho⟩:=dchk_ok (by omega) h
 have hm1:m.toNat < A.length:=by omega
 unfold colS
 refine sumF_pt hm1 fun i hi=>?_
 unfold dD
 by_cases e:i=m.toNat<;>by_cases e3:k=3<;>by_cases e4:k=4<;>simp [e,e3,e4]<;>omega
theorem rows3_cols (b d s:Nat→Int) (n:Nat):colS 0 (rows3 b d s n) n=sumF b n∧colS 1 (rows3 b d s n) n=sumF d n∧colS 2 (rows3 b d s n) n=sumF s n:=
 ⟨sumF_congr fun i hi=>rows3_0 _ _ _ hi,sumF_congr fun i hi=>rows3_1 _ _ _ hi,sumF_congr fun i hi=>rows3_2 _ _ _ hi⟩
theorem surp_step {fee itr pri cre:Int} {A:Rows} {till k m o q:Int} (hv:CoopOk fee itr pri cre A till) (h:dchk A.length k m o q=0) (h2:dE fee itr pri cre A till k m o q=0) :
  surp (dA fee itr pri cre A till k m o q) (dT till k q)=surp A till+gnD fee itr pri k q:=by
 have e1:=dB_sum hv h h2
 have e2:=dD_sum hv h
 obtain⟨hk,_⟩:=dchk_ok (by have:=hv.l; omega) h
 have el:(dA fee itr pri cre A till k m o q).length=A.length:=rows3_len _ _ _ _
 obtain⟨c0,c1,_⟩:=rows3_cols (dB fee itr pri cre A till k m o q) (dD itr A k m q) (dS A k m q) A.length
 unfold surp
 rw [el]
 unfold dA
 rw [c0,c1,e1,e2]
 have hks:k=1∨k=2∨k=3∨k=4∨k=5∨k=6∨k=7∨k=8:=by omega
 rcases hks with rfl | rfl | rfl | rfl | rfl | rfl | rfl | rfl<;>simp [dT,gnD]<;>omega
theorem step_ok {fee itr pri cre:Int} {A:Rows} {till k m o q:Int} (hv:CoopOk fee itr pri cre A till) (h:dchk A.length k m o q=0) (h2:dE fee itr pri cre A till k m o q=0) (h3:¬ fullC (dA fee itr pri cre A till k m o q) (dT till k q)) :
  CoopOk fee itr pri cre (dA fee itr pri cre A till k m o q) (dT till k q):=by
 have hl:=hv.l
 obtain⟨hk,hm,hq,ho⟩:=dchk_ok (by omega) h
 obtain⟨g2,g3,g4,g5,g6,g7,g8⟩:=dE_ok h2
 have hm1:m.toNat < A.length:=by omega
 have el:(dA fee itr pri cre A till k m o q).length=A.length:=rows3_len _ _ _ _
 have hr:=hv.r
 have ht:=hv.t
 have hs:=hv.s
 unfold mny at hr ht
 have pf:=prt_in (q:=q) (p:=fee) (by omega) hr.1
 have pi:=prt_in (q:=q) (p:=itr) (by omega) hr.2.1
 have hqp:0≤q*pri:=Int.mul_nonneg (by omega) hr.2.2.1.1
 have nf:¬ 1000000000 < dT till k q:=fun hh=>h3 (.inl hh)
 have nc:∀i,i < A.length→¬ (1000000000 < dB fee itr pri cre A till k m o q i∨1000000000 < dS A k m q i):=fun i hi hh=>h3 (.inr ⟨i,by rw [el]; exact hi,by
  unfold dA
  rw [rows3_0 _ _ _ hi,rows3_2 _ _ _ hi]
  exact hh⟩)
 have hks:k=1∨k=2∨k=3∨k=4∨k=5∨k=6∨k=7∨k=8:=by omega
 refine⟨hv.r,by rw [el]; exact hl,fun i hi=>?_,?_,?_⟩
 ·rw [el]at hi
  have ai:=hv.a i hi
  have am:=hv.a m.toNat hm1
  have ni:=nc i hi
  unfold accAt mny at ai am ⊢
  unfold dA
  rw [rows3_0 _ _ _ hi,rows3_1 _ _ _ hi,rows3_2 _ _ _ hi]
  have hcs:k=7→0≤cS q A i:=fun e=>(cS_in (hv.shr (d:=q) (by unfold mny; omega) (g7 e).2) hi).1
  clear g7 g8 h3 nc nf hs
  rcases hks with rfl | rfl | rfl | rfl | rfl | rfl | rfl | rfl<;>by_cases e:i=m.toNat<;>(try subst e)<;>simp [dB,dD,dS, *]at ni ⊢<;>(try split at ni)<;>(try split)<;>omega
 ·unfold mny
  unfold dT at nf ⊢
  rcases hks with rfl | rfl | rfl | rfl | rfl | rfl | rfl | rfl<;>simp at nf ⊢<;>omega
 ·rw [surp_step hv h h2]
  unfold gnD
  rcases hks with rfl | rfl | rfl | rfl | rfl | rfl | rfl | rfl<;>simp<;>omega
theorem full_bad {fee itr pri cre:Int} {A:Rows} {till:Int} (h:fullC A till):coopErr fee itr pri cre A till≠0:=fun h0=>by
 have hv:=coop_ok h0
 rcases h with h | ⟨i,hi,h⟩
 ·have:=hv.t; unfold mny at this; omega
 ·have:=hv.a i hi; unfold accAt mny at this; omega
noncomputable def doE (fee itr pri cre:Int) (A:Rows) (till k m o q:Int):Int:=if coopErr fee itr pri cre A till≠0 then coopErr fee itr pri cre A till else afE fee itr pri cre A till k m o q
noncomputable def rnS (fee itr pri cre:Int) (A:Rows) (till:Int) (D:Rows):Nat→DS
 | 0=>⟨0,A,till⟩
 | j+1=>if afE fee itr pri cre (rnS fee itr pri cre A till D j).A (rnS fee itr pri cre A till D j).t (cell D j 0) (cell D j 1) (cell D j 2) (cell D j 3)=0
  then ⟨0,dA fee itr pri cre (rnS fee itr pri cre A till D j).A (rnS fee itr pri cre A till D j).t (cell D j 0) (cell D j 1) (cell D j 2) (cell D j 3),dT (rnS fee itr pri cre A till D j).t (cell D j 0) (cell D j 3)⟩
  else ⟨afE fee itr pri cre (rnS fee itr pri cre A till D j).A (rnS fee itr pri cre A till D j).t (cell D j 0) (cell D j 1) (cell D j 2) (cell D j 3),(rnS fee itr pri cre A till D j).A,(rnS fee itr pri cre A till D j).t⟩
noncomputable def rnA (fee itr pri cre:Int) (A:Rows) (till:Int) (D:Rows) (j:Nat):Rows:=(rnS fee itr pri cre A till D j).A
noncomputable def rnT (fee itr pri cre:Int) (A:Rows) (till:Int) (D:Rows) (j:Nat):Int:=(rnS fee itr pri cre A till D j).t
noncomputable def rnE (fee itr pri cre:Int) (A:Rows) (till:Int) (D:Rows) (j:Nat):Int:=afE fee itr pri cre (rnA fee itr pri cre A till D j) (rnT fee itr pri cre A till D j) (cell D j 0) (cell D j 1) (cell D j 2) (cell D j 3)
noncomputable def erL (fee itr pri cre:Int) (A:Rows) (till:Int) (D:Rows) (k:Nat):Rows:=(List.range k).map fun j=>[rnE fee itr pri cre A till D j]
noncomputable def rnErr (fee itr pri cre:Int) (A:Rows) (till:Int) (D:Rows):Int:=if coopErr fee itr pri cre A till≠0 then coopErr fee itr pri cre A till else if 200 < D.length then 5 else 0
theorem rn_yes {fee itr pri cre:Int} {A:Rows} {till:Int} {D:Rows} {j:Nat} (h:rnE fee itr pri cre A till D j=0):rnA fee itr pri cre A till D (j+1)=dA fee itr pri cre (rnA fee itr pri cre A till D j) (rnT fee itr pri cre A till D j) (cell D j 0) (cell D j 1) (cell D j 2) (cell D j 3)∧rnT fee itr pri cre A till D (j+1)=dT (rnT fee itr pri cre A till D j) (cell D j 0) (cell D j 3):=by
 unfold rnE rnA rnT at h
 unfold rnA rnT
 simp only [rnS,if_pos h,and_self]
theorem rn_no {fee itr pri cre:Int} {A:Rows} {till:Int} {D:Rows} {j:Nat} (h:rnE fee itr pri cre A till D j≠0):rnA fee itr pri cre A till D (j+1)=rnA fee itr pri cre A till D j∧rnT fee itr pri cre A till D (j+1)=rnT fee itr pri cre A till D j:=by
 unfold rnE rnA rnT at h
 unfold rnA rnT
 simp only [rnS,if_neg h,and_self]
theorem rn_len {fee itr pri cre:Int} {A:Rows} {till:Int} {D:Rows}:∀j,(rnA fee itr pri cre A till D j).length=A.length
 | 0=>rfl
 | j+1=>by
  by_cases h:rnE fee itr pri cre A till D j=0
  ·rw [(rn_yes h).1]
   unfold dA
   rw [rows3_len,rn_len j]
  ·rw [(rn_no h).1,rn_len j]
theorem rn_row {fee itr pri cre:Int} {A:Rows} {till:Int} {D:Rows} (hr:∀r∈A,r.length=3):∀j,∀r∈rnA fee itr pri cre A till D j,r.length=3
 | 0=>hr
 | j+1=>by
  by_cases h:rnE fee itr pri cre A till D j=0
  ·rw [(rn_yes h).1]
   exact rows3_row _ _ _ _
  ·rw [(rn_no h).1]
   exact rn_row hr j
theorem afE_ok {fee itr pri cre:Int} {A:Rows} {till k m o q:Int} (h:afE fee itr pri cre A till k m o q=0):dchk A.length k m o q=0∧dE fee itr pri cre A till k m o q=0∧¬ fullC (dA fee itr pri cre A till k m o q) (dT till k q):=by
 by_cases h1:dchk A.length k m o q=0
 ·by_cases h2:dE fee itr pri cre A till k m o q=0
  ·rw [afE_ful h1 h2]at h
   split at h
   ·omega
   ·exact⟨h1,h2,by assumption⟩
  ·rw [afE_do h1 h2]at h
   exact absurd h h2
 ·rw [afE_chk h1]at h
  exact absurd h h1
theorem rn_ok {fee itr pri cre:Int} {A:Rows} {till:Int} {D:Rows} (hv:CoopOk fee itr pri cre A till):∀j,CoopOk fee itr pri cre (rnA fee itr pri cre A till D j) (rnT fee itr pri cre A till D j)
 | 0=>hv
 | j+1=>by
  have ih:=rn_ok hv (D:=D) j
  by_cases h:rnE fee itr pri cre A till D j=0
  ·obtain⟨e1,e2⟩:=rn_yes h
   rw [e1,e2]
   obtain⟨h1,h2,h3⟩:=afE_ok h
   exact step_ok ih h1 h2 h3
  ·obtain⟨e1,e2⟩:=rn_no h
   rw [e1,e2]
   exact ih
theorem erL_len {fee itr pri cre:Int} {A:Rows} {till:Int} {D:Rows} (k:Nat):(erL fee itr pri cre A till D k).length=k:=by simp [erL]
theorem erL_row {fee itr pri cre:Int} {A:Rows} {till:Int} {D:Rows} (k:Nat):∀r∈erL fee itr pri cre A till D k,r.length=1:=by
 intro r hr
 simp only [erL,List.mem_map]at hr
 obtain⟨_,_,rfl⟩:=hr
 rfl
theorem erL_succ {fee itr pri cre:Int} {A:Rows} {till:Int} {D:Rows} (k:Nat):erL fee itr pri cre A till D (k+1)=erL fee itr pri cre A till D k++[[rnE fee itr pri cre A till D k]]:=by simp [erL,List.range_succ]
theorem erL_at {fee itr pri cre:Int} {A:Rows} {till:Int} {D:Rows} {k:Nat} {x:Int} (hx:x=rnE fee itr pri cre A till D k):∀i,i < k+1→(behind k (.fn (Rv.elemOf [.i64] (erL fee itr pri cre A till D k))) 1 (litEl [SV.i .i64 x] 1 1)).at i=(El.fn (Rv.elemOf [.i64] (erL fee itr pri cre A till D (k+1)))).at i:=fun i hi=>by
 rw [erL_succ,hx]
 exact snoc1 (erL_len k) i hi
end Go.Proofs.Ytfebjikidfcbcaa.Sy
