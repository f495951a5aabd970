import Derived.Test.YtfebjikidfcbcaaSyP2
import Derived.Test.YtfebjikidfcbcaaGrM
import Derived.Test.YtfebjikidfcbcaaStM
import Derived.Test.YtfebjikidfcbcaaLrM
import Derived.Test.YtfebjikidfcbcaaDhM
import Derived.Test.YtfebjikidfcbcaaKtT
import Derived.Test.YtfebjikidfcbcaaKtA
import Derived.Test.YtfebjikidfcbcaaKtB
import Derived.Test.YtfebjikidfcbcaaKwA
import Derived.Test.YtfebjikidfcbcaaKwB
import Derived.Test.YtfebjikidfcbcaaKwC
import Derived.Test.YtfebjikidfcbcaaKwD
import Derived.Test.YtfebjikidfcbcaaKwE
import Derived.Test.YtfebjikidfcbcaaKwF
import Derived.Test.YtfebjikidfcbcaaKwI
import Derived.Test.YtfebjikidfcbcaaKwJ
import Derived.Test.YtfebjikidfcbcaaKwK
import Derived.Test.YtfebjikidfcbcaaKwM
import Derived.Test.YtfebjikidfcbcaaSyP2
import Derived.KernelRfl
import Derived.Test.YtfebjikidfcbcaaProg
namespace Go.Proofs.Ytfebjikidfcbcaa.Sy
open Go Go.Rv
set_option linter.unusedVariables false
theorem sumF_pt {f g:Nat→Int} {m:Nat} {x:Int}:∀ {n:Nat},m < n→(∀i,i < n→g i=if i=m then f i+x else f i)→sumF g n=sumF f n+x
 | 0,h,_=>by omega
 | n+1,h,hg=>by
  show sumF g n+g n=sumF f n+f n+x
  rw [hg n (by omega)]
  by_cases e:n=m
  ·subst e
   rw [if_pos rfl,sumF_congr (g:=f) fun i hi=>by rw [hg i (by omega),if_neg (by omega)]]
   omega
  ·rw [if_neg e,sumF_pt (f:=f) (m:=m) (x:=x) (by omega) fun i hi=>hg i (by omega)]
   omega
theorem sumF_plus {f g h:Nat→Int}:∀ {n:Nat},(∀i,i < n→h i=f i+g i)→sumF h n=sumF f n+sumF g n
 | 0,_=>rfl
 | n+1,hh=>by
  show sumF h n+h n=sumF f n+f n+(sumF g n+g n)
  rw [sumF_plus fun i hi=>hh i (by omega),hh n (by omega)]
  omega
def gnD (fee itr pri k q:Int):Int:=if k=1 then prt q fee else if k=2 then q*pri else if k=3 then prt q itr else if k=7∨k=8 then 0-q else 0
theorem dE_ok {fee itr pri cre:Int} {A:Rows} {till k m o q:Int} (h:dE fee itr pri cre A till k m o q=0) :
  (k=2→q*pri≤cell A m.toNat 0)∧(k=3→cell A m.toNat 1+(q+prt q itr)≤cre)∧(k=4→q≤cell A m.toNat 1∧q≤cell A m.toNat 0)∧(k=5→q≤till∧q≤cell A m.toNat 0)∧(k=6→q≤cell A m.toNat 0)∧(k=7→q≤surp A till∧¬ idl A)∧(k=8→q≤till∧q≤surp A till):=by
 unfold dE at h
 refine⟨?_,?_,?_,?_,?_,?_,?_⟩<;>intro hk<;>subst hk<;>simp at h
 ·omega
 ·omega
 ·omega
 ·omega
 ·omega
 ·split at h
  ·omega
  ·refine⟨by omega,fun hi=>?_⟩
   rw [if_pos hi]at h
   omega
 ·omega
theorem dB_sum {fee itr pri cre:Int} {A:Rows} {till k m o q:Int} (hv:CoopOk fee itr pri cre A till) (h:dchk A.length k m o q=0) (h2:dE fee itr pri cre A till k m o q=0) :
  sumF (dB fee itr pri cre A till k m o q) A.length=colS 0 A A.length+(if k=1 then q-prt q fee else if k=2 then 0-q*pri else if k=3 then q else if k=4∨k=5 then 0-q else if k=7 then q else 0):=by
 have hl:=hv.l
 obtain⟨hk,hm,hq,ho⟩:=dchk_ok (by omega) h
 obtain⟨_,_,_,_,_,h7,_⟩:=dE_ok h2
 have hm1:m.toNat < A.length:=by omega
 unfold colS
 have one:∀x:Int,(∀i,i < A.length→dB fee itr pri cre A till k m o q i=if i=m.toNat then cell A i 0+x else cell A i 0)→sumF (dB fee itr pri cre A till k m o q) A.length=sumF (fun i=>cell A i 0) A.length+x:=fun x hx=>sumF_pt hm1 hx
 have hks:k=1∨k=2∨k=3∨k=4∨k=5∨k=6∨k=7∨k=8:=by omega
 rcases hks with rfl | rfl | rfl | rfl | rfl | rfl | rfl | rfl
 ·exact one _ fun i hi=>by simp [dB]
 ·exact one _ fun i hi=>by simp [dB]; split<;>omega
 ·exact one _ fun i hi=>by simp [dB]
 ·exact one _ fun i hi=>by simp [dB]; split<;>omega
 ·exact one _ fun i hi=>by simp [dB]; split<;>omega
 ·obtain⟨ho1,ho2⟩:=ho rfl
  have ho3:o.toNat < A.length:=by omega
  have e1:=sumF_pt (f:=fun i=>cell A i 0) (g:=fun i=>if i=o.toNat then cell A i 0+q else cell A i 0) (m:=o.toNat) (x:=q) (n:=A.length) ho3 fun i hi=>rfl
  have e2:=sumF_pt (f:=fun i=>if i=o.toNat then cell A i 0+q else cell A i 0) (g:=dB fee itr pri cre A till 6 m o q) (m:=m.toNat) (x:=0-q) (n:=A.length) hm1 fun i hi=>by
   have ne:¬ m.toNat=o.toNat:=by omega
   by_cases e:i=m.toNat
   ·subst e; simp [dB,ne]; omega
   ·simp [dB,e]
  simp
  omega
 ·have sh:=hv.shr (d:=q) (by unfold mny; omega) (h7 rfl).2
  have e1:=sumF_plus (f:=fun i=>cell A i 0) (g:=cS q A) (h:=dB fee itr pri cre A till 7 m o q) (n:=A.length) fun i hi=>by simp [dB]
  have e2:sumF (cS q A) A.length=q:=sh.sh.sum
  simp
  omega
 ·have e1:=sumF_congr (f:=dB fee itr pri cre A till 8 m o q) (g:=fun i=>cell A i 0) (n:=A.length) fun i hi=>by simp [dB]
  simp
  omega
theorem dD_sum {fee itr pri cre:Int} {A:Rows} {till k m o q:Int} (hv:CoopOk fee itr pri cre A till) (h:dchk A.length k m o q=0) :
  sumF (dD itr A k m q) A.length=colS 1 A A.length+(if k=3 then q+prt q itr else if k=4 then 0-q else 0):=by
 have hl:=hv.l
 obtain⟨hk,hm,hq,ho⟩:=dchk_ok (by omega) h
 have hm1:m.toNat < A.length:=by omega
 unfold colS
 refine sumF_pt hm1 fun i hi=>?_
 unfold dD
 by_cases e:i=m.toNat<;>by_cases e3:k=3<;>by_cases e4:k=4<;>simp [e,e3,e4]<;>omega
theorem rows3_cols (b d s:Nat→Int) (n:Nat):colS 0 (rows3 b d s n) n=sumF b n∧colS 1 (rows3 b d s n) n=sumF d n∧colS 2 (rows3 b d s n) n=sumF s n:=
 ⟨sumF_congr fun i hi=>rows3_0 _ _ _ hi,sumF_congr fun i hi=>rows3_1 _ _ _ hi,sumF_congr fun i hi=>rows3_2 _ _ _ hi⟩
theorem surp_step {fee itr pri cre:Int} {A:Rows} {till k m o q:Int} (hv:CoopOk fee itr pri cre A till) (h:dchk A.length k m o q=0) (h2:dE fee itr pri cre A till k m o q=0) :
  surp (dA fee itr pri cre A till k m o q) (dT till k q)=surp A till+gnD fee itr pri k q:=by
 have e1:=dB_sum hv h h2
 have e2:=dD_sum hv h
 obtain⟨hk,_⟩:=dchk_ok (by have:=hv.l; omega) h
 have el:(dA fee itr pri cre A till k m o q).length=A.length:=rows3_len _ _ _ _
 obtain⟨c0,c1,_⟩:=rows3_cols (dB fee itr pri cre A till k m o q) (dD itr A k m q) (dS A k m q) A.length
 unfold surp
 rw [el]
 unfold dA
 rw [c0,c1,e1,e2]
 have hks:k=1∨k=2∨k=3∨k=4∨k=5∨k=6∨k=7∨k=8:=by omega
 rcases hks with rfl | rfl | rfl | rfl | rfl | rfl | rfl | rfl<;>simp [dT,gnD]<;>omega
theorem step_ok {fee itr pri cre:Int} {A:Rows} {till k m o q:Int} (hv:CoopOk fee itr pri cre A till) (h:dchk A.length k m o q=0) (h2:dE fee itr pri cre A till k m o q=0) (h3:¬ fullC (dA fee itr pri cre A till k m o q) (dT till k q)) :
  CoopOk fee itr pri cre (dA fee itr pri cre A till k m o q) (dT till k q):=by
 have hl:=hv.l
 obtain⟨hk,hm,hq,ho⟩:=dchk_ok (by omega) h
 obtain⟨g2,g3,g4,g5,g6,g7,g8⟩:=dE_ok h2
 have hm1:m.toNat < A.length:=by omega
 have el:(dA fee itr pri cre A till k m o q).length=A.length:=rows3_len _ _ _ _
 have hr:=hv.r
 have ht:=hv.t
 have hs:=hv.s
 unfold mny at hr ht
 have pf:=prt_in (q:=q) (p:=fee) (by omega) hr.1
 have pi:=prt_in (q:=q) (p:=itr) (by omega) hr.2.1
 have hqp:0≤q*pri:=Int.mul_nonneg (by omega) hr.2.2.1.1
 have nf:¬ 1000000000 < dT till k q:=fun hh=>h3 (.inl hh)
 have nc:∀i,i < A.length→¬ (1000000000 < dB fee itr pri cre A till k m o q i∨1000000000 < dS A k m q i):=fun i hi hh=>h3 (.inr ⟨i,by rw [el]; exact hi,by
  unfold dA
  rw [rows3_0 _ _ _ hi,rows3_2 _ _ _ hi]
  exact hh⟩)
 have hks:k=1∨k=2∨k=3∨k=4∨k=5∨k=6∨k=7∨k=8:=by omega
 refine⟨hv.r,by rw [el]; exact hl,fun i hi=>?_,?_,?_⟩
 ·rw [el]at hi
  have ai:=hv.a i hi
  have am:=hv.a m.toNat hm1
  have ni:=nc i hi
  unfold accAt mny at ai am ⊢
  unfold dA
  rw [rows3_0 _ _ _ hi,rows3_1 _ _ _ hi,rows3_2 _ _ _ hi]
  have hcs:k=7→0≤cS q A i:=fun e=>(cS_in (hv.shr (d:=q) (by unfold mny; omega) (g7 e).2) hi).1
  clear g7 g8 h3 nc nf hs
  rcases hks with rfl | rfl | rfl | rfl | rfl | rfl | rfl | rfl<;>by_cases e:i=m.toNat<;>(try subst e)<;>simp [dB,dD,dS, *]at ni ⊢<;>(try split at ni)<;>(try split)<;>omega
 ·unfold mny
  unfold dT at nf ⊢
  rcases hks with rfl | rfl | rfl | rfl | rfl | rfl | rfl | rfl<;>simp at nf ⊢<;>omega
 ·rw [surp_step hv h h2]
  unfold gnD
  rcases hks with rfl | rfl | rfl | rfl | rfl | rfl | rfl | rfl<;>simp<;>omega
noncomputable def doE (fee itr pri cre:Int) (A:Rows) (till k m o q:Int):Int:=if coopErr fee itr pri cre A till≠0 then coopErr fee itr pri cre A till else afE fee itr pri cre A till k m o q
noncomputable def rnS (fee itr pri cre:Int) (A:Rows) (till:Int) (D:Rows):Nat→DS
 | 0=>⟨0,A,till⟩
 | j+1=>if afE fee itr pri cre (rnS fee itr pri cre A till D j).A (rnS fee itr pri cre A till D j).t (cell D j 0) (cell D j 1) (cell D j 2) (cell D j 3)=0
  then ⟨0,dA fee itr pri cre (rnS fee itr pri cre A till D j).A (rnS fee itr pri cre A till D j).t (cell D j 0) (cell D j 1) (cell D j 2) (cell D j 3),dT (rnS fee itr pri cre A till D j).t (cell D j 0) (cell D j 3)⟩
  else ⟨afE fee itr pri cre (rnS fee itr pri cre A till D j).A (rnS fee itr pri cre A till D j).t (cell D j 0) (cell D j 1) (cell D j 2) (cell D j 3),(rnS fee itr pri cre A till D j).A,(rnS fee itr pri cre A till D j).t⟩
noncomputable def rnA (fee itr pri cre:Int) (A:Rows) (till:Int) (D:Rows) (j:Nat):Rows:=(rnS fee itr pri cre A till D j).A
noncomputable def rnT (fee itr pri cre:Int) (A:Rows) (till:Int) (D:Rows) (j:Nat):Int:=(rnS fee itr pri cre A till D j).t
noncomputable def rnE (fee itr pri cre:Int) (A:Rows) (till:Int) (D:Rows) (j:Nat):Int:=afE fee itr pri cre (rnA fee itr pri cre A till D j) (rnT fee itr pri cre A till D j) (cell D j 0) (cell D j 1) (cell D j 2) (cell D j 3)
noncomputable def erL (fee itr pri cre:Int) (A:Rows) (till:Int) (D:Rows) (k:Nat):Rows:=(List.range k).map fun j=>[rnE fee itr pri cre A till D j]
noncomputable def rnErr (fee itr pri cre:Int) (A:Rows) (till:Int) (D:Rows):Int:=if coopErr fee itr pri cre A till≠0 then coopErr fee itr pri cre A till else if 200 < D.length then 5 else 0
theorem rn_yes {fee itr pri cre:Int} {A:Rows} {till:Int} {D:Rows} {j:Nat} (h:rnE fee itr pri cre A till D j=0):rnA fee itr pri cre A till D (j+1)=dA fee itr pri cre (rnA fee itr pri cre A till D j) (rnT fee itr pri cre A till D j) (cell D j 0) (cell D j 1) (cell D j 2) (cell D j 3)∧rnT fee itr pri cre A till D (j+1)=dT (rnT fee itr pri cre A till D j) (cell D j 0) (cell D j 3):=by
 unfold rnE rnA rnT at h
 unfold rnA rnT
 simp only [rnS,if_pos h,and_self]
theorem rn_no {fee itr pri cre:Int} {A:Rows} {till:Int} {D:Rows} {j:Nat} (h:rnE fee itr pri cre A till D j≠0):rnA fee itr pri cre A till D (j+1)=rnA fee itr pri cre A till D j∧rnT fee itr pri cre A till D (j+1)=rnT fee itr pri cre A till D j:=by
 unfold rnE rnA rnT at h
 unfold rnA rnT
 simp only [rnS,if_neg h,and_self]
theorem rn_len {fee itr pri cre:Int} {A:Rows} {till:Int} {D:Rows}:∀j,(rnA fee itr pri cre A till D j).length=A.length
 | 0=>rfl
 | j+1=>by
  by_cases h:rnE fee itr pri cre A till D j=0
  ·rw [(rn_yes h).1]
   unfold dA
   rw [rows3_len,rn_len j]
  ·rw [(rn_no h).1,rn_len j]
theorem rn_row {fee itr pri cre:Int} {A:Rows} {till:Int} {D:Rows} (hr:∀r∈A,r.length=3):∀j,∀r∈rnA fee itr pri cre A till D j,r.length=3
 | 0=>hr
 | j+1=>by
  by_cases h:rnE fee itr pri cre A till D j=0
  ·rw [(rn_yes h).1]
   exact rows3_row _ _ _ _
  ·rw [(rn_no h).1]
   exact rn_row hr j
theorem afE_ok {fee itr pri cre:Int} {A:Rows} {till k m o q:Int} (h:afE fee itr pri cre A till k m o q=0):dchk A.length k m o q=0∧dE fee itr pri cre A till k m o q=0∧¬ fullC (dA fee itr pri cre A till k m o q) (dT till k q):=by
 by_cases h1:dchk A.length k m o q=0
 ·by_cases h2:dE fee itr pri cre A till k m o q=0
  ·rw [afE_ful h1 h2]at h
   split at h
   ·omega
   ·exact⟨h1,h2,by assumption⟩
  ·rw [afE_do h1 h2]at h
   exact absurd h h2
 ·rw [afE_chk h1]at h
  exact absurd h h1
theorem rn_ok {fee itr pri cre:Int} {A:Rows} {till:Int} {D:Rows} (hv:CoopOk fee itr pri cre A till):∀j,CoopOk fee itr pri cre (rnA fee itr pri cre A till D j) (rnT fee itr pri cre A till D j)
 | 0=>hv
 | j+1=>by
  have ih:=rn_ok hv (D:=D) j
  by_cases h:rnE fee itr pri cre A till D j=0
  ·obtain⟨e1,e2⟩:=rn_yes h
   rw [e1,e2]
   obtain⟨h1,h2,h3⟩:=afE_ok h
   exact step_ok ih h1 h2 h3
  ·obtain⟨e1,e2⟩:=rn_no h
   rw [e1,e2]
   exact ih
theorem erL_len {fee itr pri cre:Int} {A:Rows} {till:Int} {D:Rows} (k:Nat):(erL fee itr pri cre A till D k).length=k:=by simp [erL]
theorem erL_succ {fee itr pri cre:Int} {A:Rows} {till:Int} {D:Rows} (k:Nat):erL fee itr pri cre A till D (k+1)=erL fee itr pri cre A till D k++[[rnE fee itr pri cre A till D k]]:=by simp [erL,List.range_succ]
theorem erL_at {fee itr pri cre:Int} {A:Rows} {till:Int} {D:Rows} {k:Nat} {x:Int} (hx:x=rnE fee itr pri cre A till D k):∀i,i < k+1→(behind k (.fn (Rv.elemOf [.i64] (erL fee itr pri cre A till D k))) 1 (litEl [SV.i .i64 x] 1 1)).at i=(El.fn (Rv.elemOf [.i64] (erL fee itr pri cre A till D (k+1)))).at i:=fun i hi=>by
 rw [erL_succ,hx]
 exact snoc1 (erL_len k) i hi
noncomputable def C_Do:List Dat→Prop:=fun l=>match l with | [.z fee,.z itr,.z pri,.z cre,.l A,.z till,.z dk,.z dm,.z dO,.z dq]=>doE fee itr pri cre A till dk dm dO dq≠0 | _=>False
noncomputable def F_Do:FnE:=⟨15,none,[.agg [.i .i64,.i .i64,.i .i64,.i .i64,.l [.i64,.i64,.i64],.i .i64],.agg [.i .i64,.i .i64,.i .i64,.i .i64]],fun l=>match l with | [.z fee,.z itr,.z pri,.z cre,.l A,.z till,.z dk,.z dm,.z dO,.z dq]=>A.length≤4000000 | _=>False,fun l=>match l with | [.z fee,.z itr,.z pri,.z cre,.l A,.z till,.z dk,.z dm,.z dO,.z dq]=>[.agg [.i .i64 fee,.i .i64 itr,.i .i64 pri,.i .i64 cre,.gsl 0 A.length 3 false,.i .i64 (dT till dk dq)],.i .i64 0] | _=>[],fun l=>match l with | [.z fee,.z itr,.z pri,.z cre,.l A,.z till,.z dk,.z dm,.z dO,.z dq]=>[.gr A.length 3 (.fn (Rv.elemOf [.i64,.i64,.i64] (dA fee itr pri cre A till dk dm dO dq))) .gr false] | _=>[],fun l=>match l with | [.z fee,.z itr,.z pri,.z cre,.l A,.z till,.z dk,.z dm,.z dO,.z dq]=>[] | _=>[],false,some ⟨C_Do,isNilC,fun l=>match l with | [.z fee,.z itr,.z pri,.z cre,.l A,.z till,.z dk,.z dm,.z dO,.z dq]=>[.agg [.v (.int .i64 0),.v (.int .i64 0),.v (.int .i64 0),.v (.int .i64 0),.v (.slice none 0 0),.v (.int .i64 0)],.i .i64 (doE fee itr pri cre A till dk dm dO dq)] | _=>[],fun l=>match l with | [.z fee,.z itr,.z pri,.z cre,.l A,.z till,.z dk,.z dm,.z dO,.z dq]=>[] | _=>[],fun l=>match l with | [.z fee,.z itr,.z pri,.z cre,.l A,.z till,.z dk,.z dm,.z dO,.z dq]=>[] | _=>[]⟩,none⟩
noncomputable def A_Do:List SV→List Dat→Nat→List SV→Ann:=fun _ _ _ _=>noAnn
def V_Do:Prop:=∀(B:RW) (n n_1 n_2 n_3:Int) (x:RV) (rows:List (List Int)),IsLst B x rows.length 3 (Rv.elemOf [.i64,.i64,.i64] rows)→oneB x=true→(∀row∈rows,row.length=3)→∀(n_4 n_5 n_6 n_7 n_8:Int),F_Do.pre ([Dat.z n,Dat.z n_1,Dat.z n_2,Dat.z n_3,Dat.l rows,Dat.z n_4]++([Dat.z n_5,Dat.z n_6,Dat.z n_7,Dat.z n_8]++[]))→∃(l1:List (List Int)),Ob (IsLst B x rows.length 3 (Rv.elemOf [.i64,.i64,.i64] rows)∧l1.length=rows.length∧(∀r∈l1,r.length=3)∧∀(i:Nat),i < rows.length→Rv.elemOf [.i64,.i64,.i64] rows i=Rv.elemOf [.i64,.i64,.i64] l1 i)∧Ob (F_CheckC.pre ([Dat.z n,Dat.z n_1,Dat.z n_2,Dat.z n_3,Dat.l l1,Dat.z n_4]++[]))∧(¬coopErr n n_1 n_2 n_3 l1 n_4=(0:Int)→Ob (C_Do ([Dat.z n,Dat.z n_1,Dat.z n_2,Dat.z n_3,Dat.l rows,Dat.z n_4]++([Dat.z n_5,Dat.z n_6,Dat.z n_7,Dat.z n_8]++[])))∧Ob (Value.int .i64 (0:Int)=Value.int .i64 (0:Int))∧Ob (Value.int .i64 (0:Int)=Value.int .i64 (0:Int))∧Ob (Value.int .i64 (0:Int)=Value.int .i64 (0:Int))∧Ob (Value.int .i64 (0:Int)=Value.int .i64 (0:Int))∧Ob (SV.v (Value.slice none 0 0)=SV.v (Value.slice none 0 0))∧Ob (Value.int .i64 (0:Int)=Value.int .i64 (0:Int))∧Ob (coopErr n n_1 n_2 n_3 l1 n_4=doE n n_1 n_2 n_3 rows n_4 n_5 n_6 n_7 n_8)∧True)∧(¬¬coopErr n n_1 n_2 n_3 l1 n_4=(0:Int)→∃(l2:List (List Int)),Ob (IsLst B x rows.length 3 (Rv.elemOf [.i64,.i64,.i64] rows)∧l2.length=rows.length∧(∀r∈l2,r.length=3)∧∀(i:Nat),i < rows.length→Rv.elemOf [.i64,.i64,.i64] rows i=Rv.elemOf [.i64,.i64,.i64] l2 i)∧Ob (F_after.pre ([Dat.z n,Dat.z n_1,Dat.z n_2,Dat.z n_3,Dat.l l2,Dat.z n_4]++([Dat.z n_5,Dat.z n_6,Dat.z n_7,Dat.z n_8]++[])))∧(C_after ([Dat.z n,Dat.z n_1,Dat.z n_2,Dat.z n_3,Dat.l l2,Dat.z n_4]++([Dat.z n_5,Dat.z n_6,Dat.z n_7,Dat.z n_8]++[]))→Ob (C_Do ([Dat.z n,Dat.z n_1,Dat.z n_2,Dat.z n_3,Dat.l rows,Dat.z n_4]++([Dat.z n_5,Dat.z n_6,Dat.z n_7,Dat.z n_8]++[])))∧Ob (Value.int .i64 (0:Int)=Value.int .i64 (0:Int))∧Ob (Value.int .i64 (0:Int)=Value.int .i64 (0:Int))∧Ob (Value.int .i64 (0:Int)=Value.int .i64 (0:Int))∧Ob (Value.int .i64 (0:Int)=Value.int .i64 (0:Int))∧Ob (shiftS 3 (SV.v (Value.slice none 0 0))=SV.v (Value.slice none 0 0))∧Ob (Value.int .i64 (0:Int)=Value.int .i64 (0:Int))∧Ob (afE n n_1 n_2 n_3 l2 n_4 n_5 n_6 n_7 n_8=doE n n_1 n_2 n_3 rows n_4 n_5 n_6 n_7 n_8)∧True)∧(¬C_after ([Dat.z n,Dat.z n_1,Dat.z n_2,Dat.z n_3,Dat.l l2,Dat.z n_4]++([Dat.z n_5,Dat.z n_6,Dat.z n_7,Dat.z n_8]++[]))→Ob ¬C_Do ([Dat.z n,Dat.z n_1,Dat.z n_2,Dat.z n_3,Dat.l rows,Dat.z n_4]++([Dat.z n_5,Dat.z n_6,Dat.z n_7,Dat.z n_8]++[]))∧Ob (n=n)∧Ob (n_1=n_1)∧Ob (n_2=n_2)∧Ob (n_3=n_3)∧Ob (l2.length=rows.length)∧Ob (dT n_4 n_5 n_8=dT n_4 n_5 n_8)∧Ob ((0:Int)=(0:Int))∧Ob (l2.length=rows.length∧∀(i:Nat),i < rows.length→(El.fn (Rv.elemOf [.i64,.i64,.i64] (dA n n_1 n_2 n_3 l2 n_4 n_5 n_6 n_7 n_8))).at i=(El.fn (Rv.elemOf [.i64,.i64,.i64] (dA n n_1 n_2 n_3 rows n_4 n_5 n_6 n_7 n_8))).at i)∧Ob (PlainE rows.length (El.fn (Rv.elemOf [.i64,.i64,.i64] (dA n n_1 n_2 n_3 rows n_4 n_5 n_6 n_7 n_8))))∧True))
set_option linter.unusedSimpArgs false in
set_option maxRecDepth 4000 in
set_option maxHeartbeats 400000 in
theorem v_Do:V_Do:=by
 unfold V_Do
 intro B fee itr pri cre x A hx hox hrx till dk dm dO dq hA
 have hA:A.length≤4000000:=hA
 have n1:coopErr fee itr pri cre A till≠0→doE fee itr pri cre A till dk dm dO dq=coopErr fee itr pri cre A till:=fun h=>by unfold doE; rw [if_pos h]
 have n2:coopErr fee itr pri cre A till=0→doE fee itr pri cre A till dk dm dO dq=afE fee itr pri cre A till dk dm dO dq:=fun h=>by unfold doE; rw [if_neg (fun hh=>hh h)]
 simp only [Ob_iff,and_true,true_and,Classical.not_not]
 refine⟨A,⟨hx,rfl,hrx,fun _ _=>rfl⟩,hA,fun h1=>⟨show doE fee itr pri cre A till dk dm dO dq≠0 by rw [n1 h1]; exact h1,(n1 h1).symm⟩,fun h1=>⟨A,⟨hx,rfl,hrx,fun _ _=>rfl⟩,h1,fun h2=>?_,fun h2=>?_⟩⟩
 ·have h2:afE fee itr pri cre A till dk dm dO dq≠0:=h2
  exact⟨show doE fee itr pri cre A till dk dm dO dq≠0 by rw [n2 h1]; exact h2,rfl,(n2 h1).symm⟩
 ·have h2:¬ afE fee itr pri cre A till dk dm dO dq≠0:=h2
  exact⟨fun hh=>h2 (by rw [← n2 h1]; exact hh),rfl,⟨rfl,fun _ _=>rfl⟩,plain_elemOf _ _ _⟩
theorem e_Do:V_Do=needE P [] [F_CheckC,F_after] A_Do F_Do:=by kernel_rfl
theorem n_Do:Ob (needE P [] [F_CheckC,F_after] A_Do F_Do):=by
 rw [← e_Do]
 exact⟨v_Do⟩
theorem b_Do:((P.funcs[15]?).any fun fn=>fn.body.isSome)=true:=by kernel_rfl
theorem Do_ok:FnE.Ok P F_Do:=FnE.ok named (l:=[]) (es:=[F_CheckC,F_after]) (A:=A_Do) (by rfl) (by rfl) (by rfl) (by
 intro F h; simp at h) (by
 intro F h
 simp only [List.mem_cons,List.not_mem_nil,or_false]at h
 rcases h with rfl | rfl
 ·exact CheckC_ok
 ·exact after_ok
) b_Do (by
 intro ds h o ho n sz e k z he
 subst he
 simp only [F_Do]at ho
 split at ho
 ·simp only [List.mem_cons,List.not_mem_nil,or_false,SObj.gr.injEq]at ho
  obtain⟨rfl,rfl,rfl,rfl,rfl⟩:=ho
  exact plain_elemOf _ _ _
 ·simp at ho) n_Do (by
 intro a ha ds h hc o ho
 simp only [F_Do,Option.some.injEq]at ha
 subst ha
 simp only at ho
 split at ho<;>simp at ho)
noncomputable def C_Run:List Dat→Prop:=fun l=>match l with | [.z fee,.z itr,.z pri,.z cre,.l A,.z till,.l D]=>rnErr fee itr pri cre A till D≠0 | _=>False
noncomputable def F_Run:FnE:=⟨17,none,[.agg [.i .i64,.i .i64,.i .i64,.i .i64,.l [.i64,.i64,.i64],.i .i64],.one (.l [.i64,.i64,.i64,.i64])],fun l=>match l with | [.z fee,.z itr,.z pri,.z cre,.l A,.z till,.l D]=>A.length≤4000000∧D.length≤4000000 | _=>False,fun l=>match l with | [.z fee,.z itr,.z pri,.z cre,.l A,.z till,.l D]=>[.agg [.i .i64 fee,.i .i64 itr,.i .i64 pri,.i .i64 cre,.gsl 0 A.length 3 false,.i .i64 (rnT fee itr pri cre A till D D.length)],.gsl 1 D.length 1 true,.v (.int .i64 0)] | _=>[],fun l=>match l with | [.z fee,.z itr,.z pri,.z cre,.l A,.z till,.l D]=>[.gr D.length 1 (.fn (Rv.elemOf [.i64] (erL fee itr pri cre A till D D.length))) .gr true,.gr A.length 3 (.fn (Rv.elemOf [.i64,.i64,.i64] (rnA fee itr pri cre A till D D.length))) .gr false] | _=>[],fun l=>match l with | [.z fee,.z itr,.z pri,.z cre,.l A,.z till,.l D]=>[] | _=>[],false,some ⟨C_Run,isNilC,fun l=>match l with | [.z fee,.z itr,.z pri,.z cre,.l A,.z till,.l D]=>[.agg [.v (.int .i64 0),.v (.int .i64 0),.v (.int .i64 0),.v (.int .i64 0),.v (.slice none 0 0),.v (.int .i64 0)],.v (.slice none 0 0),.i .i64 (rnErr fee itr pri cre A till D)] | _=>[],fun l=>match l with | [.z fee,.z itr,.z pri,.z cre,.l A,.z till,.l D]=>[] | _=>[],fun l=>match l with | [.z fee,.z itr,.z pri,.z cre,.l A,.z till,.l D]=>[] | _=>[]⟩,none⟩
noncomputable def A_Run:List SV→List Dat→Nat→List SV→Ann:=fun xs ds n ts=>match xs with
 | [.agg [_,_,_,_,.lst x _ _ _,_],.lst y _ _ _]=>match ds with
  | [.z fee,.z itr,.z pri,.z cre,.l A,.z till,.l D]=>match n with
   | 9=>⟨Nat,fun k=>[none,none,none,none,some (SV.ptr ((1:Nat)) ((0:Nat))),some (SV.v (Value.slice none ((0:Nat)) ((0:Nat)))),some (SV.v (Value.int IntKind.i64 (0:Int))),none,some (.ptr 5 0),some (.gsl 6 k 1 true),none,none,none,none,none,none,none,none,none,none,none,none,none,none,none,none,none,none,none,some (SV.lst y D.length ((4:Nat)) (Rv.elemOf [IntKind.i64,IntKind.i64,IntKind.i64,IntKind.i64] D)),some (SV.i IntKind.i64 (↑D.length:Int)),some (.i .i64 k),none,none,none,none,none,none,none,none,none,none,none,none,none,none,none,none,none,none,none],fun k=>[.gr k 1 (.fn (Rv.elemOf [.i64] (erL fee itr pri cre A till D k))) .gr true,.cells [.i .i64 fee,.i .i64 itr,.i .i64 pri,.i .i64 cre,.gsl 3 A.length 3 false,.i .i64 (rnT fee itr pri cre A till D k)] .ex,.dead,.gr A.length 3 (.fn (Rv.elemOf [.i64,.i64,.i64] (rnA fee itr pri cre A till D k))) .gr false,.dead,SObj.cells [SV.v (Value.int IntKind.i64 (0:Int)),SV.v (Value.int IntKind.i64 (0:Int)),SV.v (Value.int IntKind.i64 (0:Int)),SV.v (Value.int IntKind.i64 (0:Int)),SV.v (Value.slice none ((0:Nat)) ((0:Nat))),SV.v (Value.int IntKind.i64 (0:Int))] Kd.ex,SObj.cells [SV.i IntKind.i64 fee,SV.i IntKind.i64 itr,SV.i IntKind.i64 pri,SV.i IntKind.i64 cre,SV.lst x A.length ((3:Nat)) (Rv.elemOf [IntKind.i64,IntKind.i64,IntKind.i64] A),SV.i IntKind.i64 till] Kd.ex],fun k=>k≤D.length,fun k=>D.length-k,0⟩
   | _=>noAnn
  | _=>noAnn
 | _=>noAnn
def V_Run:Prop:=∀(B:RW) (n n_1 n_2 n_3:Int) (x:RV) (rows:List (List Int)),IsLst B x rows.length 3 (Rv.elemOf [.i64,.i64,.i64] rows)→oneB x=true→(∀row∈rows,row.length=3)→∀(n_4:Int) (x_1:RV) (l1:List (List Int)),IsLst B x_1 l1.length 4 (Rv.elemOf [.i64,.i64,.i64,.i64] l1)→oneB x_1=true→(∀row∈l1,row.length=4)→F_Run.pre ([Dat.z n,Dat.z n_1,Dat.z n_2,Dat.z n_3,Dat.l rows,Dat.z n_4]++([Dat.l l1]++[]))→∃(l2:List (List Int)),Ob (IsLst B x rows.length 3 (Rv.elemOf [.i64,.i64,.i64] rows)∧l2.length=rows.length∧(∀r∈l2,r.length=3)∧∀(i:Nat),i < rows.length→Rv.elemOf [.i64,.i64,.i64] rows i=Rv.elemOf [.i64,.i64,.i64] l2 i)∧Ob (F_CheckC.pre ([Dat.z n,Dat.z n_1,Dat.z n_2,Dat.z n_3,Dat.l l2,Dat.z n_4]++[]))∧(¬coopErr n n_1 n_2 n_3 l2 n_4=(0:Int)→Ob (C_Run ([Dat.z n,Dat.z n_1,Dat.z n_2,Dat.z n_3,Dat.l rows,Dat.z n_4]++([Dat.l l1]++[])))∧Ob (Value.int .i64 (0:Int)=Value.int .i64 (0:Int))∧Ob (Value.int .i64 (0:Int)=Value.int .i64 (0:Int))∧Ob (Value.int .i64 (0:Int)=Value.int .i64 (0:Int))∧Ob (Value.int .i64 (0:Int)=Value.int .i64 (0:Int))∧Ob (SV.v (Value.slice none 0 0)=SV.v (Value.slice none 0 0))∧Ob (Value.int .i64 (0:Int)=Value.int .i64 (0:Int))∧Ob (SV.v (Value.slice none 0 0)=SV.v (Value.slice none 0 0))∧Ob (coopErr n n_1 n_2 n_3 l2 n_4=rnErr n n_1 n_2 n_3 rows n_4 l1)∧True)∧(¬¬coopErr n n_1 n_2 n_3 l2 n_4=(0:Int)→Ob (IsLst B x_1 l1.length 4 (Rv.elemOf [.i64,.i64,.i64,.i64] l1))∧((200:Int) < (↑l1.length:Int)→Ob (C_Run ([Dat.z n,Dat.z n_1,Dat.z n_2,Dat.z n_3,Dat.l rows,Dat.z n_4]++([Dat.l l1]++[])))∧Ob (Value.int .i64 (0:Int)=Value.int .i64 (0:Int))∧Ob (Value.int .i64 (0:Int)=Value.int .i64 (0:Int))∧Ob (Value.int .i64 (0:Int)=Value.int .i64 (0:Int))∧Ob (Value.int .i64 (0:Int)=Value.int .i64 (0:Int))∧Ob (SV.v (Value.slice none 0 0)=SV.v (Value.slice none 0 0))∧Ob (Value.int .i64 (0:Int)=Value.int .i64 (0:Int))∧Ob (SV.v (Value.slice none 0 0)=SV.v (Value.slice none 0 0))∧Ob ((5:Int)=rnErr n n_1 n_2 n_3 rows n_4 l1)∧True)∧(¬(200:Int) < (↑l1.length:Int)→∃(l3:List (List Int)),Ob (IsLst B x rows.length 3 (Rv.elemOf [.i64,.i64,.i64] rows)∧l3.length=rows.length∧(∀r∈l3,r.length=3)∧∀(i:Nat),i < rows.length→Rv.elemOf [.i64,.i64,.i64] rows i=Rv.elemOf [.i64,.i64,.i64] l3 i)∧Ob (F_cloneA.pre [Dat.l l3])∧Ob (IsLst B x_1 l1.length 4 (Rv.elemOf [.i64,.i64,.i64,.i64] l1))∧(∃(a:Nat),Ob (a≤l1.length)∧Ob (SV.v (Value.slice none 0 0)=SV.v (Value.slice none 0 0))∧Ob (Value.int .i64 (0:Int)=Value.int .i64 (0:Int))∧Ob (a=(0:Nat))∧Ob (SV.lst x_1 l1.length 4 (Rv.elemOf [.i64,.i64,.i64,.i64] l1)=SV.lst x_1 l1.length 4 (Rv.elemOf [.i64,.i64,.i64,.i64] l1))∧Ob ((↑l1.length:Int)=(↑l1.length:Int))∧Ob ((0:Int)=(↑a:Int))∧Ob (a=(0:Nat))∧Ob (n=n)∧Ob (n_1=n_1)∧Ob (n_2=n_2)∧Ob (n_3=n_3)∧Ob (l3.length=rows.length)∧Ob (n_4=rnT n n_1 n_2 n_3 rows n_4 l1 a)∧Ob (l3.length=rows.length∧∀(i:Nat),i < rows.length→(El.fn (Rv.elemOf [.i64,.i64,.i64] l3)).at i=(El.fn (Rv.elemOf [.i64,.i64,.i64] (rnA n n_1 n_2 n_3 rows n_4 l1 a))).at i)∧Ob (Value.int .i64 (0:Int)=Value.int .i64 (0:Int))∧Ob (Value.int .i64 (0:Int)=Value.int .i64 (0:Int))∧Ob (Value.int .i64 (0:Int)=Value.int .i64 (0:Int))∧Ob (Value.int .i64 (0:Int)=Value.int .i64 (0:Int))∧Ob (SV.v (Value.slice none 0 0)=SV.v (Value.slice none 0 0))∧Ob (Value.int .i64 (0:Int)=Value.int .i64 (0:Int))∧Ob (n=n)∧Ob (n_1=n_1)∧Ob (n_2=n_2)∧Ob (n_3=n_3)∧Ob (SV.lst x rows.length 3 (Rv.elemOf [.i64,.i64,.i64] rows)=SV.lst x rows.length 3 (Rv.elemOf [.i64,.i64,.i64] rows))∧Ob (n_4=n_4)∧Ob (IsLst B x_1 l1.length 4 (Rv.elemOf [.i64,.i64,.i64,.i64] l1))∧Ob (PlainE a (El.fn (Rv.elemOf [.i64] (erL n n_1 n_2 n_3 rows n_4 l1 a))))∧Ob (PlainE rows.length (El.fn (Rv.elemOf [.i64,.i64,.i64] (rnA n n_1 n_2 n_3 rows n_4 l1 a))))∧Ob (IsLst B x rows.length 3 (Rv.elemOf [.i64,.i64,.i64] rows))∧True)∧∀(a:Nat),a≤l1.length→∀(_ _ _ _ _ _ _ _ _ _ _ _ _ _ _ _ _ _ _ _ _ _ _ _ _ _ _ _ _ _ _ _ _ _ _ _ _ _ _ _ _ _ _:Value),((↑a:Int) < (↑l1.length:Int)→Ob ((0:Int)≤(↑a:Int)∧a < l1.length∧IsLst B x_1 l1.length 4 (Rv.elemOf [.i64,.i64,.i64,.i64] l1))∧Ob (IsLst B x_1 l1.length 4 (Rv.elemOf [.i64,.i64,.i64,.i64] l1)∧a < l1.length)∧∃(l4:List (List Int)),Ob (rows.length=rows.length∧l4.length=rows.length∧(∀r∈l4,r.length=3)∧∀(i:Nat),i < rows.length→(El.fn (Rv.elemOf [.i64,.i64,.i64] (rnA n n_1 n_2 n_3 rows n_4 l1 a))).at i=Rv.elemOf [.i64,.i64,.i64] l4 i)∧Ob (F_after.pre ([Dat.z n,Dat.z n_1,Dat.z n_2,Dat.z n_3,Dat.l l4,Dat.z (rnT n n_1 n_2 n_3 rows n_4 l1 a)]++([Dat.z (cell l1 a 0),Dat.z (cell l1 a 1),Dat.z (cell l1 a 2),Dat.z (cell l1 a 3)]++[])))∧(C_after ([Dat.z n,Dat.z n_1,Dat.z n_2,Dat.z n_3,Dat.l l4,Dat.z (rnT n n_1 n_2 n_3 rows n_4 l1 a)]++([Dat.z (cell l1 a 0),Dat.z (cell l1 a 1),Dat.z (cell l1 a 2),Dat.z (cell l1 a 3)]++[]))→(afE n n_1 n_2 n_3 l4 (rnT n n_1 n_2 n_3 rows n_4 l1 a) (cell l1 a 0) (cell l1 a 1) (cell l1 a 2) (cell l1 a 3)=(0:Int)→Ob (a=a∧∀(i:Nat),i < a→((El.fn (Rv.elemOf [.i64] (erL n n_1 n_2 n_3 rows n_4 l1 a))).at i).length=(1:Nat))∧Ob ((a+(1:Nat))*(2:Nat)*(9:Nat)≤1099511627776)∧Ob (a=a)∧Ob (InR .i64 ((↑a:Int)+(1:Int)))∧∃(a':Nat),Ob (a'≤l1.length∧l1.length-a' < l1.length-a)∧Ob (SV.v (Value.slice none 0 0)=SV.v (Value.slice none 0 0))∧Ob (Value.int .i64 (0:Int)=Value.int .i64 (0:Int))∧Ob (a+(1:Nat)=a')∧Ob (SV.lst x_1 l1.length 4 (Rv.elemOf [.i64,.i64,.i64,.i64] l1)=SV.lst x_1 l1.length 4 (Rv.elemOf [.i64,.i64,.i64,.i64] l1))∧Ob ((↑l1.length:Int)=(↑l1.length:Int))∧Ob ((↑a:Int)+(1:Int)=(↑a':Int))∧Ob (a+(1:Nat)=a'∧∀(i:Nat),i < a'→(behind a (El.fn (Rv.elemOf [.i64] (erL n n_1 n_2 n_3 rows n_4 l1 a))) 1 (litEl (symL [SV.i .i64 (afE n n_1 n_2 n_3 l4 (rnT n n_1 n_2 n_3 rows n_4 l1 a) (cell l1 a 0) (cell l1 a 1) (cell l1 a 2) (cell l1 a 3))]) 1 1)).at i=(El.fn (Rv.elemOf [.i64] (erL n n_1 n_2 n_3 rows n_4 l1 a'))).at i)∧Ob ((0:Int)=n)∧Ob ((0:Int)=n_1)∧Ob ((0:Int)=n_2)∧Ob ((0:Int)=n_3)∧False)∧(¬afE n n_1 n_2 n_3 l4 (rnT n n_1 n_2 n_3 rows n_4 l1 a) (cell l1 a 0) (cell l1 a 1) (cell l1 a 2) (cell l1 a 3)=(0:Int)→Ob (a=a∧∀(i:Nat),i < a→((El.fn (Rv.elemOf [.i64] (erL n n_1 n_2 n_3 rows n_4 l1 a))).at i).length=(1:Nat))∧Ob ((a+(1:Nat))*(2:Nat)*(9:Nat)≤1099511627776)∧Ob (a=a)∧Ob (InR .i64 ((↑a:Int)+(1:Int)))∧∃(a':Nat),Ob (a'≤l1.length∧l1.length-a' < l1.length-a)∧Ob (SV.v (Value.slice none 0 0)=SV.v (Value.slice none 0 0))∧Ob (Value.int .i64 (0:Int)=Value.int .i64 (0:Int))∧Ob (a+(1:Nat)=a')∧Ob (SV.lst x_1 l1.length 4 (Rv.elemOf [.i64,.i64,.i64,.i64] l1)=SV.lst x_1 l1.length 4 (Rv.elemOf [.i64,.i64,.i64,.i64] l1))∧Ob ((↑l1.length:Int)=(↑l1.length:Int))∧Ob ((↑a:Int)+(1:Int)=(↑a':Int))∧Ob (a+(1:Nat)=a'∧∀(i:Nat),i < a'→(behind a (El.fn (Rv.elemOf [.i64] (erL n n_1 n_2 n_3 rows n_4 l1 a))) 1 (litEl (symL [SV.i .i64 (afE n n_1 n_2 n_3 l4 (rnT n n_1 n_2 n_3 rows n_4 l1 a) (cell l1 a 0) (cell l1 a 1) (cell l1 a 2) (cell l1 a 3))]) 1 1)).at i=(El.fn (Rv.elemOf [.i64] (erL n n_1 n_2 n_3 rows n_4 l1 a'))).at i)∧Ob (n=n)∧Ob (n_1=n_1)∧Ob (n_2=n_2)∧Ob (n_3=n_3)∧Ob (rows.length=rows.length)∧Ob (rnT n n_1 n_2 n_3 rows n_4 l1 a=rnT n n_1 n_2 n_3 rows n_4 l1 a')∧Ob (rows.length=rows.length∧∀(i:Nat),i < rows.length→(El.fn (Rv.elemOf [.i64,.i64,.i64] (rnA n n_1 n_2 n_3 rows n_4 l1 a))).at i=(El.fn (Rv.elemOf [.i64,.i64,.i64] (rnA n n_1 n_2 n_3 rows n_4 l1 a'))).at i)∧Ob (Value.int .i64 (0:Int)=Value.int .i64 (0:Int))∧Ob (Value.int .i64 (0:Int)=Value.int .i64 (0:Int))∧Ob (Value.int .i64 (0:Int)=Value.int .i64 (0:Int))∧Ob (Value.int .i64 (0:Int)=Value.int .i64 (0:Int))∧Ob (SV.v (Value.slice none 0 0)=SV.v (Value.slice none 0 0))∧Ob (Value.int .i64 (0:Int)=Value.int .i64 (0:Int))∧Ob (n=n)∧Ob (n_1=n_1)∧Ob (n_2=n_2)∧Ob (n_3=n_3)∧Ob (SV.lst x rows.length 3 (Rv.elemOf [.i64,.i64,.i64] rows)=SV.lst x rows.length 3 (Rv.elemOf [.i64,.i64,.i64] rows))∧Ob (n_4=n_4)∧Ob (IsLst B x_1 l1.length 4 (Rv.elemOf [.i64,.i64,.i64,.i64] l1))∧Ob (PlainE a' (El.fn (Rv.elemOf [.i64] (erL n n_1 n_2 n_3 rows n_4 l1 a'))))∧Ob (PlainE rows.length (El.fn (Rv.elemOf [.i64,.i64,.i64] (rnA n n_1 n_2 n_3 rows n_4 l1 a'))))∧Ob (IsLst B x rows.length 3 (Rv.elemOf [.i64,.i64,.i64] rows))∧True))∧(¬C_after ([Dat.z n,Dat.z n_1,Dat.z n_2,Dat.z n_3,Dat.l l4,Dat.z (rnT n n_1 n_2 n_3 rows n_4 l1 a)]++([Dat.z (cell l1 a 0),Dat.z (cell l1 a 1),Dat.z (cell l1 a 2),Dat.z (cell l1 a 3)]++[]))→((0:Int)=(0:Int)→Ob (a=a∧∀(i:Nat),i < a→((El.fn (Rv.elemOf [.i64] (erL n n_1 n_2 n_3 rows n_4 l1 a))).at i).length=(1:Nat))∧Ob ((a+(1:Nat))*(2:Nat)*(9:Nat)≤1099511627776)∧Ob (a=a)∧Ob (InR .i64 ((↑a:Int)+(1:Int)))∧∃(a':Nat),Ob (a'≤l1.length∧l1.length-a' < l1.length-a)∧Ob (SV.v (Value.slice none 0 0)=SV.v (Value.slice none 0 0))∧Ob (Value.int .i64 (0:Int)=Value.int .i64 (0:Int))∧Ob (a+(1:Nat)=a')∧Ob (SV.lst x_1 l1.length 4 (Rv.elemOf [.i64,.i64,.i64,.i64] l1)=SV.lst x_1 l1.length 4 (Rv.elemOf [.i64,.i64,.i64,.i64] l1))∧Ob ((↑l1.length:Int)=(↑l1.length:Int))∧Ob ((↑a:Int)+(1:Int)=(↑a':Int))∧Ob (a+(1:Nat)=a'∧∀(i:Nat),i < a'→(behind a (El.fn (Rv.elemOf [.i64] (erL n n_1 n_2 n_3 rows n_4 l1 a))) 1 (litEl (symL [SV.i .i64 (0:Int)]) 1 1)).at i=(El.fn (Rv.elemOf [.i64] (erL n n_1 n_2 n_3 rows n_4 l1 a'))).at i)∧Ob (n=n)∧Ob (n_1=n_1)∧Ob (n_2=n_2)∧Ob (n_3=n_3)∧Ob (l4.length=rows.length)∧Ob (dT (rnT n n_1 n_2 n_3 rows n_4 l1 a) (cell l1 a 0) (cell l1 a 3)=rnT n n_1 n_2 n_3 rows n_4 l1 a')∧Ob (l4.length=rows.length∧∀(i:Nat),i < rows.length→(El.fn (Rv.elemOf [.i64,.i64,.i64] (dA n n_1 n_2 n_3 l4 (rnT n n_1 n_2 n_3 rows n_4 l1 a) (cell l1 a 0) (cell l1 a 1) (cell l1 a 2) (cell l1 a 3)))).at i=(El.fn (Rv.elemOf [.i64,.i64,.i64] (rnA n n_1 n_2 n_3 rows n_4 l1 a'))).at i)∧Ob (Value.int .i64 (0:Int)=Value.int .i64 (0:Int))∧Ob (Value.int .i64 (0:Int)=Value.int .i64 (0:Int))∧Ob (Value.int .i64 (0:Int)=Value.int .i64 (0:Int))∧Ob (Value.int .i64 (0:Int)=Value.int .i64 (0:Int))∧Ob (SV.v (Value.slice none 0 0)=SV.v (Value.slice none 0 0))∧Ob (Value.int .i64 (0:Int)=Value.int .i64 (0:Int))∧Ob (n=n)∧Ob (n_1=n_1)∧Ob (n_2=n_2)∧Ob (n_3=n_3)∧Ob (SV.lst x rows.length 3 (Rv.elemOf [.i64,.i64,.i64] rows)=SV.lst x rows.length 3 (Rv.elemOf [.i64,.i64,.i64] rows))∧Ob (n_4=n_4)∧Ob (IsLst B x_1 l1.length 4 (Rv.elemOf [.i64,.i64,.i64,.i64] l1))∧Ob (PlainE a' (El.fn (Rv.elemOf [.i64] (erL n n_1 n_2 n_3 rows n_4 l1 a'))))∧Ob (PlainE rows.length (El.fn (Rv.elemOf [.i64,.i64,.i64] (rnA n n_1 n_2 n_3 rows n_4 l1 a'))))∧Ob (IsLst B x rows.length 3 (Rv.elemOf [.i64,.i64,.i64] rows))∧True)∧(¬(0:Int)=(0:Int)→Ob (a=a∧∀(i:Nat),i < a→((El.fn (Rv.elemOf [.i64] (erL n n_1 n_2 n_3 rows n_4 l1 a))).at i).length=(1:Nat))∧Ob ((a+(1:Nat))*(2:Nat)*(9:Nat)≤1099511627776)∧Ob (a=a)∧Ob (InR .i64 ((↑a:Int)+(1:Int)))∧∃(a':Nat),Ob (a'≤l1.length∧l1.length-a' < l1.length-a)∧Ob (SV.v (Value.slice none 0 0)=SV.v (Value.slice none 0 0))∧Ob (Value.int .i64 (0:Int)=Value.int .i64 (0:Int))∧Ob (a+(1:Nat)=a')∧Ob (SV.lst x_1 l1.length 4 (Rv.elemOf [.i64,.i64,.i64,.i64] l1)=SV.lst x_1 l1.length 4 (Rv.elemOf [.i64,.i64,.i64,.i64] l1))∧Ob ((↑l1.length:Int)=(↑l1.length:Int))∧Ob ((↑a:Int)+(1:Int)=(↑a':Int))∧Ob (a+(1:Nat)=a'∧∀(i:Nat),i < a'→(behind a (El.fn (Rv.elemOf [.i64] (erL n n_1 n_2 n_3 rows n_4 l1 a))) 1 (litEl (symL [SV.i .i64 (0:Int)]) 1 1)).at i=(El.fn (Rv.elemOf [.i64] (erL n n_1 n_2 n_3 rows n_4 l1 a'))).at i)∧Ob (n=n)∧Ob (n_1=n_1)∧Ob (n_2=n_2)∧Ob (n_3=n_3)∧Ob (rows.length=rows.length)∧Ob (rnT n n_1 n_2 n_3 rows n_4 l1 a=rnT n n_1 n_2 n_3 rows n_4 l1 a')∧Ob (rows.length=rows.length∧∀(i:Nat),i < rows.length→(El.fn (Rv.elemOf [.i64,.i64,.i64] (rnA n n_1 n_2 n_3 rows n_4 l1 a))).at i=(El.fn (Rv.elemOf [.i64,.i64,.i64] (rnA n n_1 n_2 n_3 rows n_4 l1 a'))).at i)∧Ob (Value.int .i64 (0:Int)=Value.int .i64 (0:Int))∧Ob (Value.int .i64 (0:Int)=Value.int .i64 (0:Int))∧Ob (Value.int .i64 (0:Int)=Value.int .i64 (0:Int))∧Ob (Value.int .i64 (0:Int)=Value.int .i64 (0:Int))∧Ob (SV.v (Value.slice none 0 0)=SV.v (Value.slice none 0 0))∧Ob (Value.int .i64 (0:Int)=Value.int .i64 (0:Int))∧Ob (n=n)∧Ob (n_1=n_1)∧Ob (n_2=n_2)∧Ob (n_3=n_3)∧Ob (SV.lst x rows.length 3 (Rv.elemOf [.i64,.i64,.i64] rows)=SV.lst x rows.length 3 (Rv.elemOf [.i64,.i64,.i64] rows))∧Ob (n_4=n_4)∧Ob (IsLst B x_1 l1.length 4 (Rv.elemOf [.i64,.i64,.i64,.i64] l1))∧Ob (PlainE a' (El.fn (Rv.elemOf [.i64] (erL n n_1 n_2 n_3 rows n_4 l1 a'))))∧Ob (PlainE rows.length (El.fn (Rv.elemOf [.i64,.i64,.i64] (rnA n n_1 n_2 n_3 rows n_4 l1 a'))))∧Ob (IsLst B x rows.length 3 (Rv.elemOf [.i64,.i64,.i64] rows))∧True)))∧(¬(↑a:Int) < (↑l1.length:Int)→Ob ¬C_Run ([Dat.z n,Dat.z n_1,Dat.z n_2,Dat.z n_3,Dat.l rows,Dat.z n_4]++([Dat.l l1]++[]))∧Ob (n=n)∧Ob (n_1=n_1)∧Ob (n_2=n_2)∧Ob (n_3=n_3)∧Ob (rows.length=rows.length)∧Ob (rnT n n_1 n_2 n_3 rows n_4 l1 a=rnT n n_1 n_2 n_3 rows n_4 l1 l1.length)∧Ob (a=l1.length)∧Ob (Value.int .i64 (0:Int)=Value.int .i64 (0:Int))∧Ob (a=l1.length∧∀(i:Nat),i < l1.length→(El.fn (Rv.elemOf [.i64] (erL n n_1 n_2 n_3 rows n_4 l1 a))).at i=(El.fn (Rv.elemOf [.i64] (erL n n_1 n_2 n_3 rows n_4 l1 l1.length))).at i)∧Ob (rows.length=rows.length∧∀(i:Nat),i < rows.length→(El.fn (Rv.elemOf [.i64,.i64,.i64] (rnA n n_1 n_2 n_3 rows n_4 l1 a))).at i=(El.fn (Rv.elemOf [.i64,.i64,.i64] (rnA n n_1 n_2 n_3 rows n_4 l1 l1.length))).at i)∧Ob (PlainE l1.length (El.fn (Rv.elemOf [.i64] (erL n n_1 n_2 n_3 rows n_4 l1 l1.length))))∧Ob (PlainE rows.length (El.fn (Rv.elemOf [.i64,.i64,.i64] (rnA n n_1 n_2 n_3 rows n_4 l1 l1.length))))∧True)))
set_option linter.unusedSimpArgs false in
set_option maxRecDepth 4000 in
set_option maxHeartbeats 2000000 in
theorem v_Run:V_Run:=by
 unfold V_Run
 intro B fee itr pri cre x A hx hox hrx till y D hy hoy hry hpre
 obtain⟨hA,hD⟩:A.length≤4000000∧D.length≤4000000:=hpre
 have n1:coopErr fee itr pri cre A till≠0→rnErr fee itr pri cre A till D=coopErr fee itr pri cre A till:=fun h=>by unfold rnErr; rw [if_pos h]
 have n2:coopErr fee itr pri cre A till=0→200 < D.length→rnErr fee itr pri cre A till D=5:=fun h h2=>by unfold rnErr; rw [if_neg (fun hh=>hh h),if_pos h2]
 have n3:coopErr fee itr pri cre A till=0→¬ 200 < D.length→rnErr fee itr pri cre A till D=0:=fun h h2=>by unfold rnErr; rw [if_neg (fun hh=>hh h),if_neg h2]
 simp only [Ob_iff,and_true,true_and,Classical.not_not,InR]
 refine⟨A,⟨hx,rfl,hrx,fun _ _=>rfl⟩,hA,fun h1=>⟨show rnErr fee itr pri cre A till D≠0 by rw [n1 h1]; exact h1,(n1 h1).symm⟩,fun h1=>⟨hy,fun h2=>?_,fun h2=>?_⟩⟩
 ·have e:=n2 h1 (by omega)
  exact⟨show rnErr fee itr pri cre A till D≠0 by rw [e]; omega,e.symm⟩
 have hD2:¬ 200 < D.length:=by omega
 have hv:=coop_ok h1
 have hl:=hv.l
 refine⟨A,⟨hx,rfl,hrx,fun _ _=>rfl⟩,⟨by omega,by omega⟩,hy,⟨0,Nat.zero_le _,rfl,rfl,rfl,rfl,rfl,⟨rfl,fun i hi=>rfl⟩,?_⟩,?_⟩
 ·repeat' (first | exact plain_elemOf _ _ _ | exact hx | exact hy | apply And.intro)
 intro k hk
 intros
 have ek:=rn_ok hv (D:=D) k
 have lk:(rnA fee itr pri cre A till D k).length=A.length:=rn_len k
 have rk:=rn_row (fee:=fee) (itr:=itr) (pri:=pri) (cre:=cre) (till:=till) (D:=D) hrx k
 refine⟨fun h3=>?_,fun h3=>?_⟩
 ·have hk':k < D.length:=by omega
  refine⟨⟨by omega,hk',hy⟩,⟨hy,hk'⟩,rnA fee itr pri cre A till D k,⟨lk,rk,fun i hi=>rfl⟩,coop_zero ek,fun h4=>?_,fun h4=>?_⟩
  ·have h4:rnE fee itr pri cre A till D k≠0:=h4
   obtain⟨e1,e2⟩:=rn_no h4
   refine⟨fun h5=>absurd h5 h4,fun _=>⟨fun i hi=>rfl,by omega,by omega,k+1,⟨hk',by omega⟩,rfl,by omega,⟨rfl,erL_at rfl⟩,e2.symm,fun i hi=>by rw [e1],?_⟩⟩
   repeat' (first | exact plain_elemOf _ _ _ | exact hx | exact hy | apply And.intro)
  ·have h4:¬ rnE fee itr pri cre A till D k≠0:=h4
   have h4:rnE fee itr pri cre A till D k=0:=by omega
   obtain⟨e1,e2⟩:=rn_yes h4
   refine⟨fun _=>⟨fun i hi=>rfl,by omega,by omega,k+1,⟨hk',by omega⟩,rfl,by omega,⟨rfl,erL_at h4.symm⟩,lk,e2.symm,⟨lk,fun i hi=>by rw [e1]⟩,?_⟩,fun h5=>absurd trivial h5⟩
   repeat' (first | exact plain_elemOf _ _ _ | exact hx | exact hy | apply And.intro)
 ·have e:k=D.length:=by omega
  subst e
  have e:=n3 h1 hD2
  exact⟨fun hh=>absurd e (show rnErr fee itr pri cre A till D≠0 from hh),rfl,rfl,⟨rfl,fun i hi=>rfl⟩,fun i hi=>rfl,plain_elemOf _ _ _,plain_elemOf _ _ _⟩
noncomputable def F_RunV:FnE:=⟨17,none,[.agg [.i .i64,.i .i64,.i .i64,.i .i64,.l [.i64,.i64,.i64],.i .i64],.one (.l [.i64,.i64,.i64,.i64])],fun l=>match l with | [.z fee,.z itr,.z pri,.z cre,.l A,.z till,.l D]=>coopErr fee itr pri cre A till=0∧D.length≤200 | _=>False,fun l=>match l with | [.z fee,.z itr,.z pri,.z cre,.l A,.z till,.l D]=>[.agg [.i .i64 fee,.i .i64 itr,.i .i64 pri,.i .i64 cre,.gsl 0 A.length 3 false,.i .i64 (rnT fee itr pri cre A till D D.length)],.gsl 1 D.length 1 true,.v (.int .i64 0)] | _=>[],fun l=>match l with | [.z fee,.z itr,.z pri,.z cre,.l A,.z till,.l D]=>[.gr D.length 1 (.fn (Rv.elemOf [.i64] (erL fee itr pri cre A till D D.length))) .gr true,.gr A.length 3 (.fn (Rv.elemOf [.i64,.i64,.i64] (rnA fee itr pri cre A till D D.length))) .gr false] | _=>[],fun l=>match l with | [.z fee,.z itr,.z pri,.z cre,.l A,.z till,.l D]=>[] | _=>[],false,none,none⟩
noncomputable def A_RunV:List SV→List Dat→Nat→List SV→Ann:=fun xs ds n ts=>match xs with
 | [.agg [_,_,_,_,.lst x _ _ _,_],.lst y _ _ _]=>match ds with
  | [.z fee,.z itr,.z pri,.z cre,.l A,.z till,.l D]=>match n with
   | 9=>⟨Nat,fun k=>[none,none,none,none,some (SV.ptr ((1:Nat)) ((0:Nat))),some (SV.v (Value.slice none ((0:Nat)) ((0:Nat)))),some (SV.v (Value.int IntKind.i64 (0:Int))),none,some (.ptr 5 0),some (.gsl 6 k 1 true),none,none,none,none,none,none,none,none,none,none,none,none,none,none,none,none,none,none,none,some (SV.lst y D.length ((4:Nat)) (Rv.elemOf [IntKind.i64,IntKind.i64,IntKind.i64,IntKind.i64] D)),some (SV.i IntKind.i64 (↑D.length:Int)),some (.i .i64 k),none,none,none,none,none,none,none,none,none,none,none,none,none,none,none,none,none,none,none],fun k=>[.gr k 1 (.fn (Rv.elemOf [.i64] (erL fee itr pri cre A till D k))) .gr true,.cells [.i .i64 fee,.i .i64 itr,.i .i64 pri,.i .i64 cre,.gsl 3 A.length 3 false,.i .i64 (rnT fee itr pri cre A till D k)] .ex,.dead,.gr A.length 3 (.fn (Rv.elemOf [.i64,.i64,.i64] (rnA fee itr pri cre A till D k))) .gr false,.dead,SObj.cells [SV.v (Value.int IntKind.i64 (0:Int)),SV.v (Value.int IntKind.i64 (0:Int)),SV.v (Value.int IntKind.i64 (0:Int)),SV.v (Value.int IntKind.i64 (0:Int)),SV.v (Value.slice none ((0:Nat)) ((0:Nat))),SV.v (Value.int IntKind.i64 (0:Int))] Kd.ex,SObj.cells [SV.i IntKind.i64 fee,SV.i IntKind.i64 itr,SV.i IntKind.i64 pri,SV.i IntKind.i64 cre,SV.lst x A.length ((3:Nat)) (Rv.elemOf [IntKind.i64,IntKind.i64,IntKind.i64] A),SV.i IntKind.i64 till] Kd.ex],fun k=>k≤D.length,fun k=>D.length-k,0⟩
   | _=>noAnn
  | _=>noAnn
 | _=>noAnn
noncomputable def A_RunV_1:List SV→List Dat→List SV→List SObj→Nat→List SV→Ann:=fun _ _ _ _ _ _=>noAnn
noncomputable def I_RunV:List SV→List Dat→List In:=fun xs ds=>[⟨41,A_RunV_1 xs ds⟩]
def V_RunV:Prop:=∀(B:RW) (n n_1 n_2 n_3:Int) (x:RV) (rows:List (List Int)),IsLst B x rows.length 3 (Rv.elemOf [.i64,.i64,.i64] rows)→oneB x=true→(∀row∈rows,row.length=3)→∀(n_4:Int) (x_1:RV) (l1:List (List Int)),IsLst B x_1 l1.length 4 (Rv.elemOf [.i64,.i64,.i64,.i64] l1)→oneB x_1=true→(∀row∈l1,row.length=4)→F_RunV.pre ([Dat.z n,Dat.z n_1,Dat.z n_2,Dat.z n_3,Dat.l rows,Dat.z n_4]++([Dat.l l1]++[]))→∃(l2:List (List Int)),Ob (IsLst B x rows.length 3 (Rv.elemOf [.i64,.i64,.i64] rows)∧l2.length=rows.length∧(∀r∈l2,r.length=3)∧∀(i:Nat),i < rows.length→Rv.elemOf [.i64,.i64,.i64] rows i=Rv.elemOf [.i64,.i64,.i64] l2 i)∧Ob (F_CheckC.pre ([Dat.z n,Dat.z n_1,Dat.z n_2,Dat.z n_3,Dat.l l2,Dat.z n_4]++[]))∧(¬coopErr n n_1 n_2 n_3 l2 n_4=(0:Int)→Ob ((0:Int)=n)∧Ob ((0:Int)=n_1)∧Ob ((0:Int)=n_2)∧Ob ((0:Int)=n_3)∧False)∧(¬¬coopErr n n_1 n_2 n_3 l2 n_4=(0:Int)→Ob (IsLst B x_1 l1.length 4 (Rv.elemOf [.i64,.i64,.i64,.i64] l1))∧((200:Int) < (↑l1.length:Int)→Ob ((0:Int)=n)∧Ob ((0:Int)=n_1)∧Ob ((0:Int)=n_2)∧Ob ((0:Int)=n_3)∧False)∧(¬(200:Int) < (↑l1.length:Int)→∃(l3:List (List Int)),Ob (IsLst B x rows.length 3 (Rv.elemOf [.i64,.i64,.i64] rows)∧l3.length=rows.length∧(∀r∈l3,r.length=3)∧∀(i:Nat),i < rows.length→Rv.elemOf [.i64,.i64,.i64] rows i=Rv.elemOf [.i64,.i64,.i64] l3 i)∧Ob (F_cloneA.pre [Dat.l l3])∧Ob (IsLst B x_1 l1.length 4 (Rv.elemOf [.i64,.i64,.i64,.i64] l1))∧(∃(a:Nat),Ob (a≤l1.length)∧Ob (SV.v (Value.slice none 0 0)=SV.v (Value.slice none 0 0))∧Ob (Value.int .i64 (0:Int)=Value.int .i64 (0:Int))∧Ob (a=(0:Nat))∧Ob (SV.lst x_1 l1.length 4 (Rv.elemOf [.i64,.i64,.i64,.i64] l1)=SV.lst x_1 l1.length 4 (Rv.elemOf [.i64,.i64,.i64,.i64] l1))∧Ob ((↑l1.length:Int)=(↑l1.length:Int))∧Ob ((0:Int)=(↑a:Int))∧Ob (a=(0:Nat))∧Ob (n=n)∧Ob (n_1=n_1)∧Ob (n_2=n_2)∧Ob (n_3=n_3)∧Ob (l3.length=rows.length)∧Ob (n_4=rnT n n_1 n_2 n_3 rows n_4 l1 a)∧Ob (l3.length=rows.length∧∀(i:Nat),i < rows.length→(El.fn (Rv.elemOf [.i64,.i64,.i64] l3)).at i=(El.fn (Rv.elemOf [.i64,.i64,.i64] (rnA n n_1 n_2 n_3 rows n_4 l1 a))).at i)∧Ob (Value.int .i64 (0:Int)=Value.int .i64 (0:Int))∧Ob (Value.int .i64 (0:Int)=Value.int .i64 (0:Int))∧Ob (Value.int .i64 (0:Int)=Value.int .i64 (0:Int))∧Ob (Value.int .i64 (0:Int)=Value.int .i64 (0:Int))∧Ob (SV.v (Value.slice none 0 0)=SV.v (Value.slice none 0 0))∧Ob (Value.int .i64 (0:Int)=Value.int .i64 (0:Int))∧Ob (n=n)∧Ob (n_1=n_1)∧Ob (n_2=n_2)∧Ob (n_3=n_3)∧Ob (SV.lst x rows.length 3 (Rv.elemOf [.i64,.i64,.i64] rows)=SV.lst x rows.length 3 (Rv.elemOf [.i64,.i64,.i64] rows))∧Ob (n_4=n_4)∧Ob (IsLst B x_1 l1.length 4 (Rv.elemOf [.i64,.i64,.i64,.i64] l1))∧Ob (PlainE a (El.fn (Rv.elemOf [.i64] (erL n n_1 n_2 n_3 rows n_4 l1 a))))∧Ob (PlainE rows.length (El.fn (Rv.elemOf [.i64,.i64,.i64] (rnA n n_1 n_2 n_3 rows n_4 l1 a))))∧Ob (IsLst B x rows.length 3 (Rv.elemOf [.i64,.i64,.i64] rows))∧True)∧∀(a:Nat),a≤l1.length→∀(_ _ _ _ _ _ _ _ _ _ _ _ _ _ _ _ _ _ _ _ _ _ _ _ _ _ _ _ _ _ _ _ _ _ _ _ _ _ _ _ _ _ _:Value),((↑a:Int) < (↑l1.length:Int)→Ob ((0:Int)≤(↑a:Int)∧a < l1.length∧IsLst B x_1 l1.length 4 (Rv.elemOf [.i64,.i64,.i64,.i64] l1))∧Ob (IsLst B x_1 l1.length 4 (Rv.elemOf [.i64,.i64,.i64,.i64] l1)∧a < l1.length)∧∃(l4:List (List Int)),Ob (rows.length=rows.length∧l4.length=rows.length∧(∀r∈l4,r.length=3)∧∀(i:Nat),i < rows.length→(El.fn (Rv.elemOf [.i64,.i64,.i64] (rnA n n_1 n_2 n_3 rows n_4 l1 a))).at i=Rv.elemOf [.i64,.i64,.i64] l4 i)∧Ob (F_after.pre ([Dat.z n,Dat.z n_1,Dat.z n_2,Dat.z n_3,Dat.l l4,Dat.z (rnT n n_1 n_2 n_3 rows n_4 l1 a)]++([Dat.z (cell l1 a 0),Dat.z (cell l1 a 1),Dat.z (cell l1 a 2),Dat.z (cell l1 a 3)]++[])))∧(C_after ([Dat.z n,Dat.z n_1,Dat.z n_2,Dat.z n_3,Dat.l l4,Dat.z (rnT n n_1 n_2 n_3 rows n_4 l1 a)]++([Dat.z (cell l1 a 0),Dat.z (cell l1 a 1),Dat.z (cell l1 a 2),Dat.z (cell l1 a 3)]++[]))→(afE n n_1 n_2 n_3 l4 (rnT n n_1 n_2 n_3 rows n_4 l1 a) (cell l1 a 0) (cell l1 a 1) (cell l1 a 2) (cell l1 a 3)=(0:Int)→Ob (a=a∧∀(i:Nat),i < a→((El.fn (Rv.elemOf [.i64] (erL n n_1 n_2 n_3 rows n_4 l1 a))).at i).length=(1:Nat))∧Ob ((a+(1:Nat))*(2:Nat)*(9:Nat)≤1099511627776)∧Ob (a=a)∧Ob (InR .i64 ((↑a:Int)+(1:Int)))∧∃(a':Nat),Ob (a'≤l1.length∧l1.length-a' < l1.length-a)∧Ob (SV.v (Value.slice none 0 0)=SV.v (Value.slice none 0 0))∧Ob (Value.int .i64 (0:Int)=Value.int .i64 (0:Int))∧Ob (a+(1:Nat)=a')∧Ob (SV.lst x_1 l1.length 4 (Rv.elemOf [.i64,.i64,.i64,.i64] l1)=SV.lst x_1 l1.length 4 (Rv.elemOf [.i64,.i64,.i64,.i64] l1))∧Ob ((↑l1.length:Int)=(↑l1.length:Int))∧Ob ((↑a:Int)+(1:Int)=(↑a':Int))∧Ob (a+(1:Nat)=a'∧∀(i:Nat),i < a'→(behind a (El.fn (Rv.elemOf [.i64] (erL n n_1 n_2 n_3 rows n_4 l1 a))) 1 (litEl (symL [SV.i .i64 (afE n n_1 n_2 n_3 l4 (rnT n n_1 n_2 n_3 rows n_4 l1 a) (cell l1 a 0) (cell l1 a 1) (cell l1 a 2) (cell l1 a 3))]) 1 1)).at i=(El.fn (Rv.elemOf [.i64] (erL n n_1 n_2 n_3 rows n_4 l1 a'))).at i)∧Ob ((0:Int)=n)∧Ob ((0:Int)=n_1)∧Ob ((0:Int)=n_2)∧Ob ((0:Int)=n_3)∧False)∧(¬afE n n_1 n_2 n_3 l4 (rnT n n_1 n_2 n_3 rows n_4 l1 a) (cell l1 a 0) (cell l1 a 1) (cell l1 a 2) (cell l1 a 3)=(0:Int)→Ob (a=a∧∀(i:Nat),i < a→((El.fn (Rv.elemOf [.i64] (erL n n_1 n_2 n_3 rows n_4 l1 a))).at i).length=(1:Nat))∧Ob ((a+(1:Nat))*(2:Nat)*(9:Nat)≤1099511627776)∧Ob (a=a)∧Ob (InR .i64 ((↑a:Int)+(1:Int)))∧∃(a':Nat),Ob (a'≤l1.length∧l1.length-a' < l1.length-a)∧Ob (SV.v (Value.slice none 0 0)=SV.v (Value.slice none 0 0))∧Ob (Value.int .i64 (0:Int)=Value.int .i64 (0:Int))∧Ob (a+(1:Nat)=a')∧Ob (SV.lst x_1 l1.length 4 (Rv.elemOf [.i64,.i64,.i64,.i64] l1)=SV.lst x_1 l1.length 4 (Rv.elemOf [.i64,.i64,.i64,.i64] l1))∧Ob ((↑l1.length:Int)=(↑l1.length:Int))∧Ob ((↑a:Int)+(1:Int)=(↑a':Int))∧Ob (a+(1:Nat)=a'∧∀(i:Nat),i < a'→(behind a (El.fn (Rv.elemOf [.i64] (erL n n_1 n_2 n_3 rows n_4 l1 a))) 1 (litEl (symL [SV.i .i64 (afE n n_1 n_2 n_3 l4 (rnT n n_1 n_2 n_3 rows n_4 l1 a) (cell l1 a 0) (cell l1 a 1) (cell l1 a 2) (cell l1 a 3))]) 1 1)).at i=(El.fn (Rv.elemOf [.i64] (erL n n_1 n_2 n_3 rows n_4 l1 a'))).at i)∧Ob (n=n)∧Ob (n_1=n_1)∧Ob (n_2=n_2)∧Ob (n_3=n_3)∧Ob (rows.length=rows.length)∧Ob (rnT n n_1 n_2 n_3 rows n_4 l1 a=rnT n n_1 n_2 n_3 rows n_4 l1 a')∧Ob (rows.length=rows.length∧∀(i:Nat),i < rows.length→(El.fn (Rv.elemOf [.i64,.i64,.i64] (rnA n n_1 n_2 n_3 rows n_4 l1 a))).at i=(El.fn (Rv.elemOf [.i64,.i64,.i64] (rnA n n_1 n_2 n_3 rows n_4 l1 a'))).at i)∧Ob (Value.int .i64 (0:Int)=Value.int .i64 (0:Int))∧Ob (Value.int .i64 (0:Int)=Value.int .i64 (0:Int))∧Ob (Value.int .i64 (0:Int)=Value.int .i64 (0:Int))∧Ob (Value.int .i64 (0:Int)=Value.int .i64 (0:Int))∧Ob (SV.v (Value.slice none 0 0)=SV.v (Value.slice none 0 0))∧Ob (Value.int .i64 (0:Int)=Value.int .i64 (0:Int))∧Ob (n=n)∧Ob (n_1=n_1)∧Ob (n_2=n_2)∧Ob (n_3=n_3)∧Ob (SV.lst x rows.length 3 (Rv.elemOf [.i64,.i64,.i64] rows)=SV.lst x rows.length 3 (Rv.elemOf [.i64,.i64,.i64] rows))∧Ob (n_4=n_4)∧Ob (IsLst B x_1 l1.length 4 (Rv.elemOf [.i64,.i64,.i64,.i64] l1))∧Ob (PlainE a' (El.fn (Rv.elemOf [.i64] (erL n n_1 n_2 n_3 rows n_4 l1 a'))))∧Ob (PlainE rows.length (El.fn (Rv.elemOf [.i64,.i64,.i64] (rnA n n_1 n_2 n_3 rows n_4 l1 a'))))∧Ob (IsLst B x rows.length 3 (Rv.elemOf [.i64,.i64,.i64] rows))∧True))∧(¬C_after ([Dat.z n,Dat.z n_1,Dat.z n_2,Dat.z n_3,Dat.l l4,Dat.z (rnT n n_1 n_2 n_3 rows n_4 l1 a)]++([Dat.z (cell l1 a 0),Dat.z (cell l1 a 1),Dat.z (cell l1 a 2),Dat.z (cell l1 a 3)]++[]))→((0:Int)=(0:Int)→Ob (a=a∧∀(i:Nat),i < a→((El.fn (Rv.elemOf [.i64] (erL n n_1 n_2 n_3 rows n_4 l1 a))).at i).length=(1:Nat))∧Ob ((a+(1:Nat))*(2:Nat)*(9:Nat)≤1099511627776)∧Ob (a=a)∧Ob (InR .i64 ((↑a:Int)+(1:Int)))∧∃(a':Nat),Ob (a'≤l1.length∧l1.length-a' < l1.length-a)∧Ob (SV.v (Value.slice none 0 0)=SV.v (Value.slice none 0 0))∧Ob (Value.int .i64 (0:Int)=Value.int .i64 (0:Int))∧Ob (a+(1:Nat)=a')∧Ob (SV.lst x_1 l1.length 4 (Rv.elemOf [.i64,.i64,.i64,.i64] l1)=SV.lst x_1 l1.length 4 (Rv.elemOf [.i64,.i64,.i64,.i64] l1))∧Ob ((↑l1.length:Int)=(↑l1.length:Int))∧Ob ((↑a:Int)+(1:Int)=(↑a':Int))∧Ob (a+(1:Nat)=a'∧∀(i:Nat),i < a'→(behind a (El.fn (Rv.elemOf [.i64] (erL n n_1 n_2 n_3 rows n_4 l1 a))) 1 (litEl (symL [SV.i .i64 (0:Int)]) 1 1)).at i=(El.fn (Rv.elemOf [.i64] (erL n n_1 n_2 n_3 rows n_4 l1 a'))).at i)∧Ob (n=n)∧Ob (n_1=n_1)∧Ob (n_2=n_2)∧Ob (n_3=n_3)∧Ob (l4.length=rows.length)∧Ob (dT (rnT n n_1 n_2 n_3 rows n_4 l1 a) (cell l1 a 0) (cell l1 a 3)=rnT n n_1 n_2 n_3 rows n_4 l1 a')∧Ob (l4.length=rows.length∧∀(i:Nat),i < rows.length→(El.fn (Rv.elemOf [.i64,.i64,.i64] (dA n n_1 n_2 n_3 l4 (rnT n n_1 n_2 n_3 rows n_4 l1 a) (cell l1 a 0) (cell l1 a 1) (cell l1 a 2) (cell l1 a 3)))).at i=(El.fn (Rv.elemOf [.i64,.i64,.i64] (rnA n n_1 n_2 n_3 rows n_4 l1 a'))).at i)∧Ob (Value.int .i64 (0:Int)=Value.int .i64 (0:Int))∧Ob (Value.int .i64 (0:Int)=Value.int .i64 (0:Int))∧Ob (Value.int .i64 (0:Int)=Value.int .i64 (0:Int))∧Ob (Value.int .i64 (0:Int)=Value.int .i64 (0:Int))∧Ob (SV.v (Value.slice none 0 0)=SV.v (Value.slice none 0 0))∧Ob (Value.int .i64 (0:Int)=Value.int .i64 (0:Int))∧Ob (n=n)∧Ob (n_1=n_1)∧Ob (n_2=n_2)∧Ob (n_3=n_3)∧Ob (SV.lst x rows.length 3 (Rv.elemOf [.i64,.i64,.i64] rows)=SV.lst x rows.length 3 (Rv.elemOf [.i64,.i64,.i64] rows))∧Ob (n_4=n_4)∧Ob (IsLst B x_1 l1.length 4 (Rv.elemOf [.i64,.i64,.i64,.i64] l1))∧Ob (PlainE a' (El.fn (Rv.elemOf [.i64] (erL n n_1 n_2 n_3 rows n_4 l1 a'))))∧Ob (PlainE rows.length (El.fn (Rv.elemOf [.i64,.i64,.i64] (rnA n n_1 n_2 n_3 rows n_4 l1 a'))))∧Ob (IsLst B x rows.length 3 (Rv.elemOf [.i64,.i64,.i64] rows))∧True)∧(¬(0:Int)=(0:Int)→Ob (a=a∧∀(i:Nat),i < a→((El.fn (Rv.elemOf [.i64] (erL n n_1 n_2 n_3 rows n_4 l1 a))).at i).length=(1:Nat))∧Ob ((a+(1:Nat))*(2:Nat)*(9:Nat)≤1099511627776)∧Ob (a=a)∧Ob (InR .i64 ((↑a:Int)+(1:Int)))∧∃(a':Nat),Ob (a'≤l1.length∧l1.length-a' < l1.length-a)∧Ob (SV.v (Value.slice none 0 0)=SV.v (Value.slice none 0 0))∧Ob (Value.int .i64 (0:Int)=Value.int .i64 (0:Int))∧Ob (a+(1:Nat)=a')∧Ob (SV.lst x_1 l1.length 4 (Rv.elemOf [.i64,.i64,.i64,.i64] l1)=SV.lst x_1 l1.length 4 (Rv.elemOf [.i64,.i64,.i64,.i64] l1))∧Ob ((↑l1.length:Int)=(↑l1.length:Int))∧Ob ((↑a:Int)+(1:Int)=(↑a':Int))∧Ob (a+(1:Nat)=a'∧∀(i:Nat),i < a'→(behind a (El.fn (Rv.elemOf [.i64] (erL n n_1 n_2 n_3 rows n_4 l1 a))) 1 (litEl (symL [SV.i .i64 (0:Int)]) 1 1)).at i=(El.fn (Rv.elemOf [.i64] (erL n n_1 n_2 n_3 rows n_4 l1 a'))).at i)∧Ob (n=n)∧Ob (n_1=n_1)∧Ob (n_2=n_2)∧Ob (n_3=n_3)∧Ob (rows.length=rows.length)∧Ob (rnT n n_1 n_2 n_3 rows n_4 l1 a=rnT n n_1 n_2 n_3 rows n_4 l1 a')∧Ob (rows.length=rows.length∧∀(i:Nat),i < rows.length→(El.fn (Rv.elemOf [.i64,.i64,.i64] (rnA n n_1 n_2 n_3 rows n_4 l1 a))).at i=(El.fn (Rv.elemOf [.i64,.i64,.i64] (rnA n n_1 n_2 n_3 rows n_4 l1 a'))).at i)∧Ob (Value.int .i64 (0:Int)=Value.int .i64 (0:Int))∧Ob (Value.int .i64 (0:Int)=Value.int .i64 (0:Int))∧Ob (Value.int .i64 (0:Int)=Value.int .i64 (0:Int))∧Ob (Value.int .i64 (0:Int)=Value.int .i64 (0:Int))∧Ob (SV.v (Value.slice none 0 0)=SV.v (Value.slice none 0 0))∧Ob (Value.int .i64 (0:Int)=Value.int .i64 (0:Int))∧Ob (n=n)∧Ob (n_1=n_1)∧Ob (n_2=n_2)∧Ob (n_3=n_3)∧Ob (SV.lst x rows.length 3 (Rv.elemOf [.i64,.i64,.i64] rows)=SV.lst x rows.length 3 (Rv.elemOf [.i64,.i64,.i64] rows))∧Ob (n_4=n_4)∧Ob (IsLst B x_1 l1.length 4 (Rv.elemOf [.i64,.i64,.i64,.i64] l1))∧Ob (PlainE a' (El.fn (Rv.elemOf [.i64] (erL n n_1 n_2 n_3 rows n_4 l1 a'))))∧Ob (PlainE rows.length (El.fn (Rv.elemOf [.i64,.i64,.i64] (rnA n n_1 n_2 n_3 rows n_4 l1 a'))))∧Ob (IsLst B x rows.length 3 (Rv.elemOf [.i64,.i64,.i64] rows))∧True)))∧(¬(↑a:Int) < (↑l1.length:Int)→Ob (n=n)∧Ob (n_1=n_1)∧Ob (n_2=n_2)∧Ob (n_3=n_3)∧Ob (rows.length=rows.length)∧Ob (rnT n n_1 n_2 n_3 rows n_4 l1 a=rnT n n_1 n_2 n_3 rows n_4 l1 l1.length)∧Ob (a=l1.length)∧Ob (Value.int .i64 (0:Int)=Value.int .i64 (0:Int))∧Ob (a=l1.length∧∀(i:Nat),i < l1.length→(El.fn (Rv.elemOf [.i64] (erL n n_1 n_2 n_3 rows n_4 l1 a))).at i=(El.fn (Rv.elemOf [.i64] (erL n n_1 n_2 n_3 rows n_4 l1 l1.length))).at i)∧Ob (rows.length=rows.length∧∀(i:Nat),i < rows.length→(El.fn (Rv.elemOf [.i64,.i64,.i64] (rnA n n_1 n_2 n_3 rows n_4 l1 a))).at i=(El.fn (Rv.elemOf [.i64,.i64,.i64] (rnA n n_1 n_2 n_3 rows n_4 l1 l1.length))).at i)∧Ob (PlainE l1.length (El.fn (Rv.elemOf [.i64] (erL n n_1 n_2 n_3 rows n_4 l1 l1.length))))∧Ob (PlainE rows.length (El.fn (Rv.elemOf [.i64,.i64,.i64] (rnA n n_1 n_2 n_3 rows n_4 l1 l1.length))))∧True)))
set_option linter.unusedSimpArgs false in
set_option maxRecDepth 4000 in
set_option maxHeartbeats 2000000 in
theorem v_RunV:V_RunV:=by
 unfold V_RunV
 intro B fee itr pri cre x A hx hox hrx till y D hy hoy hry hpre
 obtain⟨h1,hD⟩:coopErr fee itr pri cre A till=0∧D.length≤200:=hpre
 have hv:=coop_ok h1
 have hl:=hv.l
 simp only [Ob_iff,and_true,true_and,Classical.not_not,InR]
 refine⟨A,⟨hx,rfl,hrx,fun _ _=>rfl⟩,(by omega:A.length≤4000000),fun h2=>absurd h1 h2,fun _=>⟨hy,fun h2=>?_,fun h2=>?_⟩⟩
 ·exact absurd h2 (by omega)
 refine⟨A,⟨hx,rfl,hrx,fun _ _=>rfl⟩,⟨by omega,by omega⟩,hy,⟨0,Nat.zero_le _,rfl,rfl,rfl,rfl,rfl,⟨rfl,fun i hi=>rfl⟩,?_⟩,?_⟩
 ·repeat' (first | exact plain_elemOf _ _ _ | exact hx | exact hy | apply And.intro)
 intro k hk
 intros
 have ek:=rn_ok hv (D:=D) k
 have lk:(rnA fee itr pri cre A till D k).length=A.length:=rn_len k
 have rk:=rn_row (fee:=fee) (itr:=itr) (pri:=pri) (cre:=cre) (till:=till) (D:=D) hrx k
 refine⟨fun h3=>?_,fun h3=>?_⟩
 ·have hk':k < D.length:=by omega
  refine⟨⟨by omega,hk',hy⟩,⟨hy,hk'⟩,rnA fee itr pri cre A till D k,⟨lk,rk,fun i hi=>rfl⟩,coop_zero ek,fun h4=>?_,fun h4=>?_⟩
  ·have h4:rnE fee itr pri cre A till D k≠0:=h4
   obtain⟨e1,e2⟩:=rn_no h4
   refine⟨fun h5=>absurd h5 h4,fun _=>⟨fun i hi=>rfl,by omega,by omega,k+1,⟨hk',by omega⟩,rfl,by omega,⟨rfl,erL_at rfl⟩,e2.symm,fun i hi=>by rw [e1],?_⟩⟩
   repeat' (first | exact plain_elemOf _ _ _ | exact hx | exact hy | apply And.intro)
  ·have h4:¬ rnE fee itr pri cre A till D k≠0:=h4
   have h4:rnE fee itr pri cre A till D k=0:=by omega
   obtain⟨e1,e2⟩:=rn_yes h4
   refine⟨fun _=>⟨fun i hi=>rfl,by omega,by omega,k+1,⟨hk',by omega⟩,rfl,by omega,⟨rfl,erL_at h4.symm⟩,lk,e2.symm,⟨lk,fun i hi=>by rw [e1]⟩,?_⟩,fun h5=>absurd trivial h5⟩
   repeat' (first | exact plain_elemOf _ _ _ | exact hx | exact hy | apply And.intro)
 ·have e:k=D.length:=by omega
  subst e
  exact⟨rfl,rfl,⟨rfl,fun i hi=>rfl⟩,fun i hi=>rfl,plain_elemOf _ _ _,plain_elemOf _ _ _⟩
theorem e_RunV:V_RunV=needEI P [] [F_CheckC,F_after,F_cloneA] I_RunV A_RunV F_RunV:=by kernel_rfl
theorem n_RunV:Ob (needEI P [] [F_CheckC,F_after,F_cloneA] I_RunV A_RunV F_RunV):=by
 rw [← e_RunV]
 exact⟨v_RunV⟩
theorem b_RunV:((P.funcs[17]?).any fun fn=>fn.body.isSome)=true:=by kernel_rfl
theorem RunV_ok:FnE.Ok P F_RunV:=FnE.okI named (l:=[]) (es:=[F_CheckC,F_after,F_cloneA]) (I:=I_RunV) (A:=A_RunV) (by rfl) (by rfl) (by rfl) (by
 intro F h; simp at h) (by
 intro F h
 simp only [List.mem_cons,List.not_mem_nil,or_false]at h
 rcases h with rfl | rfl | rfl
 ·exact CheckC_ok
 ·exact after_ok
 ·exact cloneA_ok
) b_RunV (by
 intro ds h o ho n sz e k z he
 subst he
 simp only [F_RunV]at ho
 split at ho
 ·simp only [List.mem_cons,List.not_mem_nil,or_false,SObj.gr.injEq]at ho
  rcases ho with ⟨rfl,rfl,rfl,rfl,rfl⟩ | ⟨rfl,rfl,rfl,rfl,rfl⟩
  ·exact plain_elemOf _ _ _
  ·exact plain_elemOf _ _ _
 ·simp at ho) n_RunV
end Go.Proofs.Ytfebjikidfcbcaa.Sy
