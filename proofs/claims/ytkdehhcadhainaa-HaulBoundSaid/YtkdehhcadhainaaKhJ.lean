import Derived.Test.YtkdehhcadhainaaSyP4
import Derived.Test.YtkdehhcadhainaaGrM
import Derived.Test.YtkdehhcadhainaaStM
import Derived.Test.YtkdehhcadhainaaKtT
import Derived.Test.YtkdehhcadhainaaKtA
import Derived.Test.YtkdehhcadhainaaSyP2
import Derived.Test.YtkdehhcadhainaaSyP4
import Derived.Test.YtkdehhcadhainaaKhA
import Derived.Test.YtkdehhcadhainaaKhI
import Derived.KernelRfl
import Derived.Test.YtkdehhcadhainaaProg
namespace Go.Proofs.Ytkdehhcadhainaa.Sy
open Go Go.Rv
set_option linter.unusedVariables false
noncomputable def missK (R:Rows):Nat→Nat
 | 0=>0
 | s+1=>@ite _ (hasR R (s:Int)) (Classical.propDecidable _) (missK R s) (missK R s+1)
def wgt:Nat→Nat
 | 0=>1
 | m+1=>1+(m+1)*wgt m
noncomputable def phi (n:Nat) (L:List Rows):Nat→Nat
 | 0=>0
 | i+1=>phi n L i+(wgt (missK (L.getD i []) n)-1)
structure PlS where
 k:Nat
 ys:Nat→RV
 L:List Rows
 s:Nat
structure PlB (n:Nat) (v:PlS):Prop where
 n:n≤4
 len:∀i,(v.L.getD i []).length≤i
 row:∀i,∀r∈v.L.getD i [],r.length=1
structure PlI (q:Int) (v:PlS):Prop where
 b:PlB q.toNat v
 k:v.k≤v.L.length
 t:v.L.length+phi q.toNat v.L v.L.length≤65+phi q.toNat v.L v.k
structure PlJ (q:Int) (v:PlS):Prop where
 b:PlB q.toNat v
 k:v.k < v.L.length
 s:v.s≤q.toNat
 t:v.L.length+phi q.toNat v.L v.L.length+(missK (v.L.getD v.k []) q.toNat-missK (v.L.getD v.k []) v.s)*wgt (missK (v.L.getD v.k []) q.toNat-1)≤65+phi q.toNat v.L (v.k+1)
theorem wgt_pos:∀m,1≤wgt m
 | 0=>Nat.le_refl _
 | m+1=>by rw [wgt]; omega
theorem wgt_sub:∀m,wgt m-1=m*wgt (m-1)
 | 0=>by simp [wgt]
 | m+1=>by rw [wgt,Nat.add_sub_cancel,Nat.add_sub_cancel_left]
theorem miss_mono (R:Rows) {s:Nat}:∀d,missK R s≤missK R (s+d)
 | 0=>Nat.le_refl _
 | d+1=>by
  have ih:=miss_mono R (s:=s) d
  rw [← Nat.add_assoc,missK]
  split<;>omega
theorem miss_has {R:Rows} {s:Nat} (h:hasR R (s:Int)):missK R (s+1)=missK R s:=if_pos h
theorem miss_not {R:Rows} {s:Nat} (h:¬ hasR R (s:Int)):missK R (s+1)=missK R s+1:=if_neg h
theorem getD_lastC {α:Type} {l:List α} {x d:α}:(l++[x]).getD l.length d=x:=by
 simp [List.getD_eq_getElem?_getD]
theorem hasR_snoc {R:Rows} {s x:Int}:hasR (R++[[s]]) x↔hasR R x∨x=s:=by
 constructor
 ·rintro⟨j,h1,h2⟩
  simp only [List.length_append,List.length_singleton]at h1
  by_cases hj:j < R.length
  ·rw [cell_appB hj]at h2; exact Or.inl ⟨j,hj,h2⟩
  ·obtain rfl:j=R.length:=by omega
   rw [cell_lastB]at h2
   exact Or.inr h2.symm
 ·rintro(⟨j,h1,h2⟩ | rfl)
  ·exact⟨j,by simp; omega,by rw [cell_appB h1]; exact h2⟩
  ·exact⟨R.length,by simp,by rw [cell_lastB]; rfl⟩
theorem miss_snoc {R:Rows} {s:Nat} (h:¬ hasR R (s:Int)):∀n,missK (R++[[(s:Int)]]) n+(if s < n then 1 else 0)=missK R n
 | 0=>by simp [missK]
 | n+1=>by
  have ih:=miss_snoc h n
  by_cases hn:s=n
  ·subst hn
   rw [miss_not h,miss_has (hasR_snoc.2 (Or.inr rfl)),if_pos (by omega)]
   rw [if_neg (by omega)]at ih
   omega
  ·have e:hasR (R++[[(s:Int)]]) (n:Int)↔hasR R (n:Int):=hasR_snoc.trans ⟨fun q=>q.elim id (fun e=>absurd (Int.ofNat.inj e).symm hn),Or.inl⟩
   by_cases hh:hasR R (n:Int)
   ·rw [miss_has hh,miss_has (e.2 hh)]
    by_cases hs:s < n
    ·rw [if_pos hs]at ih; rw [if_pos (by omega)]; exact ih
    ·rw [if_neg hs]at ih; rw [if_neg (by omega)]; exact ih
   ·rw [miss_not hh,miss_not (fun q=>hh (e.1 q))]
    by_cases hs:s < n
    ·rw [if_pos hs]at ih; rw [if_pos (by omega)]; omega
    ·rw [if_neg hs]at ih; rw [if_neg (by omega)]; omega
theorem phi_app {n:Nat} {L:List Rows} {R:Rows}:∀i,i≤L.length→phi n (L++[R]) i=phi n L i
 | 0,_=>rfl
 | i+1,h=>by rw [phi,phi,phi_app i (by omega),getD_appB (show i < L.length by omega)]
theorem phi_mono {n:Nat} {L:List Rows} {i:Nat}:∀d,phi n L i≤phi n L (i+d)
 | 0=>Nat.le_refl _
 | d+1=>by
  have ih:=phi_mono (n:=n) (L:=L) (i:=i) d
  rw [← Nat.add_assoc,phi]
  omega
theorem miss_nil:∀n,missK [] n=n
 | 0=>rfl
 | n+1=>by rw [miss_not (fun⟨j,h,_⟩=>absurd h (Nat.not_lt_zero _)),miss_nil n]
theorem PlI.len {q:Int} {v:PlS} (h:PlI q v):v.L.length≤65:=by
 obtain⟨d,hd⟩:∃d,v.L.length=v.k+d:=⟨v.L.length-v.k,by have:=h.k; omega⟩
 have h1:=phi_mono (n:=q.toNat) (L:=v.L) (i:=v.k) d
 have h2:=h.t
 rw [← hd]at h1
 omega
theorem PlJ.len {q:Int} {v:PlS} (h:PlJ q v):v.L.length≤65:=by
 obtain⟨d,hd⟩:∃d,v.L.length=v.k+1+d:=⟨v.L.length-(v.k+1),by have:=h.k; omega⟩
 have h1:=phi_mono (n:=q.toNat) (L:=v.L) (i:=v.k+1) d
 have h2:=h.t
 rw [← hd]at h1
 omega
theorem PlI.zero {q:Int} (hq:0≤q∧q≤4) (ys:Nat→RV):PlI q ⟨0,ys,[[]],0⟩:=by
 refine⟨⟨by omega,fun i=>?_,fun i r hr=>?_⟩,Nat.zero_le _,?_⟩
 ·cases i<;>exact Nat.zero_le _
 ·cases i<;>simp at hr
 ·show 1+(0+(wgt (missK [] q.toNat)-1))≤65+0
  rw [miss_nil]
  have:q.toNat=0∨q.toNat=1∨q.toNat=2∨q.toNat=3∨q.toNat=4:=by omega
  rcases this with e | e | e | e | e<;>rw [e]<;>decide
theorem PlI.down {q:Int} {v:PlS} (h:PlI q v) (hk:v.k < v.L.length) (ys:Nat→RV):PlJ q ⟨v.k,ys,v.L,0⟩:=by
 refine⟨⟨h.b.n,h.b.len,h.b.row⟩,hk,Nat.zero_le _,?_⟩
 have ht:=h.t
 show v.L.length+phi q.toNat v.L v.L.length+(missK (v.L.getD v.k []) q.toNat-0)*wgt (missK (v.L.getD v.k []) q.toNat-1)≤65+(phi q.toNat v.L v.k+(wgt (missK (v.L.getD v.k []) q.toNat)-1))
 rw [Nat.sub_zero,wgt_sub]
 omega
theorem PlJ.has {q:Int} {v:PlS} (h:PlJ q v) (hs:v.s < q.toNat) (hh:hasR (v.L.getD v.k []) (v.s:Int)):PlJ q ⟨v.k,v.ys,v.L,v.s+1⟩:=by
 refine⟨⟨h.b.n,h.b.len,h.b.row⟩,h.k,hs,?_⟩
 have ht:=h.t
 simp only [miss_has hh]
 exact ht
theorem PlJ.add {q:Int} {v:PlS} (h:PlJ q v) (hs:v.s < q.toNat) (hh:¬ hasR (v.L.getD v.k []) (v.s:Int)) (ys:Nat→RV):PlJ q ⟨v.k,ys,v.L++[v.L.getD v.k []++[[(v.s:Int)]]],v.s+1⟩:=by
 have hk:=h.k
 have ht:=h.t
 have hl:=h.b.len v.k
 have hm:=miss_snoc hh q.toNat
 rw [if_pos hs]at hm
 have hn:=miss_not hh
 have hmono:=miss_mono (v.L.getD v.k []) (s:=v.s+1) (q.toNat-(v.s+1))
 rw [show v.s+1+(q.toNat-(v.s+1))=q.toNat by omega,hn]at hmono
 refine⟨⟨h.b.n,fun i=>?_,fun i r hr=>?_⟩,by simp only [List.length_append,List.length_singleton]; omega,hs,?_⟩
 ·by_cases hi:i < v.L.length
  ·simp only [getD_appB hi]; exact h.b.len i
  ·by_cases hi2:i=v.L.length
   ·simp only [hi2,getD_lastC,List.length_append,List.length_singleton]; omega
   ·have:(v.L++[v.L.getD v.k []++[[(v.s:Int)]]]).getD i []=[]:=by
     rw [List.getD_eq_getElem?_getD,List.getElem?_eq_none (by simp; omega)]; rfl
    simp only [this]
    exact Nat.zero_le _
 ·by_cases hi:i < v.L.length
  ·simp only [getD_appB hi]at hr; exact h.b.row i r hr
  ·by_cases hi2:i=v.L.length
   ·simp only [hi2,getD_lastC,List.mem_append,List.mem_singleton]at hr
    rcases hr with hr | rfl
    ·exact h.b.row _ r hr
    ·rfl
   ·have:(v.L++[v.L.getD v.k []++[[(v.s:Int)]]]).getD i []=[]:=by
     rw [List.getD_eq_getElem?_getD,List.getElem?_eq_none (by simp; omega)]; rfl
    simp only [this]at hr
    simp at hr
 ·have e1:phi q.toNat (v.L++[v.L.getD v.k []++[[(v.s:Int)]]]) (v.L.length+1)=phi q.toNat v.L v.L.length+(wgt (missK (v.L.getD v.k []++[[(v.s:Int)]]) q.toNat)-1):=by
   rw [phi,phi_app _ (Nat.le_refl _),getD_lastC]
  have e2:phi q.toNat (v.L++[v.L.getD v.k []++[[(v.s:Int)]]]) (v.k+1)=phi q.toNat v.L (v.k+1):=phi_app _ hk
  simp only [List.length_append,List.length_singleton,getD_appB hk,hn]
  rw [e1,e2]
  have e3:missK (v.L.getD v.k []++[[(v.s:Int)]]) q.toNat=missK (v.L.getD v.k []) q.toNat-1:=by omega
  rw [e3]
  have hw:=wgt_pos (missK (v.L.getD v.k []) q.toNat-1)
  obtain⟨a,ha⟩:∃a,missK (v.L.getD v.k []) q.toNat-missK (v.L.getD v.k []) v.s=a+1:=⟨missK (v.L.getD v.k []) q.toNat-missK (v.L.getD v.k []) v.s-1,by omega⟩
  have ha2:missK (v.L.getD v.k []) q.toNat-(missK (v.L.getD v.k []) v.s+1)=a:=by omega
  rw [ha,Nat.succ_mul]at ht
  rw [ha2]
  omega
theorem PlJ.done {q:Int} {v:PlS} (h:PlJ q v) (hs:¬ v.s < q.toNat) (ys:Nat→RV):PlI q ⟨v.k+1,ys,v.L,0⟩:=by
 have hk:=h.k
 have ht:=h.t
 have e:v.s=q.toNat:=by have:=h.s; omega
 rw [e,Nat.sub_self,Nat.zero_mul]at ht
 exact⟨⟨h.b.n,h.b.len,h.b.row⟩,hk,ht⟩
theorem elemC {R:Rows} {k:Nat} {x:Int} (hl:R.length=k):∀i,i < k+1→(behind k (El.fn (Rv.elemOf [.i64] R)) 1 (litEl (symL [SV.i .i64 x]) 1 1)).at i=Rv.elemOf [.i64] (R++[[x]]) i:=fun i hi=>by
 have:=snoc_at (R:=R) (ks:=[.i64]) (r:=[x]) (cs:=[SV.i .i64 x]) rfl (i:=i) (by omega)
 rw [hl]at this
 exact this
theorem nil_at {ys:Nat→RV} (hy:ys 0=.v (.slice none 0 0)):∀i,i < 1→∀N,denL N ((litEl (symL [SV.v (Value.slice none 0 0)]) 1 1).at i)=denL N (llElem [.i64] ys [[]] i):=fun i hi N=>by
 obtain rfl:i=0:=by omega
 show denL N [SV.v (Value.slice none 0 0)]=denL N [SV.lst (ys 0) _ _ _]
 rw [hy]
 rfl
noncomputable def F_Plans:FnG:=⟨6,none,[i64],fun l=>match l with | [.z q]=>0≤q∧q≤4 | _=>False,[.one (.ll [.i64])],fun l m=>match l with | [.z q]=>(match m with | [.ll L]=>L.length≤1000∧∀i,(L.getD i []).length≤1000 | _=>False) | _=>False,[(.t 0,.ll [.i64])]⟩
noncomputable def A_Plans:List SV→List Dat→Nat→List SV→AnG:=fun xs ds n ts=>match xs with
 | [_]=>match ds with
  | [.z q]=>match n with
   | 3=>⟨PlS,fun v=>([some (SV.i IntKind.i64 q),none,some (SV.v (Value.slice none ((0:Nat)) ((0:Nat)))),some (.gsl 0 v.L.length 1 true),some (.i .i64 v.k)]++nN 32),fun v=>[.gr v.L.length 1 (.nf (llElem [.i64] v.ys v.L)) .gr true],fun B v=>PlI q v∧LieAt B [.i64] v.ys v.L v.L.length,fun v=>1000-v.k,0,[]⟩
   | 6=>(match lget ts 4 with | some (SV.i IntKind.i64 ik)=>⟨PlS,fun v=>([some (SV.i IntKind.i64 q),none,some (SV.v (Value.slice none ((0:Nat)) ((0:Nat)))),some (.gsl 0 v.L.length 1 true),some (.i .i64 ik),some (.i .i64 v.s)]++nN 31),fun v=>[.gr v.L.length 1 (.nf (llElem [.i64] v.ys v.L)) .gr true],fun B v=>PlJ q v∧ik=v.k∧LieAt B [.i64] v.ys v.L v.L.length,fun v=>100-v.s,0,[(.last (.t 3) 0,.l [.i64])]⟩ | _=>noAnG)
   | _=>noAnG
  | _=>noAnG
 | _=>noAnG
def V_Plans:Prop:=
 ∀(B:RW) (f:Int),(0:Int)≤f∧f≤(4:Int)→(∃(b:PlS),Ob (PlI f b∧LieAt B [.i64] b.ys b.L b.L.length)∧Ob (f=f)∧Ob (SV.v (Value.slice none 0 0)=SV.v (Value.slice none 0 0))∧Ob ((1:Nat)=b.L.length∧(0:Nat) < b.L.length)∧Ob ((0:Int)=(↑b.k:Int))∧Ob ((1:Nat)=b.L.length∧∀(d:Nat),d < b.L.length→∀(N:Nat),denL N ((litEl (symL [SV.v (Value.slice none 0 0)]) 1 1).at d)=denL N (llElem [.i64] b.ys b.L d))∧Ob (NamE B b.L.length (llElem [.i64] b.ys b.L))∧True)∧∀(B':RW),Grow B B'→∀(b:PlS),PlI f b∧LieAt B' [.i64] b.ys b.L b.L.length→∀(_ _ _ _ _ _ _ _ _ _ _ _ _ _ _ _ _ _ _ _ _ _ _ _ _ _ _ _ _ _ _ _ _:Value),((↑b.k:Int) < (↑b.L.length:Int)→(∃(a:PlS),Ob (PlJ f a∧(↑b.k:Int)=(↑a.k:Int)∧LieAt B' [.i64] a.ys a.L a.L.length)∧Ob (f=f)∧Ob (SV.v (Value.slice none 0 0)=SV.v (Value.slice none 0 0))∧Ob (b.L.length=a.L.length)∧Ob ((↑b.k:Int)=(↑b.k:Int))∧Ob ((0:Int)=(↑a.s:Int))∧EqA b.L.length a.L.length (El.nf (llElem [.i64] b.ys b.L)) (El.nf (llElem [.i64] a.ys a.L))∧Ob (NamE B' a.L.length (llElem [.i64] a.ys a.L))∧True)∧∀(B'_1:RW),Grow B' B'_1→∀(a:PlS),PlJ f a∧(↑b.k:Int)=(↑a.k:Int)∧LieAt B'_1 [.i64] a.ys a.L a.L.length→∀(_ _ _ _ _ _ _ _ _ _ _ _ _ _ _ _ _ _ _ _ _ _ _ _ _ _ _ _ _ _ _ _:Value),((↑a.s:Int) < f→Ob ((0:Int)≤(↑b.k:Int)∧b.k < a.L.length)∧Ob (b.k < a.L.length)∧∃(h:List (List Int)),Ob (IsLst B'_1 (a.ys b.k) (a.L.getD b.k []).length 1 (Rv.elemOf [.i64] (a.L.getD b.k []))∧h.length=(a.L.getD b.k []).length∧(∀r∈h,r.length=1)∧∀(d:Nat),d < (a.L.getD b.k []).length→Rv.elemOf [.i64] (a.L.getD b.k []) d=Rv.elemOf [.i64] h d)∧Ob (h.length≤1000000)∧(¬hasR h (↑a.s:Int)→Ob ((0:Int)≤(↑b.k:Int)∧b.k < a.L.length)∧Ob (b.k < a.L.length)∧∃(e:List (List Int)),Ob (IsLst B'_1 (a.ys b.k) (a.L.getD b.k []).length 1 (Rv.elemOf [.i64] (a.L.getD b.k []))∧e.length=(a.L.getD b.k []).length∧(∀r∈e,r.length=1)∧∀(d:Nat),d < (a.L.getD b.k []).length→Rv.elemOf [.i64] (a.L.getD b.k []) d=Rv.elemOf [.i64] e d)∧Ob (F_Ints.pre [Dat.l e])∧Ob (e.length=e.length∧∀(d:Nat),d < e.length→((El.fn (Rv.elemOf [.i64] e)).at d).length=(1:Nat))∧Ob ((e.length+(1:Nat))*(2:Nat)*(9:Nat)≤1099511627776)∧Ob (e.length=e.length)∧Ob (a.L.length=a.L.length∧∀(d:Nat),d < a.L.length→((El.nf (llElem [.i64] a.ys a.L)).at d).length=(1:Nat))∧Ob ((a.L.length+(1:Nat))*(2:Nat)*(25:Nat)≤1099511627776)∧Ob (a.L.length=a.L.length)∧Ob (InR .i64 ((↑a.s:Int)+(1:Int)))∧RwA (e.length+(1:Nat)) (e.length+(1:Nat)) 1 [.i64] ((behind e.length (El.fn (Rv.elemOf [.i64] e)) 1 (litEl (symL [SV.i .i64 (↑a.s:Int)]) 1 1)).at) fun i=>∀(B'_2:RW),Grow B'_1 B'_2→∀(g:RV),IsLst B'_2 g i.length 1 (Rv.elemOf [.i64] i)→oneB g=true→Ob (IsLst B'_1 (a.ys b.k) (a.L.getD b.k []).length 1 (Rv.elemOf [.i64] (a.L.getD b.k [])))∧Ob (IsLst B'_1 (a.ys b.k) (a.L.getD b.k []).length 1 (Rv.elemOf [.i64] (a.L.getD b.k [])))∧Ob (e.length+(1:Nat)=e.length+(1:Nat))∧Ob (NamE B'_1 a.L.length (llElem [.i64] a.ys a.L))∧Ob (e.length+(1:Nat)=e.length+(1:Nat))∧Ob (e.length+(1:Nat)=e.length+(1:Nat))∧∃(c:PlS),Ob ((PlJ f c∧(↑b.k:Int)=(↑c.k:Int)∧LieAt B'_2 [.i64] c.ys c.L c.L.length)∧(100:Nat)-c.s < 100-a.s)∧Ob (f=f)∧Ob (SV.v (Value.slice none 0 0)=SV.v (Value.slice none 0 0))∧Ob (a.L.length+(1:Nat)=c.L.length)∧Ob ((↑b.k:Int)=(↑b.k:Int))∧Ob ((↑a.s:Int)+(1:Int)=(↑c.s:Int))∧EqA (a.L.length+(1:Nat)) c.L.length ((El.nf (llElem [.i64] a.ys a.L)).snoc a.L.length [SV.lst g i.length 1 (Rv.elemOf [.i64] i)]) (El.nf (llElem [.i64] c.ys c.L))∧Ob (NamE B'_2 c.L.length (llElem [.i64] c.ys c.L))∧True)∧(¬¬hasR h (↑a.s:Int)→Ob (InR .i64 ((↑a.s:Int)+(1:Int)))∧∃(c:PlS),Ob ((PlJ f c∧(↑b.k:Int)=(↑c.k:Int)∧LieAt B'_1 [.i64] c.ys c.L c.L.length)∧(100:Nat)-c.s < 100-a.s)∧Ob (f=f)∧Ob (SV.v (Value.slice none 0 0)=SV.v (Value.slice none 0 0))∧Ob (a.L.length=c.L.length)∧Ob ((↑b.k:Int)=(↑b.k:Int))∧Ob ((↑a.s:Int)+(1:Int)=(↑c.s:Int))∧EqA a.L.length c.L.length (El.nf (llElem [.i64] a.ys a.L)) (El.nf (llElem [.i64] c.ys c.L))∧Ob (NamE B'_1 c.L.length (llElem [.i64] c.ys c.L))∧True))∧(¬(↑a.s:Int) < f→Ob (InR .i64 ((↑b.k:Int)+(1:Int)))∧∃(c:PlS),Ob ((PlI f c∧LieAt B'_1 [.i64] c.ys c.L c.L.length)∧(1000:Nat)-c.k < 1000-b.k)∧Ob (f=f)∧Ob (SV.v (Value.slice none 0 0)=SV.v (Value.slice none 0 0))∧Ob (a.L.length=c.L.length)∧Ob ((↑b.k:Int)+(1:Int)=(↑c.k:Int))∧EqA a.L.length c.L.length (El.nf (llElem [.i64] a.ys a.L)) (El.nf (llElem [.i64] c.ys c.L))∧Ob (NamE B'_1 c.L.length (llElem [.i64] c.ys c.L))∧True))∧(¬(↑b.k:Int) < (↑b.L.length:Int)→∃(R:List (List (List Int))),∃(ys:Nat→RV),Ob (b.L.length=b.L.length∧R.length=b.L.length∧(∀(d:Nat),d < b.L.length→(El.nf (llElem [.i64] b.ys b.L)).at d=llElem [.i64] ys R d)∧∀(d:Nat),d < b.L.length→IsLst B' (ys d) (R.getD d []).length 1 (Rv.elemOf [.i64] (R.getD d []))∧oneB (ys d)=true∧∀(j:List Int),j∈R.getD d []→j.length=(1:Nat))∧∀(B'_1:RW),Grow B' B'_1→∀(g:RV),IsLL B'_1 [.i64] g ys R→oneB g=true→Ob (b.L.length=b.L.length)∧∃(R_1:List (List (List Int))),∃(ys_1:Nat→RV),Ob (R_1.length=R.length∧(∀(d:Nat),d < R.length→llElem [.i64] ys R d=llElem [.i64] ys_1 R_1 d)∧IsLL B'_1 [.i64] g ys_1 R_1)∧Ob (R_1.length≤1000∧∀(d:Nat),(R_1.getD d []).length≤1000))
set_option linter.unusedSimpArgs false in
set_option maxRecDepth 4000 in
set_option maxHeartbeats 2000000 in
theorem v_Plans:V_Plans:=by
 unfold V_Plans EqA RwA
 intro B q hq
 simp only [Ob_iff,and_true,true_and,implies_true,Classical.not_not]
 have hlz:LieAt B [.i64] (fun _=>.v (.slice none 0 0)) [[]] 1:=fun i hi=>⟨Or.inl ⟨rfl,by obtain rfl:i=0:=(by omega); rfl⟩,rfl⟩
 refine⟨⟨⟨0,fun _=>.v (.slice none 0 0),[[]],0⟩,⟨PlI.zero hq _,hlz⟩,⟨rfl,Nat.one_pos⟩,rfl,⟨rfl,nil_at rfl⟩,hlz.nam⟩,?_⟩
 intro B1 g1 v hv
 obtain⟨hv,hl⟩:=hv
 intros
 have hlen:=hv.len
 refine⟨fun h1=>?_,fun h1=>?_⟩
 ·have hk:v.k < v.L.length:=by omega
  refine⟨⟨⟨v.k,v.ys,v.L,0⟩,⟨hv.down hk _,rfl,hl⟩,rfl,rfl,⟨rfl,fun i hi=>rfl⟩,hl.nam⟩,?_⟩
  intro B2 g2 u hu
  obtain⟨hu,hku,hlu⟩:=hu
  intros
  have hku:v.k=u.k:=by omega
  have huk:=hu.k
  have hul:=hu.len
  have hlk:=hu.b.len u.k
  rw [hku]
  have hL:=hlu u.k huk
  have q3:(u.L.length+1)*2*25≤1099511627776:=by omega
  have q4:InR .i64 ((u.s:Int)+1):=by have:=hu.s; have:=hu.b.n; simp only [InR]; omega
  have q5:((u.L.getD u.k []).length+1)*2*9≤1099511627776:=by omega
  refine⟨fun h2=>?_,fun h2=>?_⟩
  ·have hs:u.s < q.toNat:=by omega
   have hmu:100-(u.s+1) < 100-u.s:=by have:=hu.b.n; omega
   refine⟨⟨Int.natCast_nonneg _,huk⟩,huk,u.L.getD u.k [],⟨hL.1,rfl,hu.b.row u.k,fun i hi=>rfl⟩,by omega,fun h3=>?_,fun h3=>?_⟩
   ·refine⟨⟨Int.natCast_nonneg _,huk⟩,huk,u.L.getD u.k [],⟨hL.1,rfl,hu.b.row u.k,fun i hi=>rfl⟩,(show(u.L.getD u.k []).length≤4000000 by omega),fun i hi=>rfl,q5,fun i hi=>rfl,q3,q4,u.L.getD u.k []++[[(u.s:Int)]],⟨by simp,?_,elemC rfl⟩,?_⟩
    ·intro r hr
     simp only [List.mem_append,List.mem_singleton]at hr
     rcases hr with hr | rfl
     ·exact hu.b.row _ r hr
     ·rfl
    ·intro B3 g3 x hx ho
     have hsn:=(hlu.up g3).snoc (rows:=u.L.getD u.k []++[[(u.s:Int)]]) hx ho
     have hll:=ll_snoc2 (ks:=[IntKind.i64]) (ys:=u.ys) (R:=u.L) (sz:=1) (x:=x) (rows:=u.L.getD u.k []++[[(u.s:Int)]]) rfl
     have hl1:(u.L++[u.L.getD u.k []++[[(u.s:Int)]]]).length=u.L.length+1:=by simp
     have hsn':LieAt B3 [.i64] (setY u.ys u.L.length x) (u.L++[u.L.getD u.k []++[[(u.s:Int)]]]) (u.L++[u.L.getD u.k []++[[(u.s:Int)]]]).length:=by rw [hl1]; exact hsn
     exact⟨hL.1,hL.1,hlu.nam,⟨u.k,setY u.ys u.L.length x,u.L++[u.L.getD u.k []++[[(u.s:Int)]]],u.s+1⟩,⟨⟨hu.add hs h3 _,rfl,hsn'⟩,hmu⟩,hl1.symm,rfl,⟨hl1.symm,fun i hi=>hll i (by rw [← hl1]; exact hi)⟩,hsn'.nam⟩
   ·exact⟨q4,⟨u.k,u.ys,u.L,u.s+1⟩,⟨⟨hu.has hs h3,rfl,hlu⟩,hmu⟩,rfl,rfl,⟨rfl,fun i hi=>rfl⟩,hlu.nam⟩
  ·exact⟨by simp only [InR]; omega,⟨u.k+1,u.ys,u.L,0⟩,⟨⟨hu.done (by omega) _,hlu⟩,by simp only; omega⟩,rfl,rfl,⟨rfl,fun i hi=>rfl⟩,hlu.nam⟩
 ·refine⟨v.L,v.ys,⟨rfl,fun i hi=>rfl,fun i hi=>⟨(hl i hi).1,(hl i hi).2,hv.b.row i⟩⟩,?_⟩
  intro B2 g2 x hx ho
  refine⟨v.L,v.ys,⟨rfl,fun i hi=>rfl,hx⟩,by omega,fun i=>?_⟩
  by_cases hi:i < v.L.length
  ·have:=hv.b.len i; omega
  ·have:v.L.getD i []=[]:=by
    rw [List.getD_eq_getElem?_getD,List.getElem?_eq_none (by omega)]; rfl
   rw [this]
   exact Nat.zero_le _
theorem e_Plans:V_Plans=needG P [F_Has] [F_Ints] [] A_Plans F_Plans:=by kernel_rfl
theorem n_Plans:Ob (needG P [F_Has] [F_Ints] [] A_Plans F_Plans):=by
 rw [← e_Plans]
 exact⟨v_Plans⟩
theorem b_Plans:((P.funcs[6]?).any fun fn=>fn.body.isSome)=true:=by kernel_rfl
theorem Plans_ok:FnG.Ok P F_Plans:=FnG.ok named (l:=[F_Has]) (es:=[F_Ints]) (gs:=[]) (A:=A_Plans) (by rfl) (by rfl) (by rfl) (by
 intro F h
 simp only [List.mem_cons,List.not_mem_nil,or_false]at h
 rcases h with rfl
 ·exact Has_ok
) (by
 intro F h
 simp only [List.mem_cons,List.not_mem_nil,or_false]at h
 rcases h with rfl
 ·exact Ints_ok
) (by
 intro F h; simp at h) b_Plans rfl n_Plans
end Go.Proofs.Ytkdehhcadhainaa.Sy
