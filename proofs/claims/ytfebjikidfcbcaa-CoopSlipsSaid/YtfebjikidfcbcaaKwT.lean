import Derived.Test.YtfebjikidfcbcaaKwN
import Derived.Test.YtfebjikidfcbcaaKwO
import Derived.Test.YtfebjikidfcbcaaKwQ
import Derived.Test.YtfebjikidfcbcaaKwU
import Derived.Test.YtfebjikidfcbcaaProg
namespace Go.Proofs.Ytfebjikidfcbcaa.Sy
open Go Go.Rv
set_option linter.unusedVariables false
structure Gd (n:Nat) (r:List Int):Prop where
 l:r.length=4
 k:1≤r.getD 0 0∧r.getD 0 0≤4
 m:0≤r.getD 1 0∧r.getD 1 0 < n
 o:r.getD 2 0=0
 q:1≤r.getD 3 0∧r.getD 3 0≤3000
structure Ac where
 b:Int
 d:Int
 s:Int
def acE (itr pri cre:Int) (v:Ac) (k q:Int):Int:=
 if k=2 then (if v.b < q*pri then 4 else 0)
 else if k=3 then (if cre < v.d+(q+prt q itr)then 12 else 0)
 else if k=4 then (if v.d < q then 12 else if v.b < q then 4 else 0)
 else 0
def acN (fee itr pri cre:Int) (v:Ac) (k q:Int):Ac:=if acE itr pri cre v k q≠0 then v
 else ⟨if k=1 then v.b+(q-prt q fee)else if k=2 then v.b-q*pri else if k=3 then v.b+q else v.b-q,if k=3 then v.d+(q+prt q itr)else if k=4 then v.d-q else v.d,if k=1 then v.s+q else v.s⟩
def acS1 (fee itr pri cre m:Int) (v:Ac) (r:List Int):Ac:=if r.getD 1 0=m then acN fee itr pri cre v (r.getD 0 0) (r.getD 3 0)else v
def acF (fee itr pri cre m:Int) (v:Ac):Rows→Ac
 | []=>v
 | r :: D=>acF fee itr pri cre m (acS1 fee itr pri cre m v r) D
theorem acF_app {fee itr pri cre m:Int}:∀ {v:Ac} {D:Rows} {r:List Int},acF fee itr pri cre m v (D++[r])=acS1 fee itr pri cre m (acF fee itr pri cre m v D) r
 | v,[],r=>rfl
 | v,x :: D,r=>acF_app (D:=D)
theorem acF_own {fee itr pri cre m:Int}:∀ {v:Ac} {D:Rows},acF fee itr pri cre m v (D.filter fun r=>r.getD 1 0 == m)=acF fee itr pri cre m v D
 | v,[]=>rfl
 | v,x :: D=>by
  by_cases h:x.getD 1 0=m
  ·rw [List.filter_cons_of_pos (by simp only [beq_iff_eq]; exact h)]
   exact acF_own (D:=D)
  ·rw [List.filter_cons_of_neg (by simp only [beq_iff_eq]; exact h),acF_own]
   show _=acF fee itr pri cre m (acS1 fee itr pri cre m v x) D
   unfold acS1
   rw [if_neg h]
theorem acN_one {fee itr pri cre:Int} {v:Ac} {q:Int}:acN fee itr pri cre v 1 q=⟨v.b+(q-prt q fee),v.d,v.s+q⟩:=by
 simp [acN,acE]
theorem acS1_swap {fee itr pri cre m:Int} {v:Ac} {r s:List Int} (hr:r.getD 0 0=1) (hs:s.getD 0 0=1):acS1 fee itr pri cre m (acS1 fee itr pri cre m v r) s=acS1 fee itr pri cre m (acS1 fee itr pri cre m v s) r:=by
 unfold acS1
 rw [hr,hs]
 by_cases h1:r.getD 1 0=m<;>by_cases h2:s.getD 1 0=m
 ·simp only [if_pos h1,if_pos h2,acN_one,Ac.mk.injEq,true_and]
  omega
 ·simp only [if_pos h1,if_neg h2]
 ·simp only [if_neg h1,if_pos h2]
 ·simp only [if_neg h1,if_neg h2]
theorem acF_perm {fee itr pri cre m:Int} {D E:Rows} (h:D.Perm E):(∀r∈D,r.getD 0 0=1)→∀v,acF fee itr pri cre m v D=acF fee itr pri cre m v E:=by
 induction h with
 | nil=>intro _ _; rfl
 | cons x _ ih=>intro hk v; exact ih (fun r hr=>hk r (List.mem_cons_of_mem _ hr)) _
 | swap x y l =>
  intro hk v
  show acF fee itr pri cre m (acS1 fee itr pri cre m (acS1 fee itr pri cre m v y) x) l=acF fee itr pri cre m (acS1 fee itr pri cre m (acS1 fee itr pri cre m v x) y) l
  rw [acS1_swap (hk y (by simp)) (hk x (by simp))]
 | trans h1 _ ih1 ih2=>intro hk v; exact(ih1 hk v).trans (ih2 (fun r hr=>hk r (h1.mem_iff.2 hr)) v)
def tlF:Rows→Int
 | []=>0
 | r :: D=>(if r.getD 0 0=1 then r.getD 3 0 else 0)+tlF D
theorem tlF_app:∀ {D:Rows} {r:List Int},tlF (D++[r])=tlF D+(if r.getD 0 0=1 then r.getD 3 0 else 0)
 | [],r=>by simp [tlF]
 | x :: D,r=>by
  show _+tlF (D++[r])=_+tlF D+_
  rw [tlF_app]
  omega
theorem tlF_perm {D E:Rows} (h:D.Perm E):tlF D=tlF E:=by
 induction h with
 | nil=>rfl
 | cons x _ ih=>show _+_=_+_; rw [ih]
 | swap x y l=>show _+(_+_)=_+(_+_); omega
 | trans _ _ i1 i2=>exact i1.trans i2
def acOf (A:Rows) (i:Nat):Ac:=⟨cell A i 0,cell A i 1,cell A i 2⟩
structure Bd (A:Rows) (till:Int) (k:Nat):Prop where
 b:∀i,i < A.length→cell A i 0≤3000+3000*k∧cell A i 2≤5000+3000*k
 t:till≤100000+3000*k
theorem Gd.chk {n:Nat} {r:List Int} (h:Gd n r):dchk n (r.getD 0 0) (r.getD 1 0) (r.getD 2 0) (r.getD 3 0)=0:=by
 have hk:=h.k
 have hm:=h.m
 have ho:=h.o
 have hq:=h.q
 have e:dpar n (r.getD 0 0) (r.getD 1 0) (r.getD 2 0)=0:=by
  unfold dpar
  rw [if_neg (by omega),if_neg (by omega),if_pos (by omega),if_neg (by omega)]
 unfold dchk
 rw [if_neg (by omega),e,if_neg (by omega),if_neg (by omega)]
theorem dE_ac {fee itr pri cre:Int} {A:Rows} {till:Int} {n:Nat} {r:List Int} (h:Gd n r):dE fee itr pri cre A till (r.getD 0 0) (r.getD 1 0) (r.getD 2 0) (r.getD 3 0)=acE itr pri cre (acOf A (r.getD 1 0).toNat) (r.getD 0 0) (r.getD 3 0):=by
 have hk:=h.k
 unfold dE acE acOf
 generalize r.getD 0 0=k at *
 have:k=1∨k=2∨k=3∨k=4:=by omega
 rcases this with rfl | rfl | rfl | rfl<;>simp
theorem dA_ac {fee itr pri cre:Int} {A:Rows} {till:Int} {r:List Int} (h:Gd A.length r) (h0:acE itr pri cre (acOf A (r.getD 1 0).toNat) (r.getD 0 0) (r.getD 3 0)=0) {i:Nat} (hi:i < A.length):acOf (dA fee itr pri cre A till (r.getD 0 0) (r.getD 1 0) (r.getD 2 0) (r.getD 3 0)) i=acS1 fee itr pri cre i (acOf A i) r:=by
 have hk:=h.k
 have hm:=h.m
 unfold acOf acS1 dA
 rw [rows3_0 _ _ _ hi,rows3_1 _ _ _ hi,rows3_2 _ _ _ hi]
 generalize r.getD 0 0=k at *
 generalize r.getD 1 0=m at *
 by_cases e:m=i
 ·subst e
  simp only [Int.toNat_natCast]at h0
  have h0':¬ acE itr pri cre ⟨cell A i 0,cell A i 1,cell A i 2⟩ k (r.getD 3 0)≠0:=fun hh=>hh h0
  rw [if_pos rfl]
  unfold acN
  rw [if_neg h0']
  have:k=1∨k=2∨k=3∨k=4:=by omega
  rcases this with rfl | rfl | rfl | rfl<;>simp [dB,dD,dS]
 ·have e2:¬ i=m.toNat:=by omega
  rw [if_neg e]
  have:k=1∨k=2∨k=3∨k=4:=by omega
  rcases this with rfl | rfl | rfl | rfl<;>simp [dB,dD,dS,e2]
theorem acS1_in {fee itr pri cre m:Int} {v:Ac} {r:List Int} {n:Nat} (h:Gd n r) (hf:0≤fee∧fee≤1000000) (hp:0≤pri):(acS1 fee itr pri cre m v r).b≤v.b+3000∧(acS1 fee itr pri cre m v r).s≤v.s+3000:=by
 have hq:=h.q
 have hk:=h.k
 have pf:=prt_in (q:=r.getD 3 0) (p:=fee) (by omega) hf
 have qp:0≤r.getD 3 0*pri:=Int.mul_nonneg (by omega) hp
 unfold acS1
 split
 ·unfold acN
  split
  ·omega
  ·generalize r.getD 3 0*pri=z at *
   generalize prt (r.getD 3 0) fee=y at *
   generalize r.getD 3 0=q at *
   generalize r.getD 0 0=k at *
   show(if k=1 then _ else _)≤_∧(if k=1 then _ else _)≤_
   refine⟨?_,?_⟩<;>repeat' split
   all_goals omega
 ·omega
theorem cell_at {D:Rows} {j:Nat} (h:j < D.length) (c:Nat):cell D j c=D[j].getD c 0:=by
 unfold cell
 have e:D.getD j []=D[j]:=by simp [List.getD_eq_getElem?_getD,h]
 rw [e]
theorem rn_ac {fee itr pri cre:Int} {A:Rows} {till:Int} {D:Rows} (hv:CoopOk fee itr pri cre A till) (hb:Bd A till 0) (hD:∀r∈D,Gd A.length r) (hl:D.length≤100) :
  ∀j,j≤D.length→(∀i,i < A.length→acOf (rnA fee itr pri cre A till D j) i=acF fee itr pri cre i (acOf A i) (D.take j))∧Bd (rnA fee itr pri cre A till D j) (rnT fee itr pri cre A till D j) j∧rnT fee itr pri cre A till D j=till+tlF (D.take j)
 | 0,_=>⟨fun i hi=>rfl,hb,by show till=till+tlF []; simp [tlF]⟩
 | j+1,hj=>by
  obtain⟨ia,ib,it⟩:=rn_ac hv hb hD hl j (by omega)
  have hj':j < D.length:=by omega
  have hg:=hD _ (List.getElem_mem hj')
  have hok:=rn_ok hv (D:=D) j
  have hlen:(rnA fee itr pri cre A till D j).length=A.length:=rn_len j
  have hr:=hv.r
  have tk:D.take (j+1)=D.take j++[D[j]]:=by rw [List.take_add_one,List.getElem?_eq_getElem hj']; rfl
  have stp:∀i:Nat,acF fee itr pri cre i (acOf A i) (D.take (j+1))=acS1 fee itr pri cre i (acF fee itr pri cre i (acOf A i) (D.take j)) D[j]:=fun i=>by rw [tk,acF_app]
  have tlp:tlF (D.take (j+1))=tlF (D.take j)+(if D[j].getD 0 0=1 then D[j].getD 3 0 else 0):=by rw [tk,tlF_app]
  have ce:rnE fee itr pri cre A till D j=afE fee itr pri cre (rnA fee itr pri cre A till D j) (rnT fee itr pri cre A till D j) (D[j].getD 0 0) (D[j].getD 1 0) (D[j].getD 2 0) (D[j].getD 3 0):=by
   unfold rnE
   rw [cell_at hj',cell_at hj',cell_at hj',cell_at hj']
  have hg':Gd (rnA fee itr pri cre A till D j).length D[j]:=by rw [hlen]; exact hg
  have hck:=hg'.chk
  have hde:=dE_ac (fee:=fee) (itr:=itr) (pri:=pri) (cre:=cre) (A:=rnA fee itr pri cre A till D j) (till:=rnT fee itr pri cre A till D j) hg'
  have hm:=hg.m
  have hmi:(D[j].getD 1 0).toNat < A.length:=by omega
  have hq:=hg.q
  by_cases h0:acE itr pri cre (acOf (rnA fee itr pri cre A till D j) (D[j].getD 1 0).toNat) (D[j].getD 0 0) (D[j].getD 3 0)=0
  ·have hA:=fun i (hi:i < A.length)=>dA_ac (fee:=fee) (till:=rnT fee itr pri cre A till D j) hg' h0 (i:=i) (by omega)
   have hin:=fun i=>acS1_in (fee:=fee) (itr:=itr) (pri:=pri) (cre:=cre) (m:=(i:Nat)) (v:=acOf (rnA fee itr pri cre A till D j) i) hg hr.1 hr.2.2.1.1
   have hT:dT (rnT fee itr pri cre A till D j) (D[j].getD 0 0) (D[j].getD 3 0)=rnT fee itr pri cre A till D j+(if D[j].getD 0 0=1 then D[j].getD 3 0 else 0):=by
    have hk:=hg.k
    unfold dT
    split
    ·rfl
    ·rw [if_neg (by omega)]; omega
   have hTb:dT (rnT fee itr pri cre A till D j) (D[j].getD 0 0) (D[j].getD 3 0)≤100000+3000*((j+1:Nat):Int):=by
    have:=ib.t
    rw [hT]
    split<;>omega
   have hB:∀i,i < A.length→cell (dA fee itr pri cre (rnA fee itr pri cre A till D j) (rnT fee itr pri cre A till D j) (D[j].getD 0 0) (D[j].getD 1 0) (D[j].getD 2 0) (D[j].getD 3 0)) i 0≤3000+3000*((j+1:Nat):Int)∧cell (dA fee itr pri cre (rnA fee itr pri cre A till D j) (rnT fee itr pri cre A till D j) (D[j].getD 0 0) (D[j].getD 1 0) (D[j].getD 2 0) (D[j].getD 3 0)) i 2≤5000+3000*((j+1:Nat):Int):=fun i hi=>by
    have h1:=hA i hi
    have h2:=hin i
    have h3:=ib.b i (by omega)
    rw [← h1]at h2
    have h2a:cell (dA fee itr pri cre (rnA fee itr pri cre A till D j) (rnT fee itr pri cre A till D j) (D[j].getD 0 0) (D[j].getD 1 0) (D[j].getD 2 0) (D[j].getD 3 0)) i 0≤cell (rnA fee itr pri cre A till D j) i 0+3000:=h2.1
    have h2b:cell (dA fee itr pri cre (rnA fee itr pri cre A till D j) (rnT fee itr pri cre A till D j) (D[j].getD 0 0) (D[j].getD 1 0) (D[j].getD 2 0) (D[j].getD 3 0)) i 2≤cell (rnA fee itr pri cre A till D j) i 2+3000:=h2.2
    omega
   have hdl:(dA fee itr pri cre (rnA fee itr pri cre A till D j) (rnT fee itr pri cre A till D j) (D[j].getD 0 0) (D[j].getD 1 0) (D[j].getD 2 0) (D[j].getD 3 0)).length=A.length:=(rows3_len _ _ _ _).trans hlen
   have hnf:¬ fullC (dA fee itr pri cre (rnA fee itr pri cre A till D j) (rnT fee itr pri cre A till D j) (D[j].getD 0 0) (D[j].getD 1 0) (D[j].getD 2 0) (D[j].getD 3 0)) (dT (rnT fee itr pri cre A till D j) (D[j].getD 0 0) (D[j].getD 3 0)):=by
    rintro(h1 | ⟨i,hi,h1⟩)
    ·omega
    ·have:=hB i (by omega)
     omega
   have h00:rnE fee itr pri cre A till D j=0:=by
    rw [ce,afE_ful hck (by rw [hde]; exact h0),if_neg hnf]
   obtain⟨e1,e2⟩:=rn_yes h00
   rw [cell_at hj',cell_at hj',cell_at hj',cell_at hj']at e1
   rw [cell_at hj',cell_at hj']at e2
   refine⟨fun i hi=>?_,⟨fun i hi=>?_,?_⟩,?_⟩
   ·rw [stp,← ia i hi,e1]
    exact hA i hi
   ·rw [e1]at hi ⊢
    exact hB i (by omega)
   ·rw [e2]; exact hTb
   ·rw [e2,hT,it,tlp]; omega
  ·have h00:rnE fee itr pri cre A till D j≠0:=by
    rw [ce,afE_do hck (by rw [hde]; exact h0),hde]
    exact h0
   obtain⟨e1,e2⟩:=rn_no h00
   have same:∀i,i < A.length→acS1 fee itr pri cre i (acOf (rnA fee itr pri cre A till D j) i) D[j]=acOf (rnA fee itr pri cre A till D j) i:=fun i hi=>by
    unfold acS1
    split
    ·rename_i e
     have e3:(D[j].getD 1 0).toNat=i:=by omega
     unfold acN
     rw [if_pos (by rw [← e3]; exact h0)]
    ·rfl
   have k1:¬ D[j].getD 0 0=1:=fun e=>h0 (by rw [e]; simp [acE])
   refine⟨fun i hi=>?_,⟨fun i hi=>?_,?_⟩,?_⟩
   ·rw [stp,← ia i hi,e1,same i hi]
   ·rw [e1]at hi ⊢
    have:=ib.b i hi
    omega
   ·rw [e2]
    have:=ib.t
    omega
   ·rw [e2,it,tlp,if_neg k1]; omega
theorem rn_own {fee itr pri cre:Int} {A:Rows} {till:Int} {D E:Rows} (hv:CoopOk fee itr pri cre A till) (hb:Bd A till 0) (hD:∀r∈D,Gd A.length r) (hl:D.length≤100) {i:Nat} (hi:i < A.length) (hE:E=D.filter fun r=>r.getD 1 0 == (i:Int)) :
  acOf (rnA fee itr pri cre A till D D.length) i=acOf (rnA fee itr pri cre A till E E.length) i:=by
 have hE2:∀r∈E,Gd A.length r:=fun r hr=>hD r (by rw [hE]at hr; exact(List.mem_filter.1 hr).1)
 have hlE:E.length≤D.length:=by rw [hE]; exact List.length_filter_le _ _
 have h1:=(rn_ac hv hb hD hl _ (Nat.le_refl _)).1 i hi
 have h2:=(rn_ac hv hb hE2 (by omega) _ (Nat.le_refl _)).1 i hi
 rw [List.take_length]at h1 h2
 rw [h1,h2,hE,acF_own]
theorem rn_perm {fee itr pri cre:Int} {A:Rows} {till:Int} {D E:Rows} (hv:CoopOk fee itr pri cre A till) (hb:Bd A till 0) (hD:∀r∈D,Gd A.length r) (hl:D.length≤100) (hk:∀r∈D,r.getD 0 0=1) (hp:D.Perm E) :
  rnT fee itr pri cre A till D D.length=rnT fee itr pri cre A till E E.length∧samTo 3 (rnA fee itr pri cre A till D D.length) (rnA fee itr pri cre A till E E.length) (rnA fee itr pri cre A till D D.length).length:=by
 have hE2:∀r∈E,Gd A.length r:=fun r hr=>hD r (hp.mem_iff.2 hr)
 have hlE:E.length=D.length:=hp.length_eq.symm
 obtain⟨a1,_,t1⟩:=rn_ac hv hb hD hl _ (Nat.le_refl _)
 obtain⟨a2,_,t2⟩:=rn_ac hv hb hE2 (by omega) _ (Nat.le_refl _)
 rw [List.take_length]at a1 a2 t1 t2
 have l1:(rnA fee itr pri cre A till D D.length).length=A.length:=rn_len _
 have l2:(rnA fee itr pri cre A till E E.length).length=A.length:=rn_len _
 refine⟨by rw [t1,t2,tlF_perm hp],by rw [l1,l2],fun i hi=>?_⟩
 rw [l1]at hi
 have h:acOf (rnA fee itr pri cre A till D D.length) i=acOf (rnA fee itr pri cre A till E E.length) i:=by rw [a1 i hi,a2 i hi,acF_perm hp hk]
 simp only [acOf,Ac.mk.injEq]at h
 exact⟨⟨⟨trivial,h.1⟩,h.2.1⟩,h.2.2⟩
def row4 (S:Rows) (i:Nat):List Int:=[cell S i 0,cell S i 1,cell S i 2,cell S i 3]
def othR (S R:Rows) (k:Nat):Rows:=(List.range k).map fun j=>row4 S (cell R j 0).toNat
theorem othR_succ (S R:Rows) (k:Nat):othR S R (k+1)=othR S R k++[row4 S (cell R k 0).toNat]:=by simp [othR,List.range_succ]
theorem othR_len (S R:Rows) (k:Nat):(othR S R k).length=k:=by simp [othR]
theorem othR_row (S R:Rows) (k:Nat):∀r∈othR S R k,r.length=4:=by
 intro r hr
 simp only [othR,List.mem_map]at hr
 obtain⟨_,_,rfl⟩:=hr
 rfl
theorem four_ext {r:List Int} (h:r.length=4):[r.getD 0 0,r.getD 1 0,r.getD 2 0,r.getD 3 0]=r:=by
 match r,h with
 | [_,_,_,_],_=>rfl
theorem map_range (S:Rows) (h:∀r∈S,r.length=4):(List.range S.length).map (row4 S)=S:=by
 refine List.ext_getElem (by simp) fun i h1 h2=>?_
 simp only [List.getElem_map,List.getElem_range]
 unfold row4
 rw [cell_at h2,cell_at h2,cell_at h2,cell_at h2]
 exact four_ext (h _ (List.getElem_mem h2))
theorem rows_range (R:Rows):(List.range R.length).map (fun j=>(cell R j 0).toNat)=R.map fun r=>(r.getD 0 0).toNat:=by
 refine List.ext_getElem (by simp) fun i h1 h2=>?_
 simp only [List.getElem_map,List.getElem_range]
 rw [cell_at (by simpa using h2)]
theorem othR_perm {S:Rows} (h:∀r∈S,r.length=4) (a:Int):S.Perm (othR S (rowR a S.length) S.length):=by
 have hp:=(rowR_perm a S.length).map fun r=>row4 S (r.getD 0 0).toNat
 have hl:(rowR a S.length).length=S.length:=rowR_len _ _
 have e1:(rowR a S.length).map (fun r=>row4 S (r.getD 0 0).toNat)=othR S (rowR a S.length) S.length:=by
  have:=congrArg (List.map (row4 S)) (rows_range (rowR a S.length))
  rw [List.map_map,List.map_map,hl]at this
  exact this.symm
 have e2:((List.range S.length).map fun i:Nat=>[(i:Int)]).map (fun r=>row4 S (r.getD 0 0).toNat)=S:=by
  rw [List.map_map]
  refine Eq.trans ?_ (map_range S h)
  refine List.map_congr_left fun i _=>?_
  show row4 S ((i:Int)).toNat=row4 S i
  rw [Int.toNat_natCast]
 rw [e1,e2]at hp
 exact hp.symm
theorem rowR_in (a:Int) (n:Nat) {j:Nat} (h:j < n):0≤cell (rowR a n) j 0∧cell (rowR a n) j 0 < n:=by
 have hl:(rowR a n).length=n:=rowR_len _ _
 have hm:(rowR a n)[j]'(by omega)∈(List.range n).map fun i:Nat=>[(i:Int)]:=(rowR_perm a n).mem_iff.1 (List.getElem_mem _)
 rw [cell_at (by omega)]
 obtain⟨i,hi,he⟩:=List.mem_map.1 hm
 rw [← he]
 have:=List.mem_range.1 hi
 show 0≤(i:Int)∧(i:Int) < n
 omega
def ownR (m:Int) (D:Rows):Nat→Rows
 | 0=>[]
 | k+1=>if cell D k 1=m then ownR m D k++[row4 D k]else ownR m D k
theorem ownR_len (m:Int) (D:Rows):∀k,(ownR m D k).length≤k
 | 0=>Nat.le_refl _
 | k+1=>by
  have:=ownR_len m D k
  unfold ownR
  split
  ·rw [List.length_append,List.length_singleton]; omega
  ·omega
theorem ownR_row (m:Int) (D:Rows):∀k,∀r∈ownR m D k,r.length=4
 | 0=>fun r hr=>by simp [ownR]at hr
 | k+1=>fun r hr=>by
  unfold ownR at hr
  split at hr
  ·rcases List.mem_append.1 hr with h | h
   ·exact ownR_row m D k r h
   ·rw [List.mem_singleton.1 h]; rfl
  ·exact ownR_row m D k r hr
theorem ownR_is {m:Int} {D:Rows} (h4:∀r∈D,r.length=4):∀k,k≤D.length→ownR m D k=(D.take k).filter fun r=>r.getD 1 0 == m
 | 0,_=>rfl
 | k+1,hk=>by
  have hk':k < D.length:=by omega
  have tk:D.take (k+1)=D.take k++[D[k]]:=by rw [List.take_add_one,List.getElem?_eq_getElem hk']; rfl
  have e:row4 D k=D[k]:=by
   unfold row4
   rw [cell_at hk',cell_at hk',cell_at hk',cell_at hk']
   exact four_ext (h4 _ (List.getElem_mem hk'))
  rw [tk,List.filter_append]
  unfold ownR
  rw [cell_at hk',ownR_is h4 k (by omega),e]
  by_cases hm:D[k].getD 1 0=m
  ·rw [if_pos hm]
   congr 1
   rw [List.filter_cons_of_pos (by simp only [beq_iff_eq]; exact hm)]
   rfl
  ·rw [if_neg hm,List.filter_cons_of_neg (by simp only [beq_iff_eq]; exact hm)]
   simp
theorem dl_gd {n:Nat} (hn:1≤n) {a kd:Int} (hk:1≤kd∧kd≤4):dlK n a kd=kd∧(0≤dlM n a kd∧dlM n a kd < n)∧dlO n a kd=0∧1≤dlQ n a kd∧dlQ n a kd≤3000:=by
 have k1:dlK1 a kd=kd:=by unfold dlK1; rw [if_neg (by omega)]
 have k2:dlK n a kd=kd:=by unfold dlK; rw [k1,if_neg (by omega)]
 have hm:=belowV_in (dlA1 a kd) n
 have hb:=belowV_in (dlA4 n a kd) (60-1+1)
 have hc:=belowV_in (dlA3 n a kd) (dlW n a kd-1+1)
 have hw:dlW n a kd=20∨dlW n a kd=300∨dlW n a kd=3000:=ofV_three' _ _ _ _
 have eM:dlM n a kd=belowV (dlA1 a kd) n:=by unfold dlM; rw [k2,if_neg (by omega)]; rfl
 have eO:dlO n a kd=0:=by unfold dlO; rw [k2,if_neg (by omega)]
 have eQ:dlQ n a kd=if kd=2 then 1+belowV (dlA4 n a kd) (60-1+1)else 1+belowV (dlA3 n a kd) (dlW n a kd-1+1):=by unfold dlQ; rw [k2]; rfl
 rw [eM,eO,eQ]
 generalize belowV (dlA1 a kd) n=x at *
 generalize belowV (dlA4 n a kd) (60-1+1)=y at *
 generalize dlW n a kd=w at *
 generalize belowV (dlA3 n a kd) (w-1+1)=z at *
 refine⟨k2,by omega,rfl,?_⟩
 split<;>omega
theorem ofV_four (a x y z w:Int):ofV a [[x],[y],[z],[w]]=x∨ofV a [[x],[y],[z],[w]]=y∨ofV a [[x],[y],[z],[w]]=z∨ofV a [[x],[y],[z],[w]]=w:=by
 have h:=belowV_in a 4
 have e:ofV a [[x],[y],[z],[w]]=cell [[x],[y],[z],[w]] (belowV a 4).toNat 0:=by simp [ofV]
 rw [e]
 have:(belowV a 4).toNat=0∨(belowV a 4).toNat=1∨(belowV a 4).toNat=2∨(belowV a 4).toNat=3:=by
  generalize belowV a 4=q at *
  omega
 rcases this with h0 | h0 | h0 | h0<;>rw [h0]
 ·exact .inl rfl
 ·exact .inr (.inl rfl)
 ·exact .inr (.inr (.inl rfl))
 ·exact .inr (.inr (.inr rfl))
theorem Gd.snoc {n:Nat} {D:Rows} (h:∀r∈D,Gd n r) {x y z w:Int} (hx:1≤x∧x≤4) (hy:0≤y∧y < n) (hz:z=0) (hw:1≤w∧w≤3000):∀r∈D++[[x,y,z,w]],Gd n r:=by
 intro r hr
 rcases List.mem_append.1 hr with h1 | h1
 ·exact h r h1
 ·rw [List.mem_singleton.1 h1]
  exact⟨rfl,hx,hy,hz,hw⟩
theorem coT_le (a:Int) {most:Int} (h1:1≤most) (h2:most≤12):coT a most≤100000:=by
 have hn:=coN_in (a:=a) h1
 have ho:=(coO_in a most (coN a most).toNat).2
 have hw:=(coT_in (a:=a) (most:=most)).2
 have e:coT a most=max 0 (coO a most (coN a most).toNat)+ofV (coA9 a most) [[0],[coV3 a most]]:=rfl
 generalize ofV (coA9 a most) [[0],[coV3 a most]]=w at *
 generalize coO a most (coN a most).toNat=o at *
 generalize coN a most=n at *
 generalize coT a most=t at *
 omega
theorem co_bd (a:Int) {most:Int} (h1:1≤most) (h2:most≤12):Bd (coR a most (coN a most).toNat) (coT a most) 0:=by
 have hl:=co_len a most (coN a most).toNat
 refine⟨fun i hi=>?_,by have:=coT_le a h1 h2; generalize coT a most=t at *; omega⟩
 rw [hl]at hi
 have b0:=(acB_in (itQ acQ (coA7 a most) i)).2
 have b2:=(acS_in (itQ acQ (coA7 a most) i)).2
 rw [co_c0 a most hi,co_c2 a most hi]
 generalize acB (itQ acQ (coA7 a most) i)=x at *
 generalize acS (itQ acQ (coA7 a most) i)=y at *
 omega
end Go.Proofs.Ytfebjikidfcbcaa.Sy
