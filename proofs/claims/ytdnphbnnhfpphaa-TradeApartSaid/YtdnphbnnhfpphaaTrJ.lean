import Derived.Test.YtdnphbnnhfpphaaTrI
import Derived.Test.YtdnphbnnhfpphaaTrL
namespace Go.Proofs.Ytdnphbnnhfpphaa.Sy
open Go Go.Rv
theorem dn_put {M L:Rows} {g q:Int} {c k:Nat} (hc:c < 2) (hg:cell L k 1=g):dn (M++[rw4 L k]) g q c (M.length+1)=dn M g q c M.length+(if cell L k 0=q then cell L k (2+c)else 0):=by
 have e0:cell (M++[rw4 L k]) M.length 0=cell L k 0:=by rw [cell_eq]; rfl
 have e1:cell (M++[rw4 L k]) M.length 1=g:=by rw [cell_eq]; exact hg
 have e2:cell (M++[rw4 L k]) M.length (2+c)=cell L k (2+c):=by
  rw [cell_eq]
  have:c=0∨c=1:=by omega
  rcases this with rfl | rfl<;>rfl
 show dn (M++[rw4 L k]) g q c M.length+(if cell (M++[rw4 L k]) M.length 1=g∧cell (M++[rw4 L k]) M.length 0=q then cell (M++[rw4 L k]) M.length (2+c)else 0)=_
 rw [dn_app (Nat.le_refl _),e0,e1,e2]
 congr 1
 simp
theorem dn_step {L:Rows} {g q:Int} {c k:Nat} (hg:cell L k 1=g):dn L g q c (k+1)=dn L g q c k+(if cell L k 0=q then cell L k (2+c)else 0):=by
 show dn L g q c k+(if cell L k 1=g∧cell L k 0=q then cell L k (2+c)else 0)=_
 congr 1
 simp [hg]
theorem cl_app {M:Rows} {r:List Int} {j:Nat} (h:j < M.length):clAt (M++[r]) j↔clAt M j:=by
 unfold clAt
 rw [cell_lt h,lf_app (by omega),lf_app (by omega)]
theorem lp_app {n:Nat} {M L:Rows} {k:Nat} (h:LpOk n M) (hl:M.length < 200) (A:LgAt n L k) (sh:¬ cell L k 0=1→cell L k 2≤lf M (cell L k 1) 0 M.length∧cell L k 3≤lf M (cell L k 1) 1 M.length):LpOk n (M++[rw4 L k]):=by
 have e0:cell (M++[rw4 L k]) M.length 0=cell L k 0:=by rw [cell_eq]; rfl
 have e1:cell (M++[rw4 L k]) M.length 1=cell L k 1:=by rw [cell_eq]; rfl
 have e2:cell (M++[rw4 L k]) M.length 2=cell L k 2:=by rw [cell_eq]; rfl
 have e3:cell (M++[rw4 L k]) M.length 3=cell L k 3:=by rw [cell_eq]; rfl
 refine⟨by simp; omega,fun j hj=>?_⟩
 by_cases hj2:j < M.length
 ·have B:=h.a j hj2
  have q:=fun c=>cell_lt (r:=rw4 L k) hj2 c
  refine⟨by rw [q]; exact B.kd,by rw [q]; exact B.gr,by rw [q]; exact B.ct,by rw [q]; exact B.gm,by rw [q,q]; exact B.fm,?_⟩
  rw [q,q,q,q,lf_app (by omega),lf_app (by omega)]
  exact fun h1 h2=>B.sh h1 fun i hi=>(cl_app (by omega)).1 (h2 i hi)
 ·have ej:j=M.length:=by simp at hj; omega
  subst ej
  refine⟨by rw [e0]; exact A.kd,by rw [e1]; exact A.gr,by rw [e2]; exact A.ct,by rw [e3]; exact A.gm,by rw [e0,e2]; exact A.fm,?_⟩
  rw [e0,e1,e2,e3,lf_app (Nat.le_refl _),lf_app (Nat.le_refl _)]
  exact fun h1 _=>sh h1
theorem lf_of {M L:Rows} {g:Int} {m k:Nat} (h:∀q c,c < 2→dn M g q c m=dn L g q c k) (c:Nat) (hc:c < 2):lf M g c m=lf L g c k:=by
 unfold lf
 simp only [h _ c hc]
structure OwnOk (n:Nat) (L M:Rows) (g:Int) (k:Nat):Prop where
 ok:LpOk n M
 cl:∀j,j < M.length→clAt M j
 d:∀q c,c < 2→dn M g q c M.length=dn L g q c k
 l:M.length≤k
 w:∀r∈M,r.length=4
theorem w_app {M L:Rows} {k:Nat} (h:∀r∈M,r.length=4):∀r∈M++[rw4 L k],r.length=4:=fun r hr=>by
 rw [List.mem_append]at hr
 rcases hr with hr | hr
 ·exact h r hr
 ·simp only [List.mem_cons,List.not_mem_nil,or_false]at hr
  subst hr
  rfl
theorem own_ok {n:Nat} {L:Rows} (h:LgOk n L) (g:Int):∀ {k:Nat},k≤L.length→OwnOk n L (fO L g k) g k
 | 0,_=>⟨⟨by simp [fO],fun k h=>by simp [fO]at h⟩,fun j h=>by simp [fO]at h,fun q c _=>rfl,by simp [fO],fun r hr=>by simp [fO]at hr⟩
 | k+1,hk=>by
  have ih:=own_ok h g (k:=k) (by omega)
  have A:=h.a k (by omega)
  have hl:=h.l
  have il:=ih.l
  by_cases e:cell L k 1=g
  ·have e3:fO L g (k+1)=fO L g k++[rw4 L k]:=by simp only [fO,if_pos e]
   rw [e3]
   have hd:∀q c,c < 2→dn (fO L g k++[rw4 L k]) g q c ((fO L g k).length+1)=dn L g q c (k+1):=fun q c hc=>by
    rw [dn_put hc e,dn_step e,ih.d q c hc]
   refine⟨lp_app ih.ok (by omega) A fun h1=>?_,fun j hj=>?_,fun q c hc=>?_,by simp; omega,w_app ih.w⟩
   ·rw [e,lf_of ih.d 0 (by omega),lf_of ih.d 1 (by omega),← e]
    exact A.sh h1
   ·by_cases hj2:j < (fO L g k).length
    ·exact(cl_app hj2).2 (ih.cl j hj2)
    ·have ej:j=(fO L g k).length:=by simp at hj; omega
     subst ej
     have e1:cell (fO L g k++[rw4 L k]) (fO L g k).length 1=g:=by rw [cell_eq]; exact e
     unfold clAt
     rw [e1,lf_of hd 0 (by omega),lf_of hd 1 (by omega),← e]
     exact A.cl
   ·rw [List.length_append]
    exact hd q c hc
  ·have e3:fO L g (k+1)=fO L g k:=by simp only [fO,if_neg e]
   rw [e3]
   exact⟨ih.ok,ih.cl,fun q c hc=>by rw [ih.d q c hc,dn_miss fun h=>e h.1],by omega,ih.w⟩
structure FbOk (n:Nat) (L M:Rows) (g:Int) (k:Nat):Prop where
 ok:LpOk n M
 d:∀q c,c < 2→dn M g q c M.length=if q=1 then dn L g q c k else 0
 l:M.length≤k
 w:∀r∈M,r.length=4
theorem fb_ok {n:Nat} {L:Rows} (h:LgOk n L) (g:Int):∀ {k:Nat},k≤L.length→FbOk n L (fB L g k) g k
 | 0,_=>⟨⟨by simp [fB],fun k h=>by simp [fB]at h⟩,fun q c _=>by simp [fB,dn],by simp [fB],fun r hr=>by simp [fB]at hr⟩
 | k+1,hk=>by
  have ih:=fb_ok h g (k:=k) (by omega)
  have A:=h.a k (by omega)
  have hl:=h.l
  have il:=ih.l
  by_cases e:cell L k 1=g∧cell L k 0=1
  ·have e3:fB L g (k+1)=fB L g k++[rw4 L k]:=by simp only [fB,if_pos e]
   rw [e3]
   refine⟨lp_app ih.ok (by omega) A fun h1=>absurd e.2 h1,fun q c hc=>?_,by simp; omega,w_app ih.w⟩
   rw [List.length_append]
   show dn _ g q c ((fB L g k).length+1)=_
   rw [dn_put hc e.1,ih.d q c hc,dn_step e.1,e.2]
   by_cases hq:q=1
   ·subst hq; simp
   ·simp [hq,show ¬ (1:Int)=q by omega]
  ·have e3:fB L g (k+1)=fB L g k:=by simp only [fB,if_neg e]
   rw [e3]
   refine⟨ih.ok,fun q c hc=>?_,by omega,ih.w⟩
   rw [ih.d q c hc]
   by_cases hq:q=1
   ·subst hq; simp only [if_true]; rw [dn_miss e]
   ·simp [hq]
structure FtOk (n:Nat) (L M:Rows) (g:Int) (k:Nat):Prop where
 ok:LpOk n M
 d:∀q c,c < 2→dn M g q c M.length=if q=1 then dn L g q c L.length else dn L g q c k
 l:M.length≤L.length+k
 w:∀r∈M,r.length=4
theorem ft_ok {n:Nat} {L:Rows} (h:LgOk n L) (h20:L.length≤20) (g:Int):∀ {k:Nat},k≤L.length→FtOk n L (fB L g L.length++fR L g k) g k
 | 0,_=>by
  have b:=fb_ok h g (Nat.le_refl L.length)
  have e:fB L g L.length++fR L g 0=fB L g L.length:=by simp [fR]
  rw [e]
  exact⟨b.ok,fun q c hc=>by rw [b.d q c hc]; simp [dn],b.l,b.w⟩
 | k+1,hk=>by
  have ih:=ft_ok h h20 g (k:=k) (by omega)
  have A:=h.a k (by omega)
  have il:=ih.l
  by_cases e:cell L k 1=g∧¬ cell L k 0=1
  ·have e3:fB L g L.length++fR L g (k+1)=(fB L g L.length++fR L g k)++[rw4 L k]:=by simp only [fR,if_pos e,List.append_assoc]
   rw [e3]
   have up:∀c,c < 2→lf L g c k≤lf (fB L g L.length++fR L g k) g c (fB L g L.length++fR L g k).length:=fun c hc=>by
    unfold lf
    rw [ih.d 1 c hc,ih.d 2 c hc,ih.d 3 c hc,ih.d 4 c hc,ih.d 5 c hc]
    have:=dn_up2 h (i:=g) (q:=1) hc (k:=k) (m:=L.length) (by omega) (Nat.le_refl _)
    simp only [if_true,show ¬ (2:Int)=1 by omega,show ¬ (3:Int)=1 by omega,show ¬ (4:Int)=1 by omega,show ¬ (5:Int)=1 by omega,if_false]
    omega
   have u0:=up 0 (by omega)
   have u1:=up 1 (by omega)
   generalize hM:fB L g L.length++fR L g k=M at *
   refine⟨lp_app ih.ok (by omega) A fun h1=>?_,fun q c hc=>?_,by simp; omega,w_app ih.w⟩
   ·have s:=A.sh h1
    rw [e.1]at s ⊢
    omega
   ·rw [List.length_append]
    show dn _ g q c (M.length+1)=_
    rw [dn_put hc e.1,ih.d q c hc,dn_step e.1]
    by_cases hq:q=1
    ·subst hq; simp [e.2]
    ·simp [hq]
  ·have e3:fB L g L.length++fR L g (k+1)=fB L g L.length++fR L g k:=by simp only [fR,if_neg e]
   rw [e3]
   refine⟨ih.ok,fun q c hc=>?_,by omega,ih.w⟩
   rw [ih.d q c hc]
   by_cases hq:q=1
   ·subst hq; simp
   ·simp only [if_neg hq]
    by_cases h1:cell L k 1=g
    ·have h0:cell L k 0=1:=Classical.not_not.1 fun h0=>e ⟨h1,h0⟩
     rw [dn_miss fun h=>hq (h.2.symm.trans h0)]
    ·rw [dn_miss fun h=>h1 h.1]
theorem bk_same {M L:Rows} {g:Nat} {k:Nat} (h:∀q c,c < 2→dn M (g:Nat) q c M.length=dn L (g:Nat) q c k):bkF M M.length g=bkF L k g:=by
 unfold bkF
 rw [h 1 0 (by omega),h 1 1 (by omega),h 2 0 (by omega),h 2 1 (by omega),h 3 0 (by omega),h 3 1 (by omega),h 4 0 (by omega),h 4 1 (by omega),h 5 1 (by omega),lf_of h 0 (by omega),lf_of h 1 (by omega)]
theorem lp_of {n:Nat} {L:Rows} (h:LgOk n L):LpOk n L:=⟨h.l,fun k hk=>by
 have A:=h.a k hk
 exact⟨A.kd,A.gr,A.ct,A.gm,A.fm,fun h1 _=>A.sh h1⟩⟩
theorem cat_at {A B:Rows} (i:Nat) (_hi:i < A.length+B.length):(behind A.length (.fn (Rv.elemOf [.i64,.i64,.i64,.i64] A)) B.length (.fn (Rv.elemOf [.i64,.i64,.i64,.i64] B))).at i=Rv.elemOf [.i64,.i64,.i64,.i64] (A++B) i:=by
 have h:(El.cat (.fn (Rv.elemOf [.i64,.i64,.i64,.i64] A)) A.length (.fn (Rv.elemOf [.i64,.i64,.i64,.i64] B))).at i=Rv.elemOf [.i64,.i64,.i64,.i64] (A++B) i:=by
  simp only [El.at]
  by_cases h:i < A.length
  ·rw [if_pos h,elemOf_eq,elemOf_eq,List.getD_eq_getElem?_getD,List.getD_eq_getElem?_getD,List.getElem?_append_left h]
  ·rw [if_neg h,elemOf_eq,elemOf_eq,List.getD_eq_getElem?_getD,List.getD_eq_getElem?_getD,List.getElem?_append_right (by omega)]
 exact h
end Go.Proofs.Ytdnphbnnhfpphaa.Sy
