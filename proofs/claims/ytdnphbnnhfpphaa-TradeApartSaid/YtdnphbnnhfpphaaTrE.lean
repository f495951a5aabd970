import Derived.Test.YtdnphbnnhfpphaaSyP2
import Derived.Test.YtdnphbnnhfpphaaGrM
import Derived.Test.YtdnphbnnhfpphaaKtT
import Derived.Test.YtdnphbnnhfpphaaTrA
import Derived.Test.YtdnphbnnhfpphaaTrN
import Derived.Test.YtdnphbnnhfpphaaTrB
import Derived.Test.YtdnphbnnhfpphaaTrC
import Derived.Test.YtdnphbnnhfpphaaSyP2
import Derived.KernelRfl
import Derived.Test.YtdnphbnnhfpphaaProg
namespace Go.Proofs.Ytdnphbnnhfpphaa.Sy
open Go Go.Rv
set_option linter.unusedVariables false
def lgB1 (b:Int):Int:=belowA b (5-1+1)
def lgK0 (b:Int):Int:=1+belowV b (5-1+1)
def lgKd (b:Int):Int:=ofV (lgB1 b) [[1],[lgK0 b]]
def lgB2 (b:Int):Int:=ofA (lgB1 b) [[1],[lgK0 b]]
def lgGr (n b:Int):Int:=belowV (lgB2 b) n
def lgB3 (n b:Int):Int:=belowA (lgB2 b) n
def lgL0 (n b:Int) (L:Rows):Int:=lf L (lgGr n b) 0 L.length
def lgL1 (n b:Int) (L:Rows):Int:=lf L (lgGr n b) 1 L.length
def lgC1 (n b:Int):Int:=1+belowV (lgB3 n b) (9-1+1)
def lgB4 (n b:Int):Int:=belowA (lgB3 n b) (9-1+1)
def lgM1 (n b:Int):Int:=1+belowV (lgB4 n b) (600-1+1)
def lgB5 (n b:Int):Int:=belowA (lgB4 n b) (600-1+1)
def lgU (n b:Int) (L:Rows):Int:=min 50 (lgL1 n b L-lgL0 n b L)+1
def lgCt (n b:Int) (L:Rows):Int:=1+belowV (lgB3 n b) (lgL0 n b L-1+1)
def lgD4 (n b:Int) (L:Rows):Int:=belowA (lgB3 n b) (lgL0 n b L-1+1)
def lgW (n b:Int) (L:Rows):Int:=lgL1 n b L-(lgL0 n b L-lgCt n b L)-0+1
def lgRow (n b:Int) (L:Rows):Rows:=
 if lgKd b=1 then [[1,lgGr n b,lgC1 n b,lgC1 n b*lgM1 n b]]
 else if lgKd b=5 then [[5,lgGr n b,0,belowV (lgB3 n b) (lgU n b L)]]
 else if lgL0 n b L=0 then []
 else if lgCt n b L < lgL0 n b L then [[lgKd b,lgGr n b,lgCt n b L,0+belowV (lgD4 n b L) (lgW n b L)]]
 else [[lgKd b,lgGr n b,lgCt n b L,lgL1 n b L]]
def lgNx (n b:Int) (L:Rows):Int:=
 if lgKd b=1 then lgB5 n b
 else if lgKd b=5 then belowA (lgB3 n b) (lgU n b L)
 else if lgL0 n b L=0 then lgD4 n b L
 else if lgCt n b L < lgL0 n b L then belowA (lgD4 n b L) (lgW n b L)
 else lgD4 n b L
mutual
def lgQ (n a:Int):Nat→Int
 | 0=>a
 | k+1=>lgNx n (lgQ n a k) (lgL n a k)
def lgL (n a:Int):Nat→Rows
 | 0=>[]
 | k+1=>lgL n a k++lgRow n (lgQ n a k) (lgL n a k)
end
def l2F (L:Rows) (i:Nat):List SV:=[.i .i64 (lf L i 0 L.length),.i .i64 (lf L i 1 L.length)]
theorem l2_plain (L:Rows) (n:Nat):PlainE n (.fn (l2F L)):=fun i _ y hy=>by
 simp only [El.at,l2F,List.mem_cons,List.not_mem_nil,or_false]at hy
 rcases hy with rfl | rfl<;>trivial
theorem l2_plainR (L:Rows) (n g:Nat) (x y:Int):PlainE n ((El.fn (l2F L)).row g [.i .i64 x,.i .i64 y]):=fun i hi z hz=>by
 simp only [El.at]at hz
 split at hz
 ·simp only [List.mem_cons,List.not_mem_nil,or_false]at hz
  rcases hz with rfl | rfl<;>trivial
 ·exact l2_plain L n i hi z hz
theorem snoc4 {R:Rows} {x y z w:Int}:∀i,i < R.length+1→(behind R.length (.fn (Rv.elemOf [.i64,.i64,.i64,.i64] R)) 1 (litEl [SV.i .i64 x,SV.i .i64 y,SV.i .i64 z,SV.i .i64 w] 4 1)).at i=(El.fn (Rv.elemOf [.i64,.i64,.i64,.i64] (R++[[x,y,z,w]]))).at i:=fun i hi =>
 snoc_at (R:=R) (ks:=[.i64,.i64,.i64,.i64]) (r:=[x,y,z,w]) (cs:=[SV.i .i64 x,SV.i .i64 y,SV.i .i64 z,SV.i .i64 w]) rfl (i:=i) (by omega)
theorem cell_lt {L:Rows} {r:List Int} {j:Nat} (h:j < L.length) (c:Nat):cell (L++[r]) j c=cell L j c:=by
 unfold cell
 rw [show(L++[r]).getD j []=L.getD j []by rw [List.getD_eq_getElem?_getD,List.getD_eq_getElem?_getD,List.getElem?_append_left h]]
theorem cell_eq {L:Rows} {r:List Int} (c:Nat):cell (L++[r]) L.length c=r.getD c 0:=by
 unfold cell
 rw [show(L++[r]).getD L.length []=r by rw [List.getD_eq_getElem?_getD]; simp]
theorem dn_app {L:Rows} {r:List Int} {i q:Int} {c:Nat}:∀ {k:Nat},k≤L.length→dn (L++[r]) i q c k=dn L i q c k
 | 0,_=>rfl
 | k+1,h=>by
  have ih:=dn_app (L:=L) (r:=r) (i:=i) (q:=q) (c:=c) (k:=k) (by omega)
  have hk:k < L.length:=by omega
  simp only [dn,ih,cell_lt (r:=r) hk]
theorem lf_app {L:Rows} {r:List Int} {i:Int} {c k:Nat} (h:k≤L.length):lf (L++[r]) i c k=lf L i c k:=by
 unfold lf
 simp only [dn_app h]
theorem lf_inv {n:Nat} {L:Rows} (i:Int):∀ {k:Nat},(∀j,j < k→LgAt n L j)→0≤lf L i 0 k∧lf L i 0 k≤lf L i 1 k∧(0 < lf L i 0 k∨lf L i 1 k=0)
 | 0,_=>by simp [lf,dn]
 | k+1,h=>by
  have ih:=lf_inv i (k:=k) fun j hj=>h j (by omega)
  have A:=h k (by omega)
  by_cases e:cell L k 1=i
  ·have cl:=A.cl
   have sh:=A.sh
   have ct:=A.ct
   have kd:=A.kd
   rw [e]at cl sh
   refine⟨?_,cl⟩
   by_cases e1:cell L k 0=1
   ·rw [lf_in e e1]
    have:0≤cell L k (2+0):=ct.1
    omega
   ·rw [lf_out e (by omega)]
    have:=(sh e1).1
    have h2:cell L k (2+0)=cell L k 2:=rfl
    omega
  ·rw [lf_miss e,lf_miss e]
   exact ih
structure LgInv (n:Nat) (L:Rows) (k:Nat):Prop where
 ok:LgOk n L
 l:L.length≤k
 b:∀i,lf L i 0 L.length≤9*L.length∧lf L i 1 L.length≤5400*L.length
 w:∀r∈L,r.length=4
theorem LgInv.lf {n:Nat} {L:Rows} {k:Nat} (h:LgInv n L k) (i:Int):0≤lf L i 0 L.length∧lf L i 0 L.length≤lf L i 1 L.length∧(0 < lf L i 0 L.length∨lf L i 1 L.length=0):=lf_inv i h.ok.a
structure EvtOk (n:Nat) (L:Rows) (kd gr ct gm:Int):Prop where
 fkd:1≤kd∧kd≤5
 fgr:0≤gr∧gr < n
 fct:0≤ct∧ct≤1000000
 fgm:0≤gm∧gm≤1000000
 fm:kd=5↔ct=0
 s1:kd=1→ct≤9∧gm≤5400∧lf L gr 0 L.length+ct≤lf L gr 1 L.length+gm∧(0 < lf L gr 0 L.length+ct∨lf L gr 1 L.length+gm=0)
 s2:¬ kd=1→(ct≤lf L gr 0 L.length∧gm≤lf L gr 1 L.length)∧lf L gr 0 L.length+(0-ct)≤lf L gr 1 L.length+(0-gm)∧(0 < lf L gr 0 L.length+(0-ct)∨lf L gr 1 L.length+(0-gm)=0)
theorem lf_one {L:Rows} {kd gr ct gm:Int} (h:kd=1):lf (L++[[kd,gr,ct,gm]]) gr 0 (L.length+1)=lf L gr 0 L.length+ct∧lf (L++[[kd,gr,ct,gm]]) gr 1 (L.length+1)=lf L gr 1 L.length+gm:=by
 have h0:cell (L++[[kd,gr,ct,gm]]) L.length 0=1:=by rw [cell_eq]; exact h
 have h1:cell (L++[[kd,gr,ct,gm]]) L.length 1=gr:=by rw [cell_eq]; rfl
 rw [lf_in h1 h0,lf_in h1 h0,lf_app (Nat.le_refl _),lf_app (Nat.le_refl _),cell_eq,cell_eq]
 exact⟨rfl,rfl⟩
theorem lf_two {L:Rows} {kd gr ct gm:Int} (h:2≤kd∧kd≤5):lf (L++[[kd,gr,ct,gm]]) gr 0 (L.length+1)=lf L gr 0 L.length+(0-ct)∧lf (L++[[kd,gr,ct,gm]]) gr 1 (L.length+1)=lf L gr 1 L.length+(0-gm):=by
 have h0:2≤cell (L++[[kd,gr,ct,gm]]) L.length 0∧cell (L++[[kd,gr,ct,gm]]) L.length 0≤5:=by rw [cell_eq]; exact h
 have h1:cell (L++[[kd,gr,ct,gm]]) L.length 1=gr:=by rw [cell_eq]; rfl
 rw [lf_out h1 h0,lf_out h1 h0,lf_app (Nat.le_refl _),lf_app (Nat.le_refl _),cell_eq,cell_eq]
 exact⟨rfl,rfl⟩
theorem lf_oth {L:Rows} {kd gr ct gm i:Int} {c:Nat} (h:¬ gr=i):lf (L++[[kd,gr,ct,gm]]) i c (L.length+1)=lf L i c L.length:=by
 have h1:¬ cell (L++[[kd,gr,ct,gm]]) L.length 1=i:=by rw [cell_eq]; exact h
 rw [lf_miss h1,lf_app (Nat.le_refl _)]
theorem lg_snoc {n:Nat} {L:Rows} {k:Nat} {kd gr ct gm:Int} (h:LgInv n L k) (hk:k < 200) (e:EvtOk n L kd gr ct gm):LgInv n (L++[[kd,gr,ct,gm]]) (k+1):=by
 have hl:=h.l
 have c0:cell (L++[[kd,gr,ct,gm]]) L.length 0=kd:=by rw [cell_eq]; rfl
 have c1:cell (L++[[kd,gr,ct,gm]]) L.length 1=gr:=by rw [cell_eq]; rfl
 have c2:cell (L++[[kd,gr,ct,gm]]) L.length 2=ct:=by rw [cell_eq]; rfl
 have c3:cell (L++[[kd,gr,ct,gm]]) L.length 3=gm:=by rw [cell_eq]; rfl
 have k1:=e.fkd
 refine⟨⟨by simp; omega,fun j hj=>?_⟩,by simp; omega,fun i=>?_,fun r hr=>?_⟩
 ·by_cases hj2:j < L.length
  ·have A:=h.ok.a j hj2
   have q:=fun c=>cell_lt (r:=[kd,gr,ct,gm]) hj2 c
   exact⟨by rw [q]; exact A.kd,by rw [q]; exact A.gr,by rw [q]; exact A.ct,by rw [q]; exact A.gm,by rw [q,q]; exact A.fm,by rw [q,q,q,q,lf_app (by omega),lf_app (by omega)]; exact A.sh,by rw [q,lf_app (by omega),lf_app (by omega)]; exact A.cl⟩
  ·have ej:j=L.length:=by simp at hj; omega
   subst ej
   refine⟨by rw [c0]; exact e.fkd,by rw [c1]; exact e.fgr,by rw [c2]; exact e.fct,by rw [c3]; exact e.fgm,by rw [c0,c2]; exact e.fm,?_,?_⟩
   ·rw [c0,c1,c2,c3,lf_app (Nat.le_refl _),lf_app (Nat.le_refl _)]
    exact fun h=>(e.s2 h).1
   ·rw [c1]
    by_cases h1:kd=1
    ·obtain⟨l0,l1⟩:=lf_one (L:=L) (gr:=gr) (ct:=ct) (gm:=gm) h1
     rw [l0,l1]
     exact(e.s1 h1).2.2
    ·obtain⟨l0,l1⟩:=lf_two (L:=L) (gr:=gr) (ct:=ct) (gm:=gm) (kd:=kd) (by omega)
     rw [l0,l1]
     exact(e.s2 h1).2
 ·rw [List.length_append]
  show lf _ i 0 (L.length+1)≤9*((L.length+1:Nat):Int)∧lf _ i 1 (L.length+1)≤5400*((L.length+1:Nat):Int)
  have hb:=h.b i
  by_cases hi:gr=i
  ·subst hi
   have h5:=e.fct
   have h6:=e.fgm
   by_cases h1:kd=1
   ·obtain⟨l0,l1⟩:=lf_one (L:=L) (gr:=gr) (ct:=ct) (gm:=gm) h1
    have:=e.s1 h1
    rw [l0,l1]
    omega
   ·obtain⟨l0,l1⟩:=lf_two (L:=L) (gr:=gr) (ct:=ct) (gm:=gm) (kd:=kd) (by omega)
    rw [l0,l1]
    omega
  ·rw [lf_oth hi,lf_oth hi]
   omega
 ·rw [List.mem_append]at hr
  rcases hr with hr | hr
  ·exact h.w r hr
  ·simp only [List.mem_cons,List.not_mem_nil,or_false]at hr
   subst hr
   rfl
theorem l2_in {L:Rows} {g:Nat} {ct gm:Int} (i:Nat):((El.fn (l2F L)).row g [.i .i64 (lf L (g:Nat) 0 L.length+ct),.i .i64 (lf L (g:Nat) 1 L.length+gm)]).at i=(El.fn (l2F (L++[[1,(g:Int),ct,gm]]))).at i:=by
 simp only [El.at,l2F,List.length_append,List.length_cons,List.length_nil,Nat.zero_add]
 by_cases e:i=g
 ·subst e
  obtain⟨l0,l1⟩:=lf_one (L:=L) (gr:=(i:Int)) (ct:=ct) (gm:=gm) rfl
  rw [if_pos rfl,l0,l1]
 ·rw [if_neg e,lf_oth (by omega),lf_oth (by omega)]
theorem l2_out {L:Rows} {g:Nat} {kd ct gm:Int} (h:2≤kd∧kd≤5) (i:Nat):((El.fn (l2F L)).row g [.i .i64 (lf L (g:Nat) 0 L.length-ct),.i .i64 (lf L (g:Nat) 1 L.length-gm)]).at i=(El.fn (l2F (L++[[kd,(g:Int),ct,gm]]))).at i:=by
 simp only [El.at,l2F,List.length_append,List.length_cons,List.length_nil,Nat.zero_add]
 by_cases e:i=g
 ·subst e
  obtain⟨l0,l1⟩:=lf_two (L:=L) (gr:=(i:Int)) (ct:=ct) (gm:=gm) h
  rw [if_pos rfl,l0,l1,show lf L (i:Int) 0 L.length-ct=lf L (i:Int) 0 L.length+(0-ct)by omega,show lf L (i:Int) 1 L.length-gm=lf L (i:Int) 1 L.length+(0-gm)by omega]
 ·rw [if_neg e,lf_oth (by omega),lf_oth (by omega)]
theorem l2_drip {L:Rows} {g:Nat} {gm:Int} (i:Nat):((El.fn (l2F L)).row g [.i .i64 (lf L (g:Nat) 0 L.length),.i .i64 (lf L (g:Nat) 1 L.length-gm)]).at i=(El.fn (l2F (L++[[5,(g:Int),0,gm]]))).at i:=by
 have:=l2_out (L:=L) (g:=g) (kd:=5) (ct:=0) (gm:=gm) (by omega) i
 rwa [Int.sub_zero]at this
theorem l2_same {L:Rows} {g:Nat} (i:Nat):((El.fn (l2F L)).row g [.i .i64 (lf L (g:Nat) 0 L.length),.i .i64 (lf L (g:Nat) 1 L.length)]).at i=(El.fn (l2F L)).at i:=by
 simp only [El.at,l2F]
 by_cases e:i=g
 ·subst e; rw [if_pos rfl]
 ·rw [if_neg e]
theorem row_1 {n b:Int} {L:Rows} (h:lgKd b=1):lgRow n b L=[[1,lgGr n b,lgC1 n b,lgC1 n b*lgM1 n b]]∧lgNx n b L=lgB5 n b:=by
 unfold lgRow lgNx
 simp only [if_pos h,and_self]
theorem row_5 {n b:Int} {L:Rows} (h:lgKd b=5):lgRow n b L=[[5,lgGr n b,0,belowV (lgB3 n b) (lgU n b L)]]∧lgNx n b L=belowA (lgB3 n b) (lgU n b L):=by
 unfold lgRow lgNx
 simp only [if_neg (show ¬ lgKd b=1 by omega),if_pos h,and_self]
theorem row_0 {n b:Int} {L:Rows} (h1:¬ lgKd b=1) (h5:¬ lgKd b=5) (h0:lgL0 n b L=0):lgRow n b L=[]∧lgNx n b L=lgD4 n b L:=by
 unfold lgRow lgNx
 simp only [if_neg h1,if_neg h5,if_pos h0,and_self]
theorem row_s {n b:Int} {L:Rows} (h1:¬ lgKd b=1) (h5:¬ lgKd b=5) (h0:¬ lgL0 n b L=0) (h:lgCt n b L < lgL0 n b L):lgRow n b L=[[lgKd b,lgGr n b,lgCt n b L,0+belowV (lgD4 n b L) (lgW n b L)]]∧lgNx n b L=belowA (lgD4 n b L) (lgW n b L):=by
 unfold lgRow lgNx
 simp only [if_neg h1,if_neg h5,if_neg h0,if_pos h,and_self]
theorem row_a {n b:Int} {L:Rows} (h1:¬ lgKd b=1) (h5:¬ lgKd b=5) (h0:¬ lgL0 n b L=0) (h:¬ lgCt n b L < lgL0 n b L):lgRow n b L=[[lgKd b,lgGr n b,lgCt n b L,lgL1 n b L]]∧lgNx n b L=lgD4 n b L:=by
 unfold lgRow lgNx
 simp only [if_neg h1,if_neg h5,if_neg h0,if_neg h,and_self]
theorem lgKd_in (b:Int):1≤lgKd b∧lgKd b≤5:=by
 have h:=belowV_in (lgB1 b) 2
 have h2:=belowV_in b (5-1+1)
 have e:lgKd b=cell [[1],[lgK0 b]] (belowV (lgB1 b) 2).toNat 0:=by simp [lgKd,ofV]
 rw [e]
 have h3:1≤lgK0 b∧lgK0 b≤5:=by
  unfold lgK0
  generalize belowV b (5-1+1)=q at *
  omega
 have:(belowV (lgB1 b) 2).toNat=0∨(belowV (lgB1 b) 2).toNat=1:=by
  generalize belowV (lgB1 b) 2=q at *
  omega
 rcases this with h0 | h0<;>rw [h0]
 ·exact⟨Int.le_refl _,by show(1:Int)≤5; omega⟩
 ·exact h3
theorem ev_1 {n:Nat} {L:Rows} {k:Nat} {gr ct m:Int} (h:LgInv n L k) (hg:0≤gr∧gr < n) (hc:1≤ct∧ct≤9) (hm:1≤m∧m≤600):EvtOk n L 1 gr ct (ct*m):=by
 have h1:ct*1≤ct*m:=Int.mul_le_mul_of_nonneg_left hm.1 (by omega)
 have h2:ct*m≤ct*600:=Int.mul_le_mul_of_nonneg_left hm.2 (by omega)
 have h3:=h.lf gr
 generalize ct*m=x at *
 exact⟨by omega,hg,by omega,by omega,by omega,fun _=>by omega,fun h=>absurd rfl h⟩
theorem ev_5 {n:Nat} {L:Rows} {k:Nat} {gr gm:Int} (h:LgInv n L k) (hg:0≤gr∧gr < n) (hm:0≤gm∧gm≤50∧gm≤lf L gr 1 L.length-lf L gr 0 L.length):EvtOk n L 5 gr 0 gm:=by
 have h3:=h.lf gr
 exact⟨by omega,hg,by omega,by omega,by omega,fun h=>absurd h (by omega),fun _=>by omega⟩
theorem ev_o {n:Nat} {L:Rows} {k:Nat} {kd gr ct gm:Int} (h:LgInv n L k) (hk:k≤100) (kd2:2≤kd∧kd≤4) (hg:0≤gr∧gr < n) (hc:1≤ct∧ct≤lf L gr 0 L.length) (hm:0≤gm∧gm≤lf L gr 1 L.length) (hs:(ct < lf L gr 0 L.length∧gm≤lf L gr 1 L.length-(lf L gr 0 L.length-ct))∨(ct=lf L gr 0 L.length∧gm=lf L gr 1 L.length)):EvtOk n L kd gr ct gm:=by
 have h3:=h.lf gr
 have h4:=h.b gr
 have h5:=h.l
 exact⟨by omega,hg,by omega,by omega,by omega,fun h=>absurd h (by omega),fun _=>by omega⟩
theorem lg_step {n:Nat} {L:Rows} {k:Nat} (hn:1≤n) (h:LgInv n L k) (hk:k < 100) (b:Int):LgInv n (L++lgRow n b L) (k+1):=by
 have hg:0≤lgGr n b∧lgGr n b < n:=by
  have:=belowV_in (lgB2 b) n
  unfold lgGr
  generalize belowV (lgB2 b) n=q at *
  omega
 have hkd:=lgKd_in b
 have h3:=h.lf (lgGr n b)
 by_cases h1:lgKd b=1
 ·rw [(row_1 (n:=n) (L:=L) h1).1]
  refine lg_snoc h (by omega) (ev_1 h hg ?_ ?_)
  ·have:=belowV_in (lgB3 n b) (9-1+1)
   unfold lgC1
   generalize belowV (lgB3 n b) (9-1+1)=q at *
   omega
  ·have:=belowV_in (lgB4 n b) (600-1+1)
   unfold lgM1
   generalize belowV (lgB4 n b) (600-1+1)=q at *
   omega
 ·by_cases h5:lgKd b=5
  ·rw [(row_5 (n:=n) (L:=L) h5).1]
   refine lg_snoc h (by omega) (ev_5 h hg ?_)
   have:=belowV_in (lgB3 n b) (lgU n b L)
   have e:lgU n b L=min 50 (lf L (lgGr n b) 1 L.length-lf L (lgGr n b) 0 L.length)+1:=rfl
   rw [e]at this ⊢
   generalize belowV (lgB3 n b) (min 50 (lf L (lgGr n b) 1 L.length-lf L (lgGr n b) 0 L.length)+1)=q at *
   omega
  ·by_cases h0:lgL0 n b L=0
   ·rw [(row_0 (n:=n) (L:=L) h1 h5 h0).1,List.append_nil]
    exact⟨h.ok,by have:=h.l; omega,h.b,h.w⟩
   ·have hct:1≤lgCt n b L∧lgCt n b L≤lf L (lgGr n b) 0 L.length:=by
     have:=belowV_in (lgB3 n b) (lgL0 n b L-1+1)
     have e:lgL0 n b L=lf L (lgGr n b) 0 L.length:=rfl
     unfold lgCt
     generalize belowV (lgB3 n b) (lgL0 n b L-1+1)=q at *
     omega
    have e0:lgL0 n b L=lf L (lgGr n b) 0 L.length:=rfl
    have e1:lgL1 n b L=lf L (lgGr n b) 1 L.length:=rfl
    by_cases hs:lgCt n b L < lgL0 n b L
    ·rw [(row_s (n:=n) (L:=L) h1 h5 h0 hs).1]
     have:=belowV_in (lgD4 n b L) (lgW n b L)
     have e2:lgW n b L=lgL1 n b L-(lgL0 n b L-lgCt n b L)-0+1:=rfl
     refine lg_snoc h (by omega) (ev_o h (by omega) (by omega) hg hct ?_ (.inl ⟨by omega,?_⟩))
     ·generalize belowV (lgD4 n b L) (lgW n b L)=q at *
      omega
     ·generalize belowV (lgD4 n b L) (lgW n b L)=q at *
      omega
    ·rw [(row_a (n:=n) (L:=L) h1 h5 h0 hs).1]
     exact lg_snoc h (by omega) (ev_o h (by omega) (by omega) hg hct (by omega) (.inr ⟨by omega,e1⟩))
theorem lg_inv {n:Nat} (hn:1≤n) (a:Int):∀ {k:Nat},k≤100→LgInv n (lgL n a k) k
 | 0,_=>⟨⟨by simp [lgL],fun k h=>by simp [lgL]at h⟩,by simp [lgL],fun i=>by simp [lgL,lf,dn],fun r hr=>by simp [lgL]at hr⟩
 | k+1,h=>by
  have ih:=lg_inv hn a (k:=k) (by omega)
  rw [show lgL n a (k+1)=lgL n a k++lgRow n (lgQ n a k) (lgL n a k)by simp only [lgL]]
  exact lg_step hn ih (by omega) _
structure LgS where
 k:Nat
 L:Rows
 q:Int
noncomputable def F_LedgerOf:FnE:=⟨7,(some [.i .u64]),[.one (.i .i64),.one (.i .i64)],fun l=>match l with | [.z a,.z gn,.z most]=>(1≤gn∧gn≤100)∧0≤most∧most≤100 | _=>False,fun l=>match l with | [.z a,.z gn,.z most]=>[.gsl 0 (lgL gn (belowA a (most+1)) (belowV a (most+1)).toNat).length 4 true] | _=>[],fun l=>match l with | [.z a,.z gn,.z most]=>[.gr (lgL gn (belowA a (most+1)) (belowV a (most+1)).toNat).length 4 (.fn (Rv.elemOf [.i64,.i64,.i64,.i64] (lgL gn (belowA a (most+1)) (belowV a (most+1)).toNat))) .gr true] | _=>[],fun l=>match l with | [.z a,.z gn,.z most]=>[.i .u64 (lgQ gn (belowA a (most+1)) (belowV a (most+1)).toNat)] | _=>[],false,none,none⟩
noncomputable def A_LedgerOf:List SV→List Dat→Nat→List SV→Ann:=fun xs ds n ts=>match xs with
 | [.agg _,.i _ _,.i _ _]=>match ds with
  | [.z a,.z gn,.z most]=>match n with
   | 8=>⟨Nat,fun _=>[],fun a=>[.gr 1 a (.fn fun _=>[]) .ex true],fun _=>True,fun _=>0,1000002⟩
   | 4=>⟨LgS,fun v=>([some (SV.ptr ((0:Nat)) ((0:Nat))),some (SV.i IntKind.i64 gn),none,none,none,none,some (SV.v (Value.slice none ((0:Nat)) ((0:Nat)))),some (.gsl 2 v.L.length 4 true),some (SV.gsl ((1:Nat)) gn.toNat ((2:Nat)) false),some (.i .i64 (belowV a (most+1)-v.k))]++nN 148),fun v=>[.gr v.L.length 4 (.fn (Rv.elemOf [.i64,.i64,.i64,.i64] v.L)) .gr true,.gr gn.toNat 2 (.fn (l2F v.L)) .gr false,.cells [.i .u64 v.q] .ex],fun v=>(v.k:Int)≤belowV a (most+1)∧v.L=lgL gn (belowA a (most+1)) v.k∧v.q=lgQ gn (belowA a (most+1)) v.k,fun v=>(belowV a (most+1)-v.k).toNat,0⟩
   | _=>noAnn
  | _=>noAnn
 | _=>noAnn
def V_LedgerOf:Prop:=
 ∀(B:RW) (f c e:Int),F_LedgerOf.pre ([Dat.z f]++([Dat.z c]++([Dat.z e]++[])))→Ob (c=c∧(0:Int)≤c∧c.toNat*(17:Nat)≤1099511627776)∧Ob (InR .i64 (e+(1:Int)))∧Ob (F_Below.named.pre ([Dat.z f]++[Dat.z (e+(1:Int))]))∧∀(r:Int),r=belowA f (e+(1:Int))→∀(s:Int),s=belowV f (e+(1:Int))→(∃(a:LgS),Ob ((↑a.k:Int)≤belowV f (e+(1:Int))∧a.L=lgL c (belowA f (e+(1:Int))) a.k∧a.q=lgQ c (belowA f (e+(1:Int))) a.k)∧Ob (c=c)∧Ob (SV.v (Value.slice none 0 0)=SV.v (Value.slice none 0 0))∧Ob (a.L.length=(0:Nat))∧Ob (c.toNat=c.toNat)∧Ob (s=belowV f (e+(1:Int))-(↑a.k:Int))∧Ob (a.L.length=(0:Nat))∧EqA c.toNat c.toNat (El.fn fun(t:Nat)↦symL (List.map SV.v (Value.agg #[Value.int .i64 (0:Int),Value.int .i64 (0:Int)]).cells.toList)) (El.fn (l2F a.L))∧Ob (r=a.q)∧PlA I4 a.L∧Ob (PlainE c.toNat (El.fn (l2F a.L)))∧True)∧∀(a:LgS),(↑a.k:Int)≤belowV f (e+(1:Int))∧a.L=lgL c (belowA f (e+(1:Int))) a.k∧a.q=lgQ c (belowA f (e+(1:Int))) a.k→∀(_ _ _ _ _ _ _ _ _ _ _ _ _ _ _ _ _ _ _ _ _ _ _ _ _ _ _ _ _ _ _ _ _ _ _ _ _ _ _ _ _ _ _ _ _ _ _ _ _ _ _ _ _ _ _ _ _ _ _ _ _ _ _ _ _ _ _ _ _ _ _ _ _ _ _ _ _ _ _ _ _ _ _ _ _ _ _ _ _ _ _ _ _ _ _ _ _ _ _ _ _ _ _ _ _ _ _ _ _ _ _ _ _ _ _ _ _ _ _ _ _ _ _ _ _ _ _ _ _ _ _ _ _ _ _ _ _ _ _ _ _ _ _ _ _ _ _ _ _ _ _ _:Value),((0:Int) < belowV f (e+(1:Int))-(↑a.k:Int)→Ob (F_From.named.pre ([Dat.z a.q]++[Dat.z (1:Int),Dat.z (5:Int)]))∧∀(q:Int),q=belowA a.q ((5:Int)-(1:Int)+(1:Int))→∀(p:Int),p=(1:Int)+belowV a.q ((5:Int)-(1:Int)+(1:Int))→Ob (F_Of.named.pre ([Dat.z q]++[Dat.l [[(1:Int)],[p]]]))∧∀(o:Int),o=ofA q [[(1:Int)],[p]]→∀(m:Int),m=ofV q [[(1:Int)],[p]]→Ob (F_Below.named.pre ([Dat.z o]++[Dat.z c]))∧∀(k:Int),k=belowA o c→∀(g:Int),g=belowV o c→Ob ((0:Int)≤g∧g.toNat < c.toNat)∧∃(b:Nat),(m=(1:Int)→Ob (F_From.named.pre ([Dat.z k]++[Dat.z (1:Int),Dat.z (9:Int)]))∧∀(i:Int),i=belowA k ((9:Int)-(1:Int)+(1:Int))→∀(h:Int),h=(1:Int)+belowV k ((9:Int)-(1:Int)+(1:Int))→Ob (F_From.named.pre ([Dat.z i]++[Dat.z (1:Int),Dat.z (600:Int)]))∧∀(n:Int),n=belowA i ((600:Int)-(1:Int)+(1:Int))→∀(l:Int),l=(1:Int)+belowV i ((600:Int)-(1:Int)+(1:Int))→Ob (InR .i64 (h*l))∧Ob (g.toNat < c.toNat)∧Ob (g.toNat=b)∧Ob (InR .i64 (lf a.L (↑b:Int) 0 (a.L.length)+h))∧Ob (g.toNat < c.toNat)∧Ob (g.toNat=b)∧Ob (InR .i64 (lf a.L (↑b:Int) 1 (a.L.length)+h*l))∧Ob (g.toNat < c.toNat∧(((El.fn (l2F a.L)).row b [SV.i .i64 (lf a.L (↑b:Int) 0 (a.L.length)),SV.i .i64 (lf a.L (↑b:Int) 1 (a.L.length))]).at g.toNat).length=(2:Nat))∧Ob (g.toNat=b)∧Ob (PlainE c.toNat ((El.fn (l2F a.L)).row b [SV.i .i64 (lf a.L (↑b:Int) 0 (a.L.length)+h),SV.i .i64 (lf a.L (↑b:Int) 1 (a.L.length))]))∧Ob (g.toNat < c.toNat∧(((El.fn (l2F a.L)).row b [SV.i .i64 (lf a.L (↑b:Int) 0 (a.L.length)+h),SV.i .i64 (lf a.L (↑b:Int) 1 (a.L.length))]).at g.toNat).length=(2:Nat))∧Ob (g.toNat=b)∧Ob (a.L.length=a.L.length∧∀(j:Nat),j < a.L.length→((El.fn (Rv.elemOf I4 a.L)).at j).length=(4:Nat))∧Ob ((a.L.length+(1:Nat))*(2:Nat)*(33:Nat)≤1099511627776)∧Ob (a.L.length=a.L.length)∧Ob (InR .i64 (belowV f (e+(1:Int))-(↑a.k:Int)-(1:Int)))∧∃(d:LgS),Ob (((↑d.k:Int)≤belowV f (e+(1:Int))∧d.L=lgL c (belowA f (e+(1:Int))) d.k∧d.q=lgQ c (belowA f (e+(1:Int))) d.k)∧(belowV f (e+(1:Int))-(↑d.k:Int)).toNat < (belowV f (e+(1:Int))-(↑a.k:Int)).toNat)∧Ob (c=c)∧Ob (SV.v (Value.slice none 0 0)=SV.v (Value.slice none 0 0))∧Ob (a.L.length+(1:Nat)=List.length d.L)∧Ob (c.toNat=c.toNat)∧Ob (belowV f (e+(1:Int))-(↑a.k:Int)-(1:Int)=belowV f (e+(1:Int))-(↑d.k:Int))∧EqA (a.L.length+(1:Nat)) (List.length d.L) (behind (a.L.length) (El.fn (Rv.elemOf I4 a.L)) 1 (litEl (symL [SV.i .i64 m,SV.i .i64 g,SV.i .i64 h,SV.i .i64 (h*l)]) 4 1)) (El.fn (Rv.elemOf I4 d.L))∧EqA c.toNat c.toNat ((El.fn (l2F a.L)).row b [SV.i .i64 (lf a.L (↑b:Int) 0 (a.L.length)+h),SV.i .i64 (lf a.L (↑b:Int) 1 (a.L.length)+h*l)]) (El.fn (l2F d.L))∧Ob (n=d.q)∧PlA I4 d.L∧Ob (PlainE c.toNat (El.fn (l2F d.L)))∧True)∧(¬m=(1:Int)→(m=(5:Int)→Ob (g.toNat < c.toNat)∧Ob (g.toNat=b)∧Ob (g.toNat < c.toNat)∧Ob (g.toNat=b)∧Ob (InR .i64 (lf a.L (↑b:Int) 1 (a.L.length)-lf a.L (↑b:Int) 0 (a.L.length)))∧Ob (InR .i64 (min (50:Int) (lf a.L (↑b:Int) 1 (a.L.length)-lf a.L (↑b:Int) 0 (a.L.length))+(1:Int)))∧Ob (F_Below.named.pre ([Dat.z k]++[Dat.z (min (50:Int) (lf a.L (↑b:Int) 1 (a.L.length)-lf a.L (↑b:Int) 0 (a.L.length))+(1:Int))]))∧∀(i:Int),i=belowA k (min (50:Int) (lf a.L (↑b:Int) 1 (a.L.length)-lf a.L (↑b:Int) 0 (a.L.length))+(1:Int))→∀(h:Int),h=belowV k (min (50:Int) (lf a.L (↑b:Int) 1 (a.L.length)-lf a.L (↑b:Int) 0 (a.L.length))+(1:Int))→Ob (g.toNat < c.toNat)∧Ob (g.toNat=b)∧Ob (InR .i64 (lf a.L (↑b:Int) 1 (a.L.length)-h))∧Ob (g.toNat < c.toNat∧(((El.fn (l2F a.L)).row b [SV.i .i64 (lf a.L (↑b:Int) 0 (a.L.length)),SV.i .i64 (lf a.L (↑b:Int) 1 (a.L.length))]).at g.toNat).length=(2:Nat))∧Ob (g.toNat=b)∧Ob (a.L.length=a.L.length∧∀(j:Nat),j < a.L.length→((El.fn (Rv.elemOf I4 a.L)).at j).length=(4:Nat))∧Ob ((a.L.length+(1:Nat))*(2:Nat)*(33:Nat)≤1099511627776)∧Ob (a.L.length=a.L.length)∧Ob (InR .i64 (belowV f (e+(1:Int))-(↑a.k:Int)-(1:Int)))∧∃(d:LgS),Ob (((↑d.k:Int)≤belowV f (e+(1:Int))∧d.L=lgL c (belowA f (e+(1:Int))) d.k∧d.q=lgQ c (belowA f (e+(1:Int))) d.k)∧(belowV f (e+(1:Int))-(↑d.k:Int)).toNat < (belowV f (e+(1:Int))-(↑a.k:Int)).toNat)∧Ob (c=c)∧Ob (SV.v (Value.slice none 0 0)=SV.v (Value.slice none 0 0))∧Ob (a.L.length+(1:Nat)=List.length d.L)∧Ob (c.toNat=c.toNat)∧Ob (belowV f (e+(1:Int))-(↑a.k:Int)-(1:Int)=belowV f (e+(1:Int))-(↑d.k:Int))∧EqA (a.L.length+(1:Nat)) (List.length d.L) (behind (a.L.length) (El.fn (Rv.elemOf I4 a.L)) 1 (litEl (symL [SV.i .i64 m,SV.i .i64 g,SV.v (Value.int .i64 (0:Int)),SV.i .i64 h]) 4 1)) (El.fn (Rv.elemOf I4 d.L))∧EqA c.toNat c.toNat ((El.fn (l2F a.L)).row b [SV.i .i64 (lf a.L (↑b:Int) 0 (a.L.length)),SV.i .i64 (lf a.L (↑b:Int) 1 (a.L.length)-h)]) (El.fn (l2F d.L))∧Ob (i=d.q)∧PlA I4 d.L∧Ob (PlainE c.toNat (El.fn (l2F d.L)))∧True)∧(¬m=(5:Int)→Ob (g.toNat < c.toNat)∧Ob (g.toNat=b)∧Ob (F_From.named.pre ([Dat.z k]++[Dat.z (1:Int),Dat.z (lf a.L (↑b:Int) 0 (a.L.length))]))∧∀(i:Int),i=belowA k (lf a.L (↑b:Int) 0 (a.L.length)-(1:Int)+(1:Int))→∀(h:Int),h=(1:Int)+belowV k (lf a.L (↑b:Int) 0 (a.L.length)-(1:Int)+(1:Int))→Ob (g.toNat < c.toNat)∧Ob (g.toNat=b)∧(lf a.L (↑b:Int) 0 (a.L.length)=(0:Int)→Ob (InR .i64 (belowV f (e+(1:Int))-(↑a.k:Int)-(1:Int)))∧∃(d:LgS),Ob (((↑d.k:Int)≤belowV f (e+(1:Int))∧d.L=lgL c (belowA f (e+(1:Int))) d.k∧d.q=lgQ c (belowA f (e+(1:Int))) d.k)∧(belowV f (e+(1:Int))-(↑d.k:Int)).toNat < (belowV f (e+(1:Int))-(↑a.k:Int)).toNat)∧Ob (c=c)∧Ob (SV.v (Value.slice none 0 0)=SV.v (Value.slice none 0 0))∧Ob (a.L.length=List.length d.L)∧Ob (c.toNat=c.toNat)∧Ob (belowV f (e+(1:Int))-(↑a.k:Int)-(1:Int)=belowV f (e+(1:Int))-(↑d.k:Int))∧EqR I4 a.L d.L∧EqA c.toNat c.toNat ((El.fn (l2F a.L)).row b [SV.i .i64 (lf a.L (↑b:Int) 0 (a.L.length)),SV.i .i64 (lf a.L (↑b:Int) 1 (a.L.length))]) (El.fn (l2F d.L))∧Ob (i=d.q)∧PlA I4 d.L∧Ob (PlainE c.toNat (El.fn (l2F d.L)))∧True)∧(¬lf a.L (↑b:Int) 0 (a.L.length)=(0:Int)→Ob (g.toNat < c.toNat)∧Ob (g.toNat=b)∧Ob (g.toNat < c.toNat)∧Ob (g.toNat=b)∧(h < lf a.L (↑b:Int) 0 (a.L.length)→Ob (g.toNat < c.toNat)∧Ob (g.toNat=b)∧Ob (g.toNat < c.toNat)∧Ob (g.toNat=b)∧Ob (InR .i64 (lf a.L (↑b:Int) 0 (a.L.length)-h))∧Ob (InR .i64 (lf a.L (↑b:Int) 1 (a.L.length)-(lf a.L (↑b:Int) 0 (a.L.length)-h)))∧Ob (F_From.named.pre ([Dat.z i]++[Dat.z (0:Int),Dat.z (lf a.L (↑b:Int) 1 (a.L.length)-(lf a.L (↑b:Int) 0 (a.L.length)-h))]))∧∀(n:Int),n=belowA i (lf a.L (↑b:Int) 1 (a.L.length)-(lf a.L (↑b:Int) 0 (a.L.length)-h)-(0:Int)+(1:Int))→∀(l:Int),l=(0:Int)+belowV i (lf a.L (↑b:Int) 1 (a.L.length)-(lf a.L (↑b:Int) 0 (a.L.length)-h)-(0:Int)+(1:Int))→Ob (g.toNat < c.toNat)∧Ob (g.toNat=b)∧Ob (InR .i64 (lf a.L (↑b:Int) 0 (a.L.length)-h))∧Ob (g.toNat < c.toNat)∧Ob (g.toNat=b)∧Ob (InR .i64 (lf a.L (↑b:Int) 1 (a.L.length)-l))∧Ob (g.toNat < c.toNat∧(((El.fn (l2F a.L)).row b [SV.i .i64 (lf a.L (↑b:Int) 0 (a.L.length)),SV.i .i64 (lf a.L (↑b:Int) 1 (a.L.length))]).at g.toNat).length=(2:Nat))∧Ob (g.toNat=b)∧Ob (PlainE c.toNat ((El.fn (l2F a.L)).row b [SV.i .i64 (lf a.L (↑b:Int) 0 (a.L.length)-h),SV.i .i64 (lf a.L (↑b:Int) 1 (a.L.length))]))∧Ob (g.toNat < c.toNat∧(((El.fn (l2F a.L)).row b [SV.i .i64 (lf a.L (↑b:Int) 0 (a.L.length)-h),SV.i .i64 (lf a.L (↑b:Int) 1 (a.L.length))]).at g.toNat).length=(2:Nat))∧Ob (g.toNat=b)∧Ob (a.L.length=a.L.length∧∀(j:Nat),j < a.L.length→((El.fn (Rv.elemOf I4 a.L)).at j).length=(4:Nat))∧Ob ((a.L.length+(1:Nat))*(2:Nat)*(33:Nat)≤1099511627776)∧Ob (a.L.length=a.L.length)∧Ob (InR .i64 (belowV f (e+(1:Int))-(↑a.k:Int)-(1:Int)))∧∃(d:LgS),Ob (((↑d.k:Int)≤belowV f (e+(1:Int))∧d.L=lgL c (belowA f (e+(1:Int))) d.k∧d.q=lgQ c (belowA f (e+(1:Int))) d.k)∧(belowV f (e+(1:Int))-(↑d.k:Int)).toNat < (belowV f (e+(1:Int))-(↑a.k:Int)).toNat)∧Ob (c=c)∧Ob (SV.v (Value.slice none 0 0)=SV.v (Value.slice none 0 0))∧Ob (a.L.length+(1:Nat)=List.length d.L)∧Ob (c.toNat=c.toNat)∧Ob (belowV f (e+(1:Int))-(↑a.k:Int)-(1:Int)=belowV f (e+(1:Int))-(↑d.k:Int))∧EqA (a.L.length+(1:Nat)) (List.length d.L) (behind (a.L.length) (El.fn (Rv.elemOf I4 a.L)) 1 (litEl (symL [SV.i .i64 m,SV.i .i64 g,SV.i .i64 h,SV.i .i64 l]) 4 1)) (El.fn (Rv.elemOf I4 d.L))∧EqA c.toNat c.toNat ((El.fn (l2F a.L)).row b [SV.i .i64 (lf a.L (↑b:Int) 0 (a.L.length)-h),SV.i .i64 (lf a.L (↑b:Int) 1 (a.L.length)-l)]) (El.fn (l2F d.L))∧Ob (n=d.q)∧PlA I4 d.L∧Ob (PlainE c.toNat (El.fn (l2F d.L)))∧True)∧(¬h < lf a.L (↑b:Int) 0 (a.L.length)→Ob (g.toNat < c.toNat)∧Ob (g.toNat=b)∧Ob (InR .i64 (lf a.L (↑b:Int) 0 (a.L.length)-h))∧Ob (g.toNat < c.toNat)∧Ob (g.toNat=b)∧Ob (InR .i64 (lf a.L (↑b:Int) 1 (a.L.length)-lf a.L (↑b:Int) 1 (a.L.length)))∧Ob (g.toNat < c.toNat∧(((El.fn (l2F a.L)).row b [SV.i .i64 (lf a.L (↑b:Int) 0 (a.L.length)),SV.i .i64 (lf a.L (↑b:Int) 1 (a.L.length))]).at g.toNat).length=(2:Nat))∧Ob (g.toNat=b)∧Ob (PlainE c.toNat ((El.fn (l2F a.L)).row b [SV.i .i64 (lf a.L (↑b:Int) 0 (a.L.length)-h),SV.i .i64 (lf a.L (↑b:Int) 1 (a.L.length))]))∧Ob (g.toNat < c.toNat∧(((El.fn (l2F a.L)).row b [SV.i .i64 (lf a.L (↑b:Int) 0 (a.L.length)-h),SV.i .i64 (lf a.L (↑b:Int) 1 (a.L.length))]).at g.toNat).length=(2:Nat))∧Ob (g.toNat=b)∧Ob (a.L.length=a.L.length∧∀(j:Nat),j < a.L.length→((El.fn (Rv.elemOf I4 a.L)).at j).length=(4:Nat))∧Ob ((a.L.length+(1:Nat))*(2:Nat)*(33:Nat)≤1099511627776)∧Ob (a.L.length=a.L.length)∧Ob (InR .i64 (belowV f (e+(1:Int))-(↑a.k:Int)-(1:Int)))∧∃(d:LgS),Ob (((↑d.k:Int)≤belowV f (e+(1:Int))∧d.L=lgL c (belowA f (e+(1:Int))) d.k∧d.q=lgQ c (belowA f (e+(1:Int))) d.k)∧(belowV f (e+(1:Int))-(↑d.k:Int)).toNat < (belowV f (e+(1:Int))-(↑a.k:Int)).toNat)∧Ob (c=c)∧Ob (SV.v (Value.slice none 0 0)=SV.v (Value.slice none 0 0))∧Ob (a.L.length+(1:Nat)=List.length d.L)∧Ob (c.toNat=c.toNat)∧Ob (belowV f (e+(1:Int))-(↑a.k:Int)-(1:Int)=belowV f (e+(1:Int))-(↑d.k:Int))∧EqA (a.L.length+(1:Nat)) (List.length d.L) (behind (a.L.length) (El.fn (Rv.elemOf I4 a.L)) 1 (litEl (symL [SV.i .i64 m,SV.i .i64 g,SV.i .i64 h,SV.i .i64 (lf a.L (↑b:Int) 1 (a.L.length))]) 4 1)) (El.fn (Rv.elemOf I4 d.L))∧EqA c.toNat c.toNat ((El.fn (l2F a.L)).row b [SV.i .i64 (lf a.L (↑b:Int) 0 (a.L.length)-h),SV.i .i64 (lf a.L (↑b:Int) 1 (a.L.length)-lf a.L (↑b:Int) 1 (a.L.length))]) (El.fn (l2F d.L))∧Ob (i=d.q)∧PlA I4 d.L∧Ob (PlainE c.toNat (El.fn (l2F d.L)))∧True)))))∧(¬(0:Int) < belowV f (e+(1:Int))-(↑a.k:Int)→Ob (a.L.length=List.length (lgL c (belowA f (e+(1:Int))) (belowV f (e+(1:Int))).toNat))∧EqR I4 a.L (lgL c (belowA f (e+(1:Int))) (belowV f (e+(1:Int))).toNat)∧Ob (a.q=lgQ c (belowA f (e+(1:Int))) (belowV f (e+(1:Int))).toNat)∧PlA I4 (lgL c (belowA f (e+(1:Int))) (belowV f (e+(1:Int))).toNat)∧True)
set_option linter.unusedSimpArgs false in
set_option maxRecDepth 4000 in
set_option maxHeartbeats 4000000 in
theorem v_LedgerOf:V_LedgerOf:=by
 unfold V_LedgerOf EqA EqR I4 PlA
 intro B a gn most ⟨⟨hn1,hn2⟩,hm1,hm2⟩
 simp only [F_Below,F_From,F_Of,FnE.named,List.cons_append,List.nil_append,Ob_iff,and_true,true_and]at ⊢
 have hN:=belowV_in a (most+1)
 obtain⟨M,hM⟩:∃M,M=belowV a (most+1):=⟨_,rfl⟩
 rw [← hM]at hN ⊢
 have hN:0≤M∧M≤most:=by omega
 obtain⟨A,hA⟩:∃A,belowA a (most+1)=A:=⟨_,rfl⟩
 rw [hA]
 clear hM hA
 obtain⟨n,rfl⟩:=Int.eq_ofNat_of_zero_le (show 0≤gn by omega)
 have hnN:((n:Int)).toNat=n:=rfl
 simp only [hnN]
 have hn1:1≤n:=by omega
 refine⟨by omega,by simp only [InR]; omega,by omega,?_⟩
 intro v hv v1 hv1
 subst hv hv1
 refine⟨⟨⟨0,[],v⟩,?_⟩,?_⟩
 ·dsimp only
  repeat' (with_reducible apply And.intro)
  all_goals first | exact plain_elemOf _ _ _ | exact l2_plain _ _ | rfl | omega | (simp only [lgL]) | (simp only [lgQ]) | exact fun i _=>rfl
 rintro⟨k,L,q⟩ ⟨hk,hL,hq⟩
 dsimp only at hk hL hq ⊢
 intros
 have inv:=lg_inv hn1 v (k:=k) (by omega)
 rw [← hL]at inv
 have hlen:=inv.l
 refine⟨fun h1=>?_,fun h1=>?_⟩
 rotate_left
 ·have e:k=v1.toNat:=by omega
  subst e
  rw [← hL,← hq]
  repeat' (with_reducible apply And.intro)
  all_goals first | exact plain_elemOf _ _ _ | rfl | exact fun i _=>rfl | trivial
 have eL0:L++lgRow n q L=lgL n v (k+1):=by rw [hL,hq]; simp only [lgL]
 have eQ0:lgNx n q L=lgQ n v (k+1):=by rw [hL,hq]; simp only [lgQ]
 clear hL hq
 have hkd:=lgKd_in q
 have mu:(v1-((k+1:Nat):Int)).toNat < (v1-(k:Int)).toNat:=by omega
 refine⟨by omega,?_⟩
 intro v2 hv2 v3 hv3
 refine⟨by simp,?_⟩
 intro v4 hv4 v5 hv5
 refine⟨by omega,?_⟩
 intro v6 hv6 v7 hv7
 have g2:v2=lgB1 q:=hv2
 have g3:v3=lgK0 q:=hv3
 have g4:v4=lgB2 q:=by rw [hv4,g2,g3]; rfl
 have g5:v5=lgKd q:=by rw [hv5,g2,g3]; rfl
 have g6:v6=lgB3 n q:=by rw [hv6,g4]; rfl
 have g7:v7=lgGr n q:=by rw [hv7,g4]; rfl
 have hg:=belowV_in v4 (n:Int)
 rw [← hv7]at hg
 clear hv2 hv3 hv4 hv5 hv6 hv7 g2 g3 g4
 have hg:0≤v7∧v7 < n:=by omega
 obtain⟨g,rfl⟩:=Int.eq_ofNat_of_zero_le hg.1
 have hG:((g:Int)).toNat=g:=rfl
 simp only [hG]
 have gl:g < n:=by omega
 rw [← g5]at hkd
 have hf:=inv.lf (g:Int)
 have hb:=inv.b (g:Int)
 have e0:lgL0 n q L=lf L (g:Int) 0 L.length:=by rw [lgL0,← g7]
 have e1:lgL1 n q L=lf L (g:Int) 1 L.length:=by rw [lgL1,← g7]
 have pr:∀x y,PlainE n ((El.fn (l2F L)).row g [.i .i64 x,.i .i64 y]):=fun x y=>l2_plainR L n g x y
 have ln:∀x y:Int,(((El.fn (l2F L)).row g [.i .i64 x,.i .i64 y]).at g).length=2:=fun x y=>by simp [El.at]
 have l4:∀i,i < L.length→((El.fn (Rv.elemOf [.i64,.i64,.i64,.i64] L)).at i).length=4:=fun i _=>rfl
 have sz:(L.length+1)*2*33≤1099511627776:=by omega
 have r64:InR .i64 (v1-(k:Int)-1):=by simp only [InR]; omega
 refine⟨⟨by omega,gl⟩,g,fun c1=>?_,fun c1=>⟨fun c5=>?_,fun c5=>?_⟩⟩
 ·have c1':lgKd q=1:=g5 ▸ c1
  obtain⟨r1,r2⟩:=row_1 (n:=n) (L:=L) c1'
  refine⟨by omega,?_⟩
  intro v8 hv8 v9 hv9
  refine⟨by omega,?_⟩
  intro v10 hv10 v11 hv11
  have h9:=belowV_in v6 (9-1+1)
  have h11:=belowV_in v8 (600-1+1)
  have h9:1≤v9∧v9≤9:=by rw [hv9]; clear hv9 hv11 hv8 hv10; omega
  have h11:1≤v11∧v11≤600:=by rw [hv11]; clear hv9 hv11 hv8 hv10; omega
  have eL:L++[[v5,(g:Int),v9,v9*v11]]=lgL n v (k+1):=by
   rw [← eL0,r1,hv9,hv11,hv8,g6,g7,c1]
   rfl
  have eQ:v10=lgQ n v (k+1):=by rw [← eQ0,r2,hv10,hv8,g6]; rfl
  clear hv8 hv9 hv10 hv11 eL0 eQ0 r1 r2
  have m1:v9*1≤v9*v11:=Int.mul_le_mul_of_nonneg_left h11.1 (by omega)
  have m2:v9*v11≤v9*600:=Int.mul_le_mul_of_nonneg_left h11.2 (by omega)
  have hs:=snoc4 (R:=L) (x:=v5) (y:=(g:Int)) (z:=v9) (w:=v9*v11)
  have hp:∀i,i < n→_:=fun i _=>l2_in (L:=L) (g:=g) (ct:=v9) (gm:=v9*v11) i
  rw [← c1,eL]at hp
  rw [eL]at hs
  have el:L.length+1=(lgL n v (k+1)).length:=by rw [← eL]; simp
  repeat' (with_reducible apply And.intro)
  all_goals first | exact gl | exact ln _ _ | exact pr _ _ | exact l4 | exact sz | exact r64 | rfl | (simp only [InR]; omega) | skip
  refine⟨⟨k+1,lgL n v (k+1),v10⟩,?_⟩
  dsimp only
  repeat' (with_reducible apply And.intro)
  all_goals first | exact plain_elemOf _ _ _ | exact l2_plain _ _ | exact el | exact eQ | exact hs | exact(fun i hi=>hs i (by omega)) | exact hp | rfl | omega | exact fun i _=>rfl
 ·obtain⟨r1,r2⟩:=row_5 (n:=n) (L:=L) (g5 ▸ c5)
  repeat' (with_reducible apply And.intro)
  all_goals first | exact gl | rfl | (simp only [InR]; omega) | omega | skip
  intro v8 hv8 v9 hv9
  have h9:=belowV_in v6 (min 50 (lf L (g:Int) 1 L.length-lf L (g:Int) 0 L.length)+1)
  have h9:0≤v9∧v9≤50∧v9≤lf L (g:Int) 1 L.length-lf L (g:Int) 0 L.length:=by rw [hv9]; clear hv9 hv8; omega
  have eU:lgU n q L=min 50 (lf L (g:Int) 1 L.length-lf L (g:Int) 0 L.length)+1:=by rw [lgU,e0,e1]
  have eL:L++[[v5,(g:Int),0,v9]]=lgL n v (k+1):=by rw [← eL0,r1,eU,← g7,← g6,← hv9,c5]
  have eQ:v8=lgQ n v (k+1):=by rw [← eQ0,r2,hv8,g6,eU]
  clear hv8 hv9 eL0 eQ0 r1 r2 eU
  have hs:=snoc4 (R:=L) (x:=v5) (y:=(g:Int)) (z:=0) (w:=v9)
  have hp:∀i,i < n→_:=fun i _=>l2_drip (L:=L) (g:=g) (gm:=v9) i
  rw [← c5,eL]at hp
  rw [eL]at hs
  have el:L.length+1=(lgL n v (k+1)).length:=by rw [← eL]; simp
  repeat' (with_reducible apply And.intro)
  all_goals first | exact gl | exact ln _ _ | exact pr _ _ | exact l4 | exact sz | exact r64 | rfl | (simp only [InR]; omega) | skip
  refine⟨⟨k+1,lgL n v (k+1),v8⟩,?_⟩
  dsimp only
  repeat' (with_reducible apply And.intro)
  all_goals first | exact plain_elemOf _ _ _ | exact l2_plain _ _ | exact el | exact eQ | exact hs | exact(fun i hi=>hs i (by omega)) | exact hp | rfl | omega | exact fun i _=>rfl
 ·repeat' (with_reducible apply And.intro)
  all_goals first | exact gl | rfl | omega | skip
  intro v8 hv8 v9 hv9
  have h9:=belowV_in v6 (lf L (g:Int) 0 L.length-1+1)
  have g8:v8=lgD4 n q L:=by rw [hv8,lgD4,← g6,e0]
  have g9:v9=lgCt n q L:=by rw [hv9,lgCt,← g6,e0]
  have h9:1≤v9∧(lf L (g:Int) 0 L.length=0∨v9≤lf L (g:Int) 0 L.length):=by rw [hv9]; clear hv9 hv8 g8 g9; omega
  clear hv8 hv9
  have n1:¬ lgKd q=1:=g5 ▸ c1
  have n5:¬ lgKd q=5:=g5 ▸ c5
  repeat' (with_reducible apply And.intro)
  all_goals first | exact gl | rfl | skip
  ·intro c0
   obtain⟨r1,r2⟩:=row_0 (n:=n) (L:=L) n1 n5 (by rw [e0]; exact c0)
   have eL:L=lgL n v (k+1):=by rw [← eL0,r1,List.append_nil]
   have eQ:v8=lgQ n v (k+1):=by rw [← eQ0,r2,g8]
   clear eL0 eQ0 r1 r2 g8 g9 e0 e1
   have hp:∀i,i < n→_:=fun i _=>l2_same (L:=L) (g:=g) i
   have hs:∀i,i < L.length→(El.fn (Rv.elemOf [.i64,.i64,.i64,.i64] L)).at i=(El.fn (Rv.elemOf [.i64,.i64,.i64,.i64] L)).at i:=fun i _=>rfl
   have el:L.length=L.length:=rfl
   repeat' (with_reducible apply And.intro)
   all_goals first | exact gl | exact ln _ _ | exact pr _ _ | exact l4 | exact sz | exact r64 | rfl | (simp only [InR]; omega) | skip
   refine⟨⟨k+1,L,v8⟩,?_⟩
   dsimp only
   repeat' (with_reducible apply And.intro)
   all_goals first | exact plain_elemOf _ _ _ | exact l2_plain _ _ | exact el | exact eQ | exact hs | exact(fun i hi=>hs i (by omega)) | exact hp | exact eL | rfl | omega | exact fun i _=>rfl
  ·intro c0
   repeat' (with_reducible apply And.intro)
   all_goals first | exact gl | rfl | skip
   ·intro cs
    have cs':lgCt n q L < lgL0 n q L:=by rw [e0,← g9]; exact cs
    obtain⟨r1,r2⟩:=row_s (n:=n) (L:=L) n1 n5 (by rw [e0]; exact c0) cs'
    repeat' (with_reducible apply And.intro)
    all_goals first | exact gl | rfl | (simp only [InR]; omega) | omega | skip
    intro v10 hv10 v11 hv11
    have h11:=belowV_in v8 (lf L (g:Int) 1 L.length-(lf L (g:Int) 0 L.length-v9)-0+1)
    have h11:0≤v11∧v11≤lf L (g:Int) 1 L.length:=by rw [hv11]; clear hv11 hv10; omega
    have eW:lgW n q L=lf L (g:Int) 1 L.length-(lf L (g:Int) 0 L.length-v9)-0+1:=by rw [lgW,e0,e1,← g9]
    have eL:L++[[v5,(g:Int),v9,v11]]=lgL n v (k+1):=by rw [← eL0,r1,hv11,← g8,← g9,← g7,← g5,eW]
    have eQ:v10=lgQ n v (k+1):=by rw [← eQ0,r2,hv10,← g8,eW]
    clear hv10 hv11 eL0 eQ0 r1 r2 eW g8 g9 e0 e1 cs'
    have hs:=snoc4 (R:=L) (x:=v5) (y:=(g:Int)) (z:=v9) (w:=v11)
    have hp:∀i,i < n→_:=fun i _=>l2_out (L:=L) (g:=g) (kd:=v5) (ct:=v9) (gm:=v11) (by omega) i
    rw [eL]at hp hs
    have el:L.length+1=(lgL n v (k+1)).length:=by rw [← eL]; simp
    repeat' (with_reducible apply And.intro)
    all_goals first | exact gl | exact ln _ _ | exact pr _ _ | exact l4 | exact sz | exact r64 | rfl | (simp only [InR]; omega) | skip
    refine⟨⟨k+1,lgL n v (k+1),v10⟩,?_⟩
    dsimp only
    repeat' (with_reducible apply And.intro)
    all_goals first | exact plain_elemOf _ _ _ | exact l2_plain _ _ | exact el | exact eQ | exact hs | exact(fun i hi=>hs i (by omega)) | exact hp | rfl | omega | exact fun i _=>rfl
   ·intro cs
    have cs':¬ lgCt n q L < lgL0 n q L:=by rw [e0,← g9]; exact cs
    obtain⟨r1,r2⟩:=row_a (n:=n) (L:=L) n1 n5 (by rw [e0]; exact c0) cs'
    have eL:L++[[v5,(g:Int),v9,lf L (g:Int) 1 L.length]]=lgL n v (k+1):=by rw [← eL0,r1,← g9,← g7,← g5,e1]
    have eQ:v8=lgQ n v (k+1):=by rw [← eQ0,r2,← g8]
    clear eL0 eQ0 r1 r2 g8 g9 e0 e1 cs'
    have hs:=snoc4 (R:=L) (x:=v5) (y:=(g:Int)) (z:=v9) (w:=lf L (g:Int) 1 L.length)
    have hp:∀i,i < n→_:=fun i _=>l2_out (L:=L) (g:=g) (kd:=v5) (ct:=v9) (gm:=lf L (g:Int) 1 L.length) (by omega) i
    rw [eL]at hp hs
    have el:L.length+1=(lgL n v (k+1)).length:=by rw [← eL]; simp
    repeat' (with_reducible apply And.intro)
    all_goals first | exact gl | exact ln _ _ | exact pr _ _ | exact l4 | exact sz | exact r64 | rfl | (simp only [InR]; omega) | skip
    refine⟨⟨k+1,lgL n v (k+1),v8⟩,?_⟩
    dsimp only
    repeat' (with_reducible apply And.intro)
    all_goals first | exact plain_elemOf _ _ _ | exact l2_plain _ _ | exact el | exact eQ | exact hs | exact(fun i hi=>hs i (by omega)) | exact hp | rfl | omega | exact fun i _=>rfl
theorem e_LedgerOf:V_LedgerOf=needE P [] [F_Below.named,F_From.named,F_Of.named] A_LedgerOf F_LedgerOf:=by kernel_rfl
theorem n_LedgerOf:Ob (needE P [] [F_Below.named,F_From.named,F_Of.named] A_LedgerOf F_LedgerOf):=by
 rw [← e_LedgerOf]
 exact⟨v_LedgerOf⟩
theorem b_LedgerOf:((P.funcs[7]?).any fun fn=>fn.body.isSome)=true:=by kernel_rfl
theorem LedgerOf_ok:FnE.Ok P F_LedgerOf:=FnE.ok named (l:=[]) (es:=[F_Below.named,F_From.named,F_Of.named]) (A:=A_LedgerOf) (by rfl) (by rfl) (by rfl) (by
 intro F h; simp at h) (by
 intro F h
 simp only [List.mem_cons,List.not_mem_nil,or_false]at h
 rcases h with rfl | rfl | rfl
 ·exact Below_ok.named
 ·exact From_ok.named
 ·exact Of_ok.named
) b_LedgerOf (by
 intro ds h o ho n sz e k z he
 subst he
 simp only [F_LedgerOf]at ho
 split at ho
 ·simp only [List.mem_cons,List.not_mem_nil,or_false,SObj.gr.injEq]at ho
  obtain⟨rfl,rfl,rfl,rfl,rfl⟩:=ho
  exact plain_elemOf _ _ _
 ·simp at ho) n_LedgerOf
end Go.Proofs.Ytdnphbnnhfpphaa.Sy
