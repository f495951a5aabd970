import Derived.Test.YtkdehhcadhainaaSyP4
import Derived.Test.YtkdehhcadhainaaGrM
import Derived.Test.YtkdehhcadhainaaStM
import Derived.Test.YtkdehhcadhainaaKtT
import Derived.Test.YtkdehhcadhainaaSyP2
import Derived.Test.YtkdehhcadhainaaSyP4
import Derived.KernelRfl
import Derived.Test.YtkdehhcadhainaaProg
namespace Go.Proofs.Ytkdehhcadhainaa.Sy
open Go Go.Rv
set_option linter.unusedVariables false
def lg (L:List Rows) (p q:Nat) (c:Nat):Int:=cell (L.getD p []) q c
structure StopsOk (S:Rows):Prop where
 row:∀r∈S,r.length=6
 at_:∀i,i < S.length→0≤cell S i 0∧cell S i 0≤1000∧0≤cell S i 1∧cell S i 1≤1000000∧0≤cell S i 2∧cell S i 2≤1440∧0≤cell S i 3∧cell S i 3≤100000∧0≤cell S i 4∧cell S i 4≤cell S i 5∧cell S i 5≤1440
structure LegsOk (n:Nat) (L:List Rows):Prop where
 row:∀i,∀r∈L.getD i [],r.length=2
 len:∀i,i < L.length→(L.getD i []).length=n
 at_:∀i,i < L.length→∀j,j < n→0≤lg L i j 0∧lg L i j 0≤1440∧0≤lg L i j 1∧lg L i j 1≤100000∧(i=j→lg L i j 0=0∧lg L i j 1=0)
structure TourOk (mx:Nat) (en ta pr ba:Int) (S:Rows) (L:List Rows):Prop where
 en:0≤en∧en≤1440
 ta:0≤ta∧ta≤100000
 pr:0≤pr∧pr≤1000
 ba:0≤ba∧ba≤1000
 n:S.length≤mx
 s:StopsOk S
 m:L.length=S.length+1
 l:LegsOk (S.length+1) L
structure ToS where
 i:Int
 a:Int
 st:Int
 en:Int
 ta:Int
 pr:Int
 ba:Int
 S:Rows
 k:Nat
 ys:Nat→RV
 L:List Rows
 j:Nat
 R:Rows
structure ToI (mx:Int) (v:ToS):Prop where
 st:0≤v.st∧v.st≤v.en
 en:0≤v.en∧v.en≤1440
 ta:0≤v.ta∧v.ta≤100000
 pr:0≤v.pr∧v.pr≤1000
 ba:0≤v.ba∧v.ba≤1000
 i:0≤v.i∧(v.S.length:Int)+v.i≤mx
 s:StopsOk v.S
structure ToJ (mx:Int) (v:ToS):Prop extends ToI mx v where
 k:v.k≤v.S.length+1
 m:v.L.length=v.k
 l:LegsOk (v.S.length+1) v.L
structure ToK (mx:Int) (v:ToS):Prop extends ToJ mx v where
 k1:v.k < v.S.length+1
 j:v.j≤v.S.length+1
 r:v.R.length=v.j
 row:∀r∈v.R,r.length=2
 at2:∀j,j < v.j→0≤cell v.R j 0∧cell v.R j 0≤1440∧0≤cell v.R j 1∧cell v.R j 1≤100000∧(v.k=j→cell v.R j 0=0∧cell v.R j 1=0)
theorem getD_appB {α:Type} {l r:List α} {d:α} {i:Nat} (h:i < l.length):(l++r).getD i d=l.getD i d:=by
 rw [List.getD_eq_getElem?_getD,List.getD_eq_getElem?_getD,List.getElem?_append_left h]
theorem getD_lastB {α:Type} {l:List α} {x d:α}:(l++[x]).getD l.length d=x:=by
 simp [List.getD_eq_getElem?_getD]
theorem cell_appB {R:Rows} {r:List Int} {i c:Nat} (h:i < R.length):cell (R++[r]) i c=cell R i c:=by
 unfold cell
 rw [getD_appB h]
theorem cell_lastB {R:Rows} {r:List Int} {c:Nat}:cell (R++[r]) R.length c=r.getD c 0:=by
 unfold cell
 rw [getD_lastB]
theorem StopsOk.snoc {S:Rows} (h:StopsOk S) {x0 x1 x2 x3 x4 x5:Int} (h0:0≤x0∧x0≤1000) (h1:0≤x1∧x1≤1000000) (h2:0≤x2∧x2≤1440) (h3:0≤x3∧x3≤100000) (h4:0≤x4∧x4≤x5∧x5≤1440):StopsOk (S++[[x0,x1,x2,x3,x4,x5]]):=by
 refine⟨?_,?_⟩
 ·intro r hr
  simp only [List.mem_append,List.mem_singleton]at hr
  rcases hr with hr | rfl
  ·exact h.row r hr
  ·rfl
 ·intro i hi
  simp only [List.length_append,List.length_singleton]at hi
  by_cases hil:i < S.length
  ·simp only [cell_appB hil]; exact h.at_ i hil
  ·have e:i=S.length:=by omega
   simp only [e,cell_lastB]
   exact⟨h0.1,h0.2,h1.1,h1.2,h2.1,h2.2,h3.1,h3.2,h4.1,h4.2.1,h4.2.2⟩
theorem lg_app {L:List Rows} {R:Rows} {i j c:Nat} (h:i < L.length):lg (L++[R]) i j c=lg L i j c:=by
 unfold lg
 rw [getD_appB h]
theorem lg_last {L:List Rows} {R:Rows} {j c:Nat}:lg (L++[R]) L.length j c=cell R j c:=by
 unfold lg
 rw [getD_lastB]
theorem ToI.next {mx:Int} {v:ToS} (h:ToI mx v) (hi:0 < v.i) (a:Int) {x0 x1 x2 x3 x4 x5:Int} (h0:0≤x0∧x0≤1000) (h1:0≤x1∧x1≤1000000) (h2:0≤x2∧x2≤1440) (h3:0≤x3∧x3≤100000) (h4:0≤x4∧x4≤x5∧x5≤1440):ToI mx ⟨v.i-1,a,v.st,v.en,v.ta,v.pr,v.ba,v.S++[[x0,x1,x2,x3,x4,x5]],0,v.ys,[],0,[]⟩∧(v.i-1).toNat < v.i.toNat:=by
 have h5:=h.i
 refine⟨⟨h.st,h.en,h.ta,h.pr,h.ba,?_,h.s.snoc h0 h1 h2 h3 h4⟩,by omega⟩
 simp only [List.length_append,List.length_singleton]
 omega
theorem ToK.next {mx:Int} {v:ToS} (h:ToK mx v) (hj:v.j < v.S.length+1) (a:Int) {x y:Int} (hx:0≤x∧x≤1440∧0≤y∧y≤100000∧(v.k=v.j→x=0∧y=0)):ToK mx ⟨v.i,a,v.st,v.en,v.ta,v.pr,v.ba,v.S,v.k,v.ys,v.L,v.j+1,v.R++[[x,y]]⟩:=by
 refine⟨⟨⟨h.st,h.en,h.ta,h.pr,h.ba,h.i,h.s⟩,h.k,h.m,h.l⟩,h.k1,hj,by simp [h.r],?_,?_⟩
 ·intro r hr
  simp only [List.mem_append,List.mem_singleton]at hr
  rcases hr with hr | rfl
  ·exact h.row r hr
  ·rfl
 ·intro j hjj
  simp only at hjj ⊢
  by_cases hyj:j < v.j
  ·simp only [cell_appB (show j < v.R.length by rw [h.r]; exact hyj)]
   exact h.at2 j hyj
  ·have e:j=v.j:=by omega
   subst e
   have e2:∀c,cell (v.R++[[x,y]]) v.j c=[x,y].getD c 0:=fun c=>by rw [← h.r,cell_lastB]
   simp only [e2]
   exact hx
theorem ToK.done {mx:Int} {v:ToS} (h:ToK mx v) (hj:¬ v.j < v.S.length+1) (ys:Nat→RV):ToJ mx ⟨v.i,v.a,v.st,v.en,v.ta,v.pr,v.ba,v.S,v.k+1,ys,v.L++[v.R],0,[]⟩:=by
 have hm:=h.m
 have hjj:=h.j
 have hk1:=h.k1
 refine⟨⟨h.st,h.en,h.ta,h.pr,h.ba,h.i,h.s⟩,hk1,by simp [h.m],⟨?_,?_,?_⟩⟩
 ·intro i r hr
  by_cases hil:i < v.L.length
  ·simp only [getD_appB hil]at hr; exact h.l.row i r hr
  ·by_cases e:i=v.L.length
   ·simp only [e,getD_lastB]at hr; exact h.row r hr
   ·have:(v.L++[v.R]).getD i []=[]:=by
     rw [List.getD_eq_getElem?_getD,List.getElem?_eq_none (by simp; omega)]; rfl
    simp only [this]at hr
    simp at hr
 ·intro i hi
  simp only [List.length_append,List.length_singleton]at hi ⊢
  by_cases hil:i < v.L.length
  ·rw [getD_appB hil]; exact h.l.len i hil
  ·have e:i=v.L.length:=by omega
   rw [e,getD_lastB,h.r]; omega
 ·intro i hi j hj2
  simp only [List.length_append,List.length_singleton]at hi hj2 ⊢
  by_cases hil:i < v.L.length
  ·simp only [lg_app hil]; exact h.l.at_ i hil j hj2
  ·have e:i=v.L.length:=by omega
   subst e
   simp only [lg_last]
   have:=h.at2 j (by omega)
   rw [hm]
   exact this
theorem snoc2 {R:Rows} {k:Nat} {x y:Int} (hl:R.length=k):∀i,i < k+1→(behind k (.fn (Rv.elemOf [.i64,.i64] R)) 1 (litEl [SV.i .i64 x,SV.i .i64 y] 2 1)).at i=(El.fn (Rv.elemOf [.i64,.i64] (R++[[x,y]]))).at i:=fun i hi=>by
 have:=snoc_at (R:=R) (ks:=[.i64,.i64]) (r:=[x,y]) (cs:=[SV.i .i64 x,SV.i .i64 y]) rfl (i:=i) (by omega)
 rw [hl]at this
 exact this
theorem snoc6 {R:Rows} {x0 x1 x2 x3 x4 x5:Int}:∀i,i < R.length+1→(behind R.length (.fn (Rv.elemOf [.i64,.i64,.i64,.i64,.i64,.i64] R)) 1 (litEl [SV.i .i64 x0,SV.i .i64 x1,SV.i .i64 x2,SV.i .i64 x3,SV.i .i64 x4,SV.i .i64 x5] 6 1)).at i=(El.fn (Rv.elemOf [.i64,.i64,.i64,.i64,.i64,.i64] (R++[[x0,x1,x2,x3,x4,x5]]))).at i:=fun i hi =>
 snoc_at (R:=R) (ks:=[.i64,.i64,.i64,.i64,.i64,.i64]) (r:=[x0,x1,x2,x3,x4,x5]) (cs:=[SV.i .i64 x0,SV.i .i64 x1,SV.i .i64 x2,SV.i .i64 x3,SV.i .i64 x4,SV.i .i64 x5]) rfl (i:=i) hi
noncomputable def F_TourOf:FnG:=⟨4,(some [.i .u64]),[i64],fun l=>match l with | [.z a,.z mx]=>0≤mx∧mx≤8 | _=>False,[.agg [.i .i64,.i .i64,.i .i64,.i .i64,.i .i64,.l [.i64,.i64,.i64,.i64,.i64,.i64],.ll [.i64,.i64]]],fun l m=>match l with | [.z a,.z mx]=>(match m with | [.z st,.z en,.z ta,.z pr,.z ba,.l S,.ll L,.z a2]=>(0≤st∧st≤en)∧TourOk mx.toNat en ta pr ba S L | _=>False) | _=>False,[(.c (.t 0) 5,.l [.i64,.i64,.i64,.i64,.i64,.i64]),(.c (.t 0) 6,.ll [.i64,.i64])]⟩
noncomputable def A_TourOf:List SV→List Dat→Nat→List SV→AnG:=fun xs ds n ts=>match xs with
 | [.agg [.i _ a0],_]=>match ds with
  | [.z a,.z mx]=>match n with
   | 6=>⟨ToS,fun v=>([some (SV.ptr ((0:Nat)) ((0:Nat))),none,none,none,some (SV.ptr ((1:Nat)) ((0:Nat))),some (SV.ptr ((2:Nat)) ((0:Nat))),some (.i .i64 v.i)]++nN 96),fun v=>[.gr v.S.length 6 (.fn (Rv.elemOf [.i64,.i64,.i64,.i64,.i64,.i64] v.S)) .gr true,.dead,.cells [.i .i64 v.st,.i .i64 v.en,.i .i64 v.ta,.i .i64 v.pr,.i .i64 v.ba,.gsl 4 v.S.length 6 true,.v (Value.slice none 0 0)] .ex,SObj.cells [SV.v (Value.int IntKind.i64 (0:Int)),SV.v (Value.int IntKind.i64 (0:Int)),SV.v (Value.int IntKind.i64 (0:Int)),SV.v (Value.int IntKind.i64 (0:Int)),SV.v (Value.int IntKind.i64 (0:Int)),SV.v (Value.slice none ((0:Nat)) ((0:Nat))),SV.v (Value.slice none ((0:Nat)) ((0:Nat)))] Kd.ex,.cells [.i .u64 v.a] .ex],fun B v=>ToI mx v,fun v=>v.i.toNat,0,[]⟩
   | 12=>⟨ToS,fun v=>([some (SV.ptr ((0:Nat)) ((0:Nat))),none,none,none,some (SV.ptr ((1:Nat)) ((0:Nat))),some (SV.ptr ((2:Nat)) ((0:Nat))),none,none,some (.i .i64 v.k)]++nN 94),fun v=>[.gr v.k 1 (.nf (llElem [.i64,.i64] v.ys v.L)) .gr true,.gr v.S.length 6 (.fn (Rv.elemOf [.i64,.i64,.i64,.i64,.i64,.i64] v.S)) .gr true,.dead,.cells [.i .i64 v.st,.i .i64 v.en,.i .i64 v.ta,.i .i64 v.pr,.i .i64 v.ba,.gsl 4 v.S.length 6 true,.gsl 5 v.k 1 true] .ex,SObj.cells [SV.v (Value.int IntKind.i64 (0:Int)),SV.v (Value.int IntKind.i64 (0:Int)),SV.v (Value.int IntKind.i64 (0:Int)),SV.v (Value.int IntKind.i64 (0:Int)),SV.v (Value.int IntKind.i64 (0:Int)),SV.v (Value.slice none ((0:Nat)) ((0:Nat))),SV.v (Value.slice none ((0:Nat)) ((0:Nat)))] Kd.ex,.cells [.i .u64 v.a] .ex],fun B v=>ToJ mx v∧LieAt B [.i64,.i64] v.ys v.L v.k,fun v=>100-v.k,0,[(.last (.c (.t 5) 6) 0,.l [.i64,.i64])]⟩
   | 16=>(match lget ts 8 with | some (SV.i IntKind.i64 ik)=>⟨ToS,fun v=>([some (SV.ptr ((0:Nat)) ((0:Nat))),none,none,none,some (SV.ptr ((1:Nat)) ((0:Nat))),some (SV.ptr ((2:Nat)) ((0:Nat))),none,none,some (.i .i64 ik),some (.gsl 6 v.j 2 true),some (.i .i64 v.j)]++nN 92),fun v=>[.gr v.j 2 (.fn (Rv.elemOf [.i64,.i64] v.R)) .gr true,.gr v.k 1 (.nf (llElem [.i64,.i64] v.ys v.L)) .gr true,.gr v.S.length 6 (.fn (Rv.elemOf [.i64,.i64,.i64,.i64,.i64,.i64] v.S)) .gr true,.dead,.cells [.i .i64 v.st,.i .i64 v.en,.i .i64 v.ta,.i .i64 v.pr,.i .i64 v.ba,.gsl 4 v.S.length 6 true,.gsl 5 v.k 1 true] .ex,SObj.cells [SV.v (Value.int IntKind.i64 (0:Int)),SV.v (Value.int IntKind.i64 (0:Int)),SV.v (Value.int IntKind.i64 (0:Int)),SV.v (Value.int IntKind.i64 (0:Int)),SV.v (Value.int IntKind.i64 (0:Int)),SV.v (Value.slice none ((0:Nat)) ((0:Nat))),SV.v (Value.slice none ((0:Nat)) ((0:Nat)))] Kd.ex,.cells [.i .u64 v.a] .ex],fun B v=>ToK mx v∧ik=v.k∧LieAt B [.i64,.i64] v.ys v.L v.k,fun v=>100-v.j,0,[]⟩ | _=>noAnG)
   | _=>noAnG
  | _=>noAnG
 | _=>noAnG
set_option maxRecDepth 10000 in
def V_TourOf:Prop:=
 ∀(B:RW) (f h:Int),(0:Int)≤h∧h≤(8:Int)→Ob (F_From.pre ([Dat.z f]++[Dat.z (0:Int),Dat.z (400:Int)]))∧Ob (F_From.pre ([Dat.z (belowA f ((400:Int)-(0:Int)+(1:Int)))]++[Dat.z (100:Int),Dat.z (600:Int)]))∧Ob (InR .i64 ((0:Int)+belowV f ((400:Int)-(0:Int)+(1:Int))+((100:Int)+belowV (belowA f ((400:Int)-(0:Int)+(1:Int))) ((600:Int)-(100:Int)+(1:Int)))))∧Ob (F_From.pre ([Dat.z (belowA (belowA f ((400:Int)-(0:Int)+(1:Int))) ((600:Int)-(100:Int)+(1:Int)))]++[Dat.z (20:Int),Dat.z (300:Int)]))∧Ob (F_Of.pre ([Dat.z (belowA (belowA (belowA f ((400:Int)-(0:Int)+(1:Int))) ((600:Int)-(100:Int)+(1:Int))) ((300:Int)-(20:Int)+(1:Int)))]++[Dat.l [[(100000:Int)],[(20:Int)+belowV (belowA (belowA f ((400:Int)-(0:Int)+(1:Int))) ((600:Int)-(100:Int)+(1:Int))) ((300:Int)-(20:Int)+(1:Int))]]]))∧Ob (F_From.pre ([Dat.z (ofA (belowA (belowA (belowA f ((400:Int)-(0:Int)+(1:Int))) ((600:Int)-(100:Int)+(1:Int))) ((300:Int)-(20:Int)+(1:Int))) [[(100000:Int)],[(20:Int)+belowV (belowA (belowA f ((400:Int)-(0:Int)+(1:Int))) ((600:Int)-(100:Int)+(1:Int))) ((300:Int)-(20:Int)+(1:Int))]])]++[Dat.z (0:Int),Dat.z (9:Int)]))∧Ob (F_From.pre ([Dat.z (belowA (ofA (belowA (belowA (belowA f ((400:Int)-(0:Int)+(1:Int))) ((600:Int)-(100:Int)+(1:Int))) ((300:Int)-(20:Int)+(1:Int))) [[(100000:Int)],[(20:Int)+belowV (belowA (belowA f ((400:Int)-(0:Int)+(1:Int))) ((600:Int)-(100:Int)+(1:Int))) ((300:Int)-(20:Int)+(1:Int))]]) ((9:Int)-(0:Int)+(1:Int)))]++[Dat.z (0:Int),Dat.z (60:Int)]))∧Ob (InR .i64 (h+(1:Int)))∧Ob (F_Below.pre ([Dat.z (belowA (belowA (ofA (belowA (belowA (belowA f ((400:Int)-(0:Int)+(1:Int))) ((600:Int)-(100:Int)+(1:Int))) ((300:Int)-(20:Int)+(1:Int))) [[(100000:Int)],[(20:Int)+belowV (belowA (belowA f ((400:Int)-(0:Int)+(1:Int))) ((600:Int)-(100:Int)+(1:Int))) ((300:Int)-(20:Int)+(1:Int))]]) ((9:Int)-(0:Int)+(1:Int))) ((60:Int)-(0:Int)+(1:Int)))]++[Dat.z (h+(1:Int))]))∧(∃(c:ToS),Ob (ToI h c)∧Ob (belowV (belowA (belowA (ofA (belowA (belowA (belowA f ((400:Int)-(0:Int)+(1:Int))) ((600:Int)-(100:Int)+(1:Int))) ((300:Int)-(20:Int)+(1:Int))) [[(100000:Int)],[(20:Int)+belowV (belowA (belowA f ((400:Int)-(0:Int)+(1:Int))) ((600:Int)-(100:Int)+(1:Int))) ((300:Int)-(20:Int)+(1:Int))]]) ((9:Int)-(0:Int)+(1:Int))) ((60:Int)-(0:Int)+(1:Int))) (h+(1:Int))=c.i)∧Ob (c.S.length=(0:Nat))∧Ob ((0:Int)+belowV f ((400:Int)-(0:Int)+(1:Int))=c.st)∧Ob ((0:Int)+belowV f ((400:Int)-(0:Int)+(1:Int))+((100:Int)+belowV (belowA f ((400:Int)-(0:Int)+(1:Int))) ((600:Int)-(100:Int)+(1:Int)))=c.en)∧Ob (ofV (belowA (belowA (belowA f ((400:Int)-(0:Int)+(1:Int))) ((600:Int)-(100:Int)+(1:Int))) ((300:Int)-(20:Int)+(1:Int))) [[(100000:Int)],[(20:Int)+belowV (belowA (belowA f ((400:Int)-(0:Int)+(1:Int))) ((600:Int)-(100:Int)+(1:Int))) ((300:Int)-(20:Int)+(1:Int))]]=c.ta)∧Ob ((0:Int)+belowV (ofA (belowA (belowA (belowA f ((400:Int)-(0:Int)+(1:Int))) ((600:Int)-(100:Int)+(1:Int))) ((300:Int)-(20:Int)+(1:Int))) [[(100000:Int)],[(20:Int)+belowV (belowA (belowA f ((400:Int)-(0:Int)+(1:Int))) ((600:Int)-(100:Int)+(1:Int))) ((300:Int)-(20:Int)+(1:Int))]]) ((9:Int)-(0:Int)+(1:Int))=c.pr)∧Ob ((0:Int)+belowV (belowA (ofA (belowA (belowA (belowA f ((400:Int)-(0:Int)+(1:Int))) ((600:Int)-(100:Int)+(1:Int))) ((300:Int)-(20:Int)+(1:Int))) [[(100000:Int)],[(20:Int)+belowV (belowA (belowA f ((400:Int)-(0:Int)+(1:Int))) ((600:Int)-(100:Int)+(1:Int))) ((300:Int)-(20:Int)+(1:Int))]]) ((9:Int)-(0:Int)+(1:Int))) ((60:Int)-(0:Int)+(1:Int))=c.ba)∧Ob (c.S.length=(0:Nat))∧Ob (SV.v (Value.slice none 0 0)=SV.v (Value.slice none 0 0))∧Ob (Value.int .i64 (0:Int)=Value.int .i64 (0:Int))∧Ob (Value.int .i64 (0:Int)=Value.int .i64 (0:Int))∧Ob (Value.int .i64 (0:Int)=Value.int .i64 (0:Int))∧Ob (Value.int .i64 (0:Int)=Value.int .i64 (0:Int))∧Ob (Value.int .i64 (0:Int)=Value.int .i64 (0:Int))∧Ob (SV.v (Value.slice none 0 0)=SV.v (Value.slice none 0 0))∧Ob (SV.v (Value.slice none 0 0)=SV.v (Value.slice none 0 0))∧Ob (belowA (belowA (belowA (ofA (belowA (belowA (belowA f ((400:Int)-(0:Int)+(1:Int))) ((600:Int)-(100:Int)+(1:Int))) ((300:Int)-(20:Int)+(1:Int))) [[(100000:Int)],[(20:Int)+belowV (belowA (belowA f ((400:Int)-(0:Int)+(1:Int))) ((600:Int)-(100:Int)+(1:Int))) ((300:Int)-(20:Int)+(1:Int))]]) ((9:Int)-(0:Int)+(1:Int))) ((60:Int)-(0:Int)+(1:Int))) (h+(1:Int))=c.a)∧PlA I6 c.S∧True)∧∀(B':RW),Grow B B'→∀(c:ToS),ToI h c→∀(_ _ _ _ _ _ _ _ _ _ _ _ _ _ _ _ _ _ _ _ _ _ _ _ _ _ _ _ _ _ _ _ _ _ _ _ _ _ _ _ _ _ _ _ _ _ _ _ _ _ _ _ _ _ _ _ _ _ _ _ _ _ _ _ _ _ _ _ _ _ _ _ _ _ _ _ _ _ _ _ _ _ _ _ _ _ _ _ _ _ _ _ _ _ _ _ _ _ _:Value),((0:Int) < c.i→Ob (F_From.pre ([Dat.z c.a]++[Dat.z (0:Int),Dat.z (20:Int)]))∧Ob (F_Below.pre ([Dat.z (belowA c.a ((20:Int)-(0:Int)+(1:Int)))]++[Dat.z (3000:Int)]))∧Ob (F_Below.pre ([Dat.z (belowA (belowA c.a ((20:Int)-(0:Int)+(1:Int))) (3000:Int))]++[Dat.z (300:Int)]))∧Ob (F_Of.pre ([Dat.z (belowA (belowA (belowA c.a ((20:Int)-(0:Int)+(1:Int))) (3000:Int)) (300:Int))]++[Dat.l [[belowV (belowA c.a ((20:Int)-(0:Int)+(1:Int))) (3000:Int)],[belowV (belowA (belowA c.a ((20:Int)-(0:Int)+(1:Int))) (3000:Int)) (300:Int)]]]))∧Ob (F_From.pre ([Dat.z (ofA (belowA (belowA (belowA c.a ((20:Int)-(0:Int)+(1:Int))) (3000:Int)) (300:Int)) [[belowV (belowA c.a ((20:Int)-(0:Int)+(1:Int))) (3000:Int)],[belowV (belowA (belowA c.a ((20:Int)-(0:Int)+(1:Int))) (3000:Int)) (300:Int)]])]++[Dat.z (0:Int),Dat.z (60:Int)]))∧Ob (F_Below.pre ([Dat.z (belowA (ofA (belowA (belowA (belowA c.a ((20:Int)-(0:Int)+(1:Int))) (3000:Int)) (300:Int)) [[belowV (belowA c.a ((20:Int)-(0:Int)+(1:Int))) (3000:Int)],[belowV (belowA (belowA c.a ((20:Int)-(0:Int)+(1:Int))) (3000:Int)) (300:Int)]]) ((60:Int)-(0:Int)+(1:Int)))]++[Dat.z (20:Int)]))∧Ob (F_Below.pre ([Dat.z (belowA (belowA (ofA (belowA (belowA (belowA c.a ((20:Int)-(0:Int)+(1:Int))) (3000:Int)) (300:Int)) [[belowV (belowA c.a ((20:Int)-(0:Int)+(1:Int))) (3000:Int)],[belowV (belowA (belowA c.a ((20:Int)-(0:Int)+(1:Int))) (3000:Int)) (300:Int)]]) ((60:Int)-(0:Int)+(1:Int))) (20:Int))]++[Dat.z (700:Int)]))∧Ob (F_Below.pre ([Dat.z (belowA (belowA (belowA (ofA (belowA (belowA (belowA c.a ((20:Int)-(0:Int)+(1:Int))) (3000:Int)) (300:Int)) [[belowV (belowA c.a ((20:Int)-(0:Int)+(1:Int))) (3000:Int)],[belowV (belowA (belowA c.a ((20:Int)-(0:Int)+(1:Int))) (3000:Int)) (300:Int)]]) ((60:Int)-(0:Int)+(1:Int))) (20:Int)) (700:Int))]++[Dat.z (400:Int)]))∧Ob (InR .i64 (belowV (belowA (belowA (ofA (belowA (belowA (belowA c.a ((20:Int)-(0:Int)+(1:Int))) (3000:Int)) (300:Int)) [[belowV (belowA c.a ((20:Int)-(0:Int)+(1:Int))) (3000:Int)],[belowV (belowA (belowA c.a ((20:Int)-(0:Int)+(1:Int))) (3000:Int)) (300:Int)]]) ((60:Int)-(0:Int)+(1:Int))) (20:Int)) (700:Int)+belowV (belowA (belowA (belowA (ofA (belowA (belowA (belowA c.a ((20:Int)-(0:Int)+(1:Int))) (3000:Int)) (300:Int)) [[belowV (belowA c.a ((20:Int)-(0:Int)+(1:Int))) (3000:Int)],[belowV (belowA (belowA c.a ((20:Int)-(0:Int)+(1:Int))) (3000:Int)) (300:Int)]]) ((60:Int)-(0:Int)+(1:Int))) (20:Int)) (700:Int)) (400:Int)))∧Ob (c.S.length=c.S.length∧∀(e:Nat),e < c.S.length→((El.fn (Rv.elemOf I6 c.S)).at e).length=(6:Nat))∧Ob ((c.S.length+(1:Nat))*(2:Nat)*(49:Nat)≤1099511627776)∧Ob (c.S.length=c.S.length)∧Ob (InR .i64 (c.i-(1:Int)))∧∃(b:ToS),Ob (ToI h b∧b.i.toNat < c.i.toNat)∧Ob (c.i-(1:Int)=b.i)∧EqA (c.S.length+(1:Nat)) (List.length b.S) (behind (c.S.length) (El.fn (Rv.elemOf I6 c.S)) 1 (litEl (symL [SV.i .i64 ((0:Int)+belowV c.a ((20:Int)-(0:Int)+(1:Int))),SV.i .i64 (ofV (belowA (belowA (belowA c.a ((20:Int)-(0:Int)+(1:Int))) (3000:Int)) (300:Int)) [[belowV (belowA c.a ((20:Int)-(0:Int)+(1:Int))) (3000:Int)],[belowV (belowA (belowA c.a ((20:Int)-(0:Int)+(1:Int))) (3000:Int)) (300:Int)]]),SV.i .i64 ((0:Int)+belowV (ofA (belowA (belowA (belowA c.a ((20:Int)-(0:Int)+(1:Int))) (3000:Int)) (300:Int)) [[belowV (belowA c.a ((20:Int)-(0:Int)+(1:Int))) (3000:Int)],[belowV (belowA (belowA c.a ((20:Int)-(0:Int)+(1:Int))) (3000:Int)) (300:Int)]]) ((60:Int)-(0:Int)+(1:Int))),SV.i .i64 (belowV (belowA (ofA (belowA (belowA (belowA c.a ((20:Int)-(0:Int)+(1:Int))) (3000:Int)) (300:Int)) [[belowV (belowA c.a ((20:Int)-(0:Int)+(1:Int))) (3000:Int)],[belowV (belowA (belowA c.a ((20:Int)-(0:Int)+(1:Int))) (3000:Int)) (300:Int)]]) ((60:Int)-(0:Int)+(1:Int))) (20:Int)),SV.i .i64 (belowV (belowA (belowA (ofA (belowA (belowA (belowA c.a ((20:Int)-(0:Int)+(1:Int))) (3000:Int)) (300:Int)) [[belowV (belowA c.a ((20:Int)-(0:Int)+(1:Int))) (3000:Int)],[belowV (belowA (belowA c.a ((20:Int)-(0:Int)+(1:Int))) (3000:Int)) (300:Int)]]) ((60:Int)-(0:Int)+(1:Int))) (20:Int)) (700:Int)),SV.i .i64 (min (1440:Int) (belowV (belowA (belowA (ofA (belowA (belowA (belowA c.a ((20:Int)-(0:Int)+(1:Int))) (3000:Int)) (300:Int)) [[belowV (belowA c.a ((20:Int)-(0:Int)+(1:Int))) (3000:Int)],[belowV (belowA (belowA c.a ((20:Int)-(0:Int)+(1:Int))) (3000:Int)) (300:Int)]]) ((60:Int)-(0:Int)+(1:Int))) (20:Int)) (700:Int)+belowV (belowA (belowA (belowA (ofA (belowA (belowA (belowA c.a ((20:Int)-(0:Int)+(1:Int))) (3000:Int)) (300:Int)) [[belowV (belowA c.a ((20:Int)-(0:Int)+(1:Int))) (3000:Int)],[belowV (belowA (belowA c.a ((20:Int)-(0:Int)+(1:Int))) (3000:Int)) (300:Int)]]) ((60:Int)-(0:Int)+(1:Int))) (20:Int)) (700:Int)) (400:Int)))]) 6 1)) (El.fn (Rv.elemOf I6 b.S))∧Ob (c.st=b.st)∧Ob (c.en=b.en)∧Ob (c.ta=b.ta)∧Ob (c.pr=b.pr)∧Ob (c.ba=b.ba)∧Ob (c.S.length+(1:Nat)=List.length b.S)∧Ob (SV.v (Value.slice none 0 0)=SV.v (Value.slice none 0 0))∧Ob (Value.int .i64 (0:Int)=Value.int .i64 (0:Int))∧Ob (Value.int .i64 (0:Int)=Value.int .i64 (0:Int))∧Ob (Value.int .i64 (0:Int)=Value.int .i64 (0:Int))∧Ob (Value.int .i64 (0:Int)=Value.int .i64 (0:Int))∧Ob (Value.int .i64 (0:Int)=Value.int .i64 (0:Int))∧Ob (SV.v (Value.slice none 0 0)=SV.v (Value.slice none 0 0))∧Ob (SV.v (Value.slice none 0 0)=SV.v (Value.slice none 0 0))∧Ob (belowA (belowA (belowA (belowA (ofA (belowA (belowA (belowA c.a ((20:Int)-(0:Int)+(1:Int))) (3000:Int)) (300:Int)) [[belowV (belowA c.a ((20:Int)-(0:Int)+(1:Int))) (3000:Int)],[belowV (belowA (belowA c.a ((20:Int)-(0:Int)+(1:Int))) (3000:Int)) (300:Int)]]) ((60:Int)-(0:Int)+(1:Int))) (20:Int)) (700:Int)) (400:Int)=b.a)∧PlA I6 b.S∧True)∧(¬(0:Int) < c.i→(∃(d:ToS),Ob (ToJ h d∧LieAt B' I2 d.ys d.L d.k)∧Ob ((0:Int)=(↑d.k:Int))∧Ob (d.k=(0:Nat))∧EqR I6 c.S d.S∧Ob (c.st=d.st)∧Ob (c.en=d.en)∧Ob (c.ta=d.ta)∧Ob (c.pr=d.pr)∧Ob (c.ba=d.ba)∧Ob (c.S.length=d.S.length)∧Ob (d.k=(0:Nat))∧Ob (Value.int .i64 (0:Int)=Value.int .i64 (0:Int))∧Ob (Value.int .i64 (0:Int)=Value.int .i64 (0:Int))∧Ob (Value.int .i64 (0:Int)=Value.int .i64 (0:Int))∧Ob (Value.int .i64 (0:Int)=Value.int .i64 (0:Int))∧Ob (Value.int .i64 (0:Int)=Value.int .i64 (0:Int))∧Ob (SV.v (Value.slice none 0 0)=SV.v (Value.slice none 0 0))∧Ob (SV.v (Value.slice none 0 0)=SV.v (Value.slice none 0 0))∧Ob (c.a=d.a)∧Ob (NamE B' d.k (llElem I2 d.ys d.L))∧PlA I6 d.S∧True)∧∀(B'_1:RW),Grow B' B'_1→∀(d:ToS),ToJ h d∧LieAt B'_1 I2 d.ys d.L d.k→∀(_ _ _ _ _ _ _ _ _ _ _ _ _ _ _ _ _ _ _ _ _ _ _ _ _ _ _ _ _ _ _ _ _ _ _ _ _ _ _ _ _ _ _ _ _ _ _ _ _ _ _ _ _ _ _ _ _ _ _ _ _ _ _ _ _ _ _ _ _ _ _ _ _ _ _ _ _ _ _ _ _ _ _ _ _ _ _ _ _ _ _ _ _ _ _ _ _ _ _:Value),((↑d.k:Int)≤(↑(d.S.length):Int)→(∃(a:ToS),Ob (ToK h a∧(↑d.k:Int)=(↑a.k:Int)∧LieAt B'_1 I2 a.ys a.L a.k)∧Ob ((↑d.k:Int)=(↑d.k:Int))∧Ob (a.j=(0:Nat))∧Ob ((0:Int)=(↑a.j:Int))∧Ob (a.j=(0:Nat))∧EqA d.k a.k (El.nf (llElem I2 d.ys d.L)) (El.nf (llElem I2 a.ys a.L))∧EqR I6 d.S a.S∧Ob (d.st=a.st)∧Ob (d.en=a.en)∧Ob (d.ta=a.ta)∧Ob (d.pr=a.pr)∧Ob (d.ba=a.ba)∧Ob (d.S.length=a.S.length)∧Ob (d.k=a.k)∧Ob (Value.int .i64 (0:Int)=Value.int .i64 (0:Int))∧Ob (Value.int .i64 (0:Int)=Value.int .i64 (0:Int))∧Ob (Value.int .i64 (0:Int)=Value.int .i64 (0:Int))∧Ob (Value.int .i64 (0:Int)=Value.int .i64 (0:Int))∧Ob (Value.int .i64 (0:Int)=Value.int .i64 (0:Int))∧Ob (SV.v (Value.slice none 0 0)=SV.v (Value.slice none 0 0))∧Ob (SV.v (Value.slice none 0 0)=SV.v (Value.slice none 0 0))∧Ob (d.a=a.a)∧Ob (PlainE a.j (El.fn (Rv.elemOf I2 a.R)))∧Ob (NamE B'_1 a.k (llElem I2 a.ys a.L))∧PlA I6 a.S∧True)∧∀(B'_2:RW),Grow B'_1 B'_2→∀(a:ToS),ToK h a∧(↑d.k:Int)=(↑a.k:Int)∧LieAt B'_2 I2 a.ys a.L a.k→∀(_ _ _ _ _ _ _ _ _ _ _ _ _ _ _ _ _ _ _ _ _ _ _ _ _ _ _ _ _ _ _ _ _ _ _ _ _ _ _ _ _ _ _ _ _ _ _ _ _ _ _ _ _ _ _ _ _ _ _ _ _ _ _ _ _ _ _ _ _ _ _ _ _ _ _ _ _ _ _ _ _ _ _ _ _ _ _ _ _ _ _ _ _ _ _ _ _:Value),((↑a.j:Int)≤(↑(a.S.length):Int)→(¬(↑d.k:Int)=(↑a.j:Int)→Ob (F_From.pre ([Dat.z a.a]++[Dat.z (0:Int),Dat.z (60:Int)]))∧Ob (F_From.pre ([Dat.z (belowA a.a ((60:Int)-(0:Int)+(1:Int)))]++[Dat.z (0:Int),Dat.z (40:Int)]))∧Ob (a.j=a.j∧∀(e:Nat),e < a.j→((El.fn (Rv.elemOf I2 a.R)).at e).length=(2:Nat))∧Ob ((a.j+(1:Nat))*(2:Nat)*(17:Nat)≤1099511627776)∧Ob (a.j=a.j)∧Ob (InR .i64 ((↑a.j:Int)+(1:Int)))∧∃(b:ToS),Ob ((ToK h b∧(↑d.k:Int)=(↑b.k:Int)∧LieAt B'_2 I2 b.ys b.L b.k)∧(100:Nat)-b.j < 100-a.j)∧Ob ((↑d.k:Int)=(↑d.k:Int))∧Ob (a.j+(1:Nat)=b.j)∧Ob ((↑a.j:Int)+(1:Int)=(↑b.j:Int))∧EqA (a.j+(1:Nat)) b.j (behind a.j (El.fn (Rv.elemOf I2 a.R)) 1 (litEl (symL [SV.i .i64 ((0:Int)+belowV a.a ((60:Int)-(0:Int)+(1:Int))),SV.i .i64 ((0:Int)+belowV (belowA a.a ((60:Int)-(0:Int)+(1:Int))) ((40:Int)-(0:Int)+(1:Int)))]) 2 1)) (El.fn (Rv.elemOf I2 b.R))∧EqA a.k b.k (El.nf (llElem I2 a.ys a.L)) (El.nf (llElem I2 b.ys b.L))∧EqR I6 a.S b.S∧Ob (a.st=b.st)∧Ob (a.en=b.en)∧Ob (a.ta=b.ta)∧Ob (a.pr=b.pr)∧Ob (a.ba=b.ba)∧Ob (a.S.length=List.length b.S)∧Ob (a.k=b.k)∧Ob (Value.int .i64 (0:Int)=Value.int .i64 (0:Int))∧Ob (Value.int .i64 (0:Int)=Value.int .i64 (0:Int))∧Ob (Value.int .i64 (0:Int)=Value.int .i64 (0:Int))∧Ob (Value.int .i64 (0:Int)=Value.int .i64 (0:Int))∧Ob (Value.int .i64 (0:Int)=Value.int .i64 (0:Int))∧Ob (SV.v (Value.slice none 0 0)=SV.v (Value.slice none 0 0))∧Ob (SV.v (Value.slice none 0 0)=SV.v (Value.slice none 0 0))∧Ob (belowA (belowA a.a ((60:Int)-(0:Int)+(1:Int))) ((40:Int)-(0:Int)+(1:Int))=b.a)∧Ob (PlainE b.j (El.fn (Rv.elemOf I2 b.R)))∧Ob (NamE B'_2 b.k (llElem I2 b.ys b.L))∧PlA I6 b.S∧True)∧(¬¬(↑d.k:Int)=(↑a.j:Int)→Ob (a.j=a.j∧∀(e:Nat),e < a.j→((El.fn (Rv.elemOf I2 a.R)).at e).length=(2:Nat))∧Ob ((a.j+(1:Nat))*(2:Nat)*(17:Nat)≤1099511627776)∧Ob (a.j=a.j)∧Ob (InR .i64 ((↑a.j:Int)+(1:Int)))∧∃(b:ToS),Ob ((ToK h b∧(↑d.k:Int)=(↑b.k:Int)∧LieAt B'_2 I2 b.ys b.L b.k)∧(100:Nat)-b.j < 100-a.j)∧Ob ((↑d.k:Int)=(↑d.k:Int))∧Ob (a.j+(1:Nat)=b.j)∧Ob ((↑a.j:Int)+(1:Int)=(↑b.j:Int))∧EqA (a.j+(1:Nat)) b.j (behind a.j (El.fn (Rv.elemOf I2 a.R)) 1 (litEl (symL [SV.v (Value.int .i64 (0:Int)),SV.v (Value.int .i64 (0:Int))]) 2 1)) (El.fn (Rv.elemOf I2 b.R))∧EqA a.k b.k (El.nf (llElem I2 a.ys a.L)) (El.nf (llElem I2 b.ys b.L))∧EqR I6 a.S b.S∧Ob (a.st=b.st)∧Ob (a.en=b.en)∧Ob (a.ta=b.ta)∧Ob (a.pr=b.pr)∧Ob (a.ba=b.ba)∧Ob (a.S.length=List.length b.S)∧Ob (a.k=b.k)∧Ob (Value.int .i64 (0:Int)=Value.int .i64 (0:Int))∧Ob (Value.int .i64 (0:Int)=Value.int .i64 (0:Int))∧Ob (Value.int .i64 (0:Int)=Value.int .i64 (0:Int))∧Ob (Value.int .i64 (0:Int)=Value.int .i64 (0:Int))∧Ob (Value.int .i64 (0:Int)=Value.int .i64 (0:Int))∧Ob (SV.v (Value.slice none 0 0)=SV.v (Value.slice none 0 0))∧Ob (SV.v (Value.slice none 0 0)=SV.v (Value.slice none 0 0))∧Ob (a.a=b.a)∧Ob (PlainE b.j (El.fn (Rv.elemOf I2 b.R)))∧Ob (NamE B'_2 b.k (llElem I2 b.ys b.L))∧PlA I6 b.S∧True))∧(¬(↑a.j:Int)≤(↑(a.S.length):Int)→Ob (a.k=a.k∧∀(e:Nat),e < a.k→((El.nf (llElem I2 a.ys a.L)).at e).length=(1:Nat))∧Ob ((a.k+(1:Nat))*(2:Nat)*(25:Nat)≤1099511627776)∧Ob (a.k=a.k)∧Ob (InR .i64 ((↑d.k:Int)+(1:Int)))∧RwA a.j a.j 2 I2 ((El.fn (Rv.elemOf I2 a.R)).at) fun g=>∀(B'_3:RW),Grow B'_2 B'_3→∀(i:RV),IsLst B'_3 i g.length 2 (Rv.elemOf I2 g)→oneB i=true→Ob (a.j=a.j)∧Ob (a.j=a.j)∧Ob (NamE B'_2 a.k (llElem I2 a.ys a.L))∧Ob (a.j=a.j)∧Ob (a.j=a.j)∧PlA I6 a.S∧∃(b:ToS),Ob ((ToJ h b∧LieAt B'_3 I2 b.ys b.L b.k)∧(100:Nat)-b.k < 100-d.k)∧Ob ((↑d.k:Int)+(1:Int)=(↑b.k:Int))∧EqA (a.k+(1:Nat)) b.k ((El.nf (llElem I2 a.ys a.L)).snoc a.k [SV.lst i g.length 2 (Rv.elemOf I2 g)]) (El.nf (llElem I2 b.ys b.L))∧EqR I6 a.S b.S∧Ob (a.st=b.st)∧Ob (a.en=b.en)∧Ob (a.ta=b.ta)∧Ob (a.pr=b.pr)∧Ob (a.ba=b.ba)∧Ob (a.S.length=List.length b.S)∧Ob (a.k+(1:Nat)=b.k)∧Ob (Value.int .i64 (0:Int)=Value.int .i64 (0:Int))∧Ob (Value.int .i64 (0:Int)=Value.int .i64 (0:Int))∧Ob (Value.int .i64 (0:Int)=Value.int .i64 (0:Int))∧Ob (Value.int .i64 (0:Int)=Value.int .i64 (0:Int))∧Ob (Value.int .i64 (0:Int)=Value.int .i64 (0:Int))∧Ob (SV.v (Value.slice none 0 0)=SV.v (Value.slice none 0 0))∧Ob (SV.v (Value.slice none 0 0)=SV.v (Value.slice none 0 0))∧Ob (a.a=b.a)∧Ob (NamE B'_3 b.k (llElem I2 b.ys b.L))∧PlA I6 b.S∧True))∧(¬(↑d.k:Int)≤(↑(d.S.length):Int)→RwE 6 I6 d.S fun g=>∀(B'_2:RW),Grow B'_1 B'_2→∀(i:RV),IsLst B'_2 i g.length 6 (Rv.elemOf I6 g)→oneB i=true→Ob (d.S.length=d.S.length)∧Ob (NamE B'_1 d.k (llElem I2 d.ys d.L))∧Ob (d.S.length=d.S.length)∧Ob (d.S.length=d.S.length)∧∃(R:List (List (List Int))),∃(ys:Nat→RV),Ob (d.k=d.k∧R.length=d.k∧(∀(e:Nat),e < d.k→(El.nf (llElem I2 d.ys d.L)).at e=llElem I2 ys R e)∧∀(e:Nat),e < d.k→IsLst B'_2 (ys e) (R.getD e []).length 2 (Rv.elemOf I2 (R.getD e []))∧oneB (ys e)=true∧∀(l:List Int),l∈R.getD e []→l.length=(2:Nat))∧∀(B'_3:RW),Grow B'_2 B'_3→∀(k:RV),IsLL B'_3 I2 k ys R→oneB k=true→Ob (IsLst B'_2 i g.length 6 (Rv.elemOf I6 g))∧Ob (d.k=d.k)∧Ob (IsLst B'_2 i g.length 6 (Rv.elemOf I6 g))∧Ob (d.k=d.k)∧Ob (IsLst B'_2 i g.length 6 (Rv.elemOf I6 g))∧Ob (d.k=d.k)∧∃(j:List (List Int)),Ob (IsLst B'_3 i g.length 6 (Rv.elemOf I6 g)∧j.length=g.length∧(∀r∈j,r.length=6)∧∀(e:Nat),e < g.length→Rv.elemOf I6 g e=Rv.elemOf I6 j e)∧∃(R_1:List (List (List Int))),∃(ys_1:Nat→RV),Ob (R_1.length=R.length∧(∀(e:Nat),e < R.length→llElem I2 ys R e=llElem I2 ys_1 R_1 e)∧IsLL B'_3 I2 k ys_1 R_1)∧Ob (((0:Int)≤d.st∧d.st≤d.en)∧TourOk h.toNat d.en d.ta d.pr d.ba j R_1)))
set_option linter.unusedSimpArgs false in
set_option maxRecDepth 4000 in
set_option maxHeartbeats 2000000 in
theorem v_TourOf:V_TourOf:=by
 unfold V_TourOf EqA EqR I2 I6 PlA RwA RwE
 intro B a mx h
 simp only [Ob_iff,and_true,true_and,implies_true,F_From,F_Below,F_Of,List.cons_append,List.nil_append]
 have e1:=belowV_in a (400-0+1)
 generalize belowV a (400-0+1)=b1 at *
 generalize belowA a (400-0+1)=a1 at *
 have e2:=belowV_in a1 (600-100+1)
 generalize belowV a1 (600-100+1)=b2 at *
 generalize belowA a1 (600-100+1)=a2 at *
 have e3:=belowV_in a2 (300-20+1)
 generalize belowV a2 (300-20+1)=b3 at *
 generalize belowA a2 (300-20+1)=a3 at *
 have e4:=ofV_two a3 100000 (20+b3)
 generalize ofV a3 [[100000],[20+b3]]=b4 at *
 generalize ofA a3 [[100000],[20+b3]]=a4 at *
 have e5:=belowV_in a4 (9-0+1)
 generalize belowV a4 (9-0+1)=b5 at *
 generalize belowA a4 (9-0+1)=a5 at *
 have e6:=belowV_in a5 (60-0+1)
 generalize belowV a5 (60-0+1)=b6 at *
 generalize belowA a5 (60-0+1)=a6 at *
 have e7:=belowV_in a6 (mx+1)
 generalize belowV a6 (mx+1)=b7 at *
 generalize belowA a6 (mx+1)=a7 at *
 refine⟨by omega,by omega,by simp only [InR]; omega,by omega,(show(2:Nat)≤1000 by decide),by omega,by omega,by simp only [InR]; omega,by omega,⟨⟨b7,a7,0+b1,0+b1+(100+b2),b4,0+b5,0+b6,[],0,fun _=>.v undef,[],0,[]⟩,⟨by simp only; omega,by simp only; omega,by simp only; omega,by simp only; omega,by simp only; omega,by simp only [List.length]; omega,⟨fun r hr=>by simp at hr,fun i hi=>absurd hi (Nat.not_lt_zero i)⟩⟩,rfl,rfl,rfl,rfl,rfl,rfl,rfl,rfl,rfl,plain_elemOf _ _ _⟩,?_⟩
 clear e1 e2 e3 e4 e5 e6 e7
 intro B1 g1 v hv
 intros
 have hi:=hv.i
 refine⟨fun hlt=>?_,fun hge=>?_⟩
 ·have e1:=belowV_in v.a (20-0+1)
  generalize belowV v.a (20-0+1)=b1 at *
  generalize belowA v.a (20-0+1)=a1 at *
  have e2:=belowV_in a1 3000
  generalize belowV a1 3000=b2 at *
  generalize belowA a1 3000=a2 at *
  have e3:=belowV_in a2 300
  generalize belowV a2 300=b3 at *
  generalize belowA a2 300=a3 at *
  have e4:=ofV_two a3 b2 b3
  generalize ofV a3 [[b2],[b3]]=b4 at *
  generalize ofA a3 [[b2],[b3]]=a4 at *
  have e5:=belowV_in a4 (60-0+1)
  generalize belowV a4 (60-0+1)=b5 at *
  generalize belowA a4 (60-0+1)=a5 at *
  have e6:=belowV_in a5 20
  generalize belowV a5 20=b6 at *
  generalize belowA a5 20=a6 at *
  have e7:=belowV_in a6 700
  generalize belowV a6 700=b7 at *
  generalize belowA a6 700=a7 at *
  have e8:=belowV_in a7 400
  generalize belowV a7 400=b8 at *
  generalize belowA a7 400=a8 at *
  have hl1:(v.S++[[0+b1,b4,0+b5,b6,b7,min 1440 (b7+b8)]]).length=v.S.length+1:=by simp
  refine⟨by omega,by omega,by omega,(show(2:Nat)≤1000 by decide),by omega,by omega,by omega,by omega,by simp only [InR]; omega,fun i hi=>rfl,by omega,by simp only [InR]; omega,⟨v.i-1,a8,v.st,v.en,v.ta,v.pr,v.ba,v.S++[[0+b1,b4,0+b5,b6,b7,min 1440 (b7+b8)]],0,v.ys,[],0,[]⟩,hv.next hlt a8 (by omega) (by omega) (by omega) (by omega) (by omega),rfl,⟨hl1.symm,fun i hi=>snoc6 i (by rw [← hl1]; exact hi)⟩,rfl,rfl,rfl,rfl,rfl,hl1.symm,rfl,plain_elemOf _ _ _⟩
 ·refine⟨⟨⟨v.i,v.a,v.st,v.en,v.ta,v.pr,v.ba,v.S,0,fun _=>.v undef,[],0,[]⟩,⟨⟨⟨hv.st,hv.en,hv.ta,hv.pr,hv.ba,hv.i,hv.s⟩,Nat.zero_le _,rfl,⟨fun i r hr=>by simp at hr,fun i hi=>absurd hi (Nat.not_lt_zero i),fun i hi=>absurd hi (Nat.not_lt_zero i)⟩⟩,LieAt.zero _ _ _ _⟩,rfl,rfl,⟨rfl,fun i hi=>rfl⟩,rfl,rfl,rfl,rfl,rfl,rfl,rfl,rfl,(LieAt.zero _ _ _ _).nam,plain_elemOf _ _ _⟩,?_⟩
  intro B2 g2 u hu
  obtain⟨hu,hl⟩:=hu
  intros
  have hi:=hu.i
  have hk:=hu.k
  have hm:=hu.m
  refine⟨fun hkl=>?_,fun hkg=>?_⟩
  ·refine⟨⟨⟨u.i,u.a,u.st,u.en,u.ta,u.pr,u.ba,u.S,u.k,u.ys,u.L,0,[]⟩,⟨⟨⟨⟨hu.st,hu.en,hu.ta,hu.pr,hu.ba,hu.i,hu.s⟩,hu.k,hu.m,hu.l⟩,(show u.k < u.S.length+1 by omega),Nat.zero_le _,rfl,fun r hr=>by simp at hr,fun j hj=>absurd hj (Nat.not_lt_zero j)⟩,rfl,hl⟩,rfl,rfl,rfl,⟨rfl,fun i hi=>rfl⟩,⟨rfl,fun i hi=>rfl⟩,rfl,rfl,rfl,rfl,rfl,rfl,rfl,rfl,plain_elemOf _ _ _,hl.nam,plain_elemOf _ _ _⟩,?_⟩
   intro B3 g3 w hw
   obtain⟨hw,hkw,hlw⟩:=hw
   intros
   have hkw:u.k=w.k:=by omega
   have hi:=hw.i
   have hk:=hw.k
   have hk1:=hw.k1
   have hj:=hw.j
   refine⟨fun hjl=>?_,fun hjg=>?_⟩
   ·have hjn:w.j < w.S.length+1:=by omega
    have hb:(w.j+1)*2*17≤1099511627776:=by omega
    have hI:InR .i64 ((w.j:Int)+1):=by simp only [InR]; omega
    have hmu:100-(w.j+1) < 100-w.j:=by omega
    refine⟨fun hne=>?_,fun heq=>?_⟩
    ·have e1:=belowV_in w.a (60-0+1)
     generalize belowV w.a (60-0+1)=b1 at *
     generalize belowA w.a (60-0+1)=a1 at *
     have e2:=belowV_in a1 (40-0+1)
     generalize belowV a1 (40-0+1)=b2 at *
     generalize belowA a1 (40-0+1)=a2 at *
     exact⟨by omega,by omega,fun i hi=>rfl,hb,hI,⟨w.i,a2,w.st,w.en,w.ta,w.pr,w.ba,w.S,w.k,w.ys,w.L,w.j+1,w.R++[[0+b1,0+b2]]⟩,⟨⟨hw.next hjn a2 (by omega),by rw [hkw],hlw⟩,hmu⟩,rfl,rfl,⟨rfl,snoc2 hw.r⟩,⟨rfl,fun i hi=>rfl⟩,⟨rfl,fun i hi=>rfl⟩,rfl,rfl,rfl,rfl,rfl,rfl,rfl,rfl,plain_elemOf _ _ _,hlw.nam,plain_elemOf _ _ _⟩
    ·exact⟨fun i hi=>rfl,hb,hI,⟨w.i,w.a,w.st,w.en,w.ta,w.pr,w.ba,w.S,w.k,w.ys,w.L,w.j+1,w.R++[[0,0]]⟩,⟨⟨hw.next hjn w.a (by omega),by rw [hkw],hlw⟩,hmu⟩,rfl,rfl,⟨rfl,snoc2 hw.r⟩,⟨rfl,fun i hi=>rfl⟩,⟨rfl,fun i hi=>rfl⟩,rfl,rfl,rfl,rfl,rfl,rfl,rfl,rfl,plain_elemOf _ _ _,hlw.nam,plain_elemOf _ _ _⟩
   ·have hb:(w.k+1)*2*25≤1099511627776:=by omega
    refine⟨fun i hi=>rfl,hb,by simp only [InR]; omega,w.R,⟨hw.r,hw.row,fun i hi=>rfl⟩,?_⟩
    intro B4 g4 x hx ho
    have hln:LieAt B4 [.i64,.i64] w.ys w.L w.L.length:=by rw [hw.m]; exact hlw.up g4
    have hx':IsLst B4 x w.R.length ([IntKind.i64,IntKind.i64]:List IntKind).length (Rv.elemOf [.i64,.i64] w.R):=hx
    have hsn:=hln.snoc hx' ho
    rw [hw.m]at hsn
    have hll:=ll_snoc2 (ks:=[IntKind.i64,IntKind.i64]) (ys:=w.ys) (R:=w.L) (sz:=2) (x:=x) (rows:=w.R) rfl
    rw [hw.m]at hll
    refine⟨hlw.nam,plain_elemOf _ _ _,⟨w.i,w.a,w.st,w.en,w.ta,w.pr,w.ba,w.S,w.k+1,setY w.ys w.k x,w.L++[w.R],0,[]⟩,⟨⟨hw.done (by omega) _,hsn⟩,by simp only; omega⟩,by simp only; omega,⟨rfl,hll⟩,⟨rfl,fun i hi=>rfl⟩,rfl,rfl,rfl,rfl,rfl,rfl,rfl,rfl,hsn.nam,plain_elemOf _ _ _⟩
  ·refine⟨u.S,⟨rfl,hu.s.row,fun i hi=>rfl⟩,?_⟩
   intro B3 g3 x hx ho
   refine⟨hl.nam,u.L,u.ys,⟨hm,fun i hi=>rfl,fun i hi=>⟨((hl.up g3) i hi).1,((hl.up g3) i hi).2,hu.l.row i⟩⟩,?_⟩
   intro B4 g4 x1 hx1 ho1
   refine⟨hx,hx,hx,u.S,⟨hx.up g4,rfl,hu.s.row,fun i hi=>rfl⟩,u.L,u.ys,⟨rfl,fun i hi=>rfl,hx1⟩,hu.st,hu.en,hu.ta,hu.pr,hu.ba,?_,hu.s,by omega,hu.l⟩
   omega
theorem e_TourOf:V_TourOf=needG P [] [F_Below,F_From,F_Of] [] A_TourOf F_TourOf:=by kernel_rfl
theorem n_TourOf:Ob (needG P [] [F_Below,F_From,F_Of] [] A_TourOf F_TourOf):=by
 rw [← e_TourOf]
 exact⟨v_TourOf⟩
theorem b_TourOf:((P.funcs[4]?).any fun fn=>fn.body.isSome)=true:=by kernel_rfl
theorem TourOf_ok:FnG.Ok P F_TourOf:=FnG.ok named (l:=[]) (es:=[F_Below,F_From,F_Of]) (gs:=[]) (A:=A_TourOf) (by rfl) (by rfl) (by rfl) (by
 intro F h; simp at h) (by
 intro F h
 simp only [List.mem_cons,List.not_mem_nil,or_false]at h
 rcases h with rfl | rfl | rfl
 ·exact Below_ok
 ·exact From_ok
 ·exact Of_ok
) (by
 intro F h; simp at h) b_TourOf rfl n_TourOf
end Go.Proofs.Ytkdehhcadhainaa.Sy
