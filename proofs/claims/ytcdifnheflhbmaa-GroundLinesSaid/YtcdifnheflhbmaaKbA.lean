import Derived.Test.YtcdifnheflhbmaaSyP4
import Derived.Test.YtcdifnheflhbmaaGrM
import Derived.Test.YtcdifnheflhbmaaStM
import Derived.Test.YtcdifnheflhbmaaKtT
import Derived.Test.YtcdifnheflhbmaaSyP2
import Derived.Test.YtcdifnheflhbmaaSyP4
import Derived.KernelRfl
import Derived.Test.YtcdifnheflhbmaaProg
namespace Go.Proofs.Ytcdifnheflhbmaa.Sy
open Go Go.Rv
set_option linter.unusedVariables false
def lnX (L:List Rows) (i y:Nat):Int:=cell (L.getD i []) y 0
def lnPrev (L:List Rows) (i y:Nat):Int:=if i=0 then 0 else lnX L (i-1) y
structure LinesOk (W:Int) (D:Nat) (L:List Rows):Prop where
 len:∀i,i < L.length→(L.getD i []).length=D
 row:∀i,∀r∈L.getD i [],r.length=1
 at_:∀i,i < L.length→∀y,y < D→lnPrev L i y≤lnX L i y∧lnX L i y≤W
structure CustOk (W D G:Int) (C:Rows):Prop where
 len:C.length≤6
 row:∀r∈C,r.length=6
 at_:∀i,i < C.length→0≤cell C i 0∧cell C i 0 < G-1∧0≤cell C i 1∧cell C i 1≤cell C i 2∧cell C i 2 < D∧0≤cell C i 3∧cell C i 3≤cell C i 4∧cell C i 4 < 365∧-W≤cell C i 5∧cell C i 5≤W
structure BayOk (wd dp gn W D G:Int) (L:List Rows) (C:Rows):Prop where
 w:1≤W∧W≤wd
 d:1≤D∧D≤dp
 g:1≤G∧G≤gn
 n:(L.length:Int)=G-1
 l:LinesOk W D.toNat L
 c:CustOk W D G C
structure BaS where
 k:Nat
 a:Int
 W:Int
 D:Int
 G:Int
 ys:Nat→RV
 L:List Rows
 j:Nat
 R:Rows
structure BaI (wd dp gn:Int) (v:BaS):Prop where
 w:1≤v.W∧v.W≤wd
 d:1≤v.D∧v.D≤dp
 g:1≤v.G∧v.G≤gn
 k:v.k≤40∧(v.k:Int)≤v.G-1
 n:v.L.length=v.k
 l:LinesOk v.W v.D.toNat v.L
structure BaJ (wd dp gn:Int) (v:BaS):Prop extends BaI wd dp gn v where
 j:v.j≤v.D.toNat
 r:v.R.length=v.j
 k1:(v.k:Int) < v.G-1
 row:∀r∈v.R,r.length=1
 at_:∀y,y < v.j→(if v.k=0 then 0 else lnX v.L (v.k-1) y)≤cell v.R y 0∧cell v.R y 0≤v.W
structure BaT where
 i:Int
 a:Int
 W:Int
 D:Int
 G:Int
 m:Nat
 ys:Nat→RV
 L:List Rows
 C:Rows
structure BaE (wd dp gn:Int) (v:BaT):Prop where
 w:1≤v.W∧v.W≤wd
 d:1≤v.D∧v.D≤dp
 g:1≤v.G∧v.G≤gn
 m:(v.m:Int)=v.G-1
 n:v.L.length=v.m
 l:LinesOk v.W v.D.toNat v.L
 i:0≤v.i∧(v.C.length:Int)+v.i≤6
 c:CustOk v.W v.D v.G v.C
theorem LinesOk.nn {W:Int} {D:Nat} {L:List Rows} (h:LinesOk W D L):∀i,i < L.length→∀y,y < D→0≤lnX L i y
 | 0,hi,y,hy=>by
  have h1:=(h.at_ 0 hi y hy).1
  simp only [lnPrev,if_true]at h1
  exact h1
 | i+1,hi,y,hy=>by
  have h1:=(h.at_ (i+1) hi y hy).1
  have h2:=LinesOk.nn h i (by omega) y hy
  simp only [lnPrev,if_neg (show ¬ i+1=0 by omega),Nat.add_sub_cancel]at h1
  omega
def lnLow (v:BaS):Int:=if v.k=0 then 0 else lnX v.L (v.k-1) v.j
theorem BaJ.low {wd dp gn:Int} {v:BaS} (h:BaJ wd dp gn v) (hj:v.j < v.D.toNat):0≤lnLow v∧lnLow v≤v.W:=by
 have hw:=h.w
 unfold lnLow
 by_cases h0:v.k=0
 ·rw [if_pos h0]; omega
 ·rw [if_neg h0]
  have hn:=h.n
  have hi:v.k-1 < v.L.length:=by omega
  exact⟨h.l.nn _ hi _ hj,(h.l.at_ _ hi _ hj).2⟩
theorem lnO_in {W p:Int} (a:Int) (hp:0≤p∧p≤W):p≤ofV a [[W],[min W (p+4)]]∧ofV a [[W],[min W (p+4)]]≤W:=by
 have h1:=ofV_two a W (min W (p+4))
 generalize ofV a [[W],[min W (p+4)]]=o at *
 omega
theorem lnO_bd {W p o:Int} (hp:0≤p∧p≤W) (hW:W≤40) (ho:p≤o∧o≤W):-1000000000000≤p∧p≤1000000000000∧-1000000000000≤o∧o≤1000000000000:=by omega
theorem lnQ_in {W p o:Int} (b:Int) (ho:p≤o∧o≤W):p≤p+belowV b (o-p+1)∧p+belowV b (o-p+1)≤W:=by
 have h2:=belowV_in b (o-p+1)
 generalize belowV b (o-p+1)=c at *
 omega
theorem ofV_20 (a:Int):20≤ofV a [[20],[364]]∧ofV a [[20],[364]]≤364:=by
 have h1:=ofV_two a 20 364
 generalize ofV a [[20],[364]]=o at *
 omega
theorem belowG {G:Int} (a:Int) (h:1 < G):0≤belowV a (G-1)∧belowV a (G-1) < G-1:=by
 have h2:=belowV_in a (G-1)
 generalize belowV a (G-1)=c at *
 omega
theorem fromW {W:Int} (a:Int) (h:1≤W):-W≤0-W+belowV a (W-(0-W)+1)∧0-W+belowV a (W-(0-W)+1)≤W:=by
 have h2:=belowV_in a (W-(0-W)+1)
 generalize belowV a (W-(0-W)+1)=c at *
 omega
theorem spanDD {D:Int} (a:Int) (h:1≤D):0≤spanLo a 0 (D-1)∧spanLo a 0 (D-1)≤spanHi a 0 (D-1)∧spanHi a 0 (D-1) < D:=by
 have h1:=spanLo_in a (lo:=0) (hi:=D-1) (by omega)
 have h2:=spanHi_in a (lo:=0) (hi:=D-1) (by omega)
 generalize spanLo a 0 (D-1)=p at *
 generalize spanHi a 0 (D-1)=q at *
 omega
theorem spanYY {o:Int} (a:Int) (h:20≤o∧o≤364):0≤spanLo a 0 o∧spanLo a 0 o≤spanHi a 0 o∧spanHi a 0 o < 365:=by
 have h1:=spanLo_in a (lo:=0) (hi:=o) (by omega)
 have h2:=spanHi_in a (lo:=0) (hi:=o) (by omega)
 generalize spanLo a 0 o=p at *
 generalize spanHi a 0 o=q at *
 omega
theorem o20_bd {o:Int} (h:20≤o∧o≤364):-1000000000≤(0:Int)∧(0:Int)≤1000000000∧-1000000000≤o∧o≤1000000000:=by omega
theorem getD_appB {α:Type} {l r:List α} {d:α} {i:Nat} (h:i < l.length):(l++r).getD i d=l.getD i d:=by
 rw [List.getD_eq_getElem?_getD,List.getD_eq_getElem?_getD,List.getElem?_append_left h]
theorem getD_lastB {α:Type} {l:List α} {x d:α}:(l++[x]).getD l.length d=x:=by
 simp [List.getD_eq_getElem?_getD]
theorem cell_appB {R:Rows} {r:List Int} {i c:Nat} (h:i < R.length):cell (R++[r]) i c=cell R i c:=by
 unfold cell
 rw [getD_appB h]
theorem cell_lastB {R:Rows} {r:List Int} {c:Nat}:cell (R++[r]) R.length c=r.getD c 0:=by
 unfold cell
 rw [getD_lastB]
theorem BaJ.next {wd dp gn:Int} {v:BaS} (h:BaJ wd dp gn v) (hj:v.j < v.D.toNat) {q:Int} (b:Int) (hq:lnLow v≤q∧q≤v.W):BaJ wd dp gn ⟨v.k,b,v.W,v.D,v.G,v.ys,v.L,v.j+1,v.R++[[q]]⟩:=by
 refine⟨⟨h.w,h.d,h.g,h.k,h.n,h.l⟩,hj,by simp [h.r],h.k1,?_,?_⟩
 ·intro r hr
  simp only [List.mem_append,List.mem_singleton]at hr
  rcases hr with hr | rfl
  ·exact h.row r hr
  ·rfl
 ·intro y hy
  simp only at hy ⊢
  by_cases hyj:y < v.j
  ·rw [cell_appB (by rw [h.r]; exact hyj)]
   exact h.at_ y hyj
  ·have e:y=v.j:=by omega
   rw [e]
   have e2:cell (v.R++[[q]]) v.j 0=q:=by rw [← h.r,cell_lastB]; rfl
   rw [e2]
   exact hq
theorem lnX_app {L:List Rows} {R:Rows} {i y:Nat} (h:i < L.length):lnX (L++[R]) i y=lnX L i y:=by
 unfold lnX
 rw [getD_appB h]
theorem lnX_last {L:List Rows} {R:Rows} {y:Nat}:lnX (L++[R]) L.length y=cell R y 0:=by
 unfold lnX
 rw [getD_lastB]
theorem BaJ.done {wd dp gn:Int} {v:BaS} (hgn:gn≤40) (h:BaJ wd dp gn v) (hj:¬ v.j < v.D.toNat) (ys:Nat→RV):BaI wd dp gn ⟨v.k+1,v.a,v.W,v.D,v.G,ys,v.L++[v.R],0,[]⟩:=by
 have hjj:=h.j
 have hk1:=h.k1
 have hg:=h.g
 have hk:=h.k
 have hn:=h.n
 have hr:=h.r
 refine⟨h.w,h.d,h.g,⟨?_,?_⟩,by simp [h.n],⟨?_,?_,?_⟩⟩
 ·simp only; omega
 ·simp only; omega
 ·intro i hi
  simp only [List.length_append,List.length_singleton]at hi ⊢
  by_cases hil:i < v.L.length
  ·rw [getD_appB hil]; exact h.l.len i hil
  ·have e:i=v.L.length:=by omega
   rw [e,getD_lastB]; omega
 ·intro i r hr
  by_cases hil:i < v.L.length
  ·simp only [getD_appB hil]at hr; exact h.l.row i r hr
  ·by_cases e:i=v.L.length
   ·simp only [e,getD_lastB]at hr; exact h.row r hr
   ·have:(v.L++[v.R]).getD i []=[]:=by
     rw [List.getD_eq_getElem?_getD,List.getElem?_eq_none (by simp; omega)]; rfl
    simp only [this]at hr
    simp at hr
 ·intro i hi y hy
  simp only [List.length_append,List.length_singleton]at hi hy ⊢
  by_cases hil:i < v.L.length
  ·have:=h.l.at_ i hil y hy
   unfold lnPrev at this ⊢
   rw [lnX_app hil]
   by_cases h0:i=0
   ·rw [if_pos h0]at this ⊢; exact this
   ·rw [if_neg h0]at this ⊢; rw [lnX_app (by omega)]; exact this
  ·have e:i=v.L.length:=by omega
   rw [e,lnX_last]
   have:=h.at_ y (by omega)
   unfold lnPrev
   by_cases h0:v.k=0
   ·rw [if_pos h0]at this; rw [if_pos (by omega)]; exact this
   ·rw [if_neg h0]at this; rw [if_neg (by omega),lnX_app (by omega),h.n]; exact this
theorem snoc1 {R:Rows} {k:Nat} {x:Int} (hl:R.length=k):∀i,i < k+1→(behind k (.fn (Rv.elemOf [.i64] R)) 1 (litEl [SV.i .i64 x] 1 1)).at i=(El.fn (Rv.elemOf [.i64] (R++[[x]]))).at i:=fun i hi=>by
 have:=snoc_at (R:=R) (ks:=[.i64]) (r:=[x]) (cs:=[SV.i .i64 x]) rfl (i:=i) (by omega)
 rw [hl]at this
 exact this
theorem snoc6 {R:Rows} {x0 x1 x2 x3 x4 x5:Int}:∀i,i < R.length+1→(behind R.length (.fn (Rv.elemOf [.i64,.i64,.i64,.i64,.i64,.i64] R)) 1 (litEl [SV.i .i64 x0,SV.i .i64 x1,SV.i .i64 x2,SV.i .i64 x3,SV.i .i64 x4,SV.i .i64 x5] 6 1)).at i=(El.fn (Rv.elemOf [.i64,.i64,.i64,.i64,.i64,.i64] (R++[[x0,x1,x2,x3,x4,x5]]))).at i:=fun i hi =>
 snoc_at (R:=R) (ks:=[.i64,.i64,.i64,.i64,.i64,.i64]) (r:=[x0,x1,x2,x3,x4,x5]) (cs:=[SV.i .i64 x0,SV.i .i64 x1,SV.i .i64 x2,SV.i .i64 x3,SV.i .i64 x4,SV.i .i64 x5]) rfl (i:=i) hi
theorem CustOk.snoc {W D G:Int} {C:Rows} (h:CustOk W D G C) (hl:C.length < 6) {x0 x1 x2 x3 x4 x5:Int} (h0:0≤x0∧x0 < G-1) (h1:0≤x1∧x1≤x2∧x2 < D) (h3:0≤x3∧x3≤x4∧x4 < 365) (h5:-W≤x5∧x5≤W):CustOk W D G (C++[[x0,x1,x2,x3,x4,x5]]):=by
 refine⟨by simp; omega,?_,?_⟩
 ·intro r hr
  simp only [List.mem_append,List.mem_singleton]at hr
  rcases hr with hr | rfl
  ·exact h.row r hr
  ·rfl
 ·intro i hi
  simp only [List.length_append,List.length_singleton]at hi
  by_cases hil:i < C.length
  ·simp only [cell_appB hil]; exact h.at_ i hil
  ·have e:i=C.length:=by omega
   simp only [e,cell_lastB]
   exact⟨h0.1,h0.2,h1.1,h1.2.1,h1.2.2,h3.1,h3.2.1,h3.2.2,h5.1,h5.2⟩
def EndB (wd dp gn:Int) (B2:RW) (u:BaT):Prop:=∃(R:List Rows) (ys:Nat→RV),(R.length=u.m∧(∀i,i < u.m→(El.nf (llElem [.i64] u.ys u.L)).at i=llElem [.i64] ys R i)∧∀i,i < u.m→IsLst B2 (ys i) (R.getD i []).length 1 (Rv.elemOf [.i64] (R.getD i []))∧oneB (ys i)=true∧∀row,row∈R.getD i []→row.length=1)∧∀B3:RW,Grow B2 B3→∀x:RV,IsLL B3 [.i64] x ys R→oneB x=true→PlainE u.C.length (El.fn (Rv.elemOf [.i64,.i64,.i64,.i64,.i64,.i64] u.C))∧∃rows:Rows,(rows.length=u.C.length∧(∀r,r∈rows→r.length=6)∧∀i,i < u.C.length→(El.fn (Rv.elemOf [.i64,.i64,.i64,.i64,.i64,.i64] u.C)).at i=Rv.elemOf [.i64,.i64,.i64,.i64,.i64,.i64] rows i)∧∀B4:RW,Grow B3 B4→∀x1:RV,IsLst B4 x1 rows.length 6 (Rv.elemOf [.i64,.i64,.i64,.i64,.i64,.i64] rows)→oneB x1=true→IsLst B3 x R.length 1 (llElem [.i64] ys R)∧IsLst B3 x R.length 1 (llElem [.i64] ys R)∧IsLst B3 x R.length 1 (llElem [.i64] ys R)∧∃(R1:List Rows) (ys1:Nat→RV),(R1.length=R.length∧(∀i,i < R.length→llElem [.i64] ys R i=llElem [.i64] ys1 R1 i)∧IsLL B4 [.i64] x ys1 R1)∧∃rows1:Rows,(IsLst B4 x1 rows.length 6 (Rv.elemOf [.i64,.i64,.i64,.i64,.i64,.i64] rows)∧rows1.length=rows.length∧(∀r,r∈rows1→r.length=6)∧∀i,i < rows.length→Rv.elemOf [.i64,.i64,.i64,.i64,.i64,.i64] rows i=Rv.elemOf [.i64,.i64,.i64,.i64,.i64,.i64] rows1 i)∧BayOk wd dp gn u.W u.D u.G R1 rows1
noncomputable def F_BayOf:FnG:=⟨6,(some [.i .u64]),[i64,i64,i64],fun l=>match l with | [.z a,.z wd,.z dp,.z gn]=>1≤wd∧wd≤40∧1≤dp∧dp≤40∧1≤gn∧gn≤40 | _=>False,[.agg [.i .i64,.i .i64,.i .i64,.ll [.i64],.l [.i64,.i64,.i64,.i64,.i64,.i64]]],fun l m=>match l with | [.z a,.z wd,.z dp,.z gn]=>(match m with | [.z W,.z D,.z G,.ll L,.l C,.z a2]=>BayOk wd dp gn W D G L C | _=>False) | _=>False,[(.c (.t 0) 3,.ll [.i64]),(.c (.t 0) 4,.l [.i64,.i64,.i64,.i64,.i64,.i64])]⟩
noncomputable def A_BayOf:List SV→List Dat→Nat→List SV→AnG:=fun xs ds n ts=>match xs with
 | [.agg [.i _ a0],_,_,_]=>match ds with
  | [.z a,.z wd,.z dp,.z gn]=>match n with
   | 3=>⟨BaS,fun v=>([some (SV.ptr ((0:Nat)) ((0:Nat))),none,none,none,none,none,none,none,some (SV.ptr ((1:Nat)) ((0:Nat))),some (SV.ptr ((2:Nat)) ((0:Nat))),some (.i .i64 v.k)]++nN 100),fun v=>[.gr v.k 1 (.nf (llElem [.i64] v.ys v.L)) .gr true,.cells [.i .i64 v.W,.i .i64 v.D,.i .i64 v.G,.gsl 3 v.k 1 true,.v (Value.slice none 0 0)] .ex,SObj.cells [SV.v (Value.int IntKind.i64 (0:Int)),SV.v (Value.int IntKind.i64 (0:Int)),SV.v (Value.int IntKind.i64 (0:Int)),SV.v (Value.slice none ((0:Nat)) ((0:Nat))),SV.v (Value.slice none ((0:Nat)) ((0:Nat)))] Kd.ex,.cells [.i .u64 v.a] .ex],fun B v=>BaI wd dp gn v∧LieAt B [.i64] v.ys v.L v.k,fun v=>100-v.k,0,[(.last (.c (.t 9) 3) 0,.l [.i64])]⟩
   | 7=>(match lget ts 10 with | some (SV.i IntKind.i64 ik)=>⟨BaS,fun v=>([some (SV.ptr ((0:Nat)) ((0:Nat))),none,none,none,none,none,none,none,some (SV.ptr ((1:Nat)) ((0:Nat))),some (SV.ptr ((2:Nat)) ((0:Nat))),some (.i .i64 ik),some (.gsl 4 v.j 1 true),some (.i .i64 v.j)]++nN 98),fun v=>[.gr v.j 1 (.fn (Rv.elemOf [.i64] v.R)) .gr true,.gr v.k 1 (.nf (llElem [.i64] v.ys v.L)) .gr true,.cells [.i .i64 v.W,.i .i64 v.D,.i .i64 v.G,.gsl 3 v.k 1 true,.v (Value.slice none 0 0)] .ex,SObj.cells [SV.v (Value.int IntKind.i64 (0:Int)),SV.v (Value.int IntKind.i64 (0:Int)),SV.v (Value.int IntKind.i64 (0:Int)),SV.v (Value.slice none ((0:Nat)) ((0:Nat))),SV.v (Value.slice none ((0:Nat)) ((0:Nat)))] Kd.ex,.cells [.i .u64 v.a] .ex],fun B v=>BaJ wd dp gn v∧ik=v.k∧LieAt B [.i64] v.ys v.L v.k,fun v=>100-v.j,0,[]⟩ | _=>noAnG)
   | 15=>⟨BaT,fun v=>([some (SV.ptr ((0:Nat)) ((0:Nat))),none,none,none,none,none,none,none,some (SV.ptr ((1:Nat)) ((0:Nat))),some (SV.ptr ((2:Nat)) ((0:Nat))),none,none,none,none,some (.i .i64 v.i)]++nN 96),fun v=>[.gr v.C.length 6 (.fn (Rv.elemOf [.i64,.i64,.i64,.i64,.i64,.i64] v.C)) .gr true,.gr v.m 1 (.nf (llElem [.i64] v.ys v.L)) .gr true,.cells [.i .i64 v.W,.i .i64 v.D,.i .i64 v.G,.gsl 3 v.m 1 true,.gsl 4 v.C.length 6 true] .ex,SObj.cells [SV.v (Value.int IntKind.i64 (0:Int)),SV.v (Value.int IntKind.i64 (0:Int)),SV.v (Value.int IntKind.i64 (0:Int)),SV.v (Value.slice none ((0:Nat)) ((0:Nat))),SV.v (Value.slice none ((0:Nat)) ((0:Nat)))] Kd.ex,.cells [.i .u64 v.a] .ex],fun B v=>BaE wd dp gn v∧LieAt B [.i64] v.ys v.L v.m,fun v=>v.i.toNat,0,[]⟩
   | _=>noAnG
  | _=>noAnG
 | _=>noAnG
def V_BayOf:Prop:=
 ∀(B:RW) (l e g i:Int),(1:Int)≤e∧e≤(40:Int)∧(1:Int)≤g∧g≤(40:Int)∧(1:Int)≤i∧i≤(40:Int)→Ob (F_From.pre ([Dat.z l]++[Dat.z (1:Int),Dat.z e]))∧Ob (F_From.pre ([Dat.z (belowA l (e-(1:Int)+(1:Int)))]++[Dat.z (1:Int),Dat.z g]))∧Ob (F_From.pre ([Dat.z (belowA (belowA l (e-(1:Int)+(1:Int))) (g-(1:Int)+(1:Int)))]++[Dat.z (1:Int),Dat.z i]))∧(∃(c:BaS),Ob (BaI e g i c∧LieAt B [.i64] c.ys c.L c.k)∧Ob ((0:Int)=(↑c.k:Int))∧Ob (c.k=(0:Nat))∧Ob ((1:Int)+belowV l (e-(1:Int)+(1:Int))=c.W)∧Ob ((1:Int)+belowV (belowA l (e-(1:Int)+(1:Int))) (g-(1:Int)+(1:Int))=c.D)∧Ob ((1:Int)+belowV (belowA (belowA l (e-(1:Int)+(1:Int))) (g-(1:Int)+(1:Int))) (i-(1:Int)+(1:Int))=c.G)∧Ob (c.k=(0:Nat))∧Ob (SV.v (Value.slice none 0 0)=SV.v (Value.slice none 0 0))∧Ob (Value.int .i64 (0:Int)=Value.int .i64 (0:Int))∧Ob (Value.int .i64 (0:Int)=Value.int .i64 (0:Int))∧Ob (Value.int .i64 (0:Int)=Value.int .i64 (0:Int))∧Ob (SV.v (Value.slice none 0 0)=SV.v (Value.slice none 0 0))∧Ob (SV.v (Value.slice none 0 0)=SV.v (Value.slice none 0 0))∧Ob (belowA (belowA (belowA l (e-(1:Int)+(1:Int))) (g-(1:Int)+(1:Int))) (i-(1:Int)+(1:Int))=c.a)∧Ob (NamE B c.k (llElem [.i64] c.ys c.L))∧True)∧∀(B':RW),Grow B B'→∀(c:BaS),BaI e g i c∧LieAt B' [.i64] c.ys c.L c.k→∀(_ _ _ _ _ _ _ _ _ _ _ _ _ _ _ _ _ _ _ _ _ _ _ _ _ _ _ _ _ _ _ _ _ _ _ _ _ _ _ _ _ _ _ _ _ _ _ _ _ _ _ _ _ _ _ _ _ _ _ _ _ _ _ _ _ _ _ _ _ _ _ _ _ _ _ _ _ _ _ _ _ _ _ _ _ _ _ _ _ _ _ _ _ _ _ _ _ _ _ _ _ _ _ _ _ _ _:Value),Ob (InR .i64 (c.G-(1:Int)))∧((↑c.k:Int) < c.G-(1:Int)→(∃(a:BaS),Ob (BaJ e g i a∧(↑c.k:Int)=(↑a.k:Int)∧LieAt B' [.i64] a.ys a.L a.k)∧Ob ((↑c.k:Int)=(↑c.k:Int))∧Ob (a.j=(0:Nat))∧Ob ((0:Int)=(↑a.j:Int))∧Ob (a.j=(0:Nat))∧EqA c.k a.k (El.nf (llElem [.i64] c.ys c.L)) (El.nf (llElem [.i64] a.ys a.L))∧Ob (c.W=a.W)∧Ob (c.D=a.D)∧Ob (c.G=a.G)∧Ob (c.k=a.k)∧Ob (SV.v (Value.slice none 0 0)=SV.v (Value.slice none 0 0))∧Ob (Value.int .i64 (0:Int)=Value.int .i64 (0:Int))∧Ob (Value.int .i64 (0:Int)=Value.int .i64 (0:Int))∧Ob (Value.int .i64 (0:Int)=Value.int .i64 (0:Int))∧Ob (SV.v (Value.slice none 0 0)=SV.v (Value.slice none 0 0))∧Ob (SV.v (Value.slice none 0 0)=SV.v (Value.slice none 0 0))∧Ob (c.a=a.a)∧Ob (PlainE a.j (El.fn (Rv.elemOf [.i64] a.R)))∧Ob (NamE B' a.k (llElem [.i64] a.ys a.L))∧True)∧∀(B'_1:RW),Grow B' B'_1→∀(a:BaS),BaJ e g i a∧(↑c.k:Int)=(↑a.k:Int)∧LieAt B'_1 [.i64] a.ys a.L a.k→∀(_ _ _ _ _ _ _ _ _ _ _ _ _ _ _ _ _ _ _ _ _ _ _ _ _ _ _ _ _ _ _ _ _ _ _ _ _ _ _ _ _ _ _ _ _ _ _ _ _ _ _ _ _ _ _ _ _ _ _ _ _ _ _ _ _ _ _ _ _ _ _ _ _ _ _ _ _ _ _ _ _ _ _ _ _ _ _ _ _ _ _ _ _ _ _ _ _ _ _ _ _ _ _ _ _:Value),((↑a.j:Int) < a.D→((0:Int) < (↑c.k:Int)→Ob (InR .i64 ((↑c.k:Int)-(1:Int)))∧Ob ((0:Int)≤(↑c.k:Int)-(1:Int)∧((↑c.k:Int)-(1:Int)).toNat < a.k)∧Ob (((↑c.k:Int)-(1:Int)).toNat < a.k)∧Ob ((0:Int)≤(↑a.j:Int)∧a.j < (a.L.getD ((↑c.k:Int)-(1:Int)).toNat []).length∧IsLst B'_1 (a.ys ((↑c.k:Int)-(1:Int)).toNat) (a.L.getD ((↑c.k:Int)-(1:Int)).toNat []).length 1 (Rv.elemOf [.i64] (a.L.getD ((↑c.k:Int)-(1:Int)).toNat [])))∧Ob (IsLst B'_1 (a.ys ((↑c.k:Int)-(1:Int)).toNat) (a.L.getD ((↑c.k:Int)-(1:Int)).toNat []).length 1 (Rv.elemOf [.i64] (a.L.getD ((↑c.k:Int)-(1:Int)).toNat []))∧a.j < (a.L.getD ((↑c.k:Int)-(1:Int)).toNat []).length)∧Ob (InR .i64 (cell (a.L.getD ((↑c.k:Int)-(1:Int)).toNat []) a.j 0+(4:Int)))∧Ob (F_Of.pre ([Dat.z a.a]++[Dat.l [[a.W],[min a.W (cell (a.L.getD ((↑c.k:Int)-(1:Int)).toNat []) a.j 0+(4:Int))]]]))∧Ob (F_From.pre ([Dat.z (ofA a.a [[a.W],[min a.W (cell (a.L.getD ((↑c.k:Int)-(1:Int)).toNat []) a.j 0+(4:Int))]])]++[Dat.z (cell (a.L.getD ((↑c.k:Int)-(1:Int)).toNat []) a.j 0),Dat.z (ofV a.a [[a.W],[min a.W (cell (a.L.getD ((↑c.k:Int)-(1:Int)).toNat []) a.j 0+(4:Int))]])]))∧Ob (a.j=a.j∧∀(d:Nat),d < a.j→((El.fn (Rv.elemOf [.i64] a.R)).at d).length=(1:Nat))∧Ob ((a.j+(1:Nat))*(2:Nat)*(9:Nat)≤1099511627776)∧Ob (a.j=a.j)∧Ob (InR .i64 ((↑a.j:Int)+(1:Int)))∧∃(b:BaS),Ob ((BaJ e g i b∧(↑c.k:Int)=(↑b.k:Int)∧LieAt B'_1 [.i64] b.ys b.L b.k)∧(100:Nat)-b.j < 100-a.j)∧Ob ((↑c.k:Int)=(↑c.k:Int))∧Ob (a.j+(1:Nat)=b.j)∧Ob ((↑a.j:Int)+(1:Int)=(↑b.j:Int))∧EqA (a.j+(1:Nat)) b.j (behind a.j (El.fn (Rv.elemOf [.i64] a.R)) 1 (litEl (symL [SV.i .i64 (cell (a.L.getD ((↑c.k:Int)-(1:Int)).toNat []) a.j 0+belowV (ofA a.a [[a.W],[min a.W (cell (a.L.getD ((↑c.k:Int)-(1:Int)).toNat []) a.j 0+(4:Int))]]) (ofV a.a [[a.W],[min a.W (cell (a.L.getD ((↑c.k:Int)-(1:Int)).toNat []) a.j 0+(4:Int))]]-cell (a.L.getD ((↑c.k:Int)-(1:Int)).toNat []) a.j 0+(1:Int)))]) 1 1)) (El.fn (Rv.elemOf [.i64] b.R))∧EqA a.k b.k (El.nf (llElem [.i64] a.ys a.L)) (El.nf (llElem [.i64] b.ys b.L))∧Ob (a.W=b.W)∧Ob (a.D=b.D)∧Ob (a.G=b.G)∧Ob (a.k=b.k)∧Ob (SV.v (Value.slice none 0 0)=SV.v (Value.slice none 0 0))∧Ob (Value.int .i64 (0:Int)=Value.int .i64 (0:Int))∧Ob (Value.int .i64 (0:Int)=Value.int .i64 (0:Int))∧Ob (Value.int .i64 (0:Int)=Value.int .i64 (0:Int))∧Ob (SV.v (Value.slice none 0 0)=SV.v (Value.slice none 0 0))∧Ob (SV.v (Value.slice none 0 0)=SV.v (Value.slice none 0 0))∧Ob (belowA (ofA a.a [[a.W],[min a.W (cell (a.L.getD ((↑c.k:Int)-(1:Int)).toNat []) a.j 0+(4:Int))]]) (ofV a.a [[a.W],[min a.W (cell (a.L.getD ((↑c.k:Int)-(1:Int)).toNat []) a.j 0+(4:Int))]]-cell (a.L.getD ((↑c.k:Int)-(1:Int)).toNat []) a.j 0+(1:Int))=b.a)∧Ob (PlainE b.j (El.fn (Rv.elemOf [.i64] b.R)))∧Ob (NamE B'_1 b.k (llElem [.i64] b.ys b.L))∧True)∧(¬(0:Int) < (↑c.k:Int)→Ob (F_Of.pre ([Dat.z a.a]++[Dat.l [[a.W],[min a.W (Int.ofNat 4)]]]))∧Ob (F_From.pre ([Dat.z (ofA a.a [[a.W],[min a.W (Int.ofNat 4)]])]++[Dat.z (0:Int),Dat.z (ofV a.a [[a.W],[min a.W (Int.ofNat 4)]])]))∧Ob (a.j=a.j∧∀(d:Nat),d < a.j→((El.fn (Rv.elemOf [.i64] a.R)).at d).length=(1:Nat))∧Ob ((a.j+(1:Nat))*(2:Nat)*(9:Nat)≤1099511627776)∧Ob (a.j=a.j)∧Ob (InR .i64 ((↑a.j:Int)+(1:Int)))∧∃(b:BaS),Ob ((BaJ e g i b∧(↑c.k:Int)=(↑b.k:Int)∧LieAt B'_1 [.i64] b.ys b.L b.k)∧(100:Nat)-b.j < 100-a.j)∧Ob ((↑c.k:Int)=(↑c.k:Int))∧Ob (a.j+(1:Nat)=b.j)∧Ob ((↑a.j:Int)+(1:Int)=(↑b.j:Int))∧EqA (a.j+(1:Nat)) b.j (behind a.j (El.fn (Rv.elemOf [.i64] a.R)) 1 (litEl (symL [SV.i .i64 ((0:Int)+belowV (ofA a.a [[a.W],[min a.W (Int.ofNat 4)]]) (ofV a.a [[a.W],[min a.W (Int.ofNat 4)]]-(0:Int)+(1:Int)))]) 1 1)) (El.fn (Rv.elemOf [.i64] b.R))∧EqA a.k b.k (El.nf (llElem [.i64] a.ys a.L)) (El.nf (llElem [.i64] b.ys b.L))∧Ob (a.W=b.W)∧Ob (a.D=b.D)∧Ob (a.G=b.G)∧Ob (a.k=b.k)∧Ob (SV.v (Value.slice none 0 0)=SV.v (Value.slice none 0 0))∧Ob (Value.int .i64 (0:Int)=Value.int .i64 (0:Int))∧Ob (Value.int .i64 (0:Int)=Value.int .i64 (0:Int))∧Ob (Value.int .i64 (0:Int)=Value.int .i64 (0:Int))∧Ob (SV.v (Value.slice none 0 0)=SV.v (Value.slice none 0 0))∧Ob (SV.v (Value.slice none 0 0)=SV.v (Value.slice none 0 0))∧Ob (belowA (ofA a.a [[a.W],[min a.W (Int.ofNat 4)]]) (ofV a.a [[a.W],[min a.W (Int.ofNat 4)]]-(0:Int)+(1:Int))=b.a)∧Ob (PlainE b.j (El.fn (Rv.elemOf [.i64] b.R)))∧Ob (NamE B'_1 b.k (llElem [.i64] b.ys b.L))∧True))∧(¬(↑a.j:Int) < a.D→Ob (a.k=a.k∧∀(d:Nat),d < a.k→((El.nf (llElem [.i64] a.ys a.L)).at d).length=(1:Nat))∧Ob ((a.k+(1:Nat))*(2:Nat)*(25:Nat)≤1099511627776)∧Ob (a.k=a.k)∧Ob (InR .i64 ((↑c.k:Int)+(1:Int)))∧RwA a.j a.j 1 [.i64] ((El.fn (Rv.elemOf [.i64] a.R)).at) fun f=>∀(B'_2:RW),Grow B'_1 B'_2→∀(h:RV),IsLst B'_2 h f.length 1 (Rv.elemOf [.i64] f)→oneB h=true→Ob (a.j=a.j)∧Ob (a.j=a.j)∧Ob (NamE B'_1 a.k (llElem [.i64] a.ys a.L))∧Ob (a.j=a.j)∧Ob (a.j=a.j)∧∃(b:BaS),Ob ((BaI e g i b∧LieAt B'_2 [.i64] b.ys b.L b.k)∧(100:Nat)-b.k < 100-c.k)∧Ob ((↑c.k:Int)+(1:Int)=(↑b.k:Int))∧EqA (a.k+(1:Nat)) b.k ((El.nf (llElem [.i64] a.ys a.L)).snoc a.k [SV.lst h f.length 1 (Rv.elemOf [.i64] f)]) (El.nf (llElem [.i64] b.ys b.L))∧Ob (a.W=b.W)∧Ob (a.D=b.D)∧Ob (a.G=b.G)∧Ob (a.k+(1:Nat)=b.k)∧Ob (SV.v (Value.slice none 0 0)=SV.v (Value.slice none 0 0))∧Ob (Value.int .i64 (0:Int)=Value.int .i64 (0:Int))∧Ob (Value.int .i64 (0:Int)=Value.int .i64 (0:Int))∧Ob (Value.int .i64 (0:Int)=Value.int .i64 (0:Int))∧Ob (SV.v (Value.slice none 0 0)=SV.v (Value.slice none 0 0))∧Ob (SV.v (Value.slice none 0 0)=SV.v (Value.slice none 0 0))∧Ob (a.a=b.a)∧Ob (NamE B'_2 b.k (llElem [.i64] b.ys b.L))∧True))∧(¬(↑c.k:Int) < c.G-(1:Int)→Ob (F_Below.pre ([Dat.z c.a]++[Dat.z (7:Int)]))∧(∃(a:BaT),Ob (BaE e g i a∧LieAt B' [.i64] a.ys a.L a.m)∧Ob (belowV c.a (7:Int)=a.i)∧Ob (a.C.length=(0:Nat))∧EqA c.k a.m (El.nf (llElem [.i64] c.ys c.L)) (El.nf (llElem [.i64] a.ys a.L))∧Ob (c.W=a.W)∧Ob (c.D=a.D)∧Ob (c.G=a.G)∧Ob (c.k=a.m)∧Ob (a.C.length=(0:Nat))∧Ob (Value.int .i64 (0:Int)=Value.int .i64 (0:Int))∧Ob (Value.int .i64 (0:Int)=Value.int .i64 (0:Int))∧Ob (Value.int .i64 (0:Int)=Value.int .i64 (0:Int))∧Ob (SV.v (Value.slice none 0 0)=SV.v (Value.slice none 0 0))∧Ob (SV.v (Value.slice none 0 0)=SV.v (Value.slice none 0 0))∧Ob (belowA c.a (7:Int)=a.a)∧PlA I6 a.C∧Ob (NamE B' a.m (llElem [.i64] a.ys a.L))∧True)∧∀(B'_1:RW),Grow B' B'_1→∀(a:BaT),BaE e g i a∧LieAt B'_1 [.i64] a.ys a.L a.m→∀(_ _ _ _ _ _ _ _ _ _ _ _ _ _ _ _ _ _ _ _ _ _ _ _ _ _ _ _ _ _ _ _ _ _ _ _ _ _ _ _ _ _ _ _ _ _ _ _ _ _ _ _ _ _ _ _ _ _ _ _ _ _ _ _ _ _ _ _ _ _ _ _ _ _ _ _ _ _ _ _ _ _ _ _ _ _ _ _ _ _ _ _ _ _ _ _ _ _ _ _ _ _ _ _ _ _ _:Value),((0:Int) < a.i→((1:Int) < a.G→Ob (InR .i64 (a.G-(1:Int)))∧Ob (F_Below.pre ([Dat.z a.a]++[Dat.z (a.G-(1:Int))]))∧Ob (InR .i64 (a.D-(1:Int)))∧Ob (F_Span.pre ([Dat.z (belowA a.a (a.G-(1:Int)))]++[Dat.z (0:Int),Dat.z (a.D-(1:Int))]))∧Ob (F_Of.pre ([Dat.z (spanA (belowA a.a (a.G-(1:Int))) (0:Int) (a.D-(1:Int)))]++[Dat.l [[(20:Int)],[(364:Int)]]]))∧Ob (F_Span.pre ([Dat.z (ofA (spanA (belowA a.a (a.G-(1:Int))) (0:Int) (a.D-(1:Int))) [[(20:Int)],[(364:Int)]])]++[Dat.z (0:Int),Dat.z (ofV (spanA (belowA a.a (a.G-(1:Int))) (0:Int) (a.D-(1:Int))) [[(20:Int)],[(364:Int)]])]))∧Ob (InR .i64 ((0:Int)-a.W))∧Ob (F_From.pre ([Dat.z (spanA (ofA (spanA (belowA a.a (a.G-(1:Int))) (0:Int) (a.D-(1:Int))) [[(20:Int)],[(364:Int)]]) (0:Int) (ofV (spanA (belowA a.a (a.G-(1:Int))) (0:Int) (a.D-(1:Int))) [[(20:Int)],[(364:Int)]]))]++[Dat.z ((0:Int)-a.W),Dat.z a.W]))∧Ob (a.C.length=a.C.length∧∀(d:Nat),d < a.C.length→((El.fn (Rv.elemOf I6 a.C)).at d).length=(6:Nat))∧Ob ((a.C.length+(1:Nat))*(2:Nat)*(49:Nat)≤1099511627776)∧Ob (a.C.length=a.C.length)∧Ob (InR .i64 (a.i-(1:Int)))∧∃(b:BaT),Ob ((BaE e g i b∧LieAt B'_1 [.i64] b.ys b.L b.m)∧b.i.toNat < a.i.toNat)∧Ob (a.i-(1:Int)=b.i)∧EqA (a.C.length+(1:Nat)) (List.length b.C) (behind (a.C.length) (El.fn (Rv.elemOf I6 a.C)) 1 (litEl (symL [SV.i .i64 (belowV a.a (a.G-(1:Int))),SV.i .i64 (spanLo (belowA a.a (a.G-(1:Int))) (0:Int) (a.D-(1:Int))),SV.i .i64 (spanHi (belowA a.a (a.G-(1:Int))) (0:Int) (a.D-(1:Int))),SV.i .i64 (spanLo (ofA (spanA (belowA a.a (a.G-(1:Int))) (0:Int) (a.D-(1:Int))) [[(20:Int)],[(364:Int)]]) (0:Int) (ofV (spanA (belowA a.a (a.G-(1:Int))) (0:Int) (a.D-(1:Int))) [[(20:Int)],[(364:Int)]])),SV.i .i64 (spanHi (ofA (spanA (belowA a.a (a.G-(1:Int))) (0:Int) (a.D-(1:Int))) [[(20:Int)],[(364:Int)]]) (0:Int) (ofV (spanA (belowA a.a (a.G-(1:Int))) (0:Int) (a.D-(1:Int))) [[(20:Int)],[(364:Int)]])),SV.i .i64 ((0:Int)-a.W+belowV (spanA (ofA (spanA (belowA a.a (a.G-(1:Int))) (0:Int) (a.D-(1:Int))) [[(20:Int)],[(364:Int)]]) (0:Int) (ofV (spanA (belowA a.a (a.G-(1:Int))) (0:Int) (a.D-(1:Int))) [[(20:Int)],[(364:Int)]])) (a.W-((0:Int)-a.W)+(1:Int)))]) 6 1)) (El.fn (Rv.elemOf I6 b.C))∧EqA a.m b.m (El.nf (llElem [.i64] a.ys a.L)) (El.nf (llElem [.i64] b.ys b.L))∧Ob (a.W=b.W)∧Ob (a.D=b.D)∧Ob (a.G=b.G)∧Ob (a.m=b.m)∧Ob (a.C.length+(1:Nat)=List.length b.C)∧Ob (Value.int .i64 (0:Int)=Value.int .i64 (0:Int))∧Ob (Value.int .i64 (0:Int)=Value.int .i64 (0:Int))∧Ob (Value.int .i64 (0:Int)=Value.int .i64 (0:Int))∧Ob (SV.v (Value.slice none 0 0)=SV.v (Value.slice none 0 0))∧Ob (SV.v (Value.slice none 0 0)=SV.v (Value.slice none 0 0))∧Ob (belowA (spanA (ofA (spanA (belowA a.a (a.G-(1:Int))) (0:Int) (a.D-(1:Int))) [[(20:Int)],[(364:Int)]]) (0:Int) (ofV (spanA (belowA a.a (a.G-(1:Int))) (0:Int) (a.D-(1:Int))) [[(20:Int)],[(364:Int)]])) (a.W-((0:Int)-a.W)+(1:Int))=b.a)∧PlA I6 b.C∧Ob (NamE B'_1 b.m (llElem [.i64] b.ys b.L))∧True)∧(¬(1:Int) < a.G→∃(R:List (List (List Int))),∃(ys:Nat→RV),Ob (a.m=a.m∧R.length=a.m∧(∀(d:Nat),d < a.m→(El.nf (llElem [.i64] a.ys a.L)).at d=llElem [.i64] ys R d)∧∀(d:Nat),d < a.m→IsLst B'_1 (ys d) (R.getD d []).length 1 (Rv.elemOf [.i64] (R.getD d []))∧oneB (ys d)=true∧∀(m:List Int),m∈R.getD d []→m.length=(1:Nat))∧∀(B'_2:RW),Grow B'_1 B'_2→∀(h:RV),IsLL B'_2 [.i64] h ys R→oneB h=true→Ob (a.m=a.m)∧PlA I6 a.C∧Ob (a.m=a.m)∧Ob (a.m=a.m)∧RwE 6 I6 a.C fun f=>∀(B'_3:RW),Grow B'_2 B'_3→∀(k:RV),IsLst B'_3 k f.length 6 (Rv.elemOf I6 f)→oneB k=true→Ob (IsLst B'_2 h R.length 1 (llElem [.i64] ys R))∧Ob (a.C.length=a.C.length)∧Ob (IsLst B'_2 h R.length 1 (llElem [.i64] ys R))∧Ob (a.C.length=a.C.length)∧Ob (IsLst B'_2 h R.length 1 (llElem [.i64] ys R))∧Ob (a.C.length=a.C.length)∧∃(R_1:List (List (List Int))),∃(ys_1:Nat→RV),Ob (R_1.length=R.length∧(∀(d:Nat),d < R.length→llElem [.i64] ys R d=llElem [.i64] ys_1 R_1 d)∧IsLL B'_3 [.i64] h ys_1 R_1)∧∃(j:List (List Int)),Ob (IsLst B'_3 k f.length 6 (Rv.elemOf I6 f)∧j.length=f.length∧(∀r∈j,r.length=6)∧∀(d:Nat),d < f.length→Rv.elemOf I6 f d=Rv.elemOf I6 j d)∧Ob (BayOk e g i a.W a.D a.G R_1 j)))∧(¬(0:Int) < a.i→∃(R:List (List (List Int))),∃(ys:Nat→RV),Ob (a.m=a.m∧R.length=a.m∧(∀(d:Nat),d < a.m→(El.nf (llElem [.i64] a.ys a.L)).at d=llElem [.i64] ys R d)∧∀(d:Nat),d < a.m→IsLst B'_1 (ys d) (R.getD d []).length 1 (Rv.elemOf [.i64] (R.getD d []))∧oneB (ys d)=true∧∀(m:List Int),m∈R.getD d []→m.length=(1:Nat))∧∀(B'_2:RW),Grow B'_1 B'_2→∀(h:RV),IsLL B'_2 [.i64] h ys R→oneB h=true→Ob (a.m=a.m)∧PlA I6 a.C∧Ob (a.m=a.m)∧Ob (a.m=a.m)∧RwE 6 I6 a.C fun f=>∀(B'_3:RW),Grow B'_2 B'_3→∀(k:RV),IsLst B'_3 k f.length 6 (Rv.elemOf I6 f)→oneB k=true→Ob (IsLst B'_2 h R.length 1 (llElem [.i64] ys R))∧Ob (a.C.length=a.C.length)∧Ob (IsLst B'_2 h R.length 1 (llElem [.i64] ys R))∧Ob (a.C.length=a.C.length)∧Ob (IsLst B'_2 h R.length 1 (llElem [.i64] ys R))∧Ob (a.C.length=a.C.length)∧∃(R_1:List (List (List Int))),∃(ys_1:Nat→RV),Ob (R_1.length=R.length∧(∀(d:Nat),d < R.length→llElem [.i64] ys R d=llElem [.i64] ys_1 R_1 d)∧IsLL B'_3 [.i64] h ys_1 R_1)∧∃(j:List (List Int)),Ob (IsLst B'_3 k f.length 6 (Rv.elemOf I6 f)∧j.length=f.length∧(∀r∈j,r.length=6)∧∀(d:Nat),d < f.length→Rv.elemOf I6 f d=Rv.elemOf I6 j d)∧Ob (BayOk e g i a.W a.D a.G R_1 j)))
set_option linter.unusedSimpArgs false in
set_option maxRecDepth 4000 in
set_option maxHeartbeats 2000000 in
theorem v_BayOf:V_BayOf:=by
 unfold V_BayOf EqA I6 PlA RwA RwE
 intro B a wd dp gn h
 simp only [Ob_iff,and_true,true_and,implies_true,F_From,F_Below,F_Of,F_Span,List.cons_append,List.nil_append]
 have e1:=belowV_in a (wd-1+1)
 have e2:=belowV_in (belowA a (wd-1+1)) (dp-1+1)
 have e3:=belowV_in (belowA (belowA a (wd-1+1)) (dp-1+1)) (gn-1+1)
 refine⟨by omega,by omega,by omega,⟨⟨0,_,_,_,_,fun _=>.v undef,[],0,[]⟩,⟨⟨by simp only; omega,by simp only; omega,by simp only; omega,by simp only; omega,rfl,⟨fun i hi=>absurd hi (Nat.not_lt_zero i),fun i r hr=>by simp at hr,fun i hi=>absurd hi (Nat.not_lt_zero i)⟩⟩,LieAt.zero _ _ _ _⟩,rfl,rfl,rfl,rfl,rfl,rfl,rfl,(LieAt.zero _ _ _ _).nam⟩,?_⟩
 clear e1 e2 e3
 intro B1 g1 v hv
 obtain⟨hv,hl⟩:=hv
 intros
 have hw:=hv.w
 have hd:=hv.d
 have hg:=hv.g
 have hk:=hv.k
 refine⟨by simp only [InR]; omega,fun hlt=>?_,fun hge=>?_⟩
 ·refine⟨⟨⟨v.k,v.a,v.W,v.D,v.G,v.ys,v.L,0,[]⟩,⟨⟨⟨hv.w,hv.d,hv.g,hv.k,hv.n,hv.l⟩,Nat.zero_le _,rfl,hlt,fun r hr=>by simp at hr,fun y hy=>absurd hy (Nat.not_lt_zero y)⟩,rfl,hl⟩,rfl,rfl,rfl,⟨rfl,fun i hi=>rfl⟩,rfl,rfl,rfl,rfl,rfl,plain_elemOf _ _ _,hl.nam⟩,?_⟩
  intro B2 g2 u hu
  obtain⟨hu,hku,hlu⟩:=hu
  intros
  have hw:=hu.w
  have hd:=hu.d
  have hg:=hu.g
  have hj:=hu.j
  have hk:=hu.k
  have hn:=hu.n
  have hku:v.k=u.k:=by omega
  have hb:(u.j+1)*2*9≤1099511627776:=by omega
  have hI2:InR .i64 ((u.j:Int)+1):=by simp only [InR]; omega
  have hW40:u.W≤40:=by omega
  refine⟨fun hjl=>?_,fun hjg=>?_⟩
  ·have hm1:100-(u.j+1) < 100-u.j:=by omega
   have hjn:u.j < u.D.toNat:=by omega
   have hlow:=hu.low hjn
   refine⟨fun h0=>?_,fun h0=>?_⟩
   ·have e:((v.k:Int)-1).toNat=u.k-1:=by omega
    have hp:lnLow u=cell (u.L.getD (u.k-1) []) u.j 0:=by
     unfold lnLow lnX
     rw [if_neg (by omega)]
    have hlst:=hlu (u.k-1) (by omega)
    have hlen:=hu.l.len (u.k-1) (by omega)
    rw [e]
    rw [hp]at hlow
    have q1:InR .i64 ((v.k:Int)-1)∧(0≤(v.k:Int)-1∧u.k-1 < u.k)∧u.k-1 < u.k∧(0:Int)≤u.j∧u.j < (u.L.getD (u.k-1) []).length:=by simp only [InR]; omega
    have q2:InR .i64 (cell (u.L.getD (u.k-1) []) u.j 0+4):=by clear hp; simp only [InR]; omega
    have ho:=lnO_in u.a hlow
    refine⟨q1.1,q1.2.1,q1.2.2.1,⟨q1.2.2.2.1,q1.2.2.2.2,hlst.1⟩,⟨hlst.1,q1.2.2.2.2⟩,q2,(show(2:Nat)≤1000 by decide),lnO_bd hlow hW40 ho,fun i hi=>rfl,hb,hI2,⟨u.k,belowA (ofA u.a [[u.W],[min u.W (cell (u.L.getD (u.k-1) []) u.j 0+4)]]) (ofV u.a [[u.W],[min u.W (cell (u.L.getD (u.k-1) []) u.j 0+4)]]-cell (u.L.getD (u.k-1) []) u.j 0+1),u.W,u.D,u.G,u.ys,u.L,u.j+1,u.R++[[cell (u.L.getD (u.k-1) []) u.j 0+belowV (ofA u.a [[u.W],[min u.W (cell (u.L.getD (u.k-1) []) u.j 0+4)]]) (ofV u.a [[u.W],[min u.W (cell (u.L.getD (u.k-1) []) u.j 0+4)]]-cell (u.L.getD (u.k-1) []) u.j 0+1)]]⟩,⟨⟨hu.next hjn _ ⟨by rw [hp]; exact(lnQ_in _ ho).1,(lnQ_in _ ho).2⟩,hku ▸ rfl,hlu⟩,hm1⟩,rfl,rfl,⟨rfl,snoc1 hu.r⟩,⟨rfl,fun i hi=>rfl⟩,rfl,rfl,rfl,rfl,rfl,plain_elemOf _ _ _,hlu.nam⟩
   ·have hp:lnLow u=0:=by
     unfold lnLow
     rw [if_pos (by omega)]
    rw [hp]at hlow
    have ho:=lnO_in u.a hlow
    refine⟨(show(2:Nat)≤1000 by decide),lnO_bd hlow hW40 ho,fun i hi=>rfl,hb,hI2,⟨u.k,belowA (ofA u.a [[u.W],[min u.W (Int.ofNat 4)]]) (ofV u.a [[u.W],[min u.W (Int.ofNat 4)]]-0+1),u.W,u.D,u.G,u.ys,u.L,u.j+1,u.R++[[0+belowV (ofA u.a [[u.W],[min u.W (Int.ofNat 4)]]) (ofV u.a [[u.W],[min u.W (Int.ofNat 4)]]-0+1)]]⟩,⟨⟨hu.next hjn _ ⟨by rw [hp]; exact(lnQ_in _ ho).1,(lnQ_in _ ho).2⟩,hku ▸ rfl,hlu⟩,hm1⟩,rfl,rfl,⟨rfl,snoc1 hu.r⟩,⟨rfl,fun i hi=>rfl⟩,rfl,rfl,rfl,rfl,rfl,plain_elemOf _ _ _,hlu.nam⟩
  ·refine⟨fun i hi=>rfl,by omega,by simp only [InR]; omega,u.R,⟨hu.r,hu.row,fun i hi=>rfl⟩,?_⟩
   intro B3 g3 x hx ho
   have hln:LieAt B3 [.i64] u.ys u.L u.L.length:=by rw [hu.n]; exact hlu.up g3
   have hx':IsLst B3 x u.R.length ([IntKind.i64]:List IntKind).length (Rv.elemOf [.i64] u.R):=hx
   have hsn:=hln.snoc hx' ho
   rw [hu.n]at hsn
   refine⟨hlu.nam,⟨u.k+1,u.a,u.W,u.D,u.G,setY u.ys u.k x,u.L++[u.R],0,[]⟩,⟨⟨hu.done h.2.2.2.2.2 (by omega) _,hsn⟩,by simp only; omega⟩,by simp only; omega,⟨rfl,?_⟩,rfl,rfl,rfl,rfl,rfl,hsn.nam⟩
   have:=ll_snoc2 (ks:=[IntKind.i64]) (ys:=u.ys) (R:=u.L) (sz:=1) (x:=x) (rows:=u.R) rfl
   rw [hu.n]at this
   exact this
 ·have hn:=hv.n
  have b7:=belowV_in v.a 7
  refine⟨by omega,⟨⟨belowV v.a 7,belowA v.a 7,v.W,v.D,v.G,v.k,v.ys,v.L,[]⟩,⟨⟨hv.w,hv.d,hv.g,by simp only; omega,hv.n,hv.l,by simp only [List.length]; omega,⟨(show(0:Nat)≤6 by decide),fun r hr=>by simp at hr,fun i hi=>absurd hi (Nat.not_lt_zero i)⟩⟩,hl⟩,rfl,rfl,⟨rfl,fun i hi=>rfl⟩,rfl,rfl,rfl,rfl,rfl,rfl,plain_elemOf _ _ _,hl.nam⟩,?_⟩
  intro B2 g2 u hu
  obtain⟨hu,hlu⟩:=hu
  intros
  have hw:=hu.w
  have hd:=hu.d
  have hg:=hu.g
  have hi:=hu.i
  have hm:=hu.m
  have hn:=hu.n
  have hC:=hu.c.len
  have fin:EndB wd dp gn B2 u:=by
   refine⟨u.L,u.ys,⟨hn,fun i hi=>rfl,fun i hi=>⟨(hlu i hi).1,(hlu i hi).2,hu.l.row i⟩⟩,?_⟩
   intro B3 g3 x hx ho
   refine⟨plain_elemOf _ _ _,u.C,⟨rfl,hu.c.row,fun i hi=>rfl⟩,?_⟩
   intro B4 g4 x1 hx1 ho1
   exact⟨hx.1,hx.1,hx.1,u.L,u.ys,⟨rfl,fun i hi=>rfl,hx.up g4⟩,u.C,⟨hx1,rfl,hu.c.row,fun i hi=>rfl⟩,hu.w,hu.d,hu.g,by rw [hn]; exact hm,hu.l,hu.c⟩
  refine⟨fun hi0=>⟨fun hg1=>?_,fun hg1=>?_⟩,fun hi0=>?_⟩
  ·have hl1:0≤u.i-1∧((u.C.length+1:Nat):Int)+(u.i-1)≤6:=by omega
   refine⟨by simp only [InR]; omega,by omega,by simp only [InR]; omega,by omega,(show(2:Nat)≤1000 by decide),o20_bd (ofV_20 _),by simp only [InR]; omega,by omega,fun i hi=>rfl,by omega,by simp only [InR]; omega,⟨u.i-1,belowA (spanA (ofA (spanA (belowA u.a (u.G-1)) 0 (u.D-1)) [[20],[364]]) 0 (ofV (spanA (belowA u.a (u.G-1)) 0 (u.D-1)) [[20],[364]])) (u.W-(0-u.W)+1),u.W,u.D,u.G,u.m,u.ys,u.L,u.C++[[belowV u.a (u.G-1),spanLo (belowA u.a (u.G-1)) 0 (u.D-1),spanHi (belowA u.a (u.G-1)) 0 (u.D-1),spanLo (ofA (spanA (belowA u.a (u.G-1)) 0 (u.D-1)) [[20],[364]]) 0 (ofV (spanA (belowA u.a (u.G-1)) 0 (u.D-1)) [[20],[364]]),spanHi (ofA (spanA (belowA u.a (u.G-1)) 0 (u.D-1)) [[20],[364]]) 0 (ofV (spanA (belowA u.a (u.G-1)) 0 (u.D-1)) [[20],[364]]),0-u.W+belowV (spanA (ofA (spanA (belowA u.a (u.G-1)) 0 (u.D-1)) [[20],[364]]) 0 (ofV (spanA (belowA u.a (u.G-1)) 0 (u.D-1)) [[20],[364]])) (u.W-(0-u.W)+1)]]⟩,⟨⟨⟨hu.w,hu.d,hu.g,hu.m,hu.n,hu.l,?_,hu.c.snoc (by omega) (belowG _ hg1) (spanDD _ hd.1) (spanYY _ (ofV_20 _)) (fromW _ hw.1)⟩,hlu⟩,by simp only; omega⟩,rfl,⟨by simp,fun i hi=>snoc6 i (by simpa using hi)⟩,⟨rfl,fun i hi=>rfl⟩,rfl,rfl,rfl,rfl,by simp,rfl,plain_elemOf _ _ _,hlu.nam⟩
   simp only [List.length_append,List.length_singleton]
   exact hl1
  ·exact fin
  ·exact fin
theorem e_BayOf:V_BayOf=needG P [] [F_Below,F_From,F_Of,F_Span] [] A_BayOf F_BayOf:=by kernel_rfl
theorem n_BayOf:Ob (needG P [] [F_Below,F_From,F_Of,F_Span] [] A_BayOf F_BayOf):=by
 rw [← e_BayOf]
 exact⟨v_BayOf⟩
theorem b_BayOf:((P.funcs[6]?).any fun fn=>fn.body.isSome)=true:=by kernel_rfl
theorem BayOf_ok:FnG.Ok P F_BayOf:=FnG.ok named (l:=[]) (es:=[F_Below,F_From,F_Of,F_Span]) (gs:=[]) (A:=A_BayOf) (by rfl) (by rfl) (by rfl) (by
 intro F h; simp at h) (by
 intro F h
 simp only [List.mem_cons,List.not_mem_nil,or_false]at h
 rcases h with rfl | rfl | rfl | rfl
 ·exact Below_ok
 ·exact From_ok
 ·exact Of_ok
 ·exact Span_ok
) (by
 intro F h; simp at h) b_BayOf rfl n_BayOf
end Go.Proofs.Ytcdifnheflhbmaa.Sy
