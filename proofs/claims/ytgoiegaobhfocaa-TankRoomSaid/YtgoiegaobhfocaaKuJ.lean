import Derived.Test.YtgoiegaobhfocaaSyP2
import Derived.Test.YtgoiegaobhfocaaGrM
import Derived.Test.YtgoiegaobhfocaaKtT
import Derived.Test.YtgoiegaobhfocaaKtG
import Derived.Test.YtgoiegaobhfocaaKtH
import Derived.Test.YtgoiegaobhfocaaKtI
import Derived.Test.YtgoiegaobhfocaaKuA
import Derived.Test.YtgoiegaobhfocaaKuB
import Derived.Test.YtgoiegaobhfocaaKuC
import Derived.Test.YtgoiegaobhfocaaKuD
import Derived.Test.YtgoiegaobhfocaaKuE
import Derived.Test.YtgoiegaobhfocaaKuI
import Derived.Test.YtgoiegaobhfocaaSyP2
import Derived.KernelRfl
import Derived.Test.YtgoiegaobhfocaaProg
namespace Go.Proofs.Ytgoiegaobhfocaa.Sy
open Go Go.Rv
set_option linter.unusedVariables false
def itQ (Q:Int→Int) (a:Int):Nat→Int
 | 0=>a
 | k+1=>Q (itQ Q a k)
def itR (Q:Int→Int) (row:Int→List Int) (a:Int):Nat→Rows
 | 0=>[]
 | k+1=>itR Q row a k++[row (itQ Q a k)]
theorem itQ_succ (Q:Int→Int) (a:Int) (k:Nat):itQ Q a (k+1)=Q (itQ Q a k):=rfl
theorem itR_succ (Q:Int→Int) (row:Int→List Int) (a:Int) (k:Nat):itR Q row a (k+1)=itR Q row a k++[row (itQ Q a k)]:=rfl
theorem it_len (Q:Int→Int) (row:Int→List Int) (a:Int):∀k,(itR Q row a k).length=k
 | 0=>rfl
 | k+1=>by simp [itR,it_len Q row a k]
theorem it_mem {Q:Int→Int} {row:Int→List Int} {a:Int} {p:List Int→Prop} (h:∀b,p (row b)):∀k,∀r∈itR Q row a k,p r
 | 0=>by simp [itR]
 | k+1=>by
  intro r hr
  simp only [itR,List.mem_append,List.mem_singleton]at hr
  rcases hr with hr | rfl
  ·exact it_mem h k r hr
  ·exact h _
theorem getD_appL {α:Type} {l r:List α} {d:α} {i:Nat} (h:i < l.length):(l++r).getD i d=l.getD i d:=by
 rw [List.getD_eq_getElem?_getD,List.getD_eq_getElem?_getD,List.getElem?_append_left h]
theorem it_get (Q:Int→Int) (row:Int→List Int) (a:Int):∀k i,i < k→(itR Q row a k).getD i []=row (itQ Q a i)
 | 0,i,hi=>by omega
 | k+1,i,hi=>by
  have hl:=it_len Q row a k
  simp only [itR]
  by_cases e:i=k
  ·subst e
   rw [List.getD_eq_getElem?_getD,List.getElem?_append_right (by omega),hl,Nat.sub_self]
   rfl
  ·rw [getD_appL (by omega)]
   exact it_get Q row a k i (by omega)
theorem it_cell (Q:Int→Int) (row:Int→List Int) (a:Int) {k i:Nat} (h:i < k) (j:Nat):cell (itR Q row a k) i j=(row (itQ Q a i)).getD j 0:=by
 unfold cell
 rw [it_get Q row a k i h]
theorem itQ_zero (Q:Int→Int) (a:Int):itQ Q a 0=a:=rfl
theorem snoc8 {R:Rows} {k:Nat} {x0 x1 x2 x3 x4 x5 x6 x7:Int} (hl:R.length=k):∀i,i < k+1→(behind k (.fn (Rv.elemOf [.i64,.i64,.i64,.i64,.i64,.i64,.i64,.i64] R)) 1 (litEl [SV.i .i64 x0,SV.i .i64 x1,SV.i .i64 x2,SV.i .i64 x3,SV.i .i64 x4,SV.i .i64 x5,SV.i .i64 x6,SV.i .i64 x7] 8 1)).at i=(El.fn (Rv.elemOf [.i64,.i64,.i64,.i64,.i64,.i64,.i64,.i64] (R++[[x0,x1,x2,x3,x4,x5,x6,x7]]))).at i:=fun i hi=>by
 have:=snoc_at (R:=R) (ks:=[.i64,.i64,.i64,.i64,.i64,.i64,.i64,.i64]) (r:=[x0,x1,x2,x3,x4,x5,x6,x7]) (cs:=[SV.i .i64 x0,SV.i .i64 x1,SV.i .i64 x2,SV.i .i64 x3,SV.i .i64 x4,SV.i .i64 x5,SV.i .i64 x6,SV.i .i64 x7]) rfl (i:=i) (by omega)
 rw [hl]at this
 exact this
def plA1 (a:Int):Int:=waQ a
def plA2 (a:Int):Int:=spanA (plA1 a) 0 9000
def plA3 (a:Int):Int:=spanA (plA2 a) 0 500
def plC (a:Int):Int:=ofV (plA3 a) [[0],[40]]
def plA4 (a:Int):Int:=ofA (plA3 a) [[0],[40]]
def plA5 (a:Int):Int:=spanA (plA4 a) 0 (plC a)
def plD (a:Int):Int:=ofV (plA5 a) [[-5],[5]]
def plA6 (a:Int):Int:=ofA (plA5 a) [[-5],[5]]
def plA7 (a:Int):Int:=spanA (plA6 a) (-5) (plD a)
def plF (a:Int):Int:=400+belowV (plA7 a) 501
def plA8 (a:Int):Int:=belowA (plA7 a) 501
def plA9 (a:Int):Int:=ofA (plA8 a) [[0],[plF a]]
def plM (a:Int):Int:=0+belowV (plA9 a) 61
def plA10 (a:Int):Int:=belowA (plA9 a) 61
def plA11 (a:Int):Int:=ofA (plA10 a) [[100000],[plM a]]
def plA12 (a:Int):Int:=belowA (plA11 a) 111
def plA13 (a:Int):Int:=belowA (plA12 a) 341
def plv_s1 (a:Int):Int:=spanLo a 600 1000
def plv_s2 (a:Int):Int:=spanHi a 600 1000
def plv_s3 (a:Int):Int:=spanLo (waB a) 0 (waC a)
def plv_s4 (a:Int):Int:=spanHi (waB a) 0 (waC a)
def plv_s5 (a:Int):Int:=spanLo (waD a) 30 120
def plv_s6 (a:Int):Int:=spanHi (waD a) 30 120
def plv_u1 (a:Int):Int:=spanLo (plA1 a) 0 9000
def plv_u2 (a:Int):Int:=spanHi (plA1 a) 0 9000
def plv_v1 (a:Int):Int:=spanLo (plA2 a) 0 500
def plv_v2 (a:Int):Int:=spanHi (plA2 a) 0 500
def plv_a1 (a:Int):Int:=spanLo (plA4 a) 0 (plC a)
def plv_a2 (a:Int):Int:=spanHi (plA4 a) 0 (plC a)
def plv_g1 (a:Int):Int:=spanLo (plA6 a) (-5) (plD a)
def plv_g2 (a:Int):Int:=spanHi (plA6 a) (-5) (plD a)
def plv_le (a:Int):Int:=ofV (plA8 a) [[0],[plF a]]
def plv_mo (a:Int):Int:=ofV (plA10 a) [[100000],[plM a]]
def plv_w1 (a:Int):Int:=-50+belowV (plA11 a) 111
def plv_w2 (a:Int):Int:=60+belowV (plA12 a) 341
def plN (a tanks:Int):Int:=1+belowV (plA13 a) (tanks-1+1)
def plA14 (a tanks:Int):Int:=belowA (plA13 a) (tanks-1+1)
def tw1 (b:Int):Int:=1+belowV b 3000
def twB1 (b:Int):Int:=belowA b 3000
def twL (b:Int):Int:=ofV (twB1 b) [[1],[100],[1000],[tw1 b]]
def twB2 (b:Int):Int:=ofA (twB1 b) [[1],[100],[1000],[tw1 b]]
def tw2 (b:Int):Int:=belowV (twB2 b) 30000
def twB3 (b:Int):Int:=belowA (twB2 b) 30000
def twG (b:Int):Int:=ofV (twB3 b) [[0],[tw2 b]]
def twB4 (b:Int):Int:=ofA (twB3 b) [[0],[tw2 b]]
def twR (b:Int):List Int:=[twL b,twG b,spanLo (twB4 b) 600 1000,spanHi (twB4 b) 600 1000,spanLo (waB (twB4 b)) 0 (waC (twB4 b)),spanHi (waB (twB4 b)) 0 (waC (twB4 b)),spanLo (waD (twB4 b)) 30 120,spanHi (waD (twB4 b)) 30 120]
def twQ (b:Int):Int:=waQ (twB4 b)
def plT (a tanks:Int):Rows:=itR twQ twR (plA14 a tanks) (plN a tanks).toNat
def plA15 (a tanks:Int):Int:=itQ twQ (plA14 a tanks) (plN a tanks).toNat
def plP (a tanks pumps:Int):Int:=belowV (plA15 a tanks) (pumps+1)
def plA16 (a tanks pumps:Int):Int:=belowA (plA15 a tanks) (pumps+1)
def puK (T:Rows) (q:Int):Int:=belowV q T.length
def puB (T:Rows) (q:Int):Int:=belowA q T.length
def puS (T R:Rows) (q:Int):Int:=cell T (puK T q).toNat 0-flT R (puK T q) (-1) 0 0 R.length
def puF (T R:Rows) (q:Int):Int:=0+belowV (puB T q) (puS T R q-0+1)
def puC (T R:Rows) (q:Int):Int:=belowA (puB T q) (puS T R q-0+1)
def puV (T R:Rows) (q:Int):Int:=ofV (puC T R q) [[puF T R q],[(puS T R q).tdiv 2]]
def puX (T R:Rows) (q:Int):Int:=ofA (puC T R q) [[puF T R q],[(puS T R q).tdiv 2]]
structure PuS where
 R:Rows
 q:Int
def puG (T:Rows) (b:Int):Nat→PuS
 | 0=>⟨[],b⟩
 | k+1=>⟨(puG T b k).R++[[puK T (puG T b k).q,puV T (puG T b k).R (puG T b k).q]],puX T (puG T b k).R (puG T b k).q⟩
theorem pu_ex (T:Rows) (b:Int):∃R:Nat→Rows,∃q:Nat→Int,R 0=[]∧q 0=b∧∀k,R (k+1)=R k++[[puK T (q k),puV T (R k) (q k)]]∧q (k+1)=puX T (R k) (q k):=
 ⟨fun k=>(puG T b k).R,fun k=>(puG T b k).q,rfl,rfl,fun _=>⟨rfl,rfl⟩⟩
noncomputable def puR (T:Rows) (b:Int):Nat→Rows:=Classical.choose (pu_ex T b)
noncomputable def puQ (T:Rows) (b:Int):Nat→Int:=Classical.choose (Classical.choose_spec (pu_ex T b))
theorem pu_spec (T:Rows) (b:Int):puR T b 0=[]∧puQ T b 0=b∧∀k,puR T b (k+1)=puR T b k++[[puK T (puQ T b k),puV T (puR T b k) (puQ T b k)]]∧puQ T b (k+1)=puX T (puR T b k) (puQ T b k):=
 Classical.choose_spec (Classical.choose_spec (pu_ex T b))
theorem pu_len (T:Rows) (b:Int):∀k,(puR T b k).length=k
 | 0=>by rw [(pu_spec T b).1]; rfl
 | k+1=>by rw [((pu_spec T b).2.2 k).1,List.length_append,pu_len T b k]; rfl
theorem pu_w (T:Rows) (b:Int):∀k,∀r∈puR T b k,r.length=2
 | 0=>by rw [(pu_spec T b).1]; simp
 | k+1=>by
  rw [((pu_spec T b).2.2 k).1]
  intro r hr
  simp only [List.mem_append,List.mem_singleton]at hr
  rcases hr with hr | rfl
  ·exact pu_w T b k r hr
  ·rfl
theorem cell_app1 {R:Rows} {r:List Int} {i j:Nat} (h:i < R.length):cell (R++[r]) i j=cell R i j:=by
 unfold cell
 rw [getD_appL h]
theorem cell_app2 {R:Rows} {r:List Int} {j:Nat}:cell (R++[r]) R.length j=r.getD j 0:=by
 have e:(R++[r]).getD R.length []=r:=by
  rw [List.getD_eq_getElem?_getD,List.getElem?_append_right (Nat.le_refl _),Nat.sub_self]
  rfl
 unfold cell
 rw [e]
theorem cell_p0 {R:Rows} {x y:Int}:cell (R++[[x,y]]) R.length 0=x:=cell_app2
theorem cell_p1 {R:Rows} {x y:Int}:cell (R++[[x,y]]) R.length 1=y:=cell_app2
theorem flA_app {R:Rows} {r:List Int} {nu:Int}:∀k,k≤R.length→flT (R++[r]) nu (-1) 0 0 k=flT R nu (-1) 0 0 k
 | 0,_=>rfl
 | k+1,h=>by rw [flA_step,flA_step,flA_app k (by omega),cell_app1 (by omega),cell_app1 (by omega)]
structure PuOk (T R:Rows):Prop where
 r:∀i,i < R.length→(0≤cell R i 0∧cell R i 0 < T.length)∧0≤cell R i 1∧cell R i 1≤100000
 f:∀i:Nat,i < T.length→flT R i (-1) 0 0 R.length≤cell T i 0
structure TaOk (T:Rows):Prop where
 n:0 < T.length
 c:∀i,i < T.length→0≤cell T i 0∧cell T i 0≤100000
theorem puK_in {T:Rows} (hT:TaOk T) (q:Int):0≤puK T q∧puK T q < T.length:=by
 have h:=belowV_in q T.length
 have n:=hT.n
 unfold puK
 omega
theorem puS_in {T R:Rows} (hT:TaOk T) (h:PuOk T R) (q:Int):0≤puS T R q∧puS T R q≤100000:=by
 have hk:=puK_in hT q
 obtain⟨k,hk2⟩:=Int.eq_ofNat_of_zero_le hk.1
 have hf:=h.f k (by omega)
 have hc:=hT.c k (by omega)
 have hb:=flT_bd (R:=R) (nu:=k) (sp:=-1) (sf:=0) (h:=0) (k:=R.length) fun i hi=>(h.r i hi).2
 unfold puS
 rw [hk2]
 simp only [Int.toNat_natCast]
 omega
theorem tdiv2 {S:Int} (h:0≤S):0≤S.tdiv 2∧S.tdiv 2≤S:=by
 rw [Int.tdiv_eq_ediv_of_nonneg h]
 omega
theorem puV_in {T R:Rows} {q:Int} (h:0≤puS T R q):0≤puV T R q∧puV T R q≤puS T R q:=by
 have h1:=belowV_in (puB T q) (puS T R q-0+1)
 have h2:=tdiv2 h
 have h3:0≤puF T R q∧puF T R q≤puS T R q:=by
  unfold puF
  omega
 unfold puV
 rcases ofV_two (puC T R q) (puF T R q) ((puS T R q).tdiv 2)with e | e<;>rw [e]<;>assumption
theorem PuOk.next {T R:Rows} {q:Int} (hT:TaOk T) (h:PuOk T R):PuOk T (R++[[puK T q,puV T R q]]):=by
 have hk:=puK_in hT q
 have hs:=puS_in hT h q
 have hv:=puV_in hs.1
 have hl:(R++[[puK T q,puV T R q]]).length=R.length+1:=by simp
 have hS:∀i:Nat,puK T q=i→puS T R q=cell T i 0-flT R i (-1) 0 0 R.length:=fun i e=>by
  unfold puS
  rw [e]
  simp only [Int.toNat_natCast]
 obtain⟨k,hK⟩:∃k,puK T q=k:=⟨_,rfl⟩
 obtain⟨v,hV⟩:∃v,puV T R q=v:=⟨_,rfl⟩
 obtain⟨S,hSS⟩:∃S,puS T R q=S:=⟨_,rfl⟩
 rw [hK]at hk hS
 rw [hV]at hv
 rw [hSS]at hs hv hS
 rw [hK,hV]at hl ⊢
 clear hK hV hSS
 have e0:cell (R++[[k,v]]) R.length 0=k:=cell_p0
 have e1:cell (R++[[k,v]]) R.length 1=v:=cell_p1
 constructor
 ·intro i hi
  rw [hl]at hi
  by_cases e:i=R.length
  ·subst e
   rw [e0,e1]
   omega
  ·rw [cell_app1 (by omega),cell_app1 (by omega)]
   exact h.r i (by omega)
 ·intro i hi
  rw [hl,flA_step,flA_app _ (Nat.le_refl _),e0,e1]
  have hf:=h.f i hi
  split
  ·rename_i e
   have:=hS i e
   omega
  ·omega
theorem pu_ok {T:Rows} (hT:TaOk T) (b:Int):∀k,PuOk T (puR T b k)
 | 0=>by
  rw [(pu_spec T b).1]
  exact⟨fun i hi=>absurd hi (by simp),fun i hi=>(hT.c i hi).1⟩
 | k+1=>by
  rw [((pu_spec T b).2.2 k).1]
  exact(pu_ok hT b k).next hT
theorem ofV_four (a x y z w:Int):ofV a [[x],[y],[z],[w]]=x∨ofV a [[x],[y],[z],[w]]=y∨ofV a [[x],[y],[z],[w]]=z∨ofV a [[x],[y],[z],[w]]=w:=by
 have h:=belowV_in a 4
 have e:ofV a [[x],[y],[z],[w]]=cell [[x],[y],[z],[w]] (belowV a 4).toNat 0:=by simp [ofV]
 rw [e]
 have:(belowV a 4).toNat=0∨(belowV a 4).toNat=1∨(belowV a 4).toNat=2∨(belowV a 4).toNat=3:=by
  generalize belowV a 4=q at *
  omega
 rcases this with h0 | h0 | h0 | h0<;>rw [h0]
 ·exact .inl rfl
 ·exact .inr (.inl rfl)
 ·exact .inr (.inr (.inl rfl))
 ·exact .inr (.inr (.inr rfl))
theorem twL_in (b:Int):1≤twL b∧twL b≤100000:=by
 have h:=belowV_in b 3000
 have h1:1≤tw1 b∧tw1 b≤3000:=by
  unfold tw1
  omega
 unfold twL
 rcases ofV_four (twB1 b) 1 100 1000 (tw1 b)with e | e | e | e<;>rw [e]<;>omega
theorem twG_in (b:Int):0≤twG b∧twG b≤10000000:=by
 have h:=belowV_in (twB2 b) 30000
 have h1:0≤tw2 b∧tw2 b≤30000:=by
  unfold tw2
  omega
 unfold twG
 rcases ofV_two (twB3 b) 0 (tw2 b)with e | e<;>rw [e]<;>omega
theorem tk_of {T:Rows} {i:Nat} {x1 x2 y1 y2 y3 y4 y5 y6:Int} (e:∀j,cell T i j=[x1,x2,y1,y2,y3,y4,y5,y6].getD j 0) (h1:1≤x1∧x1≤100000) (h2:0≤x2∧x2≤10000000) (h3:WaOk y1 y2 y3 y4 y5 y6):TkOk T i:=by
 constructor
 ·rw [e 0]; exact h1
 ·rw [e 1]; exact h2
 ·rw [e 2,e 3,e 4,e 5,e 6,e 7]; exact h3
theorem twR_is (b:Int):twR b=[twL b,twG b,spanLo (twB4 b) 600 1000,spanHi (twB4 b) 600 1000,spanLo (waB (twB4 b)) 0 (waC (twB4 b)),spanHi (waB (twB4 b)) 0 (waC (twB4 b)),spanLo (waD (twB4 b)) 30 120,spanHi (waD (twB4 b)) 30 120]:=rfl
theorem tk_it (a:Int) {n i:Nat} (hi:i < n):TkOk (itR twQ twR a n) i:=
 tk_of (fun j=>(it_cell twQ twR a hi j).trans (by rw [twR_is])) (twL_in (itQ twQ a i)) (twG_in (itQ twQ a i)) (wa_ok (twB4 (itQ twQ a i)))
theorem plN_in {a tanks:Int} (h:1≤tanks):1≤plN a tanks∧plN a tanks≤tanks:=by
 have:=belowV_in (plA13 a) (tanks-1+1)
 unfold plN
 omega
theorem plP_in {a tanks pumps:Int} (h:0≤pumps):0≤plP a tanks pumps∧plP a tanks pumps≤pumps:=by
 have:=belowV_in (plA15 a tanks) (pumps+1)
 unfold plP
 omega
theorem plT_len (a tanks:Int):(plT a tanks).length=(plN a tanks).toNat:=it_len _ _ _ _
theorem plT_ta {a tanks:Int} (h:1≤tanks):TaOk (plT a tanks):=by
 have hn:=plN_in (a:=a) h
 have hl:=plT_len a tanks
 refine⟨by omega,fun i hi=>?_⟩
 have hk:TkOk (plT a tanks) i:=tk_it _ (by omega)
 have:=hk.l
 omega
theorem plC_is (a:Int):plC a=0∨plC a=40:=ofV_two _ _ _
theorem plD_is (a:Int):plD a=-5∨plD a=5:=ofV_two _ _ _
theorem plF_in (a:Int):400≤plF a∧plF a≤900:=by
 have:=belowV_in (plA7 a) 501
 unfold plF
 omega
theorem plM_in (a:Int):0≤plM a∧plM a≤60:=by
 have:=belowV_in (plA9 a) 61
 unfold plM
 omega
theorem pl_u (a:Int):SpOk (plv_u1 a) (plv_u2 a) 0 100000:=by
 unfold plv_u1 plv_u2
 have h1:=spanLo_in (plA1 a) (lo:=0) (hi:=9000) (by omega)
 have h2:=spanHi_in (plA1 a) (lo:=0) (hi:=9000) (by omega)
 generalize plA1 a=c at *
 refine⟨?_,?_,?_⟩<;>omega
theorem pl_v (a:Int):SpOk (plv_v1 a) (plv_v2 a) 0 100000:=by
 unfold plv_v1 plv_v2
 have h1:=spanLo_in (plA2 a) (lo:=0) (hi:=500) (by omega)
 have h2:=spanHi_in (plA2 a) (lo:=0) (hi:=500) (by omega)
 generalize plA2 a=c at *
 refine⟨?_,?_,?_⟩<;>omega
theorem pl_a (a:Int):SpOk (plv_a1 a) (plv_a2 a) 0 100000:=by
 unfold plv_a1 plv_a2
 have hC:=plC_is a
 generalize plC a=C at *
 have h1:=spanLo_in (plA4 a) (lo:=0) (hi:=C) (by omega)
 have h2:=spanHi_in (plA4 a) (lo:=0) (hi:=C) (by omega)
 generalize plA4 a=c at *
 refine⟨?_,?_,?_⟩<;>omega
theorem pl_g (a:Int):SpOk (plv_g1 a) (plv_g2 a) (-400) 400:=by
 unfold plv_g1 plv_g2
 have hC:=plD_is a
 generalize plD a=C at *
 have h1:=spanLo_in (plA6 a) (lo:=-5) (hi:=C) (by omega)
 have h2:=spanHi_in (plA6 a) (lo:=-5) (hi:=C) (by omega)
 generalize plA6 a=c at *
 refine⟨?_,?_,?_⟩<;>omega
theorem pl_e (a:Int):(0≤plv_le a∧plv_le a≤100000)∧0≤plv_mo a∧plv_mo a≤100000:=by
 unfold plv_le plv_mo
 have h1:=plF_in a
 have h2:=plM_in a
 generalize plF a=f at *
 generalize plM a=m at *
 generalize plA8 a=c at *
 generalize plA10 a=d at *
 have h3:=ofV_two c 0 f
 have h4:=ofV_two d 100000 m
 generalize ofV c [[0],[f]]=x at *
 generalize ofV d [[100000],[m]]=y at *
 omega
theorem pl_w (a:Int):SpOk (plv_w1 a) (plv_w2 a) (-50) 400:=by
 unfold plv_w1 plv_w2
 have h1:=belowV_in (plA11 a) 111
 have h2:=belowV_in (plA12 a) 341
 generalize belowV (plA11 a) 111=x at *
 generalize belowV (plA12 a) 341=y at *
 refine⟨?_,?_,?_⟩<;>omega
theorem pl_s (a:Int):WaOk (plv_s1 a) (plv_s2 a) (plv_s3 a) (plv_s4 a) (plv_s5 a) (plv_s6 a):=by
 unfold plv_s1 plv_s2 plv_s3 plv_s4 plv_s5 plv_s6
 exact wa_ok a
theorem pl_mk {T R:Rows} {s1 s2 s3 s4 s5 s6 u1 u2 v1 v2 a1 a2 g1 g2 le mo w1 w2:Int} (hn:1≤T.length∧T.length≤6) (ht:∀i,i < T.length→TkOk T i) (hm:R.length≤8) (ok:PuOk T R) (h1:WaOk s1 s2 s3 s4 s5 s6) (h2:SpOk u1 u2 0 100000) (h3:SpOk v1 v2 0 100000) (h4:SpOk a1 a2 0 100000) (h5:SpOk g1 g2 (-400) 400) (h6:(0≤le∧le≤100000)∧0≤mo∧mo≤100000) (h7:SpOk w1 w2 (-50) 400):(Pl.mk T R s1 s2 s3 s4 s5 s6 u1 u2 v1 v2 a1 a2 g1 g2 le mo w1 w2).Ok:=
 ⟨hn,ht,hm,ok.r,ok.f,h1,h2,h3,h4,h5,h6,h7⟩
theorem pl_ok {a tanks pumps:Int} (h:1≤tanks∧tanks≤6) (hp:0≤pumps∧pumps≤8):(Pl.mk (plT a tanks) (puR (plT a tanks) (plA16 a tanks pumps) (plP a tanks pumps).toNat) (plv_s1 a) (plv_s2 a) (plv_s3 a) (plv_s4 a) (plv_s5 a) (plv_s6 a) (plv_u1 a) (plv_u2 a) (plv_v1 a) (plv_v2 a) (plv_a1 a) (plv_a2 a) (plv_g1 a) (plv_g2 a) (plv_le a) (plv_mo a) (plv_w1 a) (plv_w2 a)).Ok:=by
 have hn:=plN_in (a:=a) h.1
 have hl:=plT_len a tanks
 have hP:=plP_in (a:=a) (tanks:=tanks) hp.1
 have hR:=pu_len (plT a tanks) (plA16 a tanks pumps) (plP a tanks pumps).toNat
 have ok:=pu_ok (plT_ta (a:=a) h.1) (plA16 a tanks pumps) (plP a tanks pumps).toNat
 have ht:∀i,i < (plN a tanks).toNat→TkOk (plT a tanks) i:=fun i hi=>by
  unfold plT
  exact tk_it (plA14 a tanks) hi
 rw [← hl]at ht
 refine pl_mk ?_ ht ?_ ok (pl_s a) (pl_u a) (pl_v a) (pl_a a) (pl_g a) (pl_e a) (pl_w a)
 ·omega
 ·omega
noncomputable def F_PlantOf:FnE:=⟨9,(some [.i .u64]),[i64,i64],fun l=>match l with | [.z a,.z tanks,.z pumps]=>1≤tanks∧tanks≤6∧0≤pumps∧pumps≤8 | _=>False,fun l=>match l with | [.z a,.z tanks,.z pumps]=>[.agg [.gsl 0 (plN a tanks).toNat 8 true,.gsl 1 (plP a tanks pumps).toNat 2 true,.i .i64 (plv_s1 a),.i .i64 (plv_s2 a),.i .i64 (plv_s3 a),.i .i64 (plv_s4 a),.i .i64 (plv_s5 a),.i .i64 (plv_s6 a),.i .i64 (plv_u1 a),.i .i64 (plv_u2 a),.i .i64 (plv_v1 a),.i .i64 (plv_v2 a),.i .i64 (plv_a1 a),.i .i64 (plv_a2 a),.i .i64 (plv_g1 a),.i .i64 (plv_g2 a),.i .i64 (plv_le a),.i .i64 (plv_mo a),.i .i64 (plv_w1 a),.i .i64 (plv_w2 a)]] | _=>[],fun l=>match l with | [.z a,.z tanks,.z pumps]=>[.gr (plP a tanks pumps).toNat 2 (.fn (Rv.elemOf [.i64,.i64] (puR (plT a tanks) (plA16 a tanks pumps) (plP a tanks pumps).toNat))) .gr true,.gr (plN a tanks).toNat 8 (.fn (Rv.elemOf [.i64,.i64,.i64,.i64,.i64,.i64,.i64,.i64] (plT a tanks))) .gr true] | _=>[],fun l=>match l with | [.z a,.z tanks,.z pumps]=>[.i .u64 (puQ (plT a tanks) (plA16 a tanks pumps) (plP a tanks pumps).toNat)] | _=>[],false,none,none⟩
noncomputable def A_PlantOf:List SV→List Dat→Nat→List SV→Ann:=fun xs ds n ts=>match xs with
 | [.agg _,.i _ _,.i _ _]=>match ds with
  | [.z a,.z tanks,.z pumps]=>match n with
   | 3=>⟨Nat,fun k=>([some (SV.ptr ((0:Nat)) ((0:Nat))),none,some (SV.i IntKind.i64 pumps),none,none,none,some (SV.ptr ((1:Nat)) ((0:Nat))),some (SV.ptr ((6:Nat)) ((0:Nat))),some (.i .i64 (plN a tanks-k))]++nN 100),fun k=>[.gr k 8 (.fn (Rv.elemOf [.i64,.i64,.i64,.i64,.i64,.i64,.i64,.i64] (itR twQ twR (plA14 a tanks) k))) .gr true,.cells [.gsl 7 k 8 true,.v (.slice none 0 0),.i .i64 (plv_s1 a),.i .i64 (plv_s2 a),.i .i64 (plv_s3 a),.i .i64 (plv_s4 a),.i .i64 (plv_s5 a),.i .i64 (plv_s6 a),.i .i64 (plv_u1 a),.i .i64 (plv_u2 a),.i .i64 (plv_v1 a),.i .i64 (plv_v2 a),.i .i64 (plv_a1 a),.i .i64 (plv_a2 a),.i .i64 (plv_g1 a),.i .i64 (plv_g2 a),.i .i64 (plv_le a),.i .i64 (plv_mo a),.i .i64 (plv_w1 a),.i .i64 (plv_w2 a)] .ex,.dead,.dead,.dead,.dead,SObj.cells [SV.v (Value.slice none ((0:Nat)) ((0:Nat))),SV.v (Value.slice none ((0:Nat)) ((0:Nat))),SV.v (Value.int IntKind.i64 (0:Int)),SV.v (Value.int IntKind.i64 (0:Int)),SV.v (Value.int IntKind.i64 (0:Int)),SV.v (Value.int IntKind.i64 (0:Int)),SV.v (Value.int IntKind.i64 (0:Int)),SV.v (Value.int IntKind.i64 (0:Int)),SV.v (Value.int IntKind.i64 (0:Int)),SV.v (Value.int IntKind.i64 (0:Int)),SV.v (Value.int IntKind.i64 (0:Int)),SV.v (Value.int IntKind.i64 (0:Int)),SV.v (Value.int IntKind.i64 (0:Int)),SV.v (Value.int IntKind.i64 (0:Int)),SV.v (Value.int IntKind.i64 (0:Int)),SV.v (Value.int IntKind.i64 (0:Int)),SV.v (Value.int IntKind.i64 (0:Int)),SV.v (Value.int IntKind.i64 (0:Int)),SV.v (Value.int IntKind.i64 (0:Int)),SV.v (Value.int IntKind.i64 (0:Int))] Kd.ex,.cells [.i .u64 (itQ twQ (plA14 a tanks) k)] .ex],fun k=>(k:Int)≤plN a tanks,fun k=>(plN a tanks-k).toNat,0⟩
   | 7=>⟨Nat,fun k=>([some (SV.ptr ((0:Nat)) ((0:Nat))),none,none,none,none,none,some (SV.ptr ((1:Nat)) ((0:Nat))),some (SV.ptr ((6:Nat)) ((0:Nat))),none,some (.i .i64 (plP a tanks pumps-k))]++nN 99),fun k=>[.gr k 2 (.fn (Rv.elemOf [.i64,.i64] (puR (plT a tanks) (plA16 a tanks pumps) k))) .gr true,.gr (plN a tanks).toNat 8 (.fn (Rv.elemOf [.i64,.i64,.i64,.i64,.i64,.i64,.i64,.i64] (plT a tanks))) .gr true,.cells [.gsl 7 (plN a tanks).toNat 8 true,.gsl 8 k 2 true,.i .i64 (plv_s1 a),.i .i64 (plv_s2 a),.i .i64 (plv_s3 a),.i .i64 (plv_s4 a),.i .i64 (plv_s5 a),.i .i64 (plv_s6 a),.i .i64 (plv_u1 a),.i .i64 (plv_u2 a),.i .i64 (plv_v1 a),.i .i64 (plv_v2 a),.i .i64 (plv_a1 a),.i .i64 (plv_a2 a),.i .i64 (plv_g1 a),.i .i64 (plv_g2 a),.i .i64 (plv_le a),.i .i64 (plv_mo a),.i .i64 (plv_w1 a),.i .i64 (plv_w2 a)] .ex,.dead,.dead,.dead,.dead,SObj.cells [SV.v (Value.slice none ((0:Nat)) ((0:Nat))),SV.v (Value.slice none ((0:Nat)) ((0:Nat))),SV.v (Value.int IntKind.i64 (0:Int)),SV.v (Value.int IntKind.i64 (0:Int)),SV.v (Value.int IntKind.i64 (0:Int)),SV.v (Value.int IntKind.i64 (0:Int)),SV.v (Value.int IntKind.i64 (0:Int)),SV.v (Value.int IntKind.i64 (0:Int)),SV.v (Value.int IntKind.i64 (0:Int)),SV.v (Value.int IntKind.i64 (0:Int)),SV.v (Value.int IntKind.i64 (0:Int)),SV.v (Value.int IntKind.i64 (0:Int)),SV.v (Value.int IntKind.i64 (0:Int)),SV.v (Value.int IntKind.i64 (0:Int)),SV.v (Value.int IntKind.i64 (0:Int)),SV.v (Value.int IntKind.i64 (0:Int)),SV.v (Value.int IntKind.i64 (0:Int)),SV.v (Value.int IntKind.i64 (0:Int)),SV.v (Value.int IntKind.i64 (0:Int)),SV.v (Value.int IntKind.i64 (0:Int))] Kd.ex,.cells [.i .u64 (puQ (plT a tanks) (plA16 a tanks pumps) k)] .ex],fun k=>(k:Int)≤plP a tanks pumps,fun k=>(plP a tanks pumps-k).toNat,0⟩
   | _=>noAnn
  | _=>noAnn
 | _=>noAnn
def V_PlantOf:Prop:=
 ∀(B:RW) (a b c:Int),F_PlantOf.pre ([Dat.z a]++([Dat.z b]++([Dat.z c]++[])))→Ob (F_WaterOf.named.pre ([Dat.z a]++[]))∧∀(t:Int),t=waQ a→∀(U:Int),U=spanLo a (600:Int) (1000:Int)→∀(X:Int),X=spanHi a (600:Int) (1000:Int)→∀(O:Int),O=spanLo (waB a) (0:Int) (waC a)→∀(Z:Int),Z=spanHi (waB a) (0:Int) (waC a)→∀(a1:Int),a1=spanLo (waD a) (30:Int) (120:Int)→∀(I:Int),I=spanHi (waD a) (30:Int) (120:Int)→Ob (F_Span.named.pre ([Dat.z t]++[Dat.z (0:Int),Dat.z (9000:Int)]))∧∀(v:Int),v=spanA t (0:Int) (9000:Int)→∀(L:Int),L=spanLo t (0:Int) (9000:Int)→∀(a4:Int),a4=spanHi t (0:Int) (9000:Int)→Ob (F_Span.named.pre ([Dat.z v]++[Dat.z (0:Int),Dat.z (500:Int)]))∧∀(C:Int),C=spanA v (0:Int) (500:Int)→∀(a3:Int),a3=spanLo v (0:Int) (500:Int)→∀(a7:Int),a7=spanHi v (0:Int) (500:Int)→Ob (F_Of.named.pre ([Dat.z C]++[Dat.l [[(0:Int)],[(40:Int)]]]))∧∀(p:Int),p=ofA C [[(0:Int)],[(40:Int)]]→∀(r:Int),r=ofV C [[(0:Int)],[(40:Int)]]→Ob (F_Span.named.pre ([Dat.z p]++[Dat.z (0:Int),Dat.z r]))∧∀(A:Int),A=spanA p (0:Int) r→∀(T:Int),T=spanLo p (0:Int) r→∀(K:Int),K=spanHi p (0:Int) r→Ob (F_Of.named.pre ([Dat.z A]++[Dat.l [[(-5:Int)],[(5:Int)]]]))∧∀(u:Int),u=ofA A [[(-5:Int)],[(5:Int)]]→∀(q:Int),q=ofV A [[(-5:Int)],[(5:Int)]]→Ob (F_Span.named.pre ([Dat.z u]++[Dat.z (-5:Int),Dat.z q]))∧∀(D:Int),D=spanA u (-5:Int) q→∀(M:Int),M=spanLo u (-5:Int) q→∀(P:Int),P=spanHi u (-5:Int) q→Ob (F_From.named.pre ([Dat.z D]++[Dat.z (400:Int),Dat.z (900:Int)]))∧∀(z:Int),z=belowA D ((900:Int)-(400:Int)+(1:Int))→∀(H:Int),H=(400:Int)+belowV D ((900:Int)-(400:Int)+(1:Int))→Ob (F_Of.named.pre ([Dat.z z]++[Dat.l [[(0:Int)],[H]]]))∧∀(w:Int),w=ofA z [[(0:Int)],[H]]→∀(S:Int),S=ofV z [[(0:Int)],[H]]→Ob (F_From.named.pre ([Dat.z w]++[Dat.z (0:Int),Dat.z (60:Int)]))∧∀(E:Int),E=belowA w ((60:Int)-(0:Int)+(1:Int))→∀(G:Int),G=(0:Int)+belowV w ((60:Int)-(0:Int)+(1:Int))→Ob (F_Of.named.pre ([Dat.z E]++[Dat.l [[(100000:Int)],[G]]]))∧∀(x:Int),x=ofA E [[(100000:Int)],[G]]→∀(R:Int),R=ofV E [[(100000:Int)],[G]]→Ob (F_From.named.pre ([Dat.z x]++[Dat.z (-50:Int),Dat.z (60:Int)]))∧∀(F:Int),F=belowA x ((60:Int)-(-50:Int)+(1:Int))→∀(W:Int),W=(-50:Int)+belowV x ((60:Int)-(-50:Int)+(1:Int))→Ob (F_From.named.pre ([Dat.z F]++[Dat.z (60:Int),Dat.z (400:Int)]))∧∀(y:Int),y=belowA F ((400:Int)-(60:Int)+(1:Int))→∀(J:Int),J=(60:Int)+belowV F ((400:Int)-(60:Int)+(1:Int))→Ob (F_From.named.pre ([Dat.z y]++[Dat.z (1:Int),Dat.z b]))∧∀(N:Int),N=belowA y (b-(1:Int)+(1:Int))→∀(a2:Int),a2=(1:Int)+belowV y (b-(1:Int)+(1:Int))→(∃(e:Nat),Ob ((↑e:Int)≤plN a b)∧Ob (c=c)∧Ob (a2=plN a b-(↑e:Int))∧Ob (e=(0:Nat))∧Ob (e=(0:Nat))∧Ob (SV.v (Value.slice none 0 0)=SV.v (Value.slice none 0 0))∧Ob (U=plv_s1 a)∧Ob (X=plv_s2 a)∧Ob (O=plv_s3 a)∧Ob (Z=plv_s4 a)∧Ob (a1=plv_s5 a)∧Ob (I=plv_s6 a)∧Ob (L=plv_u1 a)∧Ob (a4=plv_u2 a)∧Ob (a3=plv_v1 a)∧Ob (a7=plv_v2 a)∧Ob (T=plv_a1 a)∧Ob (K=plv_a2 a)∧Ob (M=plv_g1 a)∧Ob (P=plv_g2 a)∧Ob (S=plv_le a)∧Ob (R=plv_mo a)∧Ob (W=plv_w1 a)∧Ob (J=plv_w2 a)∧Ob (SV.v (Value.slice none 0 0)=SV.v (Value.slice none 0 0))∧Ob (SV.v (Value.slice none 0 0)=SV.v (Value.slice none 0 0))∧Ob (Value.int .i64 (0:Int)=Value.int .i64 (0:Int))∧Ob (Value.int .i64 (0:Int)=Value.int .i64 (0:Int))∧Ob (Value.int .i64 (0:Int)=Value.int .i64 (0:Int))∧Ob (Value.int .i64 (0:Int)=Value.int .i64 (0:Int))∧Ob (Value.int .i64 (0:Int)=Value.int .i64 (0:Int))∧Ob (Value.int .i64 (0:Int)=Value.int .i64 (0:Int))∧Ob (Value.int .i64 (0:Int)=Value.int .i64 (0:Int))∧Ob (Value.int .i64 (0:Int)=Value.int .i64 (0:Int))∧Ob (Value.int .i64 (0:Int)=Value.int .i64 (0:Int))∧Ob (Value.int .i64 (0:Int)=Value.int .i64 (0:Int))∧Ob (Value.int .i64 (0:Int)=Value.int .i64 (0:Int))∧Ob (Value.int .i64 (0:Int)=Value.int .i64 (0:Int))∧Ob (Value.int .i64 (0:Int)=Value.int .i64 (0:Int))∧Ob (Value.int .i64 (0:Int)=Value.int .i64 (0:Int))∧Ob (Value.int .i64 (0:Int)=Value.int .i64 (0:Int))∧Ob (Value.int .i64 (0:Int)=Value.int .i64 (0:Int))∧Ob (Value.int .i64 (0:Int)=Value.int .i64 (0:Int))∧Ob (Value.int .i64 (0:Int)=Value.int .i64 (0:Int))∧Ob (N=itQ twQ (plA14 a b) e)∧Ob (PlainE e (El.fn (Rv.elemOf [.i64,.i64,.i64,.i64,.i64,.i64,.i64,.i64] (itR twQ twR (plA14 a b) e))))∧True)∧∀(e:Nat),(↑e:Int)≤plN a b→∀(_ _ _ _ _ _ _ _ _ _ _ _ _ _ _ _ _ _ _ _ _ _ _ _ _ _ _ _ _ _ _ _ _ _ _ _ _ _ _ _ _ _ _ _ _ _ _ _ _ _ _ _ _ _ _ _ _ _ _ _ _ _ _ _ _ _ _ _ _ _ _ _ _ _ _ _ _ _ _ _ _ _ _ _ _ _ _ _ _ _ _ _ _ _ _ _ _ _ _ _ _ _ _ _:Value),((0:Int) < plN a b-(↑e:Int)→Ob (F_From.named.pre ([Dat.z (itQ twQ (plA14 a b) e)]++[Dat.z (1:Int),Dat.z (3000:Int)]))∧∀(o:Int),o=belowA (itQ twQ (plA14 a b) e) ((3000:Int)-(1:Int)+(1:Int))→∀(n:Int),n=(1:Int)+belowV (itQ twQ (plA14 a b) e) ((3000:Int)-(1:Int)+(1:Int))→Ob (F_Of.named.pre ([Dat.z o]++[Dat.l [[(1:Int)],[(100:Int)],[(1000:Int)],[n]]]))∧∀(m:Int),m=ofA o [[(1:Int)],[(100:Int)],[(1000:Int)],[n]]→∀(f:Int),f=ofV o [[(1:Int)],[(100:Int)],[(1000:Int)],[n]]→Ob (F_Below.named.pre ([Dat.z m]++[Dat.z (30000:Int)]))∧∀(l:Int),l=belowA m (30000:Int)→∀(j:Int),j=belowV m (30000:Int)→Ob (F_Of.named.pre ([Dat.z l]++[Dat.l [[(0:Int)],[j]]]))∧∀(i:Int),i=ofA l [[(0:Int)],[j]]→∀(s:Int),s=ofV l [[(0:Int)],[j]]→Ob (F_WaterOf.named.pre ([Dat.z i]++[]))∧∀(Y:Int),Y=waQ i→∀(a6:Int),a6=spanLo i (600:Int) (1000:Int)→∀(V:Int),V=spanHi i (600:Int) (1000:Int)→∀(a0:Int),a0=spanLo (waB i) (0:Int) (waC i)→∀(a5:Int),a5=spanHi (waB i) (0:Int) (waC i)→∀(a8:Int),a8=spanLo (waD i) (30:Int) (120:Int)→∀(Q:Int),Q=spanHi (waD i) (30:Int) (120:Int)→Ob (e=e∧∀(k:Nat),k < e→((El.fn (Rv.elemOf [.i64,.i64,.i64,.i64,.i64,.i64,.i64,.i64] (itR twQ twR (plA14 a b) e))).at k).length=(8:Nat))∧Ob ((e+(1:Nat))*(2:Nat)*(65:Nat)≤1099511627776)∧Ob (e=e)∧Ob (InR .i64 (plN a b-(↑e:Int)-(1:Int)))∧∃(h:Nat),Ob ((↑h:Int)≤plN a b∧(plN a b-(↑h:Int)).toNat < (plN a b-(↑e:Int)).toNat)∧Ob (c=c)∧Ob (plN a b-(↑e:Int)-(1:Int)=plN a b-(↑h:Int))∧EqA (e+(1:Nat)) h (behind e (El.fn (Rv.elemOf [.i64,.i64,.i64,.i64,.i64,.i64,.i64,.i64] (itR twQ twR (plA14 a b) e))) 1 (litEl (symL [SV.i .i64 f,SV.i .i64 s,SV.i .i64 a6,SV.i .i64 V,SV.i .i64 a0,SV.i .i64 a5,SV.i .i64 a8,SV.i .i64 Q]) 8 1)) (El.fn (Rv.elemOf [.i64,.i64,.i64,.i64,.i64,.i64,.i64,.i64] (itR twQ twR (plA14 a b) h)))∧Ob (e+(1:Nat)=h)∧Ob (SV.v (Value.slice none 0 0)=SV.v (Value.slice none 0 0))∧Ob (plv_s1 a=plv_s1 a)∧Ob (plv_s2 a=plv_s2 a)∧Ob (plv_s3 a=plv_s3 a)∧Ob (plv_s4 a=plv_s4 a)∧Ob (plv_s5 a=plv_s5 a)∧Ob (plv_s6 a=plv_s6 a)∧Ob (plv_u1 a=plv_u1 a)∧Ob (plv_u2 a=plv_u2 a)∧Ob (plv_v1 a=plv_v1 a)∧Ob (plv_v2 a=plv_v2 a)∧Ob (plv_a1 a=plv_a1 a)∧Ob (plv_a2 a=plv_a2 a)∧Ob (plv_g1 a=plv_g1 a)∧Ob (plv_g2 a=plv_g2 a)∧Ob (plv_le a=plv_le a)∧Ob (plv_mo a=plv_mo a)∧Ob (plv_w1 a=plv_w1 a)∧Ob (plv_w2 a=plv_w2 a)∧Ob (SV.v (Value.slice none 0 0)=SV.v (Value.slice none 0 0))∧Ob (SV.v (Value.slice none 0 0)=SV.v (Value.slice none 0 0))∧Ob (Value.int .i64 (0:Int)=Value.int .i64 (0:Int))∧Ob (Value.int .i64 (0:Int)=Value.int .i64 (0:Int))∧Ob (Value.int .i64 (0:Int)=Value.int .i64 (0:Int))∧Ob (Value.int .i64 (0:Int)=Value.int .i64 (0:Int))∧Ob (Value.int .i64 (0:Int)=Value.int .i64 (0:Int))∧Ob (Value.int .i64 (0:Int)=Value.int .i64 (0:Int))∧Ob (Value.int .i64 (0:Int)=Value.int .i64 (0:Int))∧Ob (Value.int .i64 (0:Int)=Value.int .i64 (0:Int))∧Ob (Value.int .i64 (0:Int)=Value.int .i64 (0:Int))∧Ob (Value.int .i64 (0:Int)=Value.int .i64 (0:Int))∧Ob (Value.int .i64 (0:Int)=Value.int .i64 (0:Int))∧Ob (Value.int .i64 (0:Int)=Value.int .i64 (0:Int))∧Ob (Value.int .i64 (0:Int)=Value.int .i64 (0:Int))∧Ob (Value.int .i64 (0:Int)=Value.int .i64 (0:Int))∧Ob (Value.int .i64 (0:Int)=Value.int .i64 (0:Int))∧Ob (Value.int .i64 (0:Int)=Value.int .i64 (0:Int))∧Ob (Value.int .i64 (0:Int)=Value.int .i64 (0:Int))∧Ob (Value.int .i64 (0:Int)=Value.int .i64 (0:Int))∧Ob (Y=itQ twQ (plA14 a b) h)∧Ob (PlainE h (El.fn (Rv.elemOf [.i64,.i64,.i64,.i64,.i64,.i64,.i64,.i64] (itR twQ twR (plA14 a b) h))))∧True)∧(¬(0:Int) < plN a b-(↑e:Int)→Ob (InR .i64 (c+(1:Int)))∧Ob (F_Below.named.pre ([Dat.z (itQ twQ (plA14 a b) e)]++[Dat.z (c+(1:Int))]))∧∀(o:Int),o=belowA (itQ twQ (plA14 a b) e) (c+(1:Int))→∀(n:Int),n=belowV (itQ twQ (plA14 a b) e) (c+(1:Int))→(∃(d:Nat),Ob ((↑d:Int)≤plP a b c)∧Ob (n=plP a b c-(↑d:Int))∧Ob (d=(0:Nat))∧EqA e ((plN a b).toNat) (El.fn (Rv.elemOf [.i64,.i64,.i64,.i64,.i64,.i64,.i64,.i64] (itR twQ twR (plA14 a b) e))) (El.fn (Rv.elemOf [.i64,.i64,.i64,.i64,.i64,.i64,.i64,.i64] (plT a b)))∧Ob (e=(plN a b).toNat)∧Ob (d=(0:Nat))∧Ob (plv_s1 a=plv_s1 a)∧Ob (plv_s2 a=plv_s2 a)∧Ob (plv_s3 a=plv_s3 a)∧Ob (plv_s4 a=plv_s4 a)∧Ob (plv_s5 a=plv_s5 a)∧Ob (plv_s6 a=plv_s6 a)∧Ob (plv_u1 a=plv_u1 a)∧Ob (plv_u2 a=plv_u2 a)∧Ob (plv_v1 a=plv_v1 a)∧Ob (plv_v2 a=plv_v2 a)∧Ob (plv_a1 a=plv_a1 a)∧Ob (plv_a2 a=plv_a2 a)∧Ob (plv_g1 a=plv_g1 a)∧Ob (plv_g2 a=plv_g2 a)∧Ob (plv_le a=plv_le a)∧Ob (plv_mo a=plv_mo a)∧Ob (plv_w1 a=plv_w1 a)∧Ob (plv_w2 a=plv_w2 a)∧Ob (SV.v (Value.slice none 0 0)=SV.v (Value.slice none 0 0))∧Ob (SV.v (Value.slice none 0 0)=SV.v (Value.slice none 0 0))∧Ob (Value.int .i64 (0:Int)=Value.int .i64 (0:Int))∧Ob (Value.int .i64 (0:Int)=Value.int .i64 (0:Int))∧Ob (Value.int .i64 (0:Int)=Value.int .i64 (0:Int))∧Ob (Value.int .i64 (0:Int)=Value.int .i64 (0:Int))∧Ob (Value.int .i64 (0:Int)=Value.int .i64 (0:Int))∧Ob (Value.int .i64 (0:Int)=Value.int .i64 (0:Int))∧Ob (Value.int .i64 (0:Int)=Value.int .i64 (0:Int))∧Ob (Value.int .i64 (0:Int)=Value.int .i64 (0:Int))∧Ob (Value.int .i64 (0:Int)=Value.int .i64 (0:Int))∧Ob (Value.int .i64 (0:Int)=Value.int .i64 (0:Int))∧Ob (Value.int .i64 (0:Int)=Value.int .i64 (0:Int))∧Ob (Value.int .i64 (0:Int)=Value.int .i64 (0:Int))∧Ob (Value.int .i64 (0:Int)=Value.int .i64 (0:Int))∧Ob (Value.int .i64 (0:Int)=Value.int .i64 (0:Int))∧Ob (Value.int .i64 (0:Int)=Value.int .i64 (0:Int))∧Ob (Value.int .i64 (0:Int)=Value.int .i64 (0:Int))∧Ob (Value.int .i64 (0:Int)=Value.int .i64 (0:Int))∧Ob (Value.int .i64 (0:Int)=Value.int .i64 (0:Int))∧Ob (o=puQ (plT a b) (plA16 a b c) d)∧Ob (PlainE d (El.fn (Rv.elemOf I2 (puR (plT a b) (plA16 a b c) d))))∧Ob (PlainE (plN a b).toNat (El.fn (Rv.elemOf [.i64,.i64,.i64,.i64,.i64,.i64,.i64,.i64] (plT a b))))∧True)∧∀(d:Nat),(↑d:Int)≤plP a b c→∀(_ _ _ _ _ _ _ _ _ _ _ _ _ _ _ _ _ _ _ _ _ _ _ _ _ _ _ _ _ _ _ _ _ _ _ _ _ _ _ _ _ _ _ _ _ _ _ _ _ _ _ _ _ _ _ _ _ _ _ _ _ _ _ _ _ _ _ _ _ _ _ _ _ _ _ _ _ _ _ _ _ _ _ _ _ _ _ _ _ _ _ _ _ _ _ _ _ _ _ _ _ _ _ _ _:Value),((0:Int) < plP a b c-(↑d:Int)→Ob (F_Below.named.pre ([Dat.z (puQ (plT a b) (plA16 a b c) d)]++[Dat.z (↑(plN a b).toNat:Int)]))∧∀(m:Int),m=belowA (puQ (plT a b) (plA16 a b c) d) (↑(plN a b).toNat:Int)→∀(f:Int),f=belowV (puQ (plT a b) (plA16 a b c) d) (↑(plN a b).toNat:Int)→Ob ((0:Int)≤f∧f.toNat < (plN a b).toNat)∧Ob (f.toNat < (plN a b).toNat)∧RwA d d 2 I2 ((El.fn (Rv.elemOf I2 (puR (plT a b) (plA16 a b c) d))).at) fun g=>Ob (g.length≤100∧∀(k:Nat),k < g.length→(0:Int)≤cell g k 1∧cell g k 1≤(100000:Int))∧Ob (InR .i64 (cell (plT a b) f.toNat 0-flT g f (-1:Int) (0:Int) (0:Int) g.length))∧Ob (F_From.named.pre ([Dat.z m]++[Dat.z (0:Int),Dat.z (cell (plT a b) f.toNat 0-flT g f (-1:Int) (0:Int) (0:Int) g.length)]))∧∀(l:Int),l=belowA m (cell (plT a b) f.toNat 0-flT g f (-1:Int) (0:Int) (0:Int) g.length-(0:Int)+(1:Int))→∀(j:Int),j=(0:Int)+belowV m (cell (plT a b) f.toNat 0-flT g f (-1:Int) (0:Int) (0:Int) g.length-(0:Int)+(1:Int))→Ob ((0:Int) < (2:Int)∧InR .i64 ((cell (plT a b) f.toNat 0-flT g f (-1:Int) (0:Int) (0:Int) g.length).tdiv (2:Int)))∧Ob (F_Of.named.pre ([Dat.z l]++[Dat.l [[j],[(cell (plT a b) f.toNat 0-flT g f (-1:Int) (0:Int) (0:Int) g.length).tdiv (2:Int)]]]))∧∀(i:Int),i=ofA l [[j],[(cell (plT a b) f.toNat 0-flT g f (-1:Int) (0:Int) (0:Int) g.length).tdiv (2:Int)]]→∀(s:Int),s=ofV l [[j],[(cell (plT a b) f.toNat 0-flT g f (-1:Int) (0:Int) (0:Int) g.length).tdiv (2:Int)]]→Ob (d=d∧∀(k:Nat),k < d→((El.fn (Rv.elemOf I2 (puR (plT a b) (plA16 a b c) d))).at k).length=(2:Nat))∧Ob ((d+(1:Nat))*(2:Nat)*(17:Nat)≤1099511627776)∧Ob (d=d)∧Ob (InR .i64 (plP a b c-(↑d:Int)-(1:Int)))∧∃(h:Nat),Ob ((↑h:Int)≤plP a b c∧(plP a b c-(↑h:Int)).toNat < (plP a b c-(↑d:Int)).toNat)∧Ob (plP a b c-(↑d:Int)-(1:Int)=plP a b c-(↑h:Int))∧EqA (d+(1:Nat)) h (behind d (El.fn (Rv.elemOf I2 (puR (plT a b) (plA16 a b c) d))) 1 (litEl (symL [SV.i .i64 f,SV.i .i64 s]) 2 1)) (El.fn (Rv.elemOf I2 (puR (plT a b) (plA16 a b c) h)))∧EqA ((plN a b).toNat) ((plN a b).toNat) (El.fn (Rv.elemOf [.i64,.i64,.i64,.i64,.i64,.i64,.i64,.i64] (plT a b))) (El.fn (Rv.elemOf [.i64,.i64,.i64,.i64,.i64,.i64,.i64,.i64] (plT a b)))∧Ob ((plN a b).toNat=(plN a b).toNat)∧Ob (d+(1:Nat)=h)∧Ob (plv_s1 a=plv_s1 a)∧Ob (plv_s2 a=plv_s2 a)∧Ob (plv_s3 a=plv_s3 a)∧Ob (plv_s4 a=plv_s4 a)∧Ob (plv_s5 a=plv_s5 a)∧Ob (plv_s6 a=plv_s6 a)∧Ob (plv_u1 a=plv_u1 a)∧Ob (plv_u2 a=plv_u2 a)∧Ob (plv_v1 a=plv_v1 a)∧Ob (plv_v2 a=plv_v2 a)∧Ob (plv_a1 a=plv_a1 a)∧Ob (plv_a2 a=plv_a2 a)∧Ob (plv_g1 a=plv_g1 a)∧Ob (plv_g2 a=plv_g2 a)∧Ob (plv_le a=plv_le a)∧Ob (plv_mo a=plv_mo a)∧Ob (plv_w1 a=plv_w1 a)∧Ob (plv_w2 a=plv_w2 a)∧Ob (SV.v (Value.slice none 0 0)=SV.v (Value.slice none 0 0))∧Ob (SV.v (Value.slice none 0 0)=SV.v (Value.slice none 0 0))∧Ob (Value.int .i64 (0:Int)=Value.int .i64 (0:Int))∧Ob (Value.int .i64 (0:Int)=Value.int .i64 (0:Int))∧Ob (Value.int .i64 (0:Int)=Value.int .i64 (0:Int))∧Ob (Value.int .i64 (0:Int)=Value.int .i64 (0:Int))∧Ob (Value.int .i64 (0:Int)=Value.int .i64 (0:Int))∧Ob (Value.int .i64 (0:Int)=Value.int .i64 (0:Int))∧Ob (Value.int .i64 (0:Int)=Value.int .i64 (0:Int))∧Ob (Value.int .i64 (0:Int)=Value.int .i64 (0:Int))∧Ob (Value.int .i64 (0:Int)=Value.int .i64 (0:Int))∧Ob (Value.int .i64 (0:Int)=Value.int .i64 (0:Int))∧Ob (Value.int .i64 (0:Int)=Value.int .i64 (0:Int))∧Ob (Value.int .i64 (0:Int)=Value.int .i64 (0:Int))∧Ob (Value.int .i64 (0:Int)=Value.int .i64 (0:Int))∧Ob (Value.int .i64 (0:Int)=Value.int .i64 (0:Int))∧Ob (Value.int .i64 (0:Int)=Value.int .i64 (0:Int))∧Ob (Value.int .i64 (0:Int)=Value.int .i64 (0:Int))∧Ob (Value.int .i64 (0:Int)=Value.int .i64 (0:Int))∧Ob (Value.int .i64 (0:Int)=Value.int .i64 (0:Int))∧Ob (i=puQ (plT a b) (plA16 a b c) h)∧Ob (PlainE h (El.fn (Rv.elemOf I2 (puR (plT a b) (plA16 a b c) h))))∧Ob (PlainE (plN a b).toNat (El.fn (Rv.elemOf [.i64,.i64,.i64,.i64,.i64,.i64,.i64,.i64] (plT a b))))∧True)∧(¬(0:Int) < plP a b c-(↑d:Int)→Ob ((plN a b).toNat=(plN a b).toNat)∧Ob (d=(plP a b c).toNat)∧Ob (plv_s1 a=plv_s1 a)∧Ob (plv_s2 a=plv_s2 a)∧Ob (plv_s3 a=plv_s3 a)∧Ob (plv_s4 a=plv_s4 a)∧Ob (plv_s5 a=plv_s5 a)∧Ob (plv_s6 a=plv_s6 a)∧Ob (plv_u1 a=plv_u1 a)∧Ob (plv_u2 a=plv_u2 a)∧Ob (plv_v1 a=plv_v1 a)∧Ob (plv_v2 a=plv_v2 a)∧Ob (plv_a1 a=plv_a1 a)∧Ob (plv_a2 a=plv_a2 a)∧Ob (plv_g1 a=plv_g1 a)∧Ob (plv_g2 a=plv_g2 a)∧Ob (plv_le a=plv_le a)∧Ob (plv_mo a=plv_mo a)∧Ob (plv_w1 a=plv_w1 a)∧Ob (plv_w2 a=plv_w2 a)∧EqA d ((plP a b c).toNat) (El.fn (Rv.elemOf I2 (puR (plT a b) (plA16 a b c) d))) (El.fn (Rv.elemOf I2 (puR (plT a b) (plA16 a b c) (plP a b c).toNat)))∧EqA ((plN a b).toNat) ((plN a b).toNat) (El.fn (Rv.elemOf [.i64,.i64,.i64,.i64,.i64,.i64,.i64,.i64] (plT a b))) (El.fn (Rv.elemOf [.i64,.i64,.i64,.i64,.i64,.i64,.i64,.i64] (plT a b)))∧Ob (puQ (plT a b) (plA16 a b c) d=puQ (plT a b) (plA16 a b c) (plP a b c).toNat)∧Ob (PlainE (plP a b c).toNat (El.fn (Rv.elemOf I2 (puR (plT a b) (plA16 a b c) (plP a b c).toNat))))∧Ob (PlainE (plN a b).toNat (El.fn (Rv.elemOf [.i64,.i64,.i64,.i64,.i64,.i64,.i64,.i64] (plT a b))))∧True))
set_option linter.unusedSimpArgs false in
set_option maxRecDepth 4000 in
set_option maxHeartbeats 8000000 in
theorem v_PlantOf:V_PlantOf:=by
 unfold V_PlantOf EqA I2 RwA
 intro B a tanks pumps h
 have h:1≤tanks∧tanks≤6∧0≤pumps∧pumps≤8:=h
 simp only [F_Below,F_From,F_Of,F_Span,F_WaterOf,FnE.named,List.cons_append,List.nil_append,Ob_iff,and_true,true_and]at ⊢
 have hC:=plC_is a
 have hD:=plD_is a
 intro q hq v1 h1 v2 h2 v3 h3 v4 h4 v5 h5 v6 h6
 obtain rfl:v1=plv_s1 a:=h1
 obtain rfl:v2=plv_s2 a:=h2
 obtain rfl:v3=plv_s3 a:=h3
 obtain rfl:v4=plv_s4 a:=h4
 obtain rfl:v5=plv_s5 a:=h5
 obtain rfl:v6=plv_s6 a:=h6
 obtain rfl:q=plA1 a:=hq
 refine⟨by omega,?_⟩
 intro q hq v8 h8 v9 h9
 obtain rfl:v8=plv_u1 a:=h8
 obtain rfl:v9=plv_u2 a:=h9
 obtain rfl:q=plA2 a:=hq
 refine⟨by omega,?_⟩
 intro q hq v11 h11 v12 h12
 obtain rfl:v11=plv_v1 a:=h11
 obtain rfl:v12=plv_v2 a:=h12
 obtain rfl:q=plA3 a:=hq
 refine⟨by simp,?_⟩
 intro q hq c hc
 obtain rfl:q=plA4 a:=hq
 obtain rfl:c=plC a:=hc
 refine⟨by omega,?_⟩
 intro q hq v16 h16 v17 h17
 obtain rfl:v16=plv_a1 a:=h16
 obtain rfl:v17=plv_a2 a:=h17
 obtain rfl:q=plA5 a:=hq
 refine⟨by simp,?_⟩
 intro q hq c hc
 obtain rfl:q=plA6 a:=hq
 obtain rfl:c=plD a:=hc
 refine⟨by omega,?_⟩
 intro q hq v21 h21 v22 h22
 obtain rfl:v21=plv_g1 a:=h21
 obtain rfl:v22=plv_g2 a:=h22
 obtain rfl:q=plA7 a:=hq
 refine⟨by omega,?_⟩
 intro q hq c hc
 obtain rfl:q=plA8 a:=hq
 obtain rfl:c=plF a:=hc
 refine⟨by simp,?_⟩
 intro q hq v26 h26
 obtain rfl:v26=plv_le a:=h26
 obtain rfl:q=plA9 a:=hq
 refine⟨by omega,?_⟩
 intro q hq c hc
 obtain rfl:q=plA10 a:=hq
 obtain rfl:c=plM a:=hc
 refine⟨by simp,?_⟩
 intro q hq v30 h30
 obtain rfl:v30=plv_mo a:=h30
 obtain rfl:q=plA11 a:=hq
 refine⟨by omega,?_⟩
 intro q hq v32 h32
 obtain rfl:v32=plv_w1 a:=h32
 obtain rfl:q=plA12 a:=hq
 refine⟨by omega,?_⟩
 intro q hq v34 h34
 obtain rfl:v34=plv_w2 a:=h34
 obtain rfl:q=plA13 a:=hq
 refine⟨by omega,?_⟩
 intro q hq N hN
 obtain rfl:q=plA14 a tanks:=hq
 obtain rfl:N=plN a tanks:=hN
 have hN:=plN_in (a:=a) h.1
 refine⟨⟨0,by omega,?_⟩,?_⟩
 ·repeat' (with_reducible apply And.intro)
  all_goals first | with_reducible rfl | exact plain_elemOf _ _ _ | exact(itQ_zero _ _).symm | omega
 intro k hk
 intros
 refine⟨fun hlt=>?_,fun hge=>?_⟩
 ·obtain⟨b,hb⟩:∃b,itQ twQ (plA14 a tanks) k=b:=⟨_,rfl⟩
  rw [hb]
  refine⟨by omega,?_⟩
  intro q hq c hc
  obtain rfl:q=twB1 b:=hq
  obtain rfl:c=tw1 b:=hc
  refine⟨by simp,?_⟩
  intro q hq l hl
  obtain rfl:q=twB2 b:=hq
  obtain rfl:l=twL b:=hl
  refine⟨by omega,?_⟩
  intro q hq c hc
  obtain rfl:q=twB3 b:=hq
  obtain rfl:c=tw2 b:=hc
  refine⟨by simp,?_⟩
  intro q hq l hl
  obtain rfl:q=twB4 b:=hq
  obtain rfl:l=twG b:=hl
  intro q hq e1 he1 e2 he2 e3 he3 e4 he4 e5 he5 e6 he6
  obtain rfl:q=twQ b:=hq
  subst he1 he2 he3 he4 he5 he6
  have hs:=snoc8 (x0:=twL b) (x1:=twG b) (x2:=spanLo (twB4 b) 600 1000) (x3:=spanHi (twB4 b) 600 1000) (x4:=spanLo (waB (twB4 b)) 0 (waC (twB4 b))) (x5:=spanHi (waB (twB4 b)) 0 (waC (twB4 b))) (x6:=spanLo (waD (twB4 b)) 30 120) (x7:=spanHi (waD (twB4 b)) 30 120) (it_len twQ twR (plA14 a tanks) k)
  have er:itR twQ twR (plA14 a tanks) (k+1)=itR twQ twR (plA14 a tanks) k++[[twL b,twG b,spanLo (twB4 b) 600 1000,spanHi (twB4 b) 600 1000,spanLo (waB (twB4 b)) 0 (waC (twB4 b)),spanHi (waB (twB4 b)) 0 (waC (twB4 b)),spanLo (waD (twB4 b)) 30 120,spanHi (waD (twB4 b)) 30 120]]:=by
   rw [itR_succ,hb]
   rfl
  rw [← er]at hs
  have e2:twQ b=itQ twQ (plA14 a tanks) (k+1):=by rw [itQ_succ,hb]
  clear er hb
  have e3:(plN a tanks-((k+1:Nat):Int)).toNat < (plN a tanks-(k:Int)).toNat:=by omega
  exact⟨fun i hi=>rfl,by omega,by simp only [InR]; omega,k+1,⟨by omega,e3⟩,by omega,⟨rfl,hs⟩,rfl,e2,plain_elemOf _ _ _⟩
 ·have e:k=(plN a tanks).toNat:=by omega
  subst e
  refine⟨by simp only [InR]; omega,by omega,?_⟩
  rw [show itQ twQ (plA14 a tanks) (plN a tanks).toNat=plA15 a tanks from rfl,show itR twQ twR (plA14 a tanks) (plN a tanks).toNat=plT a tanks from rfl]
  intro q hq P hP
  obtain rfl:q=plA16 a tanks pumps:=hq
  obtain rfl:P=plP a tanks pumps:=hP
  have hP:=plP_in (a:=a) (tanks:=tanks) h.2.2.1
  have hTl:=plT_len a tanks
  have hT:=plT_ta (a:=a) h.1
  have sp:=pu_spec (plT a tanks) (plA16 a tanks pumps)
  refine⟨⟨0,by omega,?_⟩,?_⟩
  ·repeat' (with_reducible apply And.intro)
   all_goals first | with_reducible rfl | exact plain_elemOf _ _ _ | exact sp.2.1.symm | omega | (intro _ _; with_reducible rfl) | (intro _ _; trivial)
  intro j hj
  intros
  refine⟨fun hlt=>?_,fun hge=>?_⟩
  ·have hok:=pu_ok hT (plA16 a tanks pumps) j
   have hlen:=pu_len (plT a tanks) (plA16 a tanks pumps) j
   have hw:=pu_w (plT a tanks) (plA16 a tanks pumps) j
   have sx:=sp.2.2 j
   obtain⟨R,hR⟩:∃R,puR (plT a tanks) (plA16 a tanks pumps) j=R:=⟨_,rfl⟩
   obtain⟨Q,hQ⟩:∃Q,puQ (plT a tanks) (plA16 a tanks pumps) j=Q:=⟨_,rfl⟩
   rw [hR,hQ]at sx
   rw [hR]at hok hlen hw
   rw [hR,hQ]
   obtain⟨T,hTT⟩:∃T,plT a tanks=T:=⟨_,rfl⟩
   rw [hTT]at hT hTl hok sx
   have hk:=puK_in hT Q
   have hS:=puS_in hT hok Q
   have h2:=tdiv2 hS.1
   refine⟨by omega,?_⟩
   rw [← hTl]
   intro q hq kk hkk
   obtain rfl:q=puB T Q:=hq
   obtain rfl:kk=puK T Q:=hkk
   rw [hTT]
   refine⟨⟨by omega,by omega⟩,by omega,R,⟨hlen,hw,fun _ _=>rfl⟩,⟨by omega,fun i hi=>(hok.r i hi).2⟩,?_⟩
   rw [show cell T (puK T Q).toNat 0-flT R (puK T Q) (-1) 0 0 R.length=puS T R Q from rfl]
   refine⟨by simp only [InR]; omega,by omega,?_⟩
   intro q hq f hf
   obtain rfl:q=puC T R Q:=hq
   obtain rfl:f=puF T R Q:=hf
   refine⟨⟨by omega,by simp only [InR]; omega⟩,by simp,?_⟩
   intro q hq f hf
   obtain rfl:q=puX T R Q:=hq
   obtain rfl:f=puV T R Q:=hf
   refine⟨fun i hi=>rfl,by omega,by simp only [InR]; omega,j+1,by omega,?_⟩
   rw [sx.1,sx.2]
   have hs:=fun i (hi:i < j+1)=>snoc2_at (R:=R) (j:=.i64) (k:=.i64) (a:=puK T Q) (b:=puV T R Q) (i:=i) (by omega)
   rw [hlen]at hs
   repeat' (with_reducible apply And.intro)
   all_goals first | with_reducible rfl | exact plain_elemOf _ _ _ | omega | exact hs | (intro _ _; trivial) | (intro _ _; with_reducible rfl)
  ·have e:j=(plP a tanks pumps).toNat:=by omega
   subst e
   repeat' (with_reducible apply And.intro)
   all_goals first | with_reducible rfl | exact plain_elemOf _ _ _ | (intro _ _; trivial) | (intro _ _; with_reducible rfl)
theorem e_PlantOf:V_PlantOf=needE P [F_refFlow] [F_Below.named,F_From.named,F_Of.named,F_Span.named,F_WaterOf.named] A_PlantOf F_PlantOf:=by kernel_rfl
theorem n_PlantOf:Ob (needE P [F_refFlow] [F_Below.named,F_From.named,F_Of.named,F_Span.named,F_WaterOf.named] A_PlantOf F_PlantOf):=by
 rw [← e_PlantOf]
 exact⟨v_PlantOf⟩
theorem b_PlantOf:((P.funcs[9]?).any fun fn=>fn.body.isSome)=true:=by kernel_rfl
theorem PlantOf_ok:FnE.Ok P F_PlantOf:=FnE.ok named (l:=[F_refFlow]) (es:=[F_Below.named,F_From.named,F_Of.named,F_Span.named,F_WaterOf.named]) (A:=A_PlantOf) (by rfl) (by rfl) (by rfl) (by
 intro F h
 simp only [List.mem_cons,List.not_mem_nil,or_false]at h
 rcases h with rfl
 ·exact refFlow_ok
) (by
 intro F h
 simp only [List.mem_cons,List.not_mem_nil,or_false]at h
 rcases h with rfl | rfl | rfl | rfl | rfl
 ·exact Below_ok.named
 ·exact From_ok.named
 ·exact Of_ok.named
 ·exact Span_ok.named
 ·exact WaterOf_ok.named
) b_PlantOf (by
 intro ds h o ho n sz e k z he
 subst he
 simp only [F_PlantOf]at ho
 split at ho
 ·simp only [List.mem_cons,List.not_mem_nil,or_false,SObj.gr.injEq]at ho
  rcases ho with ⟨rfl,rfl,rfl,rfl,rfl⟩ | ⟨rfl,rfl,rfl,rfl,rfl⟩<;>exact plain_elemOf _ _ _
 ·simp at ho) n_PlantOf
end Go.Proofs.Ytgoiegaobhfocaa.Sy
