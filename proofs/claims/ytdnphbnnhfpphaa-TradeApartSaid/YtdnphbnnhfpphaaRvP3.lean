import Derived.Test.YtdnphbnnhfpphaaRvP2
import Derived.Below
import Derived.ChangeSame
import Derived.Lib.LaidTab
import Derived.LaidSub
namespace Go.Rv
open Go
variable [Env]
section
variable {P:Program} {ev:Ev}
abbrev bitsOf (ops:Array Oper) (j:Nat):Nat:=(Region.before ops).getD j 0
structure Pre (P:Program) (ev:Ev) (ops:Array Oper) (k L:Nat) (ws:Wrs) (T:Nat→PS):Prop where
 step:∀j,j < k→∃o r x,ops[j]?=some o∧OpOk P ops o r∧PreStep P ev L ws j o r (bitsOf ops j) (T j) (T (j+1)) x
 apart:∀i j oi oj,i < k→j < k→i≠j→ops[i]?=some oi→ops[j]?=some oj→∀d,oi.dst=some d→oj.dst≠some d∧(d∈looks ops oj→(bitsOf ops j).testBit i=true∨(bitsOf ops i).testBit j=true)
 start:(T 0).sl=[]
 chain:∀i c bi j d bj,(i,c,bi)∈ws→(j,d,bj)∈ws→i < j→bj.testBit i=true
variable {ops:Array Oper} {k L:Nat} {ws:Wrs} {T:Nat→PS}
theorem Pre.entry (h:Pre P ev ops k L ws T):∀(j:Nat),j≤k→∀(q i:Nat) (ob:RObj),(T j).sl.reverse[q]?=some (i,ob) →
  i < j∧(T i).sl.length≤q∧q < (T (i+1)).sl.length∧(T (i+1)).sl.reverse[q]?=some (i,ob) ∧
   newB (L+(T (i+1)).sl.length) (madeN L (bitsOf ops i) (T i).sl (L+(T i).sl.length) (L+(T (i+1)).sl.length)) ob=true
 | 0,_,q,i,ob,hq=>by rw [h.start]at hq; simp at hq
 | j+1,hj,q,i,ob,hq=>by
  obtain⟨o,r,x,_,_,st⟩:=h.step j (by omega)
  obtain⟨news,h1,h2⟩:=st.grow
  have hq0:=hq
  rw [h1,List.reverse_append]at hq
  rcases Nat.lt_or_ge q (T j).sl.length with hlt | hge
  ·rw [List.getElem?_append_left (by simpa using hlt)]at hq
   obtain⟨h3,h4⟩:=h.entry j (by omega) q i ob hq
   exact⟨by omega,h4⟩
  ·rw [List.getElem?_append_right (by simpa using hge),← List.map_reverse,List.getElem?_map]at hq
   cases hn:news.reverse[q-(T j).sl.reverse.length]? with
   | none=>rw [hn]at hq; simp at hq
   | some o' =>
    rw [hn]at hq
    simp only [Option.map_some,Option.some.injEq,Prod.mk.injEq]at hq
    obtain⟨rfl,rfl⟩:=hq
    have hmem:o'∈news:=List.mem_reverse.1 (List.mem_of_getElem? hn)
    have hql:q < (T (j+1)).sl.length:=by
     have:=(List.getElem?_eq_some_iff.1 hq0).1
     simpa using this
    exact⟨by omega,hge,hql,hq0,h2 o' hmem⟩
theorem Pre.len (h:Pre P ev ops k L ws T) {i:Nat}:∀(d:Nat),i+d≤k→(T i).sl.length≤(T (i+d)).sl.length∧∀q,q < (T i).sl.length→(T (i+d)).sl.reverse[q]?=(T i).sl.reverse[q]?
 | 0,_=>⟨Nat.le_refl _,fun _ _=>rfl⟩
 | d+1,hd=>by
  obtain⟨h1,h2⟩:=h.len (i:=i) d (by omega)
  obtain⟨o,r,x,_,_,st⟩:=h.step (i+d) (by omega)
  rw [show i+(d+1)=i+d+1 by omega]
  obtain⟨news,h3,_⟩:=st.grow
  rw [h3]
  refine⟨by simp; omega,fun q hq=>?_⟩
  rw [List.reverse_append,List.getElem?_append_left (by simp; omega)]
  exact h2 q hq
theorem Pre.slot (h:Pre P ev ops k L ws T) {i j q:Nat} (hij:i≤j) (hj:j≤k) (hq:q < (T i).sl.length):(T j).sl.reverse[q]?=(T i).sl.reverse[q]?:=by
 have:=(h.len (i:=i) (j-i) (by omega)).2 q hq
 rwa [show i+(j-i)=j by omega]at this
theorem Pre.len_le (h:Pre P ev ops k L ws T) {i j:Nat} (hij:i≤j) (hj:j≤k):(T i).sl.length≤(T j).sl.length:=by
 have:=(h.len (i:=i) (j-i) (by omega)).1
 rwa [show i+(j-i)=j by omega]at this
theorem Pre.mine (h:Pre P ev ops k L ws T) {i q:Nat} (hi:i < k) (h1:(T i).sl.length≤q) (h2:q < (T (i+1)).sl.length):∃ob,(T k).sl.reverse[q]?=some (i,ob)∧(T (i+1)).sl.reverse[q]?=some (i,ob):=by
 obtain⟨o,r,x,_,_,st⟩:=h.step i hi
 obtain⟨news,h3,_⟩:=st.grow
 have hq:(T (i+1)).sl.reverse[q]?=some ((T (i+1)).sl.reverse[q]'(by simpa using h2)):=List.getElem?_eq_getElem _
 generalize (T (i+1)).sl.reverse[q]'(by simpa using h2)=y at hq
 obtain⟨i',ob⟩:=y
 have hq':=hq
 rw [h3,List.reverse_append,List.getElem?_append_right (by simpa using h1),← List.map_reverse,List.getElem?_map]at hq'
 cases hn:news.reverse[q-(T i).sl.reverse.length]? with
 | none=>rw [hn]at hq'; simp at hq'
 | some o' =>
  rw [hn]at hq'
  simp only [Option.map_some,Option.some.injEq,Prod.mk.injEq]at hq'
  obtain⟨rfl,rfl⟩:=hq'
  exact⟨o',by rw [h.slot (i:=i+1) hi (Nat.le_refl k) h2]; exact hq,hq⟩
theorem Pre.same (h:Pre P ev ops k L ws T) {i d:Nat}:∀(n:Nat),i+n≤k→(∀j o,i≤j→j < i+n→ops[j]?=some o→o.dst≠some d)→(T (i+n)).t.get d=(T i).t.get d
 | 0,_,_=>rfl
 | n+1,hn,hd=>by
  obtain⟨o,r,x,ho,_,st⟩:=h.step (i+n) (by omega)
  rw [show i+(n+1)=i+n+1 by omega,st.get,if_neg (hd (i+n) o (by omega) (by omega) ho)]
  exact h.same n (by omega) fun j o h1 h2=>hd j o h1 (by omega)
theorem Pre.num (h:Pre P ev ops k L ws T):∀(j:Nat),j≤k→(T j).t.n=(T 0).t.n
 | 0,_=>rfl
 | j+1,hj=>by
  obtain⟨o,r,x,_,_,st⟩:=h.step j (by omega)
  rw [st.n]
  exact h.num j (by omega)
theorem Pre.lows (h:Pre P ev ops k L ws T) (h0:tlt L (T 0).t):∀(j:Nat),j≤k→tlt (L+(T j).sl.length) (T j).t
 | 0,_=>by rw [h.start]; exact h0
 | j+1,hj=>by
  obtain⟨o,r,x,_,_,st⟩:=h.step j (by omega)
  have ih:=h.lows h0 j (by omega)
  have hle:(T j).sl.length≤(T (j+1)).sl.length:=h.len_le (Nat.le_succ j) hj
  intro d
  rw [st.get]
  split
  ·exact st.below
  ·exact below_mono (by omega) _ (ih d)
theorem Pre.kept (h:Pre P ev ops k L ws T) {i j d:Nat} {o:Oper} (hi:i < j) (hj:j≤k) (ho:ops[i]?=some o) (hd:o.dst=some d):(T j).t.get d=(T (i+1)).t.get d:=by
 have:=h.same (i:=i+1) (d:=d) (j-(i+1)) (by omega) (fun l ol h1 h2 hl=>(h.apart i l o ol (by omega) (by omega) (by omega) ho hl d hd).1)
 rwa [show i+1+(j-(i+1))=j by omega]at this
theorem Pre.first (h:Pre P ev ops k L ws T) {j d:Nat} (hj:j≤k) (hd:∀l o,l < j→ops[l]?=some o→o.dst≠some d):(T j).t.get d=(T 0).t.get d:=by
 have:=h.same (i:=0) (d:=d) j (by omega) (fun l o _ h2=>hd l o (by omega))
 rwa [Nat.zero_add]at this
def Known (L:Nat) (all:List (Nat×RObj)) (listed:Array Bool) (c:Nat):Prop:=c < L∨∃q i ob,c=L+q∧all.reverse[q]?=some (i,ob)∧listed.getD i false=true
theorem Pre.vis (h:Pre P ev ops k L ws T) {listed:Array Bool} {j c:Nat} (hj:j < k) (hb:∀i,(bitsOf ops j).testBit i=true→listed.getD i false=true)
  (hc:visN L (bitsOf ops j) (T j).sl c=true):Known L (T k).sl listed c:=by
 unfold visN at hc
 rw [Bool.or_eq_true]at hc
 rcases hc with hc | hc
 ·rw [blt_eq,decide_eq_true_eq]at hc
  exact .inl hc
 ·rcases Nat.lt_or_ge c L with hcl | hcl
  ·exact .inl hcl
  ·rw [lget_eq]at hc
   split at hc
   ·rename_i x hx
    rw [Bool.and_eq_true,blt_eq,decide_eq_true_eq]at hc
    obtain⟨i,ob⟩:=x
    refine .inr ⟨c-L,i,ob,by omega,?_,hb i hc.2⟩
    rw [h.slot (Nat.le_of_lt hj) (Nat.le_refl k) (by omega),List.getElem?_reverse (by omega)]
    exact hx
   ·simp at hc
theorem Pre.vis2 (h:Pre P ev ops k L ws T) {listed:Array Bool} {j c:Nat} (hj:j < k) (hlj:listed.getD j false=true) (hb:∀i,(bitsOf ops j).testBit i=true→listed.getD i false=true)
  (hc:madeN L (bitsOf ops j) (T j).sl (L+(T j).sl.length) (L+(T (j+1)).sl.length) c=true):Known L (T k).sl listed c:=by
 unfold madeN at hc
 rw [Bool.or_eq_true]at hc
 rcases hc with hc | hc
 ·rw [Bool.and_eq_true,blt_eq,decide_eq_true_eq]at hc
  have h1:=Nat.le_of_ble_eq_true hc.1
  obtain⟨ob,h2,_⟩:=h.mine hj (q:=c-L) (by omega) (by omega)
  exact .inr ⟨c-L,j,ob,by omega,h2,hlj⟩
 ·exact h.vis hj hb hc
def Wr (ops:Array Oper) (ws:Wrs) (j c:Nat):Prop:=(j,c,bitsOf ops j)∈ws
theorem Pre.mem (h:Pre P ev ops k L ws T) {j:Nat} (hj:j < k):(T (j+1)).V=(T j).V∨∃c cs kd,c < L∧Wr ops ws j c∧belowC L cs=true∧(T (j+1)).V=(T j).V.set (L-1-c) (.cells cs kd):=by
 obtain⟨o,r,x,_,_,st⟩:=h.step j hj
 rcases st.kind with ⟨_,_,_,h1⟩ | ⟨_,e,_,⟨_,_,h1⟩ | ⟨_,_,_,_,_,h1⟩ | ⟨_,_,_,_,_,h1,_⟩ | ⟨y,W',a,c,off,cs,kd,_,_,_,hc,hw,_,hb,_,_,h1⟩⟩
 ·exact .inl h1
 ·exact .inl h1
 ·exact .inl h1
 ·exact .inl h1
 ·exact .inr ⟨c,cs,kd,hc,hw,hb,h1⟩
omit [Env] in
theorem get_at {V:List RObj} {L c:Nat} (hc:c < L):(⟨L,V⟩:RW).get c=V[L-1-c]?:=by
 unfold RW.get
 simp only [blt_eq,hc,decide_true,if_true,lget_eq]
omit [Env] in
theorem get_ge {V:List RObj} {L c:Nat} (hc:L≤c):(⟨L,V⟩:RW).get c=none:=by
 unfold RW.get
 simp only [blt_eq]
 rw [if_neg (by simp; omega)]
theorem Pre.vlen (h:Pre P ev ops k L ws T) (h0:(T 0).V.length=L):∀j,j≤k→(T j).V.length=L
 | 0,_=>h0
 | j+1,hj=>by
  rcases h.mem (show j < k by omega)with h1 | ⟨c,cs,kd,_,_,_,h1⟩
  ·rw [h1]; exact h.vlen h0 j (by omega)
  ·rw [h1,List.length_set]; exact h.vlen h0 j (by omega)
theorem Pre.vget (h:Pre P ev ops k L ws T) {i c:Nat} (hc:c < L):∀(n:Nat),i+n≤k→(∀j,i≤j→j < i+n→¬ Wr ops ws j c)→(⟨L,(T (i+n)).V⟩:RW).get c=(⟨L,(T i).V⟩:RW).get c
 | 0,_,_=>rfl
 | n+1,hn,hw=>by
  have ih:=h.vget hc n (by omega) fun j h1 h2=>hw j h1 (by omega)
  rw [show i+(n+1)=i+n+1 by omega]
  rcases h.mem (show i+n < k by omega)with h1 | ⟨c',cs,kd,hc',hw',_,h1⟩
  ·rw [h1]; exact ih
  ·have hne:c'≠c:=fun e=>hw (i+n) (by omega) (by omega) (e ▸ hw')
   rw [h1,get_at hc,List.getElem?_set_ne (by omega),← get_at hc]
   exact ih
theorem Pre.vsame (h:Pre P ev ops k L ws T) {i:Nat}:∀(n:Nat),i+n≤k→(∀j c,i≤j→j < i+n→¬ Wr ops ws j c)→(T (i+n)).V=(T i).V
 | 0,_,_=>rfl
 | n+1,hn,hw=>by
  have ih:=h.vsame n (by omega) fun j c h1 h2=>hw j c h1 (by omega)
  rw [show i+(n+1)=i+n+1 by omega]
  rcases h.mem (show i+n < k by omega)with h1 | ⟨c',cs,kd,hc',hw',_,h1⟩
  ·rw [h1]; exact ih
  ·exact absurd hw' (hw (i+n) c' (by omega) (by omega))
def Ordered (i b:Nat) (e:Nat×Nat×Nat):Prop:=e.1=i∨(e.1 < i∧b.testBit e.1=true)∨(i < e.1∧e.2.2.testBit i=true)
omit [Env] in
theorem kill_len (L b i:Nat):∀(ws:Wrs) (V:List RObj),(killW L b i ws V).length=V.length
 | [],V=>rfl
 | e :: r,V=>by
  unfold killW
  rw [kill_len L b i r]
  split
  ·rfl
  ·simp
omit [Env] in
theorem kill_get {L b i c:Nat} (hc:c < L):∀(ws:Wrs) (V:List RObj) (o:RObj),(⟨L,killW L b i ws V⟩:RW).get c=some o→o=.dead∨((⟨L,V⟩:RW).get c=some o∧∀e∈ws,e.2.1=c→Ordered i b e)
 | [],V,o,h=>.inr ⟨h,by simp⟩
 | e :: r,V,o,h=>by
  unfold killW at h
  rcases kill_get hc r _ o h with h1 | ⟨h1,h2⟩
  ·exact .inl h1
  ·split at h1
   ·rename_i ho
    have hord:Ordered i b e:=by
     simp only [Bool.or_eq_true,Bool.and_eq_true,blt_eq,decide_eq_true_eq]at ho
     rcases ho with (ho | ho) | ho
     ·exact .inl (Nat.eq_of_beq_eq_true ho)
     ·exact .inr (.inl ho)
     ·exact .inr (.inr ho)
    refine .inr ⟨h1,fun e' he' hce=>?_⟩
    rcases List.mem_cons.1 he' with rfl | he'
    ·exact hord
    ·exact h2 e' he' hce
   ·by_cases hidx:L-1-e.2.1=L-1-c
    ·left
     rw [get_at hc,hidx]at h1
     have hlen:L-1-c < (V.set (L-1-c) RObj.dead).length:=(List.getElem?_eq_some_iff.1 h1).1
     rw [List.getElem?_set_self (by simpa using hlen)]at h1
     exact(Option.some.inj h1).symm
    ·rw [get_at hc,List.getElem?_set_ne hidx,← get_at hc]at h1
     refine .inr ⟨h1,fun e' he' hce=>?_⟩
     rcases List.mem_cons.1 he' with rfl | he'
     ·exact absurd (by rw [hce]) hidx
     ·exact h2 e' he' hce
def WS (W:RW) (all:List (Nat×RObj)) (listed:Array Bool):RW:=⟨W.n+all.length,(all.map fun x=>if listed.getD x.1 false then x.2 else .dead)++W.l⟩
omit [Env] in
theorem WS_get (W:RW) (all:List (Nat×RObj)) (listed:Array Bool) (b:Nat) :
  (WS W all listed).get b=if b < W.n then W.get b else (all.reverse[b-W.n]?).map fun x=>if listed.getD x.1 false then x.2 else .dead:=by
 have:=get_over (A:=all.map fun x=>if listed.getD x.1 false then x.2 else RObj.dead) (B:=W.l) (L:=W.n) b
 rw [List.length_map]at this
 unfold WS
 rw [this,← List.map_reverse,List.getElem?_map]
omit [Env] in
theorem WS_wf {W:RW} (h:W.wf) (all:List (Nat×RObj)) (listed:Array Bool):(WS W all listed).wf:=by
 unfold RW.wf at *
 simp [WS,h,Nat.add_comm]
omit [Env] in
theorem seen_get (L b:Nat) (V:List RObj) (sl:List (Nat×RObj)) (c:Nat) :
  (seen L b V sl).get c=if c < L then (⟨L,V⟩:RW).get c else (sl.reverse[c-L]?).map fun x=>if b.testBit x.1 then x.2.toRo else .dead:=by
 have:=get_over (A:=slotW b sl) (B:=V) (L:=L) c
 rw [slotW_eq,List.length_map]at this
 unfold seen
 rw [slotW_eq,this,← List.map_reverse,List.getElem?_map]
omit [Env] in
theorem seen_wf {L b:Nat} {V:List RObj} {sl:List (Nat×RObj)} (h:V.length=L):(seen L b V sl).wf:=by
 unfold RW.wf seen
 rw [slotW_eq]
 simp [h,Nat.add_comm]
structure Still (w w':World):Prop where
 size:w.heap.size≤w'.heap.size
 keep:∀r,r < w.heap.size→w'.heap[r]?=w.heap[r]?
 os:w'.os=w.os
 tape:w'.tape=w.tape
 output:w'.output=w.output
theorem Rel.still {m:Nat→Loc} {W:RW} {w w':World} (h:Rel m W w) (hs:Still w w'):Rel m W w':=
 ⟨h.wf,fun b o hb=>(h.obj b o hb).heap fun hl=>hs.keep _ ((h.obj b o hb).lt_size hl),h.lt,h.inj,h.glb⟩
omit [Env] in
theorem Post.still {m m':Nat→Loc} {W W':RW} {w w' w'':World} (h:Post m W w m' W' w') (hs:Still w' w''):Post m W w m' W' w'':=
 ⟨h.ag,h.mono,Nat.le_trans h.size hs.size,fun r hr hn=>(hs.keep r (Nat.lt_of_lt_of_le hr h.size)).trans (h.keep r hr hn),h.own,hs.os.trans h.os,hs.tape.trans h.tape,hs.output.trans h.output⟩
theorem store_spec {o:Oper} {op:ROp} (hop:decOp P o=some op) {a:Opd} (hst:storeTo o.op=some a) {t:RT} {W:RW} {e:Eff} (he:op t W=some e) :
  ∃W' c off cs cs' kd,e=.wr ud W'∧a t=.ptr c off∧W.get c=some (.cells cs kd)∧(kd≠.ro∧kd≠.rx)∧W.set c (.cells cs' kd)=some W':=by
 obtain⟨dst,oo,ty,pos,after,guard⟩:=o
 cases oo<;>simp only [storeTo]at hst<;>try (simp at hst; done)
 rename_i ty2 ax xx
 have ha:a=opd ax:=by
  unfold opd
  exact(Option.some.inj hst).symm
 subst ha
 simp only [decOp]at hop
 split at hop
 ·rename_i i hi
  obtain⟨_,_,rfl⟩:=with2_spec hop
  unfold xSt at he
  simp only at he
  split at he
  ·rename_i c off hp
   split at he
   ·unfold storeAt at he
    split at he
    ·rename_i cs kd hg
     cases kd with
     | ro=>simp at he
     | rx=>simp at he
     | ex =>
      simp only at he
      split at he
      ·rename_i cs' _
       split at he
       ·rename_i W' hs
        simp only [Option.some.injEq]at he
        subst he
        exact⟨W',c,off,cs,cs',.ex,rfl,hp,hg,by simp,hs⟩
       ·simp at he
      ·simp at he
     | gr =>
      simp only at he
      split at he
      ·rename_i cs' _
       split at he
       ·rename_i W' hs
        simp only [Option.some.injEq]at he
        subst he
        exact⟨W',c,off,cs,cs',.gr,rfl,hp,hg,by simp,hs⟩
       ·simp at he
      ·simp at he
    ·simp at he
   ·simp at he
  ·simp at he
 ·simp at hop
theorem Pre.old (h:Pre P ev ops k L ws T) (h0:(T 0).V.length=L) (hlt:∀c o,(⟨L,(T 0).V⟩:RW).get c=some o→o.lt L):∀j,j≤k→∀c o,(⟨L,(T j).V⟩:RW).get c=some o →
  o.lt L∧∃o0,(⟨L,(T 0).V⟩:RW).get c=some o0∧(o.own=true→o0.own=true)∧(o.live=true→o0.live=true)
 | 0,_,c,o,hg=>⟨hlt c o hg,o,hg,id,id⟩
 | j+1,hj,c,o,hg=>by
  obtain⟨op,r,x,_,hok,st⟩:=h.step j (by omega)
  have ih:=h.old h0 hlt j (by omega)
  have keep:(T (j+1)).V=(T j).V→_:=fun hV=>ih c o (by rw [← hV]; exact hg)
  rcases st.kind with ⟨_,_,_,h1⟩ | ⟨_,e,he,⟨_,_,h1⟩ | ⟨_,_,_,_,_,h1⟩ | ⟨_,_,_,_,_,h1,_⟩ | ⟨y,W',a,c',off,cs,kd,rfl,hsa,ha,hc',hw,hg',hb,_,_,h1⟩⟩
  ·exact keep h1
  ·exact keep h1
  ·exact keep h1
  ·exact keep h1
  ·have hcL:c < L:=by
    rcases Nat.lt_or_ge c L with h2 | h2
    ·exact h2
    ·rw [get_ge h2]at hg; simp at hg
   by_cases hcc:c'=c
   ·subst hcc
    rw [h1,get_at hcL,List.getElem?_set_self (by rw [h.vlen h0 j (by omega)]; omega)]at hg
    simp only [Option.some.injEq]at hg
    subst hg
    refine⟨hb,?_⟩
    obtain⟨W2,c2,off2,cs2,cs3,kd2,he2,ha2,hg2,hro,hset⟩:=store_spec hok.op (by rw [← hok.st]; exact hsa) he
    simp only [Eff.wr.injEq]at he2
    obtain⟨_,rfl⟩:=he2
    rw [ha]at ha2
    simp only [RV.ptr.injEq]at ha2
    obtain⟨rfl,_⟩:=ha2
    obtain⟨s1,s2,s3,s4⟩:=set_spec hset
    have hvw:viewOf L (bitsOf ops j) j ws r.st (T j)=seen L (bitsOf ops j) (T j).V (T j).sl:=by
     unfold viewOf; rw [hsa]
    rw [hvw]at hg2 s4
    have hwf:(seen L (bitsOf ops j) (T j).V (T j).sl).wf:=seen_wf (h.vlen h0 j (by omega))
    rw [s4 hwf,if_pos rfl]at hg'
    simp only [Option.some.injEq,RObj.cells.injEq]at hg'
    rw [seen_get,if_pos hcL]at hg2
    obtain⟨_,o0,h5,h6,h7⟩:=ih _ _ hg2
    refine⟨o0,h5,fun _=>h6 ?_,fun _=>h7 rfl⟩
    cases kd2<;>simp_all [RObj.own]
   ·rw [h1,get_at hcL,List.getElem?_set_ne (by omega),← get_at hcL]at hg
    exact ih c o hg
end
end Go.Rv
namespace Go.Rv
open Go
variable [Env]
section
variable {P:Program} {ev:Ev} {ops:Array Oper} {k:Nat} {ws:Wrs} {T:Nat→PS}
structure Inv (ops:Array Oper) (k:Nat) (ws:Wrs) (T:Nat→PS) (m0:Nat→Loc) (W:RW) (w:World) (listed:Array Bool) (m:Nat→Loc) (w':World) (arr:Array Value) (th:Nat):Prop where
 le:th≤k
 did:∀j c,j < th→Wr ops ws j c→listed.getD j false=true
 didnt:∀j c,th≤j→j < k→Wr ops ws j c→listed.getD j false=false
 rel:Rel m (WS ⟨W.n,(T th).V⟩ (T k).sl listed) w'
 size:arr.size=(T 0).t.n
 wrote:∀j o d,j < k→listed.getD j false=true→ops[j]?=some o→o.dst=some d→arr.getD d undef=rv m ((T k).t.get d)
 same:∀d,(∀j o,j < k→listed.getD j false=true→ops[j]?=some o→o.dst≠some d)→arr.getD d undef=rv m ((T 0).t.get d)
 post:Post m0 W w m (WS ⟨W.n,(T th).V⟩ (T k).sl listed) w'
omit [Env] in
theorem dstSet_same {d:Option Nat} {arr:Array Value} {v:Value} {i:Nat} (h:d≠some i):(dstSet d arr v).getD i undef=arr.getD i undef:=by
 cases d with
 | none=>rfl
 | some d =>
  have:d≠i:=fun e=>h (by rw [e])
  simp [dstSet,Array.getD_eq_getD_getElem?,Array.getElem?_setIfInBounds_ne this]
omit [Env] in
theorem dstSet_new {arr:Array Value} {v:Value} {i:Nat} (h:i < arr.size):(dstSet (some i) arr v).getD i undef=v:=by
 simp [dstSet,h]
omit [Env] in
theorem dstSet_size {d:Option Nat} {arr:Array Value} {v:Value}:(dstSet d arr v).size=arr.size:=by
 cases d<;>simp [dstSet]
omit [Env] in
theorem yielded_congr {a b:Array Value} {j:Nat} (hs:a.size=b.size) (h:∀d,(ops[j]?).bind (·.dst)=some d→a.getD d undef=b.getD d undef):yielded ops a j=yielded ops b j:=by
 unfold yielded
 cases hd:(ops[j]?).bind (·.dst)with
 | none=>rfl
 | some d =>
  have h1:=h d hd
  simp only [Option.bind_some]
  rcases Nat.lt_or_ge d a.size with hl | hl
  ·have hl2:d < b.size:=hs ▸ hl
   rw [Array.getD_eq_getD_getElem?,Array.getD_eq_getD_getElem?,Array.getElem?_eq_getElem hl,Array.getElem?_eq_getElem hl2]at h1
   rw [Array.getElem?_eq_getElem hl,Array.getElem?_eq_getElem hl2]
   simp only [Option.getD_some]at h1
   rw [h1]
  ·have hl2:b.size≤d:=hs ▸ hl
   rw [Array.getElem?_eq_none hl,Array.getElem?_eq_none hl2]
theorem noSelect {o:Oper} {op:ROp} (h:decOp P o=some op) (cs:Array SelectCase) (b:Bool):o.op≠.select cs b:=by
 intro hc
 unfold decOp at h
 rw [hc]at h
 simp at h
variable {m0:Nat→Loc} {W:RW} {w:World}
theorem Pre.temps (h:Pre P ev ops k W.n ws T) {listed:Array Bool} {m m':Nat→Loc} {w':World} {arr:Array Value} {th:Nat} (inv:Inv ops k ws T m0 W w listed m w' arr th) (h0:tlt W.n (T 0).t)
  {i:Nat} {o:Oper} {v:Value} (hi:i < k) (ho:ops[i]?=some o) (hs:listed.size=ops.size) (hx:∀d,o.dst=some d→d < (T 0).t.n∧rv m' ((T (i+1)).t.get d)=v)
  (hm:∀b,Known W.n (T k).sl listed b→m' b=m b) (hE:Edges ops) (hc:Closed ops listed) :
  (dstSet o.dst arr v).size=(T 0).t.n ∧
  (∀j oj d,j < k→(listed.setIfInBounds i true).getD j false=true→ops[j]?=some oj→oj.dst=some d→(dstSet o.dst arr v).getD d undef=rv m' ((T k).t.get d)) ∧
  (∀d,(∀j oj,j < k→(listed.setIfInBounds i true).getD j false=true→ops[j]?=some oj→oj.dst≠some d)→(dstSet o.dst arr v).getD d undef=rv m' ((T 0).t.get d)):=by
 refine⟨dstSet_size.trans inv.size,?_,?_⟩
 ·intro j oj d hj hlj hoj hd
  by_cases hij:i=j
  ·subst hij
   have:oj=o:=Option.some.inj (hoj.symm.trans ho)
   subst this
   obtain⟨h1,h2⟩:=hx d hd
   rw [hd,dstSet_new (by rw [inv.size]; exact h1),h.kept hi (Nat.le_refl k) ho hd,h2]
  ·rw [getD_set_ne false hij]at hlj
   rw [dstSet_same (h.apart j i oj o hj hi (Ne.symm hij) hoj ho d hd).1,inv.wrote j oj d hj hlj hoj hd]
   obtain⟨oj2,r,y,ho2,_,st⟩:=h.step j hj
   have:oj2=oj:=Option.some.inj (ho2.symm.trans hoj)
   subst this
   have hy:(T k).t.get d=y:=by
    rw [h.kept hj (Nat.le_refl k) hoj hd,st.get,if_pos hd]
   rw [hy]
   exact(rv_names (n:=W.n+(T (j+1)).sl.length) (fun b _ hb=>hm b (h.vis2 hj hlj (fun l hl=>closed_bits hE hc hlj hl) hb)) y st.below st.names).symm
 ·intro d hd
  have h1:o.dst≠some d:=by
   have hin:i < ops.size:=(Array.getElem?_eq_some_iff.1 ho).1
   exact hd i o hi (by simp [hs,hin]) ho
  rw [dstSet_same h1,inv.same d fun j oj hj hlj hoj=>hd j oj hj (getD_set_true hlj) hoj]
  exact(rv_agree (n:=W.n) (fun b hb=>hm b (.inl hb)) _ (h0 d)).symm
theorem Pre.threshold (h:Pre P ev ops k W.n ws T) {listed:Array Bool} {m:Nat→Loc} {w':World} {arr:Array Value} {th:Nat} (inv:Inv ops k ws T m0 W w listed m w' arr th)
  {i:Nat} (hi:i < k) (hin:i < listed.size) (hun:listed.getD i true=false) (hb:∀j,(bitsOf ops i).testBit j=true→listed.getD j false=true) :
  ∃th',th'≤k∧(∀j c,j < th'→Wr ops ws j c→(listed.setIfInBounds i true).getD j false=true)∧(∀j c,th'≤j→j < k→Wr ops ws j c→(listed.setIfInBounds i true).getD j false=false) ∧
   ((∃c,Wr ops ws i c)→th'=i+1∧(T th).V=(T i).V)∧((∀c,¬ Wr ops ws i c)→th'=th):=by
 have hoff:=off_both hun
 by_cases hw:∃c,Wr ops ws i c
 ·obtain⟨c,hw⟩:=hw
  have hth:th≤i:=by
   rcases Nat.lt_or_ge i th with h1 | h1
   ·have:=inv.did i c h1 hw
    rw [hoff]at this
    simp at this
   ·exact h1
  refine⟨i+1,hi,?_,?_,fun _=>⟨rfl,?_⟩,fun hn=>absurd hw (hn c)⟩
  ·intro j d hj hwj
   by_cases hij:i=j
   ·subst hij; simp [hin]
   ·rw [getD_set_ne false hij]
    exact hb j (h.chain j d _ i c _ hwj hw (by omega))
  ·intro j d hj hjk hwj
   rw [getD_set_ne false (show i≠j by omega)]
   exact inv.didnt j d (by omega) hjk hwj
  ·have:=h.vsame (i:=th) (i-th) (by omega) fun j d h1 h2 hwj=>by
    have h3:=inv.didnt j d h1 (by omega) hwj
    rw [hb j (h.chain j d _ i c _ hwj hw (by omega))]at h3
    simp at h3
   rw [show th+(i-th)=i by omega]at this
   exact this.symm
 ·have hw':∀c,¬ Wr ops ws i c:=fun c hc=>hw ⟨c,hc⟩
  refine⟨th,inv.le,?_,?_,fun hc=>absurd hc hw,fun _=>rfl⟩
  ·intro j d hj hwj
   exact getD_set_true (inv.did j d hj hwj)
  ·intro j d hj hjk hwj
   have hij:i≠j:=fun e=>hw' d (e ▸ hwj)
   rw [getD_set_ne false hij]
   exact inv.didnt j d hj hjk hwj
theorem Pre.now (h:Pre P ev ops k W.n ws T) (hE:Edges ops) {listed:Array Bool} (hc:Closed ops listed) {m:Nat→Loc} {w':World} {arr:Array Value} {th:Nat} (inv:Inv ops k ws T m0 W w listed m w' arr th)
  {i:Nat} (hi:i < k) (hun:listed.getD i true=false) (hb:∀j,(bitsOf ops i).testBit j=true→listed.getD j false=true) {c:Nat} (hcl:c < W.n) (hord:∀e∈ws,e.2.1=c→Ordered i (bitsOf ops i) e) :
  (⟨W.n,(T th).V⟩:RW).get c=(⟨W.n,(T i).V⟩:RW).get c:=by
 have hoff:=off_both hun
 have hle:=inv.le
 rcases Nat.lt_or_ge i th with h1 | h1
 ·have:=h.vget (i:=i) hcl (th-i) (by omega) fun j h2 h3 hwj=>by
   have hlj:=inv.did j c (by omega) hwj
   rcases hord _ hwj rfl with h4 | ⟨h4,_⟩ | ⟨h4,h5⟩
   ·have:j=i:=h4
    subst this
    rw [hoff]at hlj; simp at hlj
   ·have:j < i:=h4
    omega
   ·have:=closed_bits hE hc hlj h5
    rw [hoff]at this; simp at this
  rw [show i+(th-i)=th by omega]at this
  exact this
 ·have:=h.vget (i:=th) hcl (i-th) (by omega) fun j h2 h3 hwj=>by
   have hlj:=inv.didnt j c h2 (by omega) hwj
   rcases hord _ hwj rfl with h4 | ⟨_,h5⟩ | ⟨h4,_⟩
   ·have:j=i:=h4
    omega
   ·rw [hb j h5]at hlj; simp at hlj
   ·have:i < j:=h4
    omega
  rw [show th+(i-th)=i by omega]at this
  exact this.symm
theorem Pre.step_ok (hev:EvOk P ev) (hN:NoOwn P) (hE:Edges ops) (h:Pre P ev ops k W.n ws T) (hr0:Rel m0 W w) (h0:tlt W.n (T 0).t) (hV0:(T 0).V=W.l)
  {listed:Array Bool} {m:Nat→Loc} {w':World} {fr:Frame} {th:Nat} (inv:Inv ops k ws T m0 W w listed m w' fr.tmps th)
  {i:Nat} {o:Oper} (hi:i < k) (ho:ops[i]?=some o) (hun:listed.getD i true=false) (hl:∀e∈o.after,Region.binds .any e=true→listed.getD e.on false=true)
  (hc:Closed ops listed) (hs:listed.size=ops.size) {cs:List Frame} {rest:List Nat} {K:List Item} (hm:fr.mode=.run) (htd:fr.todo=.inRegion ops (i :: rest) :: K) :
  ∃m' w'' arr' th',Steps P (lone fr cs w') (lone { fr with tmps:=arr',todo:=.inRegion ops rest :: K } cs w'')∧Inv ops k ws T m0 W w (listed.setIfInBounds i true) m' w'' arr' th':=by
 obtain⟨o',r,x,ho',hok,st⟩:=h.step i hi
 have:o'=o:=Option.some.inj (ho'.symm.trans ho)
 subst this
 have hik:i≤k:=Nat.le_of_lt hi
 have hin:i < ops.size:=(Array.getElem?_eq_some_iff.1 ho).1
 have hb:∀j,(bitsOf ops i).testBit j=true→listed.getD j false=true:=closed_before hE hc i _ ho hl
 have hWn:W.l.length=W.n:=hr0.wf
 have hVlen:∀j,j≤k→(T j).V.length=W.n:=h.vlen (by rw [hV0]; exact hWn)
 have hold:∀j,j≤k→∀c ob,(⟨W.n,(T j).V⟩:RW).get c=some ob→ob.lt W.n∧∃o0,W.get c=some o0∧(ob.own=true→o0.own=true)∧(ob.live=true→o0.live=true):=by
  have:=h.old (by rw [hV0]; exact hWn) (fun c ob hg=>hr0.lt c ob (by rw [hV0]at hg; exact hg))
  rw [hV0]at this
  exact this
 have hnT:∀j,j≤k→(T j).t.n=(T 0).t.n:=h.num
 obtain⟨th',t1,t2,t3,t4,t5⟩:=h.threshold inv hi (by omega) hun hb
 have hlate:∀d,(T 0).t.n≤d→∀j oj,j < k→ops[j]?=some oj→oj.dst≠some d:=by
  intro d hd j oj hj hoj he
  obtain⟨o2,r2,x2,ho2,_,st2⟩:=h.step j hj
  have:o2=oj:=Option.some.inj (ho2.symm.trans hoj)
  subst this
  have:=st2.dn d he
  rw [hnT j (Nat.le_of_lt hj)]at this
  exact Nat.not_lt.2 hd this
 have htr:TR m (T i).t ((List.range (T 0).t.n).map fun d=>rv m ((T i).t.get d)).toArray:=by
  refine⟨by simp [hnT i hik],fun d=>?_⟩
  rw [Array.getD_eq_getD_getElem?]
  by_cases hd:d < (T 0).t.n
  ·simp [hd]
  ·rw [Array.getElem?_eq_none (by simpa using hd),h.first hik fun l ol hl hol=>hlate d (by omega) l ol (by omega) hol]
   rw [← inv.same d fun j oj hj _ hoj=>hlate d (by omega) j oj hj hoj]
   rw [Array.getD_eq_getD_getElem?,Array.getElem?_eq_none (by rw [inv.size]; omega)]
 have hlt:tlt (W.n+(T i).sl.length) (T i).t:=h.lows h0 i hik
 have hglb:∀j g,Env.ids[j]?=some g→j < W.n+(T i).sl.length:=fun j g hj=>by
  have:=(hr0.glb j g hj).1
  omega
 have hslots:∀c o2,W.n≤c→((T i).sl.reverse[c-W.n]?).map (fun x=>if (bitsOf ops i).testBit x.1 then x.2.toRo else RObj.dead)=some o2 →
   (o2=.dead∨∃o1,(WS ⟨W.n,(T th).V⟩ (T k).sl listed).get c=some o1∧(o2=o1.toRo∨o2=o1))∧o2.lt (W.n+(T i).sl.length):=by
  intro c o2 hcl hg
  cases hx:(T i).sl.reverse[c-W.n]? with
  | none=>rw [hx]at hg; simp at hg
  | some y =>
   rw [hx]at hg
   simp only [Option.map_some,Option.some.injEq]at hg
   have hq:c-W.n < (T i).sl.length:=by
    have:=(List.getElem?_eq_some_iff.1 hx).1
    simpa using this
   split at hg
   ·rename_i hbit
    obtain⟨j,ob⟩:=y
    obtain⟨h1,h2,h3,_,h4⟩:=h.entry i hik _ j ob hx
    refine⟨.inr ⟨ob,?_,.inl hg.symm⟩,?_⟩
    ·rw [WS_get,if_neg (by simp only; omega),h.slot hik (Nat.le_refl k) hq,hx]
     simp only [Option.map_some,hb _ hbit,if_true]
    ·rw [← hg]
     refine RObj.lt_mono ?_ (toRo_lt (newB_lt h4))
     have:=h.len_le (show j+1≤i by omega) hik
     omega
   ·exact⟨.inl hg.symm,by rw [← hg]; trivial⟩
 have hlook:∀d,d∈looks ops o'→(((List.range (T 0).t.n).map fun d=>rv m ((T i).t.get d)).toArray).getD d undef=fr.tmps.getD d undef:=by
  intro d hd
  rw [htr.get]
  by_cases hw:∃j oj,j < k∧j≠i∧ops[j]?=some oj∧oj.dst=some d
  ·obtain⟨j,oj,hj,hji,hoj,hdj⟩:=hw
   rcases(h.apart j i oj _ hj hi hji hoj ho d hdj).2 hd with hbit | hbit
   ·have hlj:=hb j hbit
    have hjlt:=before_lt hE i j hbit
    rw [inv.wrote j oj d hj hlj hoj hdj,h.kept hjlt hik hoj hdj,h.kept hj (Nat.le_refl k) hoj hdj]
   ·have hilt:=before_lt hE j i hbit
    have hlj:listed.getD j false=false:=by
     cases hx:listed.getD j false with
     | false=>rfl
     | true =>
      have:=closed_bits hE hc hx hbit
      rw [off_both hun]at this
      simp at this
    rw [h.first hik fun l ol hll hol hld=>(h.apart j l oj ol hj (by omega) (by omega) hoj hol d hdj).1 hld]
    refine(inv.same d fun l ol hl hll hol hld=>?_).symm
    by_cases e:l=j
    ·subst e
     rw [hlj]at hll
     simp at hll
    ·exact(h.apart j l oj ol hj hl (Ne.symm e) hoj hol d hdj).1 hld
  ·have hno:∀j oj,j < k→j≠i→ops[j]?=some oj→oj.dst≠some d:=fun j oj hj hji hoj hdj=>hw ⟨j,oj,hj,hji,hoj,hdj⟩
   rw [h.first hik fun l ol hll hol=>hno l ol (by omega) (by omega) hol]
   refine(inv.same d fun j oj hj hlj hoj=>hno j oj hj (fun e=>?_) hoj).symm
   subst e
   rw [off_both hun]at hlj
   simp at hlj
 have hexec:execOp (evV ((List.range (T 0).t.n).map fun d=>rv m ((T i).t.get d)).toArray) o'=execOp (evV fr.tmps) o':=by
  refine execOp_congr o' (noSelect hok.op) fun y hy=>?_
  cases y with
  | tmp d=>exact hlook d (List.mem_append_left _ (List.mem_filterMap.2 ⟨.tmp d,by simpa using hy,rfl⟩))
  | _=>rfl
 have hwant:Region.wanted o' (yielded ops fr.tmps)=wantedR (T i).t r.guard:=by
  rw [← wanted_ok hok htr]
  unfold Region.wanted
  cases hg:o'.guard with
  | none=>rfl
  | some gw =>
   obtain⟨g,want⟩:=gw
   simp only
   rw [yielded_congr (a:=fr.tmps) (b:=((List.range (T 0).t.n).map fun d=>rv m ((T i).t.get d)).toArray) (by rw [inv.size]; simp)]
   intro d hd
   refine(hlook d (List.mem_append_right _ ?_)).symm
   rw [hg]
   simp [hd]
 have hdn:∀d,o'.dst=some d→d < (T 0).t.n:=fun d hd=>by rw [← hnT i hik]; exact st.dn d hd
 have hlenk:(T (i+1)).sl.length≤(T k).sl.length:=h.len_le hi (Nat.le_refl k)
 have hleni:(T i).sl.length≤(T (i+1)).sl.length:=h.len_le (Nat.le_succ i) hi
 have extend:∀(w'':World) (m2:Nat→Loc),(T (i+1)).V=(T i).V→Still w' w''→Agree (W.n+(T i).sl.length) m m2 →
   (∀q ob,(T i).sl.length≤q→(T (i+1)).sl.reverse[q]?=some (i,ob)→ORel m2 ob (m2 (W.n+q)) w''.heap∧(ob.live=true→w'.heap.size≤(m2 (W.n+q)).blk)) →
   (∀q1 q2 x y,(T i).sl.length≤q1→(T i).sl.length≤q2→(T (i+1)).sl.reverse[q1]?=some (i,x)→(T (i+1)).sl.reverse[q2]?=some (i,y)→x.own=true→y.live=true→q1≠q2→(m2 (W.n+q1)).blk≠(m2 (W.n+q2)).blk) →
   Steps P (lone fr cs w') (lone (fr.finish (rv m2 x)) cs w'') →
   ∃m' w'' arr' th',Steps P (lone fr cs w') (lone { fr with tmps:=arr',todo:=.inRegion ops rest :: K } cs w'')∧Inv ops k ws T m0 W w (listed.setIfInBounds i true) m' w'' arr' th':=by
  intro w'' m2 hV hst hag hnew hinj hsteps
  let m':Nat→Loc:=fun c=>if W.n+(T i).sl.length≤c∧c < W.n+(T (i+1)).sl.length then m2 c else m c
  have hm'new:∀c,W.n+(T i).sl.length≤c→c < W.n+(T (i+1)).sl.length→m' c=m2 c:=fun c h1 h2=>by
   show(if _ then _ else _)=_
   rw [if_pos ⟨h1,h2⟩]
  have hm'old:∀c,¬ (W.n+(T i).sl.length≤c∧c < W.n+(T (i+1)).sl.length)→m' c=m c:=fun c h1=>by
   show(if _ then _ else _)=_
   rw [if_neg h1]
  have hknown:∀b,Known W.n (T k).sl listed b→m' b=m b:=by
   intro b hbk
   apply hm'old
   rintro⟨h1,h2⟩
   rcases hbk with hbk | ⟨q,j,ob,rfl,hqj,hlj⟩
   ·omega
   ·obtain⟨ob2,h3,_⟩:=h.mine hi (q:=q) (by omega) (by omega)
    rw [h3]at hqj
    simp only [Option.some.injEq,Prod.mk.injEq]at hqj
    rw [← hqj.1,off_both hun]at hlj
    simp at hlj
  have hm'low:∀c,c < W.n→m' c=m c:=fun c hc=>hm'old c (by omega)
  have hmade:∀b,b < W.n+(T (i+1)).sl.length→madeN W.n (bitsOf ops i) (T i).sl (W.n+(T i).sl.length) (W.n+(T (i+1)).sl.length) b=true→m' b=m2 b:=by
   intro b hb1 hb2
   by_cases hn:W.n+(T i).sl.length≤b
   ·exact hm'new b hn hb1
   ·have hv:visN W.n (bitsOf ops i) (T i).sl b=true:=by
     unfold madeN at hb2
     rw [Bool.or_eq_true,Bool.and_eq_true]at hb2
     rcases hb2 with hb2 | hb2
     ·exact absurd (Nat.le_of_ble_eq_true hb2.1) hn
     ·exact hb2
    rw [hknown b (h.vis hi hb hv),hag b (by omega)]
  have hxv:rv m' x=rv m2 x:=rv_names (n:=W.n+(T (i+1)).sl.length) (fun b h1 h2=>hmade b h1 h2) x st.below st.names
  rw [finish_region htd ho,← hxv]at hsteps
  obtain⟨s1,s2,s3⟩:=h.temps inv h0 hi ho hs (m':=m') (v:=rv m' x) (fun d hd=>⟨hdn d hd,by rw [st.get,if_pos hd]⟩) hknown hE hc
  have hVth:(T th').V=(T th).V:=by
   by_cases hw:∃c,Wr ops ws i c
   ·obtain⟨e1,e2⟩:=t4 hw
    rw [e1,hV,e2]
   ·rw [t5 fun c hcw=>hw ⟨c,hcw⟩]
  have hrel1:=inv.rel.still hst
  have hblk:∀c oc,(WS ⟨W.n,(T th).V⟩ (T k).sl listed).get c=some oc→oc.live=true→(m c).blk < w'.heap.size:=fun c oc hc hlv=>(inv.rel.obj c oc hc).lt_size hlv
  have hget:∀c oc,(WS ⟨W.n,(T th').V⟩ (T k).sl (listed.setIfInBounds i true)).get c=some oc →
    (∃q,c=W.n+q∧(T i).sl.length≤q∧q < (T (i+1)).sl.length∧(T (i+1)).sl.reverse[q]?=some (i,oc)) ∨
    (¬ (W.n+(T i).sl.length≤c∧c < W.n+(T (i+1)).sl.length)∧(WS ⟨W.n,(T th).V⟩ (T k).sl listed).get c=some oc):=by
   intro c oc hgc
   rw [WS_get]at hgc
   simp only [hVth]at hgc
   split at hgc
   ·rename_i hcl
    right
    refine⟨by omega,?_⟩
    rw [WS_get,if_pos hcl]
    exact hgc
   ·rename_i hcl
    by_cases hn:W.n+(T i).sl.length≤c∧c < W.n+(T (i+1)).sl.length
    ·left
     obtain⟨ob,h1,h2⟩:=h.mine hi (q:=c-W.n) (by omega) (by omega)
     rw [h1]at hgc
     simp [hs,hin]at hgc
     subst hgc
     exact⟨c-W.n,by omega,by omega,by omega,h2⟩
    ·right
     refine⟨hn,?_⟩
     rw [WS_get,if_neg hcl]
     cases hq:(T k).sl.reverse[c-W.n]? with
     | none=>rw [hq]at hgc; simp at hgc
     | some y =>
      obtain⟨j,ob2⟩:=y
      rw [hq]at hgc
      obtain⟨_,h5,h6,_⟩:=h.entry k (Nat.le_refl k) _ j ob2 hq
      have hji:i≠j:=by
       intro e
       subst e
       have hcl':¬ c < W.n:=hcl
       omega
      simp only [Option.map_some,getD_set_ne false hji]at hgc ⊢
      exact hgc
  refine⟨m',w'',_,th',hsteps,t1,t2,t3,⟨WS_wf (by show(T th').V.length=W.n; exact hVlen th' t1) _ _,?_,?_,?_,?_⟩,s1,s2,s3,?_⟩
  ·intro c oc hgc
   rcases hget c oc hgc with ⟨q,rfl,h1,h2,h3⟩ | ⟨hn,hgo⟩
   ·rw [hm'new _ (by omega) (by omega)]
    obtain⟨_,_,_,_,h8⟩:=h.entry (i+1) hi q i oc h3
    exact ORel.names h8 (hnew q oc h1 h3).1 hmade
   ·rw [hm'old c hn]
    have hoc:=hrel1.obj c oc hgo
    rw [WS_get]at hgo
    split at hgo
    ·refine hoc.agree (hold th inv.le c oc hgo).1 fun b hbl=>hm'low b hbl
    ·cases hq:(T k).sl.reverse[c-W.n]? with
     | none=>simp only at hgo; rw [hq]at hgo; simp at hgo
     | some y =>
      obtain⟨j,ob2⟩:=y
      simp only at hgo
      rw [hq]at hgo
      simp only [Option.map_some,Option.some.injEq]at hgo
      split at hgo
      ·rename_i hlj
       subst hgo
       obtain⟨hjk,_,_,_,h8⟩:=h.entry k (Nat.le_refl k) _ j ob2 hq
       exact ORel.names h8 hoc fun b _ hbn=>hknown b (h.vis2 hjk hlj (fun l hl=>closed_bits hE hc hlj hl) hbn)
      ·subst hgo
       trivial
  ·intro c oc hgc
   show oc.lt (W.n+(T k).sl.length)
   rcases hget c oc hgc with ⟨q,rfl,h1,h2,h3⟩ | ⟨hn,hgo⟩
   ·obtain⟨_,_,_,_,h8⟩:=h.entry (i+1) hi q i oc h3
    exact RObj.lt_mono (by omega) (newB_lt h8)
   ·exact inv.rel.lt c oc hgo
  ·intro a b xa yb ha hbg hxo hyl hab
   rcases hget a xa ha with ⟨q1,rfl,h1,h2,h3⟩ | ⟨hn1,hg1⟩
   ·rw [hm'new _ (by omega) (by omega)]
    have hsz1:=(hnew q1 xa h1 h3).2 (own_live hxo)
    rcases hget b yb hbg with ⟨q2,rfl,h4,h5,h6⟩ | ⟨hn2,hg2⟩
    ·rw [hm'new _ (by omega) (by omega)]
     exact hinj q1 q2 xa yb h1 h4 h3 h6 hxo hyl (by omega)
    ·rw [hm'old b hn2]
     have:=hblk b yb hg2 hyl
     omega
   ·rw [hm'old a hn1]
    have hsz1:=hblk a xa hg1 (own_live hxo)
    rcases hget b yb hbg with ⟨q2,rfl,h4,h5,h6⟩ | ⟨hn2,hg2⟩
    ·rw [hm'new _ (by omega) (by omega)]
     have:=(hnew q2 yb h4 h6).2 hyl
     omega
    ·rw [hm'old b hn2]
     exact inv.rel.inj a b xa yb hg1 hg2 hxo hyl hab
  ·intro j g hj
   have h1:=hr0.glb j g hj
   have h2:=inv.rel.glb j g hj
   refine⟨Nat.lt_of_lt_of_le h1.1 (Nat.le_add_right _ _),?_⟩
   rw [hm'low j h1.1]
   exact h2.2
  ·have hp:=inv.post.still hst
   refine⟨fun b hbn=>?_,Nat.le_add_right _ _,hp.size,hp.keep,?_,hp.os,hp.tape,hp.output⟩
   ·rw [hm'low b hbn]
    exact hp.ag b hbn
   ·intro c oc hgc hoc
    rcases hget c oc hgc with ⟨q,rfl,h1,h2,h3⟩ | ⟨hn,hgo⟩
    ·left
     rw [hm'new _ (by omega) (by omega)]
     exact Nat.le_trans inv.post.size ((hnew q oc h1 h3).2 (own_live hoc))
    ·rw [hm'old c hn]
     exact hp.own c oc hgo hoc
 have same:Still w' w':=⟨Nat.le_refl _,fun _ _=>rfl,rfl,rfl,rfl⟩
 have none_new:(T (i+1)).sl=(T i).sl→∀q ob,(T i).sl.length≤q→(T (i+1)).sl.reverse[q]?=some (i,ob)→False:=by
  intro hS q ob h1 h2
  rw [hS]at h2
  have:=(List.getElem?_eq_some_iff.1 h2).1
  simp at this
  omega
 have quiet:∀(w'':World),(T (i+1)).sl=(T i).sl→(T (i+1)).V=(T i).V→Still w' w''→Steps P (lone fr cs w') (lone (fr.finish (rv m x)) cs w'') →
   ∃m' w'' arr' th',Steps P (lone fr cs w') (lone { fr with tmps:=arr',todo:=.inRegion ops rest :: K } cs w'')∧Inv ops k ws T m0 W w (listed.setIfInBounds i true) m' w'' arr' th':=by
  intro w'' hS hV hst hsteps
  exact extend w'' m hV hst (fun _ _=>rfl) (fun q ob h1 h2=>(none_new hS q ob h1 h2).elim) (fun q1 _ x1 _ h1 _ h2 _ _ _ _=>(none_new hS q1 x1 h1 h2).elim) hsteps
 rcases st.kind with ⟨h1,h2,h3,h4⟩ | ⟨h1,e,he,hk⟩
 ·refine quiet w' h3 h4 same ?_
  rw [h2]
  exact step_op_skip' hm htd ho (by rw [hwant,h1])
 ·have hw:=hwant.trans h1
  have hd:=noDefer hok.op
  have hview:r.st=none→Rel m (viewOf W.n (bitsOf ops i) i ws r.st (T i)) w'∧(viewOf W.n (bitsOf ops i) i ws r.st (T i)).n=W.n+(T i).sl.length∧∀c ob,(viewOf W.n (bitsOf ops i) i ws r.st (T i)).get c=some ob→ob.own=false:=by
   intro hst
   have hvw:viewOf W.n (bitsOf ops i) i ws r.st (T i)=seen W.n (bitsOf ops i) ((killW W.n (bitsOf ops i) i ws (T i).V).map RObj.toRo) (T i).sl:=by
    unfold viewOf; rw [hst]
   rw [hvw]
   have hro:∀y:RObj,y.toRo.own=false:=fun y=>by cases y<;>rfl
   have hlow:∀c o2,c < W.n→(⟨W.n,(killW W.n (bitsOf ops i) i ws (T i).V).map RObj.toRo⟩:RW).get c=some o2→o2.own=false ∧
     (o2=.dead∨∃o1,(WS ⟨W.n,(T th).V⟩ (T k).sl listed).get c=some o1∧(o2=o1.toRo∨o2=o1))∧o2.lt (W.n+(T i).sl.length):=by
    intro c o2 hcl hg
    rw [get_map]at hg
    cases hkg:(⟨W.n,killW W.n (bitsOf ops i) i ws (T i).V⟩:RW).get c with
    | none=>rw [hkg]at hg; simp at hg
    | some o1 =>
     rw [hkg]at hg
     simp only [Option.map_some,Option.some.injEq]at hg
     subst hg
     refine⟨hro o1,?_⟩
     rcases kill_get hcl ws _ o1 hkg with rfl | ⟨h5,h6⟩
     ·exact⟨.inl rfl,trivial⟩
     ·refine⟨.inr ⟨o1,?_,.inl rfl⟩,RObj.lt_mono (Nat.le_add_right _ _) (toRo_lt (hold i hik c o1 h5).1)⟩
      rw [WS_get,if_pos hcl]
      exact(h.now hE hc inv hi hun hb hcl h6).trans h5
   refine⟨inv.rel.less (seen_wf (by rw [List.length_map,kill_len]; exact hVlen i hik)) ?_ ?_ hglb,rfl,?_⟩
   ·intro c o2 hg
    rw [seen_get]at hg
    split at hg
    ·rename_i hcl
     exact(hlow c o2 hcl hg).2.1
    ·rename_i hcl
     exact(hslots c o2 (by omega) hg).1
   ·intro c o2 hg
    rw [seen_get]at hg
    show o2.lt (W.n+(T i).sl.length)
    split at hg
    ·rename_i hcl
     exact(hlow c o2 hcl hg).2.2
    ·rename_i hcl
     exact(hslots c o2 (by omega) hg).2
   ·intro c o2 hg
    rw [seen_get]at hg
    split at hg
    ·rename_i hcl
     exact(hlow c o2 hcl hg).1
    ·cases hq:(T i).sl.reverse[c-W.n]? with
     | none=>rw [hq]at hg; simp at hg
     | some y =>
      rw [hq]at hg
      simp only [Option.map_some,Option.some.injEq]at hg
      rw [← hg]
      split
      ·exact hro _
      ·rfl
  have nost:(∀y W',e≠.wr y W')→r.st=none:=by
   intro hne
   cases hst:r.st with
   | none=>rfl
   | some a =>
    obtain⟨W',c,off,c1,c2,kd,he2,_⟩:=store_spec hok.op (by rw [← hok.st]; exact hst) he
    exact absurd he2 (hne _ _)
  rcases hk with ⟨rfl,h3,h4⟩ | ⟨ob,mk,rfl,hx,h3,h4⟩ | ⟨f,args,W2,rfl,hcall,h4,hsl⟩ | ⟨y,W2,a,c,off,cells,kd,rfl,hsa,ha,hcl,hwr,hg2,hbl,hxu,h3,h4⟩
  ·obtain⟨hrel,hvn,_⟩:=hview (nost (by simp))
   have heff:=decOp_ok (w:=w') ⟨htr,by rw [hvn]; exact hlt,hrel⟩ hok.op he
   rw [hexec]at heff
   obtain⟨_,nx,h5,h6⟩:=heff
   exact quiet w' h3 h4 same (step_op hm htd ho hw hd h5 h6)
  ·
   obtain⟨hrel,hvn,_⟩:=hview (nost (by simp))
   have heff:=decOp_ok (w:=w') ⟨htr,by rw [hvn]; exact hlt,hrel⟩ hok.op he
   rw [hexec]at heff
   obtain⟨_,robj,cap,nx,hrun,hall⟩:=heff
   rw [hvn]at hall
   obtain⟨hdone,horel,_⟩:=hall (upd m (W.n+(T i).sl.length) ⟨w'.heap.size,0,cap⟩) (W.n+(T i).sl.length) (agree_upd _ _ _) (by simp [upd])
   rw [← hx]at hdone
   have hone:∀q oc,(T i).sl.length≤q→(T (i+1)).sl.reverse[q]?=some (i,oc)→q=(T i).sl.length∧oc=ob:=by
    intro q oc hq1 hq2
    have hql:q < (T (i+1)).sl.length:=by
     have:=(List.getElem?_eq_some_iff.1 hq2).1
     simpa using this
    rw [h3]at hql hq2
    have hqe:q=(T i).sl.length:=by simp at hql; omega
    refine⟨hqe,?_⟩
    rw [hqe,List.reverse_cons,List.getElem?_append_right (by simp)]at hq2
    simp at hq2
    exact hq2.symm
   refine extend { w' with heap:=w'.heap.push robj } (upd m (W.n+(T i).sl.length) ⟨w'.heap.size,0,cap⟩) h4 ⟨by simp,fun q hq=>by simp [Array.getElem?_push,Nat.ne_of_lt hq],rfl,rfl,rfl⟩ (agree_upd _ _ _) ?_ ?_ (step_op hm htd ho hw hd hrun hdone)
   ·intro q oc hq1 hq2
    obtain⟨rfl,rfl⟩:=hone q oc hq1 hq2
    have:upd m (W.n+(T i).sl.length) ⟨w'.heap.size,0,cap⟩ (W.n+(T i).sl.length)=⟨w'.heap.size,0,cap⟩:=by simp [upd]
    rw [this]
    exact⟨horel,fun _=>Nat.le_refl _⟩
   ·intro q1 q2 x1 y1 hq1 hq2 hx1 hy1 _ _ hne
    exact absurd ((hone q1 x1 hq1 hx1).1.trans (hone q2 y1 hq2 hy1).1.symm) hne
  ·
   obtain⟨hrel,hvn,hvown⟩:=hview (nost (by simp))
   have heff:=decOp_ok (w:=w') ⟨htr,by rw [hvn]; exact hlt,hrel⟩ hok.op he
   rw [hexec]at heff
   obtain⟨h5,h6,h7⟩:=heff
   obtain⟨m2,w2,hcr,hr2,hp2,hx2⟩:=callV_ok hev hN hcall hrel h5 h6 fr cs
   have hst:Still w' w2:=⟨hp2.size,fun q hq=>hp2.keep q hq fun b ob hg hown=>by rw [hvown b ob hg]at hown; simp at hown,hp2.os,hp2.tape,hp2.output⟩
   have hsteps:Steps P (lone fr cs w') (lone (fr.finish (rv m2 x)) cs w2):=by
    rcases hcr with ⟨g,as,hrun,hst2⟩ | ⟨l,f',tm,a,b,hrun,hst2⟩
    ·exact(step_enter hm htd ho hw hd (by rw [h7]; exact hrun)).trans hst2
    ·exact(step_round hm htd ho hw hd (by rw [h7]; exact hrun)).trans hst2
   have hag:Agree (W.n+(T i).sl.length) m m2:=by
    have:=hp2.ag
    rw [hvn]at this
    exact this
   rcases hsl with hsl | ⟨hlen,l,hlt2,hsl⟩
   ·exact extend w2 m2 h4 hst hag (fun q ob hq1 hq2=>(none_new hsl q ob hq1 hq2).elim) (fun q1 _ x1 _ hq1 _ hq2 _ _ _ _=>(none_new hsl q1 x1 hq1 hq2).elim) hsteps
   ·obtain⟨hl1,hl2⟩:=ltake_spec _ _ hlt2
    have hwf2:W2.l.length=W2.n:=hr2.wf
    have hblock:∀q oc,(T i).sl.length≤q→(T (i+1)).sl.reverse[q]?=some (i,oc)→∃o1,W2.get (W.n+q)=some o1∧(oc=.dead∨(oc=o1∧o1.own=true)):=by
     intro q oc hq1 hq2
     have hql:q < (T (i+1)).sl.length:=by
      have:=(List.getElem?_eq_some_iff.1 hq2).1
      simpa using this
     rw [hsl,List.reverse_append,List.getElem?_append_right (by simpa using hq1),← List.map_reverse,List.getElem?_map]at hq2
     cases hn:l.reverse[q-(T i).sl.reverse.length]? with
     | none=>rw [hn]at hq2; simp at hq2
     | some o1 =>
      rw [hn]at hq2
      simp only [Option.map_some,Option.some.injEq,Prod.mk.injEq,true_and]at hq2
      have hll:l.length=W2.n-(W.n+(T i).sl.length):=by rw [hl2,List.length_take]; omega
      refine⟨o1,?_,?_⟩
      ·unfold RW.get
       simp only [blt_eq]
       rw [if_pos (by simp; omega),lget_eq]
       rw [List.length_reverse]at hn
       have hidx:q-(T i).sl.length < l.length:=by
        have:=(List.getElem?_eq_some_iff.1 hn).1
        simpa using this
       rw [List.getElem?_reverse hidx]at hn
       rw [show l.length-1-(q-(T i).sl.length)=W2.n-1-(W.n+q)by omega]at hn
       rw [hl2,List.getElem?_take]at hn
       split at hn
       ·exact hn
       ·simp at hn
      ·rw [← hq2]
       exact(keepB_spec o1).2
    refine extend w2 m2 h4 hst hag ?_ ?_ hsteps
    ·intro q oc hq1 hq2
     obtain⟨o1,hg1,hoc⟩:=hblock q oc hq1 hq2
     have ho1:=hr2.obj _ o1 hg1
     rcases hoc with rfl | ⟨rfl,hown⟩
     ·exact⟨trivial,fun hlv=>by simp [RObj.live]at hlv⟩
     ·refine⟨ho1,fun _=>?_⟩
      rcases hp2.own _ oc hg1 hown with h8 | ⟨a,xa,h8,h9,_⟩
      ·exact h8
      ·rw [hvown a xa h8]at h9; simp at h9
    ·intro q1 q2 x1 y1 hq1 hq2 hx1 hy1 hxo hyl hne
     obtain⟨o1,hg1,hoc1⟩:=hblock q1 x1 hq1 hx1
     obtain⟨o2,hg3,hoc2⟩:=hblock q2 y1 hq2 hy1
     rcases hoc1 with rfl | ⟨rfl,_⟩
     ·simp [RObj.own]at hxo
     ·rcases hoc2 with rfl | ⟨rfl,_⟩
      ·simp [RObj.live]at hyl
      ·exact hr2.inj _ _ _ _ hg1 hg3 hxo hyl (by omega)
  ·
   obtain⟨hth',hVth⟩:=t4 ⟨c,hwr⟩
   subst hth'
   have hvw:viewOf W.n (bitsOf ops i) i ws r.st (T i)=seen W.n (bitsOf ops i) (T i).V (T i).sl:=by
    unfold viewOf; rw [hsa]
   rw [hvw]at he
   obtain⟨W3,c3,off3,cs0,cs3,kd3,he3,ha3,hg3,hro3,hset⟩:=store_spec hok.op (by rw [← hok.st]; exact hsa) he
   simp only [Eff.wr.injEq]at he3
   obtain⟨rfl,rfl⟩:=he3
   rw [ha]at ha3
   simp only [RV.ptr.injEq]at ha3
   obtain⟨rfl,_⟩:=ha3
   have hro:∀y:RObj,y.toRo.own=false:=fun y=>by cases y<;>rfl
   have hlowget:∀d,d < W.n→(seen W.n (bitsOf ops i) (T i).V (T i).sl).get d=(WS ⟨W.n,(T th).V⟩ (T k).sl listed).get d:=by
    intro d hdl
    rw [seen_get,if_pos hdl,WS_get,if_pos hdl,hVth]
   have hviewown:∀d od,(seen W.n (bitsOf ops i) (T i).V (T i).sl).get d=some od→od.own=true→d < W.n:=by
    intro d od hg hown
    rcases Nat.lt_or_ge d W.n with h8 | h8
    ·exact h8
    ·rw [seen_get,if_neg (by omega)]at hg
     cases hq:(T i).sl.reverse[d-W.n]? with
     | none=>rw [hq]at hg; simp at hg
     | some z =>
      rw [hq]at hg
      simp only [Option.map_some,Option.some.injEq]at hg
      rw [← hg]at hown
      split at hown
      ·rw [hro]at hown; simp at hown
      ·simp [RObj.own]at hown
   have hrel:Rel m (seen W.n (bitsOf ops i) (T i).V (T i).sl) w':=by
    refine inv.rel.less (seen_wf (hVlen i hik)) ?_ ?_ hglb
    ·intro d o2 hg
     rcases Nat.lt_or_ge d W.n with h8 | h8
     ·rw [hlowget d h8]at hg
      exact .inr ⟨o2,hg,.inr rfl⟩
     ·rw [seen_get,if_neg (by omega)]at hg
      exact(hslots d o2 h8 hg).1
    ·intro d o2 hg
     show o2.lt (W.n+(T i).sl.length)
     rw [seen_get]at hg
     split at hg
     ·exact RObj.lt_mono (Nat.le_add_right _ _) (hold i hik d o2 hg).1
     ·rename_i h8
      exact(hslots d o2 (by omega) hg).2
   have heff:=decOp_ok (w:=w') ⟨htr,hlt,hrel⟩ hok.op he
   rw [hexec]at heff
   obtain⟨m2,w2,nx,hrun,hdone,hr2,hp2,_⟩:=heff
   obtain⟨s1,s2,s3,s4⟩:=set_spec hset
   have s4:=s4 (seen_wf (hVlen i hik))
   have hag:Agree (W.n+(T i).sl.length) m m2:=hp2.ag
   have hagL:Agree W.n m2 m:=fun b hbn=>(hag b (by omega)).symm
   have hsteps:=step_op (cs:=cs) hm htd ho hw hd hrun hdone
   rw [finish_region htd ho]at hsteps
   have hcV:c < (T i).V.length:=by rw [hVlen i hik]; exact hcl
   have hcells:W2.get c=some (.cells cs3 kd3):=by rw [s4,if_pos rfl]
   rw [hcells]at hg2
   simp only [Option.some.injEq,RObj.cells.injEq]at hg2
   obtain⟨rfl,rfl⟩:=hg2
   have hget:∀d,(WS ⟨W.n,(T (i+1)).V⟩ (T k).sl (listed.setIfInBounds i true)).get d=if d < W.n then W2.get d else (WS ⟨W.n,(T th).V⟩ (T k).sl listed).get d:=by
    intro d
    rw [WS_get]
    by_cases hdl:d < W.n
    ·simp only [hdl,if_true]
     rw [h4,s4]
     by_cases hdc:d=c
     ·subst hdc
      rw [get_at hdl,List.getElem?_set_self (by rw [hVlen i hik]; omega),if_pos rfl]
     ·rw [if_neg hdc,get_at hdl,List.getElem?_set_ne (by omega),← get_at hdl,seen_get,if_pos hdl]
    ·simp only [hdl,if_false]
     rw [WS_get,if_neg hdl]
     cases hq:(T k).sl.reverse[d-W.n]? with
     | none=>rfl
     | some z =>
      obtain⟨j,ob2⟩:=z
      obtain⟨_,h5,h6,_⟩:=h.entry k (Nat.le_refl k) _ j ob2 hq
      have hji:i≠j:=by
       intro e
       subst e
       rw [h3]at h6
       omega
      simp only [Option.map_some,getD_set_ne false hji]
   have hkind:∀d od,(WS ⟨W.n,(T (i+1)).V⟩ (T k).sl (listed.setIfInBounds i true)).get d=some od→∃o0,(WS ⟨W.n,(T th).V⟩ (T k).sl listed).get d=some o0∧(od.own=true→o0.own=true)∧(od.live=true→o0.live=true):=by
    intro d od hg
    rw [hget]at hg
    split at hg
    ·rename_i hdl
     rw [s4]at hg
     by_cases hdc:d=c
     ·subst hdc
      rw [hlowget d hdl]at hg3
      refine⟨_,hg3,fun _=>?_,fun _=>rfl⟩
      cases kd3 with
      | ro=>exact absurd rfl hro3.1
      | rx=>exact absurd rfl hro3.2
      | ex=>rfl
      | gr=>rfl
     ·rw [if_neg hdc,hlowget d hdl]at hg
      exact⟨od,hg,id,id⟩
    ·exact⟨od,hg,id,id⟩
   obtain⟨u1,u2,u3⟩:=h.temps inv h0 hi ho hs (m':=m) (v:=rv m2 ud) (fun d hd=>⟨hdn d hd,by rw [st.get,if_pos hd,hxu]; rfl⟩) (fun _ _=>rfl) hE hc
   have hmst:∀d od,(WS ⟨W.n,(T th).V⟩ (T k).sl listed).get d=some od→od.live=true→W.n≤d→w2.heap[(m d).blk]?=w'.heap[(m d).blk]?:=by
    intro d od hg hlv hdn
    refine hp2.keep _ ((inv.rel.obj d od hg).lt_size hlv) fun b ob hgb hown=>?_
    have hbl:=hviewown b ob hgb hown
    rw [hlowget b hbl]at hgb
    exact inv.rel.inj b d ob od hgb hg hown hlv (by omega)
   refine⟨m,w2,_,i+1,hsteps,t1,t2,t3,⟨WS_wf (by show(T (i+1)).V.length=W.n; exact hVlen (i+1) hi) _ _,?_,?_,?_,?_⟩,u1,u2,u3,?_⟩
   ·intro d od hg
    have hg':=hg
    rw [hget]at hg
    split at hg
    ·rename_i hdl
     have h8:=hr2.obj d od hg
     rw [hag d (by omega)]at h8
     refine h8.agree (n:=W.n) ?_ hagL
     rw [WS_get,if_pos hdl]at hg'
     exact(hold (i+1) hi d od hg').1
    ·rename_i hdl
     exact(inv.rel.obj d od hg).heap fun hlv=>hmst d od hg hlv (by omega)
   ·intro d od hg
    show od.lt (W.n+(T k).sl.length)
    have hg':=hg
    rw [hget]at hg
    split at hg
    ·rename_i hdl
     rw [WS_get,if_pos hdl]at hg'
     exact RObj.lt_mono (Nat.le_add_right _ _) (hold (i+1) hi d od hg').1
    ·exact inv.rel.lt d od hg
   ·intro a1 b1 x1 y1 hga hgb hxo hyl hab
    obtain⟨x0,hx0,hx0o,_⟩:=hkind a1 x1 hga
    obtain⟨y0,hy0,_,hy0l⟩:=hkind b1 y1 hgb
    exact inv.rel.inj a1 b1 x0 y0 hx0 hy0 (hx0o hxo) (hy0l hyl) hab
   ·intro j g hj
    exact⟨Nat.lt_of_lt_of_le (hr0.glb j g hj).1 (Nat.le_add_right _ _),(inv.rel.glb j g hj).2⟩
   ·refine⟨inv.post.ag,Nat.le_add_right _ _,Nat.le_trans inv.post.size hp2.size,?_,?_,hp2.os.trans inv.post.os,hp2.tape.trans inv.post.tape,hp2.output.trans inv.post.output⟩
    ·intro q hq hno
     rw [← inv.post.keep q hq hno]
     refine hp2.keep q (Nat.lt_of_lt_of_le hq inv.post.size) fun b ob hgb hown=>?_
     have hbl:=hviewown b ob hgb hown
     rw [seen_get,if_pos hbl]at hgb
     obtain⟨_,o0,h8,h9,_⟩:=hold i hik b ob hgb
     rw [inv.post.ag b hbl]
     exact hno b o0 h8 (h9 hown)
    ·intro d od hg hown
     obtain⟨o0,h8,h9,_⟩:=hkind d od hg
     exact inv.post.own d o0 h8 (h9 hown)
end
end Go.Rv
namespace Go.Rv
open Go
theorem unl_ge {listed:Array Bool} {k:Nat}:∀n,(∀i,k≤i→i < n→listed.getD i true=false)→n-k≤unl listed n
 | 0,_=>by simp
 | n+1,h=>by
  have ih:=unl_ge (listed:=listed) (k:=k) n fun i h1 h2=>h i h1 (by omega)
  unfold unl
  by_cases hk:k≤n
  ·rw [if_pos (h n hk (Nat.lt_succ_self n))]
   omega
  ·omega
section
variable [Env] {P:Program} {ev:Ev} {ops:Array Oper} {k:Nat} {ws:Wrs} {T:Nat→PS} {m0:Nat→Loc} {W:RW} {w:World}
omit [Env] in
theorem todo_same {fr:Frame} {cs:List Frame} {w:World} {todo:List Item} (ht:fr.todo=todo):Steps P (lone fr cs w) (lone { fr with tmps:=fr.tmps,todo:=todo } cs w):=by
 subst ht
 exact Steps.refl _ _
theorem Pre.all (hev:EvOk P ev) (hN:NoOwn P) (hE:Edges ops) (hk:k=planTail (Region.before ops).toList ops.size) (h:Pre P ev ops k W.n ws T) (hr0:Rel m0 W w) (h0:tlt W.n (T 0).t) (hV0:(T 0).V=W.l) (cs:List Frame) (K:List Item) :
  ∀(fuel tp:Nat) (listed:Array Bool) (m:Nat→Loc) (w':World) (fr:Frame) (th:Nat),unl listed ops.size≤fuel→Inv ops k ws T m0 W w listed m w' fr.tmps th→Closed ops listed→listed.size=ops.size →
   (∀i,k≤i→i < ops.size→listed.getD i true=false)→fr.mode=.run→fr.todo=.inRegion ops (Region.linearise.go .any ops fuel tp listed []) :: K →
   ∃m' w'' arr' listed' th',Steps P (lone fr cs w') (lone { fr with tmps:=arr',todo:=.inRegion ops (List.range' k (ops.size-k)) :: K } cs w'')∧(∀i,i < k→listed'.getD i false=true)∧Inv ops k ws T m0 W w listed' m' w'' arr' th':=by
 intro fuel
 induction fuel with
 | zero =>
  intro tp listed m w' fr th hf inv hc hs ht hm htd
  have hle:k≤ops.size:=by rw [hk]; exact planTail_le _ _
  have hall:∀i,i < k→listed.getD i false=true:=by
   intro i hi
   rcases hb:listed.getD i false with _ | _
   ·have:=unl_pos (off_in (by omega) hb) ops.size (by omega)
    omega
   ·rfl
  have hgo:=go_tail hE hk (ops.size-k) k listed 0 tp rfl (Nat.le_refl _) hle hs hc hall ht (by
   have:=unl_ge ops.size ht
   omega)
  rw [hgo]at htd
  exact⟨m,w',fr.tmps,listed,th,todo_same htd,hall,inv⟩
 | succ fuel ih =>
  intro tp listed m w' fr th hf inv hc hs ht hm htd
  have hle:k≤ops.size:=by rw [hk]; exact planTail_le _ _
  by_cases hall:∀i,i < k→listed.getD i false=true
  ·have hgo:=go_tail hE hk (ops.size-k) k listed (fuel+1) tp rfl (Nat.le_refl _) hle hs hc hall ht (by
    have:=unl_ge ops.size ht
    omega)
   rw [hgo]at htd
   exact⟨m,w',fr.tmps,listed,th,todo_same htd,hall,inv⟩
  ·simp only [Classical.not_forall]at hall
   obtain⟨j,hj,hoff⟩:=hall
   have hoff':listed.getD j false=false:=by simpa using hoff
   obtain⟨i,o,t',ho,hun,hl,hgo⟩:=go_take hE hs (show j < ops.size by omega) (off_in (by omega) hoff') fuel tp
   rw [hgo]at htd
   have hin:i < ops.size:=(Array.getElem?_eq_some_iff.1 ho).1
   have hi:i < k:=by
    rcases Nat.lt_or_ge i k with h1 | h1
    ·exact h1
    ·have hb:=tail_bits (ops:=ops) (by omega) hin (show j < i by omega)
     rw [closed_before hE hc i o ho hl j hb]at hoff'
     simp at hoff'
   obtain⟨m1,w1,arr1,th1,st1,inv1⟩:=h.step_ok hev hN hE hr0 h0 hV0 inv hi ho hun hl hc hs (cs:=cs) hm htd
   obtain⟨m2,w2,arr2,listed2,th2,st2,hall2,inv2⟩:=ih t' (listed.setIfInBounds i true) m1 w1 { fr with tmps:=arr1,todo:=.inRegion ops (Region.linearise.go .any ops fuel t' (listed.setIfInBounds i true) []) :: K } th1 (by
    have:=unl_set (by omega) hun ops.size hin
    omega) inv1 (hc.set ho hl) (by simp [hs]) (fun l h1 h2=>by rw [getD_set_ne true (by omega)]; exact ht l h1 h2) hm rfl
   exact⟨m2,w2,arr2,listed2,th2,st1.trans st2,hall2,inv2⟩
omit [Env] in
theorem allBut_ok {l:List (Oper×Nat)} (h:allBut l ops=true) {i j:Nat} {x y:Oper×Nat} (hi:l[i]?=some x) (hj:l[j]?=some y) (hij:i≠j) {d:Nat} (hd:x.1.dst=some d) :
  y.1.dst≠some d∧(d∈looks ops y.1→y.2.testBit i=true∨x.2.testBit j=true):=by
 unfold allBut at h
 have h1:=List.all_eq_true.1 h (x,i) (List.mem_zipIdx_iff_getElem?.2 hi)
 have h2:=List.all_eq_true.1 h1 (y,j) (List.mem_zipIdx_iff_getElem?.2 hj)
 simp only [hd,Bool.or_eq_true,Bool.and_eq_true,beq_iff_eq,hij,false_or,bne_iff_ne,ne_eq]at h2
 refine⟨h2.2,fun hl=>?_⟩
 have h3:=h2.1
 have h4:(looks ops y.1).contains d=true:=by simpa using hl
 rw [h4]at h3
 simp only [Bool.true_and,Bool.not_eq_true',Bool.and_eq_false_iff,Bool.not_eq_false']at h3
 exact h3
theorem drawR_ok (hev:EvOk P ev) (hN:NoOwn P) {l:List ROper} (hl2:omap (decOper P ops) ops.toList=some l) (hcheck1:edgesB P ops=true)
  (hcheck2:allBut (List.take (planTail (Region.before ops).toList ops.size) (ops.toList.zip (Region.before ops).toList)) ops=true)
  {pre:List (ROper×Nat)} {post:List ROper} (hpre:ltake (planTail (Region.before ops).toList ops.size) (l.zip (Region.before ops).toList)=some pre) (hpost:ldrop (planTail (Region.before ops).toList ops.size) l=some post)
  (hchain:∀i c bi j d bj,(i,c,bi)∈ws→(j,d,bj)∈ws→i < j→bj.testBit i=true)
  {t t':RT} {W':RW} (hreg:drawR P ev pre post ws t W=some (t',W')) {m:Nat→Loc} {fr:Frame} {cs:List Frame} {K:List Item} {tp:Nat} (hr:Rel m W w) (hl:tlt W.n t) (htr:TR m t fr.tmps) (hm:fr.mode=.run)
  (htd:fr.todo=.inRegion ops (Region.schedule (P.follows .mixedOrders) ops tp) :: K) :
  ∃m' w' tm,Steps P (lone fr cs w) (lone { fr with tmps:=tm,todo:=K } cs w')∧Rel m' W' w'∧Post m W w m' W' w'∧tlt W'.n t'∧TR m' t' tm:=by
 obtain⟨hlen,hlall⟩:=decRegs_ok hl2
 obtain⟨hE,hmix⟩:=edges_ok hcheck1
 obtain⟨hp1,hp2⟩:=ltake_spec _ _ hpre
 obtain⟨hq1,hq2⟩:=ldrop_spec _ _ hpost
 unfold drawR at hreg
 cases hpr:preR P ev W.n ws pre 0 ⟨t,[],W.l⟩with
 | none=>rw [hpr]at hreg; simp at hreg
 | some q =>
  obtain⟨t1,sl,V1⟩:=q
  rw [hpr]at hreg
  simp only [fnat_eq]at hreg
  obtain⟨Tr,ht0,htk,htrace⟩:=preR_trace W.n ws pre 0 _ _ hpr
  have hk:planTail (Region.before ops).toList ops.size≤ops.size:=planTail_le _ _
  have hzip:(l.zip (Region.before ops).toList).length=ops.size:=by simp [hlen,before_size]
  have hprelen:pre.length=planTail (Region.before ops).toList ops.size:=by rw [hp2,List.length_take]; omega
  have hget:∀j,j < planTail (Region.before ops).toList ops.size→∃o ro,ops[j]?=some o∧OpOk P ops o ro∧pre[j]?=some (ro,(Region.before ops).getD j 0):=by
   intro j hj
   have hjl:j < l.length:=by omega
   have hjb:j < (Region.before ops).toList.length:=by rw [Array.length_toList,before_size]; omega
   obtain⟨o,ho,hok⟩:=hlall j l[j] (List.getElem?_eq_getElem hjl)
   refine⟨o,l[j],ho,hok,?_⟩
   rw [hp2,List.getElem?_take,if_pos hj,List.getElem?_zip_eq_some (z:=(l[j],(Region.before ops).toList[j])) |>.2 ⟨List.getElem?_eq_getElem hjl,List.getElem?_eq_getElem hjb⟩]
   rw [Array.getD_eq_getD_getElem?,← Array.getElem?_toList,List.getElem?_eq_getElem hjb]
   rfl
  have hP:Pre P ev ops (planTail (Region.before ops).toList ops.size) W.n ws Tr:=by
   refine⟨?_,?_,by rw [ht0],hchain⟩
   ·intro j hj
    obtain⟨o,ro,ho,hok,hpj⟩:=hget j hj
    have h1:=htrace j _ hpj
    rw [Nat.zero_add]at h1
    obtain⟨x,hx⟩:=preOne_ok (o:=o) hok.put h1
    exact⟨o,ro,x,ho,hok,hx⟩
   ·intro i j oi oj hi hj hij hoi hoj d hd
    have hel:∀n on,n < planTail (Region.before ops).toList ops.size→ops[n]?=some on→((ops.toList.zip (Region.before ops).toList).take (planTail (Region.before ops).toList ops.size))[n]?=some (on,(Region.before ops).getD n 0):=by
     intro n on hn hon
     have hnb:n < (Region.before ops).toList.length:=by rw [Array.length_toList,before_size]; omega
     rw [List.getElem?_take,if_pos hn,List.getElem?_zip_eq_some (z:=(on,(Region.before ops).toList[n])) |>.2 ⟨by simpa using hon,List.getElem?_eq_getElem hnb⟩]
     rw [Array.getD_eq_getD_getElem?,← Array.getElem?_toList,List.getElem?_eq_getElem hnb]
     rfl
    exact allBut_ok hcheck2 (hel i oi hi hoi) (hel j oj hj hoj) hij hd
  have hT0:(Tr 0).t=t:=by rw [ht0]
  have hV0:(Tr 0).V=W.l:=by rw [ht0]
  have hTk:(Tr (planTail (Region.before ops).toList ops.size)).t=t1:=by rw [← hprelen,htk]
  have hSk:(Tr (planTail (Region.before ops).toList ops.size)).sl=sl:=by rw [← hprelen,htk]
  have hVk:(Tr (planTail (Region.before ops).toList ops.size)).V=V1:=by rw [← hprelen,htk]
  have hoff:∀i,(Array.replicate ops.size false).getD i false=false:=fun i=>by
   rcases Nat.lt_or_ge i ops.size with h | h
   ·simp [h]
   ·simp [h]
  have hget0:∀b o,(WS ⟨W.n,(Tr 0).V⟩ sl (Array.replicate ops.size false)).get b=some o→W.get b=some o∨o=.dead:=by
   intro b o hb
   rw [WS_get]at hb
   simp only [hV0]at hb
   split at hb
   ·exact .inl hb
   ·cases hx:sl.reverse[b-W.n]? with
    | none=>rw [hx]at hb; simp at hb
    | some y =>
     rw [hx]at hb
     simp only [Option.map_some,hoff,Option.some.injEq]at hb
     exact .inr hb.symm
  have hle0:W.n≤(WS ⟨W.n,(Tr 0).V⟩ sl (Array.replicate ops.size false)).n:=Nat.le_add_right _ _
  have inv0:Inv ops (planTail (Region.before ops).toList ops.size) ws Tr m W w (Array.replicate ops.size false) m w fr.tmps 0:=by
   refine⟨Nat.zero_le _,fun j c hj=>absurd hj (Nat.not_lt_zero j),fun j c _ _ _=>hoff j,?_,?_,?_,?_,?_⟩
   ·rw [hSk]
    refine⟨WS_wf (by show(Tr 0).V.length=W.n; rw [hV0]; exact hr.wf) _ _,?_,?_,?_,fun i g hi=>⟨Nat.lt_of_lt_of_le (hr.glb i g hi).1 hle0,(hr.glb i g hi).2⟩⟩
    ·intro b o hb
     rcases hget0 b o hb with h1 | rfl
     ·exact hr.obj b o h1
     ·trivial
    ·intro b o hb
     rcases hget0 b o hb with h1 | rfl
     ·exact RObj.lt_mono hle0 (hr.lt b o h1)
     ·trivial
    ·intro a b x y ha hb hx hy hab
     rcases hget0 a x ha with h1 | rfl
     ·rcases hget0 b y hb with h2 | rfl
      ·exact hr.inj a b x y h1 h2 hx hy hab
      ·simp [RObj.live]at hy
     ·simp [RObj.own]at hx
   ·rw [hT0]; exact htr.size
   ·intro j o d _ hlj _ _
    rw [hoff]at hlj
    simp at hlj
   ·intro d _
    rw [hT0]; exact htr.get d
   ·rw [hSk]
    refine⟨fun _ _=>rfl,hle0,Nat.le_refl _,fun _ _ _=>rfl,?_,rfl,rfl,rfl⟩
    intro b o hb ho
    rcases hget0 b o hb with h1 | rfl
    ·exact .inr ⟨b,o,h1,ho,rfl⟩
    ·simp [RObj.own]at ho
  have hsched:∃tp',Region.schedule (P.follows .mixedOrders) ops tp=Region.linearise.go .any ops ops.size tp' (Array.replicate ops.size false) []:=by
   unfold Region.schedule
   rw [if_pos hmix]
   exact⟨_,rfl⟩
  obtain⟨tp',hs2⟩:=hsched
  rw [hs2]at htd
  obtain⟨m1,w1,arr1,listed1,th1,st1,hall1,inv1⟩:=hP.all hev hN hE rfl hr (by rw [hT0]; exact hl) hV0 cs K ops.size tp' _ m w fr 0 (unl_le _ _) inv0
   (fun j oj _ hlj=>by rw [hoff]at hlj; simp at hlj) (by simp) (fun i _ hi=>by simp [hi]) hm htd
  have hth:(Tr th1).V=V1:=by
   have hle:=inv1.le
   have:=hP.vsame (i:=th1) (planTail (Region.before ops).toList ops.size-th1) (by omega) fun j c h1 h2 hw=>by
    have h3:=inv1.didnt j c h1 (by omega) hw
    rw [hall1 j (by omega)]at h3
    simp at h3
   rw [show th1+(planTail (Region.before ops).toList ops.size-th1)=planTail (Region.before ops).toList ops.size by omega,hVk]at this
   exact this.symm
  have hW1:WS ⟨W.n,(Tr th1).V⟩ sl listed1=⟨W.n+sl.length,sl.map (·.2)++V1⟩:=by
   unfold WS
   rw [hth]
   congr 2
   apply List.map_congr_left
   intro y hy
   obtain⟨j,ob⟩:=y
   obtain⟨q,hq⟩:=List.getElem?_of_mem (List.mem_reverse.2 hy)
   obtain⟨h3,_⟩:=hP.entry _ (Nat.le_refl _) q j ob (by rw [hSk]; exact hq)
   simp only [hall1 j h3,if_true]
  have hrel1:=inv1.rel
  have hpost1:=inv1.post
  rw [hSk,hW1]at hrel1 hpost1
  have htr1:TR m1 t1 arr1:=by
   refine⟨?_,fun d=>?_⟩
   ·have h2:=hP.num _ (Nat.le_refl _)
    rw [inv1.size,← h2,hTk]
   ·by_cases hw:∃j oj,j < planTail (Region.before ops).toList ops.size∧ops[j]?=some oj∧oj.dst=some d
    ·obtain⟨j,oj,hj,hoj,hdj⟩:=hw
     rw [inv1.wrote j oj d hj (hall1 j hj) hoj hdj,hTk]
    ·have hno:∀j oj,j < planTail (Region.before ops).toList ops.size→ops[j]?=some oj→oj.dst≠some d:=fun j oj hj hoj hdj=>hw ⟨j,oj,hj,hoj,hdj⟩
     rw [inv1.same d fun j oj hj _ hoj=>hno j oj hj hoj,← hP.first (Nat.le_refl _) hno,hTk]
  have hlt1:tlt (W.n+sl.length) t1:=by
   have:=hP.lows (by rw [hT0]; exact hl) _ (Nat.le_refl _)
   rw [hSk,hTk]at this
   exact this
  have hpl:post.length=ops.size-planTail (Region.before ops).toList ops.size:=by rw [hq2,List.length_drop,hlen]
  obtain⟨m2,w2,tm,st2,hr2,hp2,hl3,ht3⟩:=seqR_ok hev hN post (List.range' (planTail (Region.before ops).toList ops.size) (ops.size-planTail (Region.before ops).toList ops.size)) t1 t' _ W' hreg (by rw [hpl]; simp) (fun j i ro hi hro=>by
   have hij:i=planTail (Region.before ops).toList ops.size+j:=by
    have:=(List.getElem?_eq_some_iff.1 hi).2
    simp at this
    exact this.symm
   subst hij
   rw [hq2,List.getElem?_drop]at hro
   exact hlall _ ro hro) m1 w1 { fr with tmps:=arr1,todo:=.inRegion ops (List.range' (planTail (Region.before ops).toList ops.size) (ops.size-planTail (Region.before ops).toList ops.size)) :: K } cs K hrel1 hlt1 htr1 hm rfl
  exact⟨m2,w2,tm,st1.trans st2,hr2,hpost1.trans hp2,hl3,ht3⟩
end
end Go.Rv
namespace Go.Rv
open Go
variable [Env]
def blank (k:Nat):RW:=⟨k,List.replicate k .dead⟩
omit [Env] in
theorem blank_get {k b:Nat} {o:RObj} (h:(blank k).get b=some o):o=.dead:=by
 unfold blank RW.get at h
 split at h
 ·rw [lget_eq]at h
  have:=List.mem_of_getElem? h
  exact List.eq_of_mem_replicate this
 ·simp at h
def madeA (F:Nat→Bool) (n n':Nat) (b:Nat):Bool:=F b || (Nat.ble n b && Nat.blt b n')
structure ViewA (n0:Nat) (M:RW) (D F:Nat→Bool) (V:RW):Prop where
 wf:V.wf
 n:V.n=M.n
 get:∀b o,V.get b=some o→o=.dead∨(F b=true∧∃o1,M.get b=some o1∧(o=o1.toRo∨(o=o1∧D b=true)))∨(b < n0∧M.get b=some o)
structure AStep (n0:Nat) (P:Program) (ev:Ev) (t t':RT) (M M':RW) (D F N:Nat→Bool) (o:Oper) (r:ROper) (x:RV):Prop where
 n:t'.n=t.n
 dn:∀d,o.dst=some d→d < t.n
 get:∀d,t'.get d=if o.dst=some d then x else t.get d
 wf:M'.wf
 mono:M.n≤M'.n
 fl:∀b,F b=true→b < M.n
 keep:∀b,D b=false→M'.get b=M.get b
 below:below M'.n x=true
 names:namesB (madeA N M.n M'.n) x=true
 objs:∀b o,D b=true→M'.get b=some o→newB M'.n (madeA N M.n M'.n) o=true
 owns:∀b o,D b=true→M'.get b=some o→o.live=true→o.own=true
 base:∀b,b < n0→D b=false
 kind:(wantedR t r.guard=false∧x=ud∧M'=M∧∀b,D b=false) ∨
  (wantedR t r.guard=true∧∃V V',ViewA n0 M D F V∧effR P ev (r.op t V) V=some (x,V')∧V'.n=M'.n∧(∀b o,D b=true→M'.get b=some o→o=.dead∨V'.get b=some o)∧∀b o,b < n0→V.get b=some o→V'.get b=some o)
structure Any (n0:Nat) (P:Program) (ev:Ev) (ops:Array Oper) (k:Nat) (t:Nat→RT) (M:Nat→RW) (D F N:Nat→Nat→Bool):Prop where
 le:k≤ops.size
 step:∀i,i < k→∃o r x,ops[i]?=some o∧OpOk P ops o r∧AStep n0 P ev (t i) (t (i+1)) (M i) (M (i+1)) (D i) (F i) (N i) o r x
 apart:∀i j oi oj,i < k→j < k→i≠j→ops[i]?=some oi→ops[j]?=some oj→∀d,oi.dst=some d→oj.dst≠some d∧(d∈looks ops oj→(bitsOf ops j).testBit i=true∨(bitsOf ops i).testBit j=true)
 conflict:∀i j b,i < k→j < k→i≠j→D i b=true→(D j b=true∨F j b=true)→(bitsOf ops j).testBit i=true∨(bitsOf ops i).testBit j=true
 known:∀i j b,i < k→j < k→N j b=true→(M i).n≤b→b < (M (i+1)).n→(bitsOf ops j).testBit i=true
noncomputable def Mg (M:RW) (b:Nat):RObj:=(M.get b).getD .dead
noncomputable def cont (M:Nat→RW) (D:Nat→Nat→Bool) (S:Array Bool):Nat→Nat→RObj
 | 0,b=>Mg (M 0) b
 | j+1,b=>if S.getD j false && D j b then Mg (M (j+1)) b else cont M D S j b
def fnRW (N:Nat) (f:Nat→RObj):RW:=⟨N,(List.range N).reverse.map f⟩
omit [Env] in
theorem fnRW_get (N:Nat) (f:Nat→RObj) (b:Nat):(fnRW N f).get b=if b < N then some (f b)else none:=by
 unfold fnRW RW.get
 simp only [blt_eq,lget_eq]
 by_cases h:b < N
 ·simp only [h,decide_true,if_true,List.getElem?_map]
  rw [List.getElem?_reverse (by rw [List.length_range]; omega),List.length_range,List.getElem?_range (by omega)]
  simp only [Option.map_some]
  congr 2
  omega
 ·simp [h]
omit [Env] in
theorem fnRW_wf (N:Nat) (f:Nat→RObj):(fnRW N f).wf:=by simp [RW.wf,fnRW]
omit [Env] in
theorem get_wf {W:RW} (h:W.wf) {b:Nat} (hb:b < W.n):∃o,W.get b=some o:=by
 unfold RW.get
 simp only [blt_eq,hb,decide_true,if_true,lget_eq]
 unfold RW.wf at h
 exact⟨_,List.getElem?_eq_getElem (by omega)⟩
omit [Env] in
theorem get_ge' {W:RW} {b:Nat} (hb:W.n≤b):W.get b=none:=by
 cases h:W.get b with
 | none=>rfl
 | some o=>exact absurd (get_lt h) (by omega)
section
variable {n0:Nat} {P:Program} {ev:Ev} {ops:Array Oper} {k:Nat} {t:Nat→RT} {M:Nat→RW} {D F N:Nat→Nat→Bool}
omit [Env] in
theorem cont_cases (S:Array Bool):∀(k b:Nat),cont M D S k b=Mg (M 0) b∨∃j,j < k∧S.getD j false=true∧D j b=true∧cont M D S k b=Mg (M (j+1)) b
 | 0,b=>.inl rfl
 | k+1,b=>by
  unfold cont
  split
  ·rename_i h
   rw [Bool.and_eq_true]at h
   exact .inr ⟨k,by omega,h.1,h.2,rfl⟩
  ·rcases cont_cases S k b with h | ⟨j,h1,h2,h3,h4⟩
   ·exact .inl h
   ·exact .inr ⟨j,by omega,h2,h3,h4⟩
theorem Any.keepM (h:Any n0 P ev ops k t M D F N) {j b:Nat} (hj:j < k) (hd:D j b=false):Mg (M (j+1)) b=Mg (M j) b:=by
 obtain⟨o,r,x,_,_,st⟩:=h.step j hj
 unfold Mg
 rw [st.keep b hd]
theorem Any.cont_all (h:Any n0 P ev ops k t M D F N) (S:Array Bool) {b:Nat}:∀(j:Nat),j≤k→(∀l,l < j→D l b=true→S.getD l false=true)→cont M D S j b=Mg (M j) b
 | 0,_,_=>rfl
 | j+1,hj,hall=>by
  have ih:=h.cont_all S j (by omega) fun l h1 h2=>hall l (by omega) h2
  unfold cont
  cases hd:D j b with
  | true=>rw [hall j (by omega) hd]; rfl
  | false =>
   rw [Bool.and_false]
   simp only [Bool.false_eq_true,if_false]
   rw [ih,h.keepM (by omega) hd]
omit [Env] in
theorem cont_none (S:Array Bool) {i b:Nat}:∀(n:Nat),(∀l,i≤l→l < i+n→D l b=true→S.getD l false=false)→cont M D S (i+n) b=cont M D S i b
 | 0,_=>rfl
 | n+1,hno=>by
  have ih:=cont_none S (i:=i) (b:=b) n fun l h1 h2=>hno l h1 (by omega)
  show cont M D S (i+n+1) b=_
  rw [← ih]
  conv=>lhs; unfold cont
  cases hd:D (i+n) b with
  | true=>rw [hno (i+n) (by omega) (by omega) hd]; rfl
  | false=>simp
theorem Any.baseM (h:Any n0 P ev ops k t M D F N) {b:Nat} (hb:b < n0):∀j,j≤k→Mg (M j) b=Mg (M 0) b
 | 0,_=>rfl
 | j+1,hj=>by
  obtain⟨o,r,x,_,_,st⟩:=h.step j (by omega)
  rw [h.keepM (by omega) (st.base b hb),h.baseM hb j (by omega)]
theorem Any.baseC (h:Any n0 P ev ops k t M D F N) {b:Nat} (hb:b < n0) (S:Array Bool):cont M D S k b=Mg (M 0) b:=by
 rcases cont_cases (M:=M) (D:=D) S k b with h1 | ⟨j,h1,_,h3,_⟩
 ·exact h1
 ·obtain⟨o,r,x,_,_,st⟩:=h.step j h1
  rw [st.base b hb]at h3
  simp at h3
theorem Any.mono (h:Any n0 P ev ops k t M D F N) {i:Nat}:∀(n:Nat),i+n≤k→(M i).n≤(M (i+n)).n
 | 0,_=>Nat.le_refl _
 | n+1,hn=>by
  obtain⟨o,r,x,_,_,st⟩:=h.step (i+n) (by omega)
  exact Nat.le_trans (h.mono n (by omega)) st.mono
theorem Any.mono_le (h:Any n0 P ev ops k t M D F N) {i j:Nat} (hij:i≤j) (hj:j≤k):(M i).n≤(M j).n:=by
 have:=h.mono (i:=i) (j-i) (by omega)
 rwa [show i+(j-i)=j by omega]at this
theorem Any.same (h:Any n0 P ev ops k t M D F N) {i d:Nat}:∀(n:Nat),i+n≤k→(∀j o,i≤j→j < i+n→ops[j]?=some o→o.dst≠some d)→(t (i+n)).get d=(t i).get d
 | 0,_,_=>rfl
 | n+1,hn,hd=>by
  obtain⟨o,r,x,ho,_,st⟩:=h.step (i+n) (by omega)
  show(t (i+n+1)).get d=_
  rw [st.get,if_neg (hd (i+n) o (by omega) (by omega) ho)]
  exact h.same n (by omega) fun j o h1 h2=>hd j o h1 (by omega)
theorem Any.num (h:Any n0 P ev ops k t M D F N):∀(j:Nat),j≤k→(t j).n=(t 0).n
 | 0,_=>rfl
 | j+1,hj=>by
  obtain⟨o,r,x,_,_,st⟩:=h.step j (by omega)
  rw [st.n]
  exact h.num j (by omega)
theorem Any.lows (h:Any n0 P ev ops k t M D F N) (h0:tlt (M 0).n (t 0)):∀(j:Nat),j≤k→tlt (M j).n (t j)
 | 0,_=>h0
 | j+1,hj=>by
  obtain⟨o,r,x,_,_,st⟩:=h.step j (by omega)
  have ih:=h.lows h0 j (by omega)
  intro d
  rw [st.get]
  split
  ·exact st.below
  ·exact below_mono st.mono _ (ih d)
theorem Any.kept (h:Any n0 P ev ops k t M D F N) {i j d:Nat} {o:Oper} (hi:i < j) (hj:j≤k) (ho:ops[i]?=some o) (hd:o.dst=some d):(t j).get d=(t (i+1)).get d:=by
 have:=h.same (i:=i+1) (d:=d) (j-(i+1)) (by omega) (fun l ol h1 h2 hl=>(h.apart i l o ol (by omega) (by omega) (by omega) ho hl d hd).1)
 rwa [show i+1+(j-(i+1))=j by omega]at this
theorem Any.first (h:Any n0 P ev ops k t M D F N) {j d:Nat} (hj:j≤k) (hd:∀l o,l < j→ops[l]?=some o→o.dst≠some d):(t j).get d=(t 0).get d:=by
 have:=h.same (i:=0) (d:=d) j (by omega) (fun l o _ h2=>hd l o (by omega))
 rwa [Nat.zero_add]at this
theorem Any.lt (h:Any n0 P ev ops k t M D F N) (h0:∀b o,(M 0).get b=some o→o.lt (M 0).n):∀(j:Nat),j≤k→∀b o,(M j).get b=some o→o.lt (M j).n
 | 0,_=>h0
 | j+1,hj=>by
  obtain⟨op,r,x,_,_,st⟩:=h.step j (by omega)
  intro b o hb
  cases hd:D j b with
  | true=>exact newB_lt (st.objs b o hd hb)
  | false =>
   rw [st.keep b hd]at hb
   exact RObj.lt_mono st.mono (h.lt h0 j (by omega) b o hb)
theorem Any.wf (h:Any n0 P ev ops k t M D F N) (h0:(M 0).wf):∀(j:Nat),j≤k→(M j).wf
 | 0,_=>h0
 | j+1,hj=>by
  obtain⟨op,r,x,_,_,st⟩:=h.step j (by omega)
  exact st.wf
theorem Any.new (h:Any n0 P ev ops k t M D F N) {i b:Nat} (hi:i < k) (h1:(M i).n≤b) (h2:b < (M (i+1)).n):D i b=true:=by
 obtain⟨op,r,x,_,_,st⟩:=h.step i hi
 cases hd:D i b with
 | true=>rfl
 | false =>
  have:=st.keep b hd
  obtain⟨o,ho⟩:=get_wf st.wf h2
  rw [ho,get_ge' h1]at this
  simp at this
theorem eff_any (hev:EvOk P ev) (hN:NoOwn P) {o:Oper} {r:ROper} (hok:OpOk P ops o r) {t:RT} {W W':RW} {x:RV} (h:effR P ev (r.op t W) W=some (x,W'))
  {m:Nat→Loc} {w:World} {fr:Frame} {cs:List Frame} {i:Nat} {rest:List Nat} {k:List Item} {arr:Array Value} (hr:Rel m W w) (hl:tlt W.n t) (htr:TR m t arr) (hm:fr.mode=.run)
  (hexec:execOp (evV arr) o=execOp (evV fr.tmps) o)
  (ht:fr.todo=.inRegion ops (i :: rest) :: k) (ho:ops[i]?=some o) (hw:Region.wanted o (yielded ops fr.tmps)=true) :
  ∃m' w',Steps P (lone fr cs w) (lone (fr.finish (rv m' x)) cs w')∧Rel m' W' w'∧Post m W w m' W' w'∧below W'.n x=true:=by
 have hd:=noDefer hok.op
 unfold effR at h
 cases he:r.op t W with
 | none=>rw [he]at h; simp at h
 | some e =>
  rw [he]at h
  have heff:=decOp_ok (w:=w) ⟨htr,hl,hr⟩ hok.op he
  rw [hexec]at heff
  cases e with
  | val y =>
   simp only [Option.some.injEq,Prod.mk.injEq]at h
   obtain⟨rfl,rfl⟩:=h
   obtain⟨h1,nx,h2,h3⟩:=heff
   exact⟨m,w,step_op hm ht ho hw hd h2 h3,hr,Post.refl _ _ _,h1⟩
  | alloc ob mk =>
   simp only [fnat_eq,pushF_eq,Option.some.injEq,Prod.mk.injEq]at h
   obtain⟨rfl,rfl⟩:=h
   obtain⟨h1,robj,cap,nx,h2,h3⟩:=heff
   obtain⟨h4,h5,h6⟩:=h3 (upd m W.n ⟨w.heap.size,0,cap⟩) W.n (agree_upd _ _ _) (by simp [upd])
   obtain⟨h7,h8⟩:=hr.push (l:=⟨w.heap.size,0,cap⟩) rfl h5 (RObj.lt_mono (Nat.le_succ _) h1)
   exact⟨_,_,step_op hm ht ho hw hd h2 h4,h7,h8,h6⟩
  | wr y W2 =>
   simp only [Option.some.injEq,Prod.mk.injEq]at h
   obtain⟨rfl,rfl⟩:=h
   obtain⟨m',w',nx,h1,h2,h3,h4,h5⟩:=heff
   exact⟨m',w',step_op hm ht ho hw hd h1 h2,h3,h4,h5⟩
  | call f args =>
   obtain⟨h1,h2,h3⟩:=heff
   obtain⟨m',w',hcr,hr',hp',hx'⟩:=callV_ok hev hN h hr h1 h2 fr cs
   refine⟨m',w',?_,hr',hp',hx'⟩
   rcases hcr with ⟨g,as,hrun,hst⟩ | ⟨l,f',tm,a,b,hrun,hst⟩
   ·exact(step_enter hm ht ho hw hd (by rw [h3]; exact hrun)).trans hst
   ·exact(step_round hm ht ho hw hd (by rw [h3]; exact hrun)).trans hst
structure AInv (ops:Array Oper) (k:Nat) (t:Nat→RT) (M:Nat→RW) (D:Nat→Nat→Bool) (m0:Nat→Loc) (w:World) (S:Array Bool) (m:Nat→Loc) (w':World) (arr:Array Value):Prop where
 rel:Rel m (fnRW (M k).n (cont M D S k)) w'
 size:arr.size=(t 0).n
 wrote:∀j o d,j < k→S.getD j false=true→ops[j]?=some o→o.dst=some d→arr.getD d undef=rv m ((t k).get d)
 same:∀d,(∀j o,j < k→S.getD j false=true→ops[j]?=some o→o.dst≠some d)→arr.getD d undef=rv m ((t 0).get d)
 post:Post m0 (M 0) w m (fnRW (M k).n (cont M D S k)) w'
variable {m0:Nat→Loc} {w:World}
omit [Env] in
theorem Post.view {m m1:Nat→Loc} {W W1 W2:RW} {w w1:World} (h:Post m W w m1 W1 w1) (hn:W.n≤W2.n) (ho:∀b o,W2.get b=some o→o.own=true→W1.get b=some o):Post m W w m1 W2 w1:=
 ⟨h.ag,hn,h.size,h.keep,fun b o hb hown=>h.own b o (ho b o hb hown) hown,h.os,h.tape,h.output⟩
theorem Any.step_ok (hev:EvOk P ev) (hN:NoOwn P) (hE:Edges ops) (h:Any n0 P ev ops k t M D F N) (hr0:Rel m0 (M 0) w) (h0:tlt (M 0).n (t 0))
  {listed:Array Bool} {m:Nat→Loc} {w':World} {fr:Frame} (inv:AInv ops k t M D m0 w listed m w' fr.tmps)
  {i:Nat} {o:Oper} (hi:i < k) (ho:ops[i]?=some o) (hun:listed.getD i true=false) (hl:∀e∈o.after,Region.binds .any e=true→listed.getD e.on false=true)
  (hc:Closed ops listed) (hs:listed.size=ops.size) {cs:List Frame} {rest:List Nat} {K:List Item} (hm:fr.mode=.run) (htd:fr.todo=.inRegion ops (i :: rest) :: K) :
  ∃m' w'' arr',Steps P (lone fr cs w') (lone { fr with tmps:=arr',todo:=.inRegion ops rest :: K } cs w'')∧AInv ops k t M D m0 w (listed.setIfInBounds i true) m' w'' arr':=by
 have hi':i < ops.size:=(Array.getElem?_eq_some_iff.1 ho).1
 obtain⟨o',r,x,ho',hok,st⟩:=h.step i hi
 have:o'=o:=Option.some.inj (ho'.symm.trans ho)
 subst this
 have hik:i≤k:=Nat.le_of_lt hi
 have hoff:=off_both hun
 have hb:∀j,(bitsOf ops i).testBit j=true→listed.getD j false=true:=closed_before hE hc i _ ho hl
 have hnT:∀j,j≤k→(t j).n=(t 0).n:=h.num
 have hnN:(M (i+1)).n≤(M k).n:=h.mono_le hi (Nat.le_refl _)
 have hnM:(M i).n≤(M (i+1)).n:=st.mono
 have hset:∀j,(listed.setIfInBounds i true).getD j false=true↔(j=i∨listed.getD j false=true):=by
  intro j
  by_cases hij:i=j
  ·subst hij
   simp [hs,hi']
  ·rw [getD_set_ne false hij]
   constructor
   ·exact .inr
   ·rintro(h1 | h1)
    ·exact absurd h1.symm hij
    ·exact h1
 have hord:∀b,(D i b=true∨F i b=true)→∀l,l < k→l≠i→D l b=true→(l < i→listed.getD l false=true)∧(i < l→listed.getD l false=false):=by
  intro b hib l hlk hli hd
  rcases h.conflict l i b hlk hi hli hd hib with h1 | h1
  ·refine⟨fun _=>hb l h1,fun h2=>?_⟩
   have:=before_lt hE i l h1
   omega
  ·have h2:=before_lt hE l i h1
   refine⟨fun h3=>by omega,fun _=>?_⟩
   cases hll:listed.getD l false with
   | false=>rfl
   | true =>
    have:=closed_bits hE hc hll h1
    rw [hoff]at this
    simp at this
 have hnow:∀b,(D i b=true∨F i b=true)→cont M D listed k b=Mg (M i) b:=by
  intro b hib
  have h1:=cont_none (M:=M) (D:=D) listed (i:=i) (b:=b) (k-i) (fun l h1 h2 h3=>by
   by_cases hli:l=i
   ·subst hli; exact hoff
   ·exact(hord b hib l (by omega) hli h3).2 (by omega))
  rw [show i+(k-i)=k by omega]at h1
  rw [h1]
  exact h.cont_all listed i hik fun l h2 h3=>(hord b hib l (by omega) (by omega) h3).1 h2
 have hthen:∀b,D i b=true→cont M D (listed.setIfInBounds i true) k b=Mg (M (i+1)) b:=by
  intro b hib
  have h1:=cont_none (M:=M) (D:=D) (listed.setIfInBounds i true) (i:=i+1) (b:=b) (k-(i+1)) (fun l h1 h2 h3=>by
   rw [getD_set_ne false (by omega)]
   exact(hord b (.inl hib) l (by omega) (by omega) h3).2 (by omega))
  rw [show i+1+(k-(i+1))=k by omega]at h1
  rw [h1]
  exact h.cont_all _ (i+1) hi fun l h2 h3=>by
   rw [hset]
   by_cases hli:l=i
   ·exact .inl hli
   ·exact .inr ((hord b (.inl hib) l (by omega) hli h3).1 (by omega))
 have hstay:∀b,D i b=false→cont M D (listed.setIfInBounds i true) k b=cont M D listed k b:=by
  intro b hib
  have key:∀k,cont M D (listed.setIfInBounds i true) k b=cont M D listed k b:=by
   intro k
   induction k with
   | zero=>rfl
   | succ k ih =>
    unfold cont
    rw [ih]
    by_cases hki:i=k
    ·subst hki
     simp [hib]
    ·rw [getD_set_ne false hki]
  exact key _
 have havoid:∀j,j < k→listed.getD j false=true→∀b,madeA (N j) (M j).n (M (j+1)).n b=true→¬ ((M i).n≤b∧b < (M (i+1)).n):=by
  rintro j hj hlj b hmade ⟨h1,h2⟩
  have hji:j≠i:=by
   rintro rfl
   rw [hoff]at hlj; simp at hlj
  have hdi:=h.new hi h1 h2
  obtain⟨oj,rj,xj,_,_,stj⟩:=h.step j hj
  unfold madeA at hmade
  rw [Bool.or_eq_true,Bool.and_eq_true]at hmade
  rcases hmade with hf | ⟨h3,h4⟩
  ·have:=closed_bits hE hc hlj (h.known i j b hi hj hf h1 h2)
   rw [hoff]at this; simp at this
  ·have h3:=Nat.le_of_ble_eq_true h3
   rw [blt_eq,decide_eq_true_eq]at h4
   rcases Nat.lt_or_ge j i with h5 | h5
   ·have:=h.mono_le (show j+1≤i by omega) hik
    omega
   ·have:=h.mono_le (show i+1≤j by omega) (Nat.le_of_lt hj)
    omega
 have hlate:∀d,(t 0).n≤d→∀j oj,j < k→ops[j]?=some oj→oj.dst≠some d:=by
  intro d hd j oj hj hoj he
  obtain⟨o2,r2,x2,ho2,_,st2⟩:=h.step j hj
  have:o2=oj:=Option.some.inj (ho2.symm.trans hoj)
  subst this
  have:=st2.dn d he
  rw [hnT j (Nat.le_of_lt hj)]at this
  exact Nat.not_lt.2 hd this
 have htr:TR m (t i) ((List.range (t 0).n).map fun d=>rv m ((t i).get d)).toArray:=by
  refine⟨by simp [hnT i hik],fun d=>?_⟩
  rw [Array.getD_eq_getD_getElem?]
  by_cases hd:d < (t 0).n
  ·simp [hd]
  ·rw [Array.getElem?_eq_none (by simpa using hd),h.first hik fun l ol hll hol=>hlate d (by omega) l ol (by omega) hol]
   rw [← inv.same d fun j oj hj _ hoj=>hlate d (by omega) j oj hj hoj]
   rw [Array.getD_eq_getD_getElem?,Array.getElem?_eq_none (by rw [inv.size]; omega)]
 have hlt:tlt (M i).n (t i):=h.lows h0 i hik
 have hlook:∀d,d∈looks ops o'→(((List.range (t 0).n).map fun d=>rv m ((t i).get d)).toArray).getD d undef=fr.tmps.getD d undef:=by
  intro d hd
  rw [htr.get]
  by_cases hw:∃j oj,j < k∧j≠i∧ops[j]?=some oj∧oj.dst=some d
  ·obtain⟨j,oj,hj,hji,hoj,hdj⟩:=hw
   rcases(h.apart j i oj _ hj hi hji hoj ho d hdj).2 hd with hbit | hbit
   ·have hlj:=hb j hbit
    have hjlt:=before_lt hE i j hbit
    rw [inv.wrote j oj d hj hlj hoj hdj,h.kept hjlt hik hoj hdj,h.kept hj (Nat.le_refl _) hoj hdj]
   ·have hilt:=before_lt hE j i hbit
    have hlj:listed.getD j false=false:=by
     cases hx:listed.getD j false with
     | false=>rfl
     | true =>
      have:=closed_bits hE hc hx hbit
      rw [hoff]at this
      simp at this
    rw [h.first hik fun l ol hll hol hld=>(h.apart j l oj ol hj (by omega) (by omega) hoj hol d hdj).1 hld]
    refine(inv.same d fun l ol hl hll hol hld=>?_).symm
    by_cases e:l=j
    ·subst e
     rw [hlj]at hll
     simp at hll
    ·exact(h.apart j l oj ol hj hl (Ne.symm e) hoj hol d hdj).1 hld
  ·have hno:∀j oj,j < k→j≠i→ops[j]?=some oj→oj.dst≠some d:=fun j oj hj hji hoj hdj=>hw ⟨j,oj,hj,hji,hoj,hdj⟩
   rw [h.first hik fun l ol hll hol=>hno l ol (by omega) (by omega) hol]
   refine(inv.same d fun j oj hj hlj hoj=>hno j oj hj (fun e=>?_) hoj).symm
   subst e
   rw [hoff]at hlj
   simp at hlj
 have hexec:execOp (evV ((List.range (t 0).n).map fun d=>rv m ((t i).get d)).toArray) o'=execOp (evV fr.tmps) o':=by
  refine execOp_congr o' (noSelect hok.op) fun y hy=>?_
  cases y with
  | tmp d=>exact hlook d (List.mem_append_left _ (List.mem_filterMap.2 ⟨.tmp d,by simpa using hy,rfl⟩))
  | _=>rfl
 have hwant:Region.wanted o' (yielded ops fr.tmps)=wantedR (t i) r.guard:=by
  rw [← wanted_ok hok htr]
  unfold Region.wanted
  cases hg:o'.guard with
  | none=>rfl
  | some gw =>
   obtain⟨g,want⟩:=gw
   simp only
   rw [yielded_congr (a:=fr.tmps) (b:=((List.range (t 0).n).map fun d=>rv m ((t i).get d)).toArray) (by rw [inv.size]; simp)]
   intro d hd
   refine(hlook d (List.mem_append_right _ ?_)).symm
   rw [hg]
   simp [hd]
 have hdn:∀d,o'.dst=some d→d < (t 0).n:=fun d hd=>by rw [← hnT i hik]; exact st.dn d hd
 have fin:∀(m2:Nat→Loc) (w2:World) (V V':RW),ViewA n0 (M i) (D i) (F i) V→(∀b o,b < n0→V.get b=some o→V'.get b=some o)→Rel m V w'→Rel m2 V' w2→Post m V w' m2 V' w2→V'.n=(M (i+1)).n →
   (∀b ob,D i b=true→(M (i+1)).get b=some ob→ob=.dead∨V'.get b=some ob)→Steps P (lone fr cs w') (lone (fr.finish (rv m2 x)) cs w2) →
   ∃m' w'' arr',Steps P (lone fr cs w') (lone { fr with tmps:=arr',todo:=.inRegion ops rest :: K } cs w'')∧AInv ops k t M D m0 w (listed.setIfInBounds i true) m' w'' arr':=by
  intro m2 w2 V V' hV hst hrV hr2 hp2 hn2 hobj hsteps
  let m':Nat→Loc:=fun c=>if (M i).n≤c∧c < (M (i+1)).n then m2 c else m c
  have hm'new:∀c,(M i).n≤c→c < (M (i+1)).n→m' c=m2 c:=fun c h1 h2=>by
   show(if _ then _ else _)=_
   rw [if_pos ⟨h1,h2⟩]
  have hm'old:∀c,¬ ((M i).n≤c∧c < (M (i+1)).n)→m' c=m c:=fun c h1=>by
   show(if _ then _ else _)=_
   rw [if_neg h1]
  have hm2:∀c,c < (M (i+1)).n→m' c=m2 c:=by
   intro c hcl
   rcases Nat.lt_or_ge c (M i).n with h1 | h1
   ·rw [hm'old c (by omega)]
    exact(hp2.ag c (by rw [hV.n]; exact h1)).symm
   ·exact hm'new c h1 hcl
  have hxv:rv m' x=rv m2 x:=rv_agree (n:=(M (i+1)).n) (fun b hbl=>hm2 b hbl) x st.below
  rw [finish_region htd ho,← hxv]at hsteps
  have hM0:(M 0).n≤(M i).n:=h.mono_le (Nat.zero_le _) hik
  have hval:∀j,j < k→listed.getD j false=true→∀y,below (M (j+1)).n y=true→namesB (madeA (N j) (M j).n (M (j+1)).n) y=true→rv m' y=rv m y:=by
   intro j hj hlj y hy1 hy2
   exact rv_names (n:=(M (j+1)).n) (fun b _ hbn=>hm'old b (havoid j hj hlj b hbn)) y hy1 hy2
  have hold:∀y,below (M 0).n y=true→rv m' y=rv m y:=fun y hy=>rv_agree (n:=(M 0).n) (fun b hbl=>hm'old b (by omega)) y hy
  have hown:∀b ob,V.get b=some ob→ob.own=true→(D i b=true∨b < n0)∧cont M D listed k b=ob∧b < (M i).n:=by
   intro b ob hg ho1
   rcases hV.get b ob hg with rfl | ⟨hf,o1,h1,h2 | ⟨h2,h3⟩⟩ | ⟨h2,h1⟩
   ·simp [RObj.own]at ho1
   ·subst h2
    have:o1.toRo.own=false:=by cases o1<;>rfl
    rw [this]at ho1; simp at ho1
   ·subst h2
    refine⟨.inl h3,?_,get_lt h1⟩
    rw [hnow b (.inl h3)]
    simp [Mg,h1]
   ·refine⟨.inr h2,?_,get_lt h1⟩
    rw [h.baseC h2,← h.baseM h2 i hik]
    simp [Mg,h1]
  have hvis:∀b,(∃ob,V.get b=some ob∧ob.own=true∧b < n0)∨∀ob,V.get b=some ob→ob.own=true→D i b=true:=by
   intro b
   by_cases hb0:∃ob,V.get b=some ob∧ob.own=true∧b < n0
   ·exact .inl hb0
   ·refine .inr fun ob hg ho1=>?_
    rcases(hown b ob hg ho1).1 with h1 | h1
    ·exact h1
    ·exact absurd ⟨ob,hg,ho1,h1⟩ hb0
  have hMS:∀b,b < (M k).n→(fnRW (M k).n (cont M D listed k)).get b=some (cont M D listed k b):=fun b hbl=>by rw [fnRW_get,if_pos hbl]
  have hstill:∀b,b < (M k).n→D i b=false→(∀ob,V.get b=some ob→ob.own=true→D i b=true)→(cont M D listed k b).live=true→w2.heap[(m b).blk]?=w'.heap[(m b).blk]?:=by
   intro b hbl hd hno hlv
   refine hp2.keep _ ((inv.rel.obj b _ (hMS b hbl)).lt_size hlv) fun c oc hg ho1=>?_
   obtain⟨h1,h2,h3⟩:=hown c oc hg ho1
   have hne:c≠b:=by rintro rfl; rw [hno oc hg ho1]at hd; simp at hd
   exact inv.rel.inj c b oc _ (by rw [hMS c (by omega),h2]) (hMS b hbl) ho1 hlv hne
  have hgetD:∀b ob,(fnRW (M k).n (cont M D (listed.setIfInBounds i true) k)).get b=some ob →
    (D i b=true∧b < (M (i+1)).n∧(ob=.dead∨(V'.get b=some ob∧(M (i+1)).get b=some ob)))∨(D i b=true∧ob=.dead)∨(D i b=false∧b < (M k).n∧cont M D listed k b=ob):=by
   intro b ob hg
   rw [fnRW_get]at hg
   split at hg
   ·rename_i hbl
    simp only [Option.some.injEq]at hg
    cases hd:D i b with
    | true =>
     rw [hthen b hd]at hg
     unfold Mg at hg
     cases hmg:(M (i+1)).get b with
     | none =>
      rw [hmg]at hg
      exact .inr (.inl ⟨rfl,hg.symm⟩)
     | some o1 =>
      rw [hmg]at hg
      simp only [Option.getD_some]at hg
      subst hg
      rcases hobj b o1 hd hmg with h1 | h1
      ·exact .inl ⟨rfl,get_lt hmg,.inl h1⟩
      ·exact .inl ⟨rfl,get_lt hmg,.inr ⟨h1,rfl⟩⟩
    | false =>
     rw [hstay b hd]at hg
     exact .inr (.inr ⟨rfl,hbl,hg⟩)
   ·simp at hg
  have hrel':Rel m' (fnRW (M k).n (cont M D (listed.setIfInBounds i true) k)) w2:=by
   refine⟨fnRW_wf _ _,?_,?_,?_,?_⟩
   ·intro b ob hg
    rcases hgetD b ob hg with ⟨h1,h2,rfl | ⟨h3,h4⟩⟩ | ⟨h1,rfl⟩ | ⟨h1,h2,h3⟩
    ·trivial
    ·rw [hm2 b h2]
     exact(hr2.obj b ob h3).agree (newB_lt (st.objs b ob h1 h4)) fun c hcl=>hm2 c hcl
    ·trivial
    ·have hob:=inv.rel.obj b _ (hMS b h2)
     rw [h3]at hob
     by_cases hlv:ob.live=true
     ·rcases hvis b with ⟨ob3,v1,v2,v3⟩ | hno
      ·have v4:=(hown b ob3 v1 v2).2.1
       rw [h3]at v4
       subst v4
       have hbn:b < (M (i+1)).n:=by
        have:=(hown b ob v1 v2).2.2
        omega
       rw [hm2 b hbn]
       refine(hr2.obj b ob (hst b ob v3 v1)).agree (n:=(M (i+1)).n) ?_ fun c hcl=>hm2 c hcl
       have:=hr2.lt b ob (hst b ob v3 v1)
       rwa [hn2]at this
      have hob2:=hob.heap fun _=>hstill b h2 h1 hno (by rw [h3]; exact hlv)
      have hmb:m' b=m b:=hm'old b fun⟨h5,h6⟩=>by rw [h.new hi h5 h6]at h1; simp at h1
      rw [hmb]
      rcases cont_cases (M:=M) (D:=D) listed k b with h5 | ⟨j,h5,h6,h7,h8⟩
      ·rw [h3]at h5
       unfold Mg at h5
       cases hm0:(M 0).get b with
       | none=>rw [hm0]at h5; simp only [Option.getD_none]at h5; subst h5; trivial
       | some o0 =>
        rw [hm0]at h5
        simp only [Option.getD_some]at h5
        subst h5
        exact hob2.agree (hr0.lt b ob hm0) fun c hcl=>hm'old c (by omega)
      ·rw [h3]at h8
       unfold Mg at h8
       cases hmj:(M (j+1)).get b with
       | none=>rw [hmj]at h8; simp only [Option.getD_none]at h8; subst h8; trivial
       | some o0 =>
        rw [hmj]at h8
        simp only [Option.getD_some]at h8
        subst h8
        obtain⟨oj,rj,xj,_,_,stj⟩:=h.step j h5
        exact ORel.names (stj.objs b ob h7 hmj) hob2 fun c _ hcn=>hm'old c (havoid j h5 h6 c hcn)
     ·cases ob<;>simp_all [RObj.live,ORel]
   ·intro b ob hg
    show ob.lt (M k).n
    rcases hgetD b ob hg with ⟨h1,h2,rfl | ⟨h3,h4⟩⟩ | ⟨h1,rfl⟩ | ⟨h1,h2,h3⟩
    ·trivial
    ·exact RObj.lt_mono hnN (newB_lt (st.objs b ob h1 h4))
    ·trivial
    ·have:=inv.rel.lt b _ (hMS b h2)
     rw [h3]at this
     exact this
   ·intro a b xa yb ha hbg hxo hyl hab
    rcases hgetD a xa ha with ⟨a1,a2,rfl | ⟨a3,a4⟩⟩ | ⟨a1,rfl⟩ | ⟨a1,a2,a3⟩
    ·simp [RObj.own]at hxo
    ·rw [hm2 a a2]
     rcases hgetD b yb hbg with ⟨b1,b2,rfl | ⟨b3,b4⟩⟩ | ⟨b1,rfl⟩ | ⟨b1,b2,b3⟩
     ·simp [RObj.live]at hyl
     ·rw [hm2 b b2]
      exact hr2.inj a b xa yb a3 b3 hxo hyl hab
     ·simp [RObj.live]at hyl
     ·rcases hvis b with ⟨ob3,v1,v2,v3⟩ | hno
      ·have v4:=(hown b ob3 v1 v2).2.1
       rw [b3]at v4
       subst v4
       rw [hm2 b (by have:=(hown b yb v1 v2).2.2; omega)]
       exact hr2.inj a b xa yb a3 (hst b yb v3 v1) hxo hyl hab
      have hmb:m' b=m b:=hm'old b fun⟨h5,h6⟩=>by rw [h.new hi h5 h6]at b1; simp at b1
      rw [hmb]
      have hsz:=(inv.rel.obj b _ (hMS b b2)).lt_size (by rw [b3]; exact hyl)
      rcases hp2.own a xa a3 hxo with h5 | ⟨c,oc,h5,h6,h7⟩
      ·omega
      ·rw [← h7]
       obtain⟨h8,h9,h10⟩:=hown c oc h5 h6
       have hne:c≠b:=by rintro rfl; rw [hno oc h5 h6]at b1; simp at b1
       exact inv.rel.inj c b oc _ (by rw [hMS c (by omega),h9]) (hMS b b2) h6 (by rw [b3]; exact hyl) hne
    ·simp [RObj.own]at hxo
    ·have hma:m' a=m a:=hm'old a fun⟨h5,h6⟩=>by rw [h.new hi h5 h6]at a1; simp at a1
     rcases hgetD b yb hbg with ⟨b1,b2,rfl | ⟨b3,b4⟩⟩ | ⟨b1,rfl⟩ | ⟨b1,b2,b3⟩
     ·simp [RObj.live]at hyl
     case inr.inl=>simp [RObj.live]at hyl
     case inr.inr =>
      have hmb:m' b=m b:=hm'old b fun⟨h5,h6⟩=>by rw [h.new hi h5 h6]at b1; simp at b1
      rw [hma,hmb]
      exact inv.rel.inj a b _ _ (hMS a a2) (hMS b b2) (by rw [a3]; exact hxo) (by rw [b3]; exact hyl) hab
     rcases hvis a with ⟨oa3,v1,v2,v3⟩ | hno
     ·have v4:=(hown a oa3 v1 v2).2.1
      rw [a3]at v4
      subst v4
      rw [hm2 a (by have:=(hown a xa v1 v2).2.2; omega),hm2 b b2]
      exact hr2.inj a b xa yb (hst a xa v3 v1) b3 hxo hyl hab
     rw [hma]
     have hxo':(cont M D listed k a).own=true:=by rw [a3]; exact hxo
     have hsz:=(inv.rel.obj a _ (hMS a a2)).lt_size (own_live hxo')
     rw [hm2 b b2]
     rcases Nat.lt_or_ge b (M i).n with h5 | h5
     ·have hcur:=hnow b (.inl b1)
      have hb2:m2 b=m b:=hp2.ag b (by rw [hV.n]; exact h5)
      rw [hb2]
      by_cases hlvb:(cont M D listed k b).live=true
      ·exact inv.rel.inj a b _ _ (hMS a a2) (hMS b (by omega)) hxo' hlvb hab
      ·
       intro hblk
       rcases Decidable.em (yb.own=true)with hyo | hyo
       ·rcases hp2.own b yb b3 hyo with h6 | ⟨c,oc,h6,h7,h8⟩
        ·rw [hb2]at h6; omega
        ·obtain⟨h9,h10,h11⟩:=hown c oc h6 h7
         rw [hb2]at h8
         have hne:c≠a:=by rintro rfl; rw [hno oc h6 h7]at a1; simp at a1
         exact inv.rel.inj a c _ oc (hMS a a2) (by rw [hMS c (by omega),h10]) hxo' (own_live h7) (Ne.symm hne) (hblk.trans h8.symm)
       ·exact(hyo (st.owns b yb b1 b4 hyl)).elim
     ·rcases Decidable.em (yb.own=true)with hyo | hyo
      ·rcases hp2.own b yb b3 hyo with h6 | ⟨c,oc,h6,h7,h8⟩
       ·omega
       ·obtain⟨h9,h10,h11⟩:=hown c oc h6 h7
        rw [← h8]
        have hne:c≠a:=by rintro rfl; rw [hno oc h6 h7]at a1; simp at a1
        exact inv.rel.inj a c _ oc (hMS a a2) (by rw [hMS c (by omega),h10]) hxo' (own_live h7) (Ne.symm hne)
      ·exact(hyo (st.owns b yb b1 b4 hyl)).elim
   ·intro j g hj
    have h1:=hr0.glb j g hj
    have h2:=inv.rel.glb j g hj
    refine⟨h2.1,?_⟩
    rw [hm'old j (by omega)]
    exact h2.2
  have hpost':Post m0 (M 0) w m' (fnRW (M k).n (cont M D (listed.setIfInBounds i true) k)) w2:=by
   have hp:=inv.post
   refine⟨fun b hbn=>?_,hp.mono,Nat.le_trans hp.size hp2.size,?_,?_,hp2.os.trans hp.os,hp2.tape.trans hp.tape,hp2.output.trans hp.output⟩
   ·rw [hm'old b (by omega)]
    exact hp.ag b hbn
   ·intro q hq hno
    rw [← hp.keep q hq hno]
    refine hp2.keep q (Nat.lt_of_lt_of_le hq hp.size) fun c oc hg ho1=>?_
    obtain⟨h8,h9,h10⟩:=hown c oc hg ho1
    intro hcq
    rcases hp.own c oc (by rw [hMS c (by omega),h9]) ho1 with h5 | ⟨a,xa,h5,h6,h7⟩
    ·omega
    ·exact hno a xa h5 h6 (h7.trans hcq)
   ·intro b ob hg hbo
    rcases hgetD b ob hg with ⟨h1,h2,rfl | ⟨h3,h4⟩⟩ | ⟨h1,rfl⟩ | ⟨h1,h2,h3⟩
    ·simp [RObj.own]at hbo
    ·rw [hm2 b h2]
     rcases hp2.own b ob h3 hbo with h5 | ⟨c,oc,h5,h6,h7⟩
     ·exact .inl (Nat.le_trans hp.size h5)
     ·obtain⟨h8,h9,h10⟩:=hown c oc h5 h6
      rcases hp.own c oc (by rw [hMS c (by omega),h9]) h6 with h11 | ⟨a,xa,h11,h12,h13⟩
      ·exact .inl (by omega)
      ·exact .inr ⟨a,xa,h11,h12,h13.trans h7⟩
    ·simp [RObj.own]at hbo
    ·have hmb:m' b=m b:=hm'old b fun⟨h5,h6⟩=>by rw [h.new hi h5 h6]at h1; simp at h1
     rw [hmb]
     exact hp.own b _ (hMS b h2) (by rw [h3]; exact hbo) |>.imp id id
  refine⟨m',w2,_,hsteps,hrel',dstSet_size.trans inv.size,?_,?_,hpost'⟩
  ·intro j oj d hj hlj hoj hd
   by_cases hij:i=j
   ·subst hij
    have:oj=o':=Option.some.inj (hoj.symm.trans ho)
    subst this
    rw [hd,dstSet_new (by rw [inv.size]; exact hdn d hd),h.kept hi (Nat.le_refl _) ho hd,st.get,if_pos hd]
   ·have hlj':listed.getD j false=true:=by
     rw [getD_set_ne false hij]at hlj; exact hlj
    rw [dstSet_same (h.apart j i oj _ hj hi (Ne.symm hij) hoj ho d hd).1,inv.wrote j oj d hj hlj' hoj hd]
    obtain⟨oj2,r2,y,ho2,_,stj⟩:=h.step j hj
    have:oj2=oj:=Option.some.inj (ho2.symm.trans hoj)
    subst this
    have hy:(t k).get d=y:=by
     rw [h.kept hj (Nat.le_refl _) hoj hd,stj.get,if_pos hd]
    rw [hy]
    exact(hval j hj hlj' y stj.below stj.names).symm
  ·intro d hd
   have h1:o'.dst≠some d:=hd i _ hi (by rw [hset]; exact .inl rfl) ho
   rw [dstSet_same h1,inv.same d fun j oj hj hlj hoj=>hd j oj hj (by rw [hset]; exact .inr hlj) hoj]
   exact(hold _ (h0 d)).symm
 rcases st.kind with ⟨h1,h2,h3,h9⟩ | ⟨h1,V,V',hV,heff,hVn,hobj,hbase⟩
 ·
  have hVw:ViewA n0 (M i) (D i) (F i) ⟨(M i).n,List.replicate (M i).n .dead⟩:=by
   refine⟨by simp [RW.wf],rfl,fun b ob hb=>.inl (blank_get hb)⟩
  have hrV:Rel m ⟨(M i).n,List.replicate (M i).n .dead⟩ w':=inv.rel.less (by simp [RW.wf]) (fun b ob hb=>.inl (blank_get hb)) (fun b ob hb=>by rw [blank_get hb]; trivial) (fun j g hj=>by
   have:=(hr0.glb j g hj).1
   have:=h.mono_le (Nat.zero_le i) hik
   show j < (M i).n
   omega)
  refine fin m w' _ _ hVw (fun _ _ _ h=>h) hrV hrV (Post.refl _ _ _) (by rw [h3]) ?_ ?_
  ·intro b ob hd hg
   rw [h9 b]at hd
   simp at hd
  ·rw [h2]
   exact step_op_skip' hm htd ho (by rw [hwant,h1])
 ·have hrV:Rel m V w':=by
   refine inv.rel.less hV.wf ?_ ?_ ?_
   ·intro b ob hb
    rcases hV.get b ob hb with h5 | ⟨hf,o1,h5,h6⟩ | ⟨h6,h5⟩
    ·exact .inl h5
    rotate_left
    ·refine .inr ⟨ob,?_,.inr rfl⟩
     rw [fnRW_get,if_pos (by have:=get_lt h5; omega),h.baseC h6,← h.baseM h6 i hik]
     simp [Mg,h5]
    ·refine .inr ⟨o1,?_,h6.imp id And.left⟩
     rw [fnRW_get,if_pos (by have:=get_lt h5; omega),hnow b (.inr hf)]
     simp [Mg,h5]
   ·intro b ob hb
    rw [hV.n]
    rcases hV.get b ob hb with rfl | ⟨hf,o1,h5,h6 | ⟨h6,_⟩⟩ | ⟨_,h5⟩
    ·trivial
    rotate_left 2
    ·exact h.lt hr0.lt i hik b ob h5
    ·rw [h6]
     exact toRo_lt (h.lt hr0.lt i hik b o1 h5)
    ·rw [h6]
     exact h.lt hr0.lt i hik b o1 h5
   ·intro j g hj
    have h5:=(hr0.glb j g hj).1
    have h6:=h.mono_le (Nat.zero_le i) hik
    rw [hV.n]
    omega
  obtain⟨m2,w2,hst2,hr2,hp2,_⟩:=eff_any hev hN hok heff hrV (by rw [hV.n]; exact hlt) htr hm hexec htd ho (by rw [hwant,h1])
  exact fin m2 w2 V V' hV hbase hrV hr2 hp2 hVn hobj hst2
theorem Any.all (hev:EvOk P ev) (hN:NoOwn P) (hE:Edges ops) (hk:k=planTail (Region.before ops).toList ops.size) (h:Any n0 P ev ops k t M D F N) (hr0:Rel m0 (M 0) w) (h0:tlt (M 0).n (t 0)) (cs:List Frame) (K:List Item) :
  ∀(fuel tp:Nat) (listed:Array Bool) (m:Nat→Loc) (w':World) (fr:Frame),unl listed ops.size≤fuel→AInv ops k t M D m0 w listed m w' fr.tmps→Closed ops listed→listed.size=ops.size →
   (∀i,k≤i→i < ops.size→listed.getD i true=false)→fr.mode=.run→fr.todo=.inRegion ops (Region.linearise.go .any ops fuel tp listed []) :: K →
   ∃m' w'' arr' listed',Steps P (lone fr cs w') (lone { fr with tmps:=arr',todo:=.inRegion ops (List.range' k (ops.size-k)) :: K } cs w'')∧(∀i,i < k→listed'.getD i false=true)∧AInv ops k t M D m0 w listed' m' w'' arr':=by
 intro fuel
 have hle:=h.le
 induction fuel with
 | zero =>
  intro tp listed m w' fr hf inv hc hs ht hm htd
  have hall:∀i,i < k→listed.getD i false=true:=by
   intro i hi
   rcases hb:listed.getD i false with _ | _
   ·have:=unl_pos (off_in (by omega) hb) ops.size (by omega)
    omega
   ·rfl
  have hgo:=go_tail hE hk (ops.size-k) k listed 0 tp rfl (Nat.le_refl _) hle hs hc hall ht (by
   have:=unl_ge ops.size ht
   omega)
  rw [hgo]at htd
  exact⟨m,w',fr.tmps,listed,todo_same htd,hall,inv⟩
 | succ fuel ih =>
  intro tp listed m w' fr hf inv hc hs ht hm htd
  by_cases hall:∀i,i < k→listed.getD i false=true
  ·have hgo:=go_tail hE hk (ops.size-k) k listed (fuel+1) tp rfl (Nat.le_refl _) hle hs hc hall ht (by
    have:=unl_ge ops.size ht
    omega)
   rw [hgo]at htd
   exact⟨m,w',fr.tmps,listed,todo_same htd,hall,inv⟩
  ·simp only [Classical.not_forall]at hall
   obtain⟨j,hj,hoff⟩:=hall
   have hoff':listed.getD j false=false:=by simpa using hoff
   obtain⟨i,o,t',ho,hun,hl,hgo⟩:=go_take hE hs (show j < ops.size by omega) (off_in (by omega) hoff') fuel tp
   rw [hgo]at htd
   have hin:i < ops.size:=(Array.getElem?_eq_some_iff.1 ho).1
   have hi:i < k:=by
    rcases Nat.lt_or_ge i k with h1 | h1
    ·exact h1
    ·have hb:=tail_bits (ops:=ops) (by omega) hin (show j < i by omega)
     rw [closed_before hE hc i o ho hl j hb]at hoff'
     simp at hoff'
   obtain⟨m1,w1,arr1,st1,inv1⟩:=h.step_ok hev hN hE hr0 h0 inv hi ho hun hl hc hs (cs:=cs) hm htd
   obtain⟨m2,w2,arr2,listed2,st2,hall2,inv2⟩:=ih t' (listed.setIfInBounds i true) m1 w1 { fr with tmps:=arr1,todo:=.inRegion ops (Region.linearise.go .any ops fuel t' (listed.setIfInBounds i true) []) :: K } (by
    have:=unl_set (by omega) hun ops.size hin
    omega) inv1 (hc.set ho hl) (by simp [hs]) (fun l h1 h2=>by rw [getD_set_ne true (by omega)]; exact ht l h1 h2) hm rfl
   exact⟨m2,w2,arr2,listed2,st1.trans st2,hall2,inv2⟩
theorem Any.first_ok (hev:EvOk P ev) (hN:NoOwn P) (hE:Edges ops) (hk:k=planTail (Region.before ops).toList ops.size) (h:Any n0 P ev ops k t M D F N)
  {m:Nat→Loc} {fr:Frame} {cs:List Frame} {K:List Item} {tp:Nat} (hr:Rel m (M 0) w) (hl:tlt (M 0).n (t 0)) (htr:TR m (t 0) fr.tmps) (hm:fr.mode=.run)
  (htd:fr.todo=.inRegion ops (Region.linearise.go .any ops ops.size tp (Array.replicate ops.size false) []) :: K) :
  ∃m' w' tm,Steps P (lone fr cs w) (lone { fr with tmps:=tm,todo:=.inRegion ops (List.range' k (ops.size-k)) :: K } cs w')∧Rel m' (M k) w'∧Post m (M 0) w m' (M k) w'∧tlt (M k).n (t k)∧TR m' (t k) tm:=by
 have hoff:∀i,(Array.replicate ops.size false).getD i false=false:=fun i=>by
  rcases Nat.lt_or_ge i ops.size with h | h
  ·simp [h]
  ·simp [h]
 have hc0:∀b,cont M D (Array.replicate ops.size false) k b=Mg (M 0) b:=by
  intro b
  rcases cont_cases (M:=M) (D:=D) (Array.replicate ops.size false) k b with h1 | ⟨j,h1,h2,_⟩
  ·exact h1
  ·rw [hoff]at h2; simp at h2
 have hle0:(M 0).n≤(M k).n:=h.mono_le (Nat.zero_le _) (Nat.le_refl _)
 have hget0:∀b o,(fnRW (M k).n (cont M D (Array.replicate ops.size false) k)).get b=some o→(M 0).get b=some o∨o=.dead:=by
  intro b o hb
  rw [fnRW_get]at hb
  split at hb
  ·rw [hc0]at hb
   simp only [Option.some.injEq]at hb
   unfold Mg at hb
   cases hm0:(M 0).get b with
   | none=>rw [hm0]at hb; exact .inr hb.symm
   | some o0=>rw [hm0]at hb; simp only [Option.getD_some]at hb; exact .inl (by rw [hb])
  ·simp at hb
 have hrel0:Rel m (fnRW (M k).n (cont M D (Array.replicate ops.size false) k)) w:=by
  refine hr.less (fnRW_wf _ _) ?_ ?_ ?_
  ·intro b o hb
   rcases hget0 b o hb with h1 | h1
   ·exact .inr ⟨o,h1,.inr rfl⟩
   ·exact .inl h1
  ·intro b o hb
   show o.lt (M k).n
   rcases hget0 b o hb with h1 | rfl
   ·exact RObj.lt_mono hle0 (hr.lt b o h1)
   ·trivial
  ·intro i g hi
   show i < (M k).n
   have h1:i < (M 0).n:=(hr.glb i g hi).1
   omega
 have inv0:AInv ops k t M D m w (Array.replicate ops.size false) m w fr.tmps:=by
  refine⟨hrel0,htr.size,fun j o d _ hlj _ _=>?_,fun d _=>htr.get d,⟨fun _ _=>rfl,hle0,Nat.le_refl _,fun _ _ _=>rfl,?_,rfl,rfl,rfl⟩⟩
  ·rw [hoff]at hlj; simp at hlj
  ·intro b o hb ho
   rcases hget0 b o hb with h1 | rfl
   ·exact .inr ⟨b,o,h1,ho,rfl⟩
   ·simp [RObj.own]at ho
 obtain⟨m1,w1,arr1,listed1,st2,hall1,inv1⟩:=h.all hev hN hE hk hr hl cs K ops.size tp (Array.replicate ops.size false) m w fr (unl_le _ _) inv0
  (fun j oj _ hlj=>by rw [hoff]at hlj; simp at hlj) (by simp) (fun i _ hi=>by simp [hi]) hm htd
 have hwfn:=h.wf hr.wf k (Nat.le_refl _)
 have hcn:∀b,cont M D listed1 k b=Mg (M k) b:=fun b=>h.cont_all listed1 k (Nat.le_refl _) fun l hl1 _=>hall1 l hl1
 have hgetn:∀b o,(M k).get b=some o→(fnRW (M k).n (cont M D listed1 k)).get b=some o:=by
  intro b o hb
  rw [fnRW_get,if_pos (get_lt hb),hcn]
  simp [Mg,hb]
 have hltn:=h.lt hr.lt k (Nat.le_refl _)
 have hreln:Rel m1 (M k) w1:=inv1.rel.less hwfn (fun b o hb=>.inr ⟨o,hgetn b o hb,.inr rfl⟩) hltn (fun i g hi=>(inv1.rel.glb i g hi).1)
 have hpn:Post m (M 0) w m1 (M k) w1:=inv1.post.view hle0 fun b o hb _=>hgetn b o hb
 have htn:TR m1 (t k) arr1:=by
  refine⟨?_,fun d=>?_⟩
  ·rw [inv1.size,h.num _ (Nat.le_refl _)]
  ·by_cases hw:∃j oj,j < k∧ops[j]?=some oj∧oj.dst=some d
   ·obtain⟨j,oj,hj,hoj,hdj⟩:=hw
    exact inv1.wrote j oj d hj (hall1 j hj) hoj hdj
   ·have hno:∀j oj,j < k→ops[j]?=some oj→oj.dst≠some d:=fun j oj hj hoj hdj=>hw ⟨j,oj,hj,hoj,hdj⟩
    rw [inv1.same d fun j oj hj _ hoj=>hno j oj hj hoj,h.first (Nat.le_refl _) fun l o hl1 hlo=>hno l o hl1 hlo]
 exact⟨m1,w1,arr1,st2,hreln,hpn,h.lows hl k (Nat.le_refl _),htn⟩
end
end Go.Rv
namespace Go.Rv
open Go
theorem hasN_iff {l:List Nat} {c:Nat}:hasN l c=true↔c∈l:=by
 unfold hasN
 rw [List.any_eq_true]
 constructor
 ·rintro⟨x,h1,h2⟩
  rw [← Nat.eq_of_beq_eq_true h2]; exact h1
 ·exact fun h=>⟨c,h,Nat.beq_refl c⟩
theorem viewL_at (p w:Nat→Bool):∀(l:List RObj) (n:Nat),l.length=n→∀i,(viewL p w l n)[i]?=(l[i]?).map fun o=>if w (n-1-i)then o else if p (n-1-i)then o.toRo else .dead
 | [],n,h,i=>by simp [viewL]
 | o :: r,0,h,i=>by simp at h
 | o :: r,n+1,h,i=>by
  have hr:r.length=n:=by simpa using h
  cases i with
  | zero=>simp [viewL]
  | succ i =>
   simp only [viewL,List.getElem?_cons_succ]
   rw [viewL_at p w r n hr i]
   rw [show n+1-1-(i+1)=n-1-i by omega]
theorem viewL_len (p w:Nat→Bool):∀(l:List RObj) (n:Nat),l.length=n→(viewL p w l n).length=n
 | [],n,h=>by simpa [viewL] using h
 | o :: r,0,h=>by simp at h
 | o :: r,n+1,h=>by
  have hr:r.length=n:=by simpa using h
  simp [viewL,viewL_len p w r n hr]
theorem viewL_get {p w:Nat→Bool} {M:RW} (hM:M.wf) {b:Nat} {o:RObj} (h:(⟨M.n,viewL p w M.l M.n⟩:RW).get b=some o):∃o1,M.get b=some o1∧o=if w b then o1 else if p b then o1.toRo else .dead:=by
 unfold RW.get at h ⊢
 simp only [blt_eq,decide_eq_true_eq,lget_eq]at h ⊢
 split at h
 ·rename_i hb
  rw [viewL_at p w M.l M.n hM,Option.map_eq_some_iff]at h
  obtain⟨o1,h1,h2⟩:=h
  rw [if_pos hb]
  refine⟨o1,h1,?_⟩
  rw [← h2,show M.n-1-(M.n-1-b)=b by omega]
 ·simp at h
theorem rget (W:RW) (c:Nat):W.get c=if c < W.n then W.l[W.n-1-c]? else none:=by
 unfold RW.get
 simp only [blt_eq,decide_eq_true_eq,lget_eq]
theorem backA_len {n n0:Nat} {mv:Nat→Bool} {V:RW}:∀(wr:List Nat) (l:List RObj),(backA n mv n0 V wr l).length=l.length
 | [],l=>rfl
 | c :: r,l=>by
  unfold backA
  rw [backA_len r]
  split<;>simp
theorem backA_get {n n0:Nat} {mv:Nat→Bool} {V:RW} {b:Nat} (hb:b < n0):∀(wr:List Nat) (l:List RObj),l.length=n0 →
  (backA n mv n0 V wr l)[n0-1-b]?=if hasN wr b then some (keepB n mv ((V.get b).getD .dead))else l[n0-1-b]?
 | [],l,hl=>by simp [backA,hasN]
 | c :: r,l,hl=>by
  unfold backA
  rw [backA_get hb r _ (by split<;>simp [hl])]
  by_cases hr:hasN r b=true
  ·have:hasN (c :: r) b=true:=hasN_iff.2 (List.mem_cons_of_mem _ (hasN_iff.1 hr))
   rw [if_pos hr,if_pos this]
  ·rw [if_neg hr]
   by_cases hc:c=b
   ·subst hc
    have:hasN (c :: r) c=true:=hasN_iff.2 List.mem_cons_self
    rw [if_pos this,if_pos (by rw [blt_eq]; simpa using hb),List.getElem?_set_self (by omega)]
   ·have:¬ hasN (c :: r) b=true:=fun h=>by
     rcases List.mem_cons.1 (hasN_iff.1 h)with h | h
     ·exact hc h.symm
     ·exact hr (hasN_iff.2 h)
    rw [if_neg this]
    split
    ·rename_i hcn
     rw [blt_eq,decide_eq_true_eq]at hcn
     rw [List.getElem?_set_ne (by omega)]
    ·rfl
section
variable [Env] {P:Program} {ev:Ev} {ops:Array Oper}
theorem anyOne_ok {L i b:Nat} {ws:Wrs} {o:Oper} {r:ROper} {ft:Option FootF} {s s':AS} (hput:PutOk r.put o.dst) (hwf:s.M.wf) (h:anyOne P ev L ws ((r,b),ft) i s=some s') :
  ∃x e,s'.log=e :: s.log∧e.j=i∧e.bits=b∧e.lo=s.M.n∧e.hi=s'.M.n∧(e.al=true→e.wr=[])∧(∀c,hasN e.wr c=true→c < s.M.n) ∧
   AStep 0 P ev s.t s'.t s.M s'.M (fun c=>hasN e.wr c || (Nat.ble s.M.n c && Nat.blt c s'.M.n)) (fun c=>lookA L b s.log s.M.n e.rd e.wr e.al e.ex c) (fun c=>seenA L b s.log c) o r x:=by
 obtain⟨t,M,log⟩:=s
 simp only at hwf
 unfold anyOne at h
 simp only at h
 split at h
 ·rename_i hw
  have main:∀(rd wr:List Nat) (al:Bool),(al=true→wr=[])→anyRun P ev L ws r i b t M log rd wr al=some s' →
    ∃x e,s'.log=e :: log∧e.j=i∧e.bits=b∧e.lo=M.n∧e.hi=s'.M.n∧(e.al=true→e.wr=[])∧(∀c,hasN e.wr c=true→c < M.n) ∧
     AStep 0 P ev t s'.t M s'.M (fun c=>hasN e.wr c || (Nat.ble M.n c && Nat.blt c s'.M.n)) (fun c=>lookA L b log M.n e.rd e.wr e.al e.ex c) (fun c=>seenA L b log c) o r x:=by
   intro rd wr al hal h
   unfold anyRun at h
   split at h
   case isFalse=>simp at h
   rename_i hwr
   have hwr:∀c,hasN wr c=true→c < M.n:=fun c hc=>by
    have:=List.all_eq_true.1 hwr c (hasN_iff.1 hc)
    rw [blt_eq,decide_eq_true_eq]at this
    exact this
   unfold anyEnd at h
   split at h
   case h_2=>simp at h
   rename_i q x V' he
   rw [fnat_eq]at h
   split at h
   case isFalse=>simp at h
   rename_i hc
   simp only [Bool.and_eq_true]at hc
   obtain⟨⟨c1,c2⟩,c3⟩:=hc
   have c1:=Nat.le_of_ble_eq_true c1
   split at h
   case h_2=>simp at h
   rename_i t' hp
   split at h
   case h_2=>simp at h
   rename_i l hl
   simp only [Option.some.injEq]at h
   subst h
   obtain⟨l1,l2⟩:=ltake_spec _ _ hl
   have hll:l.length=V'.n-M.n:=by rw [l2,List.length_take]; omega
   obtain⟨p1,p2,p3⟩:=hput t t' x hp
   let mv:Nat→Bool:=fun c=>(Nat.ble M.n c && Nat.blt c V'.n) || seenA L b log c
   have hmade:∀c,mv c=true→madeA (fun c=>seenA L b log c) M.n V'.n c=true:=fun c hc=>by
    unfold madeA
    have hc':((Nat.ble M.n c && Nat.blt c V'.n) || seenA L b log c)=true:=hc
    rw [Bool.or_comm]; exact hc'
   have hget:∀c,(⟨V'.n,l.map (keepB V'.n mv)++backA V'.n mv M.n V' wr M.l⟩:RW).get c =
     if c < M.n then (if hasN wr c then some (keepB V'.n mv ((V'.get c).getD .dead))else M.get c)else if c < V'.n then some (keepB V'.n mv ((V'.get c).getD .dead))else none:=by
    intro c
    rw [rget ⟨V'.n,l.map (keepB V'.n mv)++backA V'.n mv M.n V' wr M.l⟩ c]
    show(if c < V'.n then (l.map (keepB V'.n mv)++backA V'.n mv M.n V' wr M.l)[V'.n-1-c]? else none)=_
    by_cases hcm:c < M.n
    ·rw [if_pos hcm,if_pos (show c < V'.n by omega),List.getElem?_append_right (by rw [List.length_map]; omega),List.length_map,show V'.n-1-c-l.length=M.n-1-c by omega,
      backA_get hcm wr M.l hwf,rget M c,if_pos hcm]
    ·rw [if_neg hcm]
     by_cases hcn:c < V'.n
     ·rw [if_pos hcn,if_pos hcn,List.getElem?_append_left (by rw [List.length_map]; omega),List.getElem?_map,l2,List.getElem?_take,if_pos (by omega),rget V' c,if_pos hcn]
      have hlt:V'.n-1-c < V'.l.length:=by omega
      rw [List.getElem?_eq_getElem hlt]
      rfl
     ·rw [if_neg hcn,if_neg hcn]
   have hD:∀c ob,(hasN wr c || (Nat.ble M.n c && Nat.blt c V'.n))=true→(⟨V'.n,l.map (keepB V'.n mv)++backA V'.n mv M.n V' wr M.l⟩:RW).get c=some ob→ob=keepB V'.n mv ((V'.get c).getD .dead):=by
    intro c ob hd hg
    rw [hget]at hg
    by_cases hcm:c < M.n
    ·rw [if_pos hcm]at hg
     have:hasN wr c=true:=by
      rw [Bool.or_eq_true,Bool.and_eq_true]at hd
      rcases hd with hd | ⟨hd,_⟩
      ·exact hd
      ·have:=Nat.le_of_ble_eq_true hd; omega
     rw [if_pos this]at hg
     exact(Option.some.inj hg).symm
    ·rw [if_neg hcm]at hg
     split at hg
     ·exact(Option.some.inj hg).symm
     ·simp at hg
   refine⟨x,⟨i,b,M.n,V'.n,rd,wr,al,exA ws i b⟩,rfl,rfl,rfl,rfl,rfl,hal,hwr,p1,p2,p3,?_,c1,?_,?_,c2,names_mono (fun c hc=>hmade c hc) x c3,?_,?_,fun c hc=>absurd hc (Nat.not_lt_zero c),.inr ⟨hw,⟨M.n,viewL (lookA L b log M.n rd wr al (exA ws i b)) (hasN wr) M.l M.n⟩,V',⟨viewL_len _ _ _ _ hwf,rfl,?_⟩,he,rfl,?_,fun c _ hc=>absurd hc (Nat.not_lt_zero c)⟩⟩
   ·show(l.map (keepB V'.n mv)++backA V'.n mv M.n V' wr M.l).length=V'.n
    rw [List.length_append,List.length_map,backA_len,hll,show M.l.length=M.n from hwf]
    omega
   ·intro c hc
    unfold lookA at hc
    rw [Bool.and_eq_true,blt_eq,decide_eq_true_eq]at hc
    exact hc.1
   ·intro c hd
    rw [Bool.or_eq_false_iff]at hd
    rw [hget]
    by_cases hcm:c < M.n
    ·rw [if_pos hcm,if_neg (by rw [hd.1]; simp)]
    ·rw [if_neg hcm]
     have:¬ c < V'.n:=fun hcn=>by
      have h1:(Nat.ble M.n c && Nat.blt c V'.n)=true:=by
       rw [Bool.and_eq_true,blt_eq,decide_eq_true_eq]
       exact⟨Nat.ble_eq_true_of_le (by omega),hcn⟩
      rw [h1]at hd
      exact absurd hd.2 (by simp)
     rw [if_neg this,get_ge' (by omega)]
   ·intro c ob hd hg
    rw [hD c ob hd hg]
    exact newB_mono (Nat.le_refl _) (fun c hc=>hmade c hc) (keepB_spec _).1
   ·intro c ob hd hg hlv
    rw [hD c ob hd hg]at hlv ⊢
    rcases(keepB_spec (n:=V'.n) (p:=mv) ((V'.get c).getD .dead)).2 with h1 | ⟨h1,h2⟩
    ·rw [h1]at hlv; simp [RObj.live]at hlv
    ·rw [h1]; exact h2
   ·intro c ob hg
    obtain⟨o1,h1,h2⟩:=viewL_get hwf hg
    by_cases hwc:hasN wr c=true
    ·rw [if_pos hwc]at h2
     refine .inr (.inl ⟨?_,o1,h1,.inr ⟨h2,by show(hasN wr c || _)=true; rw [hwc]; rfl⟩⟩)
     show lookA L b log M.n rd wr al (exA ws i b) c=true
     unfold lookA
     rw [Bool.and_eq_true,blt_eq,decide_eq_true_eq]
     refine⟨get_lt h1,?_⟩
     cases al with
     | true=>rw [hal rfl]at hwc; simp [hasN]at hwc
     | false =>
      simp only
      rw [show(wr.any fun x=>Nat.beq x c)=true from hwc,Bool.or_true]
    ·rw [if_neg hwc]at h2
     split at h2
     ·rename_i hlk
      exact .inr (.inl ⟨hlk,o1,h1,.inl h2⟩)
     ·exact .inl h2
   ·intro c ob hd hg
    rw [hD c ob hd hg]
    rcases(keepB_spec (n:=V'.n) (p:=mv) ((V'.get c).getD .dead)).2 with h1 | ⟨h1,h2⟩
    ·exact .inl h1
    ·rw [h1]
     cases hv:V'.get c with
     | none=>exact .inl rfl
     | some o2=>exact .inr rfl
  split at h
  ·exact main _ _ false (fun h=>by simp at h) h
  ·exact main _ _ true (fun _=>rfl) h
 ·rename_i hw
  split at h
  case h_2=>simp at h
  rename_i t' hp
  simp only [Option.some.injEq]at h
  subst h
  obtain⟨p1,p2,p3⟩:=hput t t' ud hp
  refine⟨ud,⟨i,b,M.n,M.n,[],[],false,[]⟩,rfl,rfl,rfl,rfl,rfl,fun h=>by simp at h,fun c hc=>by simp [hasN]at hc,p1,p2,p3,hwf,Nat.le_refl _,?_,fun _ _=>rfl,rfl,rfl,?_,?_,fun c hc=>absurd hc (Nat.not_lt_zero c),.inl ⟨by simpa using hw,rfl,rfl,?_⟩⟩
  ·intro c hc
   simp [lookA]at hc
  ·intro c ob hd
   exfalso
   simp only [hasN,List.any_nil,Bool.false_or,Bool.and_eq_true,blt_eq,decide_eq_true_eq]at hd
   have:=Nat.le_of_ble_eq_true hd.1
   omega
  ·intro c ob hd
   exfalso
   simp only [hasN,List.any_nil,Bool.false_or,Bool.and_eq_true,blt_eq,decide_eq_true_eq]at hd
   have:=Nat.le_of_ble_eq_true hd.1
   omega
  ·intro c
   cases hd:(hasN [] c || (Nat.ble M.n c && Nat.blt c M.n))with
   | false=>rfl
   | true =>
    exfalso
    simp only [hasN,List.any_nil,Bool.false_or,Bool.and_eq_true,blt_eq,decide_eq_true_eq]at hd
    have:=Nat.le_of_ble_eq_true hd.1
    omega
theorem anyGo_trace (L:Nat) (ws:Wrs):∀(l:List ((ROper×Nat)×Option FootF)) (i:Nat) (s s':AS),anyGo P ev L ws l i s=some s' →
  ∃Tr:Nat→AS,Tr 0=s∧Tr l.length=s'∧∀(j:Nat) (x:(ROper×Nat)×Option FootF),l[j]?=some x→anyOne P ev L ws x (i+j) (Tr j)=some (Tr (j+1))
 | [],i,s,s',h=>by
  have h':some s=some s':=h
  simp only [Option.some.injEq]at h'
  exact⟨fun _=>s,rfl,h',fun j x hx=>by simp at hx⟩
 | y :: l,i,s,s',h=>by
  unfold anyGo at h
  split at h
  case h_2=>simp at h
  rename_i q he
  rw [fnat_eq]at h
  obtain⟨Tr,h1,h2,h3⟩:=anyGo_trace L ws l (i+1) q s' h
  refine⟨fun j=>match j with | 0=>s | j+1=>Tr j,rfl,h2,?_⟩
  intro j x hx
  cases j with
  | zero =>
   simp only [List.getElem?_cons_zero,Option.some.injEq]at hx
   subst hx
   simp only [Nat.add_zero,he,h1]
  | succ j =>
   have:=h3 j x (by simpa using hx)
   rw [show i+(j+1)=i+1+j by omega]
   exact this
def entAt (Tr:Nat→AS) (j:Nat):Ent:=match (Tr (j+1)).log with
 | e :: _=>e
 | []=>⟨0,0,0,0,[],[],false,[]⟩
theorem anyR_ok (hev:EvOk P ev) (hN:NoOwn P) {l:List ROper} (hl2:omap (decOper P ops) ops.toList=some l) (hcheck1:edgesB P ops=true)
  (hcheck2:allBut (List.take (planTail (Region.before ops).toList ops.size) (ops.toList.zip (Region.before ops).toList)) ops=true)
  {pre:List (ROper×Nat)} {post:List ROper} {fts:List (Option FootF)} (hfts:fts.length=ops.size) (hpre:ltake (planTail (Region.before ops).toList ops.size) (l.zip (Region.before ops).toList)=some pre) (hpost:ldrop (planTail (Region.before ops).toList ops.size) l=some post)
  {ws:Wrs} {w:World} {t t':RT} {W W':RW} (hreg:anyR P ev (pre.zip fts) post ws t W=some (t',W')) {m:Nat→Loc} {fr:Frame} {cs:List Frame} {K:List Item} {tp:Nat} (hr:Rel m W w) (hl:tlt W.n t) (htr:TR m t fr.tmps) (hm:fr.mode=.run)
  (htd:fr.todo=.inRegion ops (Region.schedule (P.follows .mixedOrders) ops tp) :: K) :
  ∃m' w' tm,Steps P (lone fr cs w) (lone { fr with tmps:=tm,todo:=K } cs w')∧Rel m' W' w'∧Post m W w m' W' w'∧tlt W'.n t'∧TR m' t' tm:=by
 obtain⟨hlen,hlall⟩:=decRegs_ok hl2
 obtain⟨hE,hmix⟩:=edges_ok hcheck1
 obtain⟨hp1,hp2⟩:=ltake_spec _ _ hpre
 obtain⟨hq1,hq2⟩:=ldrop_spec _ _ hpost
 unfold anyR at hreg
 split at hreg
 case h_2=>simp at hreg
 rename_i sk hgo
 split at hreg
 case isFalse=>simp at hreg
 rename_i hapart
 obtain⟨Tr,ht0,htk,htrace⟩:=anyGo_trace W.n ws (pre.zip fts) 0 _ _ hgo
 generalize hkdef:planTail (Region.before ops).toList ops.size=k at *
 have hk:k≤ops.size:=by rw [← hkdef]; exact planTail_le _ _
 have hzip:(l.zip (Region.before ops).toList).length=ops.size:=by simp [hlen,before_size]
 have hprelen:pre.length=k:=by rw [hp2,List.length_take]; omega
 have hzlen:(pre.zip fts).length=k:=by rw [List.length_zip]; omega
 rw [hzlen]at htk
 have hget:∀j,j < k→∃o ro ft,ops[j]?=some o∧OpOk P ops o ro∧(pre.zip fts)[j]?=some ((ro,(Region.before ops).getD j 0),ft):=by
  intro j hj
  have hjl:j < l.length:=by omega
  have hjb:j < (Region.before ops).toList.length:=by rw [Array.length_toList,before_size]; omega
  obtain⟨o,ho,hok⟩:=hlall j l[j] (List.getElem?_eq_getElem hjl)
  have hpj:pre[j]?=some (l[j],(Region.before ops).getD j 0):=by
   rw [hp2,List.getElem?_take,if_pos hj,List.getElem?_zip_eq_some (z:=(l[j],(Region.before ops).toList[j])) |>.2 ⟨List.getElem?_eq_getElem hjl,List.getElem?_eq_getElem hjb⟩]
   rw [Array.getD_eq_getD_getElem?,← Array.getElem?_toList,List.getElem?_eq_getElem hjb]
   rfl
  have hjf:j < fts.length:=by omega
  exact⟨o,l[j],fts[j],ho,hok,List.getElem?_zip_eq_some (z:=((l[j],(Region.before ops).getD j 0),fts[j])) |>.2 ⟨hpj,List.getElem?_eq_getElem hjf⟩⟩
 have hstep:∀j,j < k→(Tr j).M.wf→∃o ro x,ops[j]?=some o∧OpOk P ops o ro∧(Tr (j+1)).log=entAt Tr j :: (Tr j).log∧(entAt Tr j).j=j∧(entAt Tr j).bits=bitsOf ops j∧(entAt Tr j).lo=(Tr j).M.n∧(entAt Tr j).hi=(Tr (j+1)).M.n ∧
   ((entAt Tr j).al=true→(entAt Tr j).wr=[])∧(∀c,hasN (entAt Tr j).wr c=true→c < (Tr j).M.n) ∧
   AStep 0 P ev (Tr j).t (Tr (j+1)).t (Tr j).M (Tr (j+1)).M (fun c=>hasN (entAt Tr j).wr c || (Nat.ble (Tr j).M.n c && Nat.blt c (Tr (j+1)).M.n))
    (fun c=>lookA W.n (bitsOf ops j) (Tr j).log (Tr j).M.n (entAt Tr j).rd (entAt Tr j).wr (entAt Tr j).al (entAt Tr j).ex c) (fun c=>seenA W.n (bitsOf ops j) (Tr j).log c) o ro x:=by
  intro j hj hwf
  obtain⟨o,ro,ft,ho,hok,hpj⟩:=hget j hj
  have h1:=htrace j _ hpj
  rw [Nat.zero_add]at h1
  obtain⟨x,e,g1,g2,g3,g4,g5,g6,g7,g8⟩:=anyOne_ok hok.put hwf h1
  have he:entAt Tr j=e:=by unfold entAt; rw [g1]
  rw [he]
  exact⟨o,ro,x,ho,hok,g1,g2,g3,g4,g5,g6,g7,g8⟩
 have hwf:∀j,j≤k→(Tr j).M.wf:=by
  intro j
  induction j with
  | zero=>intro _; rw [ht0]; exact hr.wf
  | succ j ih =>
   intro hj
   obtain⟨_,_,_,_,_,_,_,_,_,_,_,_,st⟩:=hstep j (by omega) (ih (by omega))
   exact st.wf
 have hS:=fun j hj=>hstep j hj (hwf j (by omega))
 have hmono:∀i j,i≤j→j≤k→(Tr i).M.n≤(Tr j).M.n:=by
  intro i j hij
  induction j with
  | zero=>intro _; rw [show i=0 by omega]; exact Nat.le_refl _
  | succ j ih =>
   intro hj
   rcases Nat.lt_or_ge i (j+1)with h1 | h1
   ·obtain⟨_,_,_,_,_,_,_,_,_,_,_,_,st⟩:=hS j (by omega)
    exact Nat.le_trans (ih (by omega) (by omega)) st.mono
   ·rw [show i=j+1 by omega]; exact Nat.le_refl _
 have hlog:∀j,j≤k→(∀e∈(Tr j).log,∃i,i < j∧e=entAt Tr i)∧∀i,i < j→entAt Tr i∈(Tr j).log:=by
  intro j
  induction j with
  | zero =>
   intro _
   rw [ht0]
   exact⟨fun e he=>by simp at he,fun i hi=>by omega⟩
  | succ j ih =>
   intro hj
   obtain⟨_,_,_,_,_,hl1,_⟩:=hS j (by omega)
   obtain⟨i1,i2⟩:=ih (by omega)
   rw [hl1]
   refine⟨fun e he=>?_,fun i hi=>?_⟩
   ·rcases List.mem_cons.1 he with rfl | he
    ·exact⟨j,by omega,rfl⟩
    ·obtain⟨i,h1,h2⟩:=i1 e he
     exact⟨i,by omega,h2⟩
   ·by_cases hij:i=j
    ·subst hij; exact List.mem_cons_self
    ·exact List.mem_cons_of_mem _ (i2 i (by omega))
 have hap:∀j,j≤k→apartL (Tr j).log=true:=by
  intro j hj
  have key:∀d,d≤k→apartL (Tr (k-d)).log=true:=by
   intro d
   induction d with
   | zero=>intro _; rw [Nat.sub_zero,htk]; exact hapart
   | succ d ih =>
    intro hd
    have h1:=ih (by omega)
    obtain⟨_,_,_,_,_,hl1,_⟩:=hS (k-(d+1)) (by omega)
    rw [show k-(d+1)+1=k-d by omega]at hl1
    rw [hl1]at h1
    unfold apartL at h1
    rw [Bool.and_eq_true]at h1
    exact h1.2
  have:=key (k-j) (by omega)
  rwa [show k-(k-j)=j by omega]at this
 have hpair:∀i j,i < j→j < k→apartE (entAt Tr i) (entAt Tr j)=true:=by
  intro i j hij hj
  obtain⟨_,_,_,_,_,hl1,_⟩:=hS j hj
  have h1:=hap (j+1) (by omega)
  rw [hl1]at h1
  unfold apartL at h1
  rw [Bool.and_eq_true]at h1
  exact List.all_eq_true.1 h1.1 _ ((hlog j (by omega)).2 i hij)
 have hM0:(Tr 0).M=W:=by rw [ht0]
 have hT0:(Tr 0).t=t:=by rw [ht0]
 have hrange:∀(lo hi c:Nat),(Nat.ble lo c && Nat.blt c hi)=true↔lo≤c∧c < hi:=by
  intro lo hi c
  rw [Bool.and_eq_true,blt_eq,decide_eq_true_eq]
  exact⟨fun h=>⟨Nat.le_of_ble_eq_true h.1,h.2⟩,fun h=>⟨Nat.ble_eq_true_of_le h.1,h.2⟩⟩
 have hseen:∀i j b,i < k→j < k→seenA W.n (bitsOf ops j) (Tr j).log b=true→(Tr i).M.n≤b→b < (Tr (i+1)).M.n→(bitsOf ops j).testBit i=true:=by
  intro i j b hi hj hs h1 h2
  have hWi:W.n≤(Tr i).M.n:=by
   have:=hmono 0 i (by omega) (by omega)
   rwa [hM0]at this
  unfold seenA at hs
  rw [Bool.or_eq_true,blt_eq,decide_eq_true_eq]at hs
  rcases hs with hs | hs
  ·omega
  ·rw [List.any_eq_true]at hs
   obtain⟨e,he,hs⟩:=hs
   rw [Bool.and_eq_true,hrange]at hs
   obtain⟨i2,h3,rfl⟩:=(hlog j (by omega)).1 e he
   obtain⟨_,_,_,_,_,_,g1,_,g3,g4,_,_,_⟩:=hS i2 (by omega)
   rw [g1,g3,g4]at hs
   have:i2=i:=by
    rcases Nat.lt_trichotomy i2 i with h4 | h4 | h4
    ·have:=hmono (i2+1) i (by omega) (by omega); omega
    ·exact h4
    ·have:=hmono (i+1) i2 (by omega) (by omega); omega
   rw [← this]
   exact hs.2
 have hA:Any 0 P ev ops k (fun j=>(Tr j).t) (fun j=>(Tr j).M) (fun j c=>hasN (entAt Tr j).wr c || (Nat.ble (Tr j).M.n c && Nat.blt c (Tr (j+1)).M.n))
   (fun j c=>lookA W.n (bitsOf ops j) (Tr j).log (Tr j).M.n (entAt Tr j).rd (entAt Tr j).wr (entAt Tr j).al (entAt Tr j).ex c) (fun j c=>seenA W.n (bitsOf ops j) (Tr j).log c):=by
  refine⟨hk,?_,?_,?_,?_⟩
  ·intro i hi
   obtain⟨o,ro,x,ho,hok,_,_,_,_,_,_,_,st⟩:=hS i hi
   exact⟨o,ro,x,ho,hok,st⟩
  ·intro i j oi oj hi hj hij hoi hoj d hd
   have hel:∀n on,n < k→ops[n]?=some on→((ops.toList.zip (Region.before ops).toList).take k)[n]?=some (on,(Region.before ops).getD n 0):=by
    intro n on hn hon
    have hnb:n < (Region.before ops).toList.length:=by rw [Array.length_toList,before_size]; omega
    rw [List.getElem?_take,if_pos hn,List.getElem?_zip_eq_some (z:=(on,(Region.before ops).toList[n])) |>.2 ⟨by simpa using hon,List.getElem?_eq_getElem hnb⟩]
    rw [Array.getD_eq_getD_getElem?,← Array.getElem?_toList,List.getElem?_eq_getElem hnb]
    rfl
   exact allBut_ok hcheck2 (hel i oi hi hoi) (hel j oj hj hoj) hij hd
  ·intro i j b hi hj hij hd hdf
   obtain⟨_,_,_,_,_,_,i1,i2,i3,i4,i5,i6,sti⟩:=hS i hi
   obtain⟨_,_,_,_,_,_,j1,j2,j3,j4,j5,j6,stj⟩:=hS j hj
   have hcases:∀n:Nat,(hasN (entAt Tr n).wr b || (Nat.ble (Tr n).M.n b && Nat.blt b (Tr (n+1)).M.n))=true→hasN (entAt Tr n).wr b=true∨((Tr n).M.n≤b∧b < (Tr (n+1)).M.n):=by
    intro n h
    rw [Bool.or_eq_true,hrange]at h
    exact h
   have hlook:∀n:Nat,lookA W.n (bitsOf ops n) (Tr n).log (Tr n).M.n (entAt Tr n).rd (entAt Tr n).wr (entAt Tr n).al (entAt Tr n).ex b=true→b < (Tr n).M.n∧touchB (entAt Tr n) b=true ∧
     ((entAt Tr n).al=true→seenA W.n (bitsOf ops n) (Tr n).log b=true)∧((entAt Tr n).al=false→hasN (entAt Tr n).rd b=true∨hasN (entAt Tr n).wr b=true):=by
    intro n h
    unfold lookA at h
    rw [Bool.and_eq_true,blt_eq,decide_eq_true_eq]at h
    refine⟨h.1,?_⟩
    have h2:=h.2
    unfold touchB
    cases hal:(entAt Tr n).al with
    | true =>
     rw [hal]at h2
     simp only [Bool.and_eq_true]at h2
     refine⟨?_,fun _=>h2.1,fun h=>by simp at h⟩
     rw [Bool.or_eq_true]
     exact .inr h2.2
    | false =>
     rw [hal]at h2
     simp only [Bool.or_eq_true]at h2
     have h2':hasN (entAt Tr n).rd b=true∨hasN (entAt Tr n).wr b=true:=h2
     refine⟨?_,fun h=>by simp at h,fun _=>h2'⟩
     rw [Bool.or_eq_true]
     exact h2'.symm
   have htouchw:∀n:Nat,hasN (entAt Tr n).wr b=true→touchB (entAt Tr n) b=true:=fun n h=>by unfold touchB; rw [h]; rfl
   have hnot:∀ {l:List Nat} {q:Nat→Bool},l.all (fun c=>!q c)=true→hasN l b=true→q b=false:=by
    intro l q h1 h2
    have:=List.all_eq_true.1 h1 b (hasN_iff.1 h2)
    simpa using this
   rcases Nat.lt_or_gt_of_ne hij with hlt | hlt
   ·
    have hp:=hpair i j hlt hj
    unfold apartE at hp
    rw [Bool.or_eq_true,j2,i1]at hp
    rcases hp with hp | hp
    ·exact .inl hp
    ·simp only [Bool.and_eq_true]at hp
     obtain⟨⟨q1,q2⟩,q3,q4⟩:=hp
     have hmij:=hmono (i+1) j (by omega) (by omega)
     rcases hcases i hd with hw | hn
     ·exfalso
      have hbi:=i6 b hw
      have ht:=hnot q1 hw
      have hmi:=hmono i j (by omega) (by omega)
      rcases hdf with hdf | hdf
      ·rcases hcases j hdf with hw2 | hn2
       ·rw [htouchw j hw2]at ht; simp at ht
       ·omega
      ·rw [(hlook j hdf).2.1]at ht; simp at ht
     ·have hin:(Nat.ble (entAt Tr i).lo b && Nat.blt b (entAt Tr i).hi)=true:=by rw [hrange,i3,i4]; exact hn
      have noW:hasN (entAt Tr j).wr b=true→False:=fun hw2=>by
       have:=hnot q3 hw2
       rw [hin]at this; simp at this
      rcases hdf with hdf | hdf
      ·rcases hcases j hdf with hw2 | hn2
       ·exact(noW hw2).elim
       ·omega
      ·obtain⟨f1,f2,f3,f4⟩:=hlook j hdf
       cases hal:(entAt Tr j).al with
       | true=>exact .inl (hseen i j b hi hj (f3 hal) hn.1 hn.2)
       | false =>
        rcases f4 hal with hr2 | hw2
        ·rw [hal,Bool.false_or]at q4
         have:=hnot q4 hr2
         rw [hin]at this; simp at this
        ·exact(noW hw2).elim
   ·
    have hp:=hpair j i hlt hi
    unfold apartE at hp
    rw [Bool.or_eq_true,i2,j1]at hp
    rcases hp with hp | hp
    ·exact .inr hp
    ·exfalso
     simp only [Bool.and_eq_true]at hp
     obtain⟨⟨q1,q2⟩,q3,q4⟩:=hp
     have hmij:=hmono (j+1) i (by omega) (by omega)
     have hmji:=hmono j i (by omega) (by omega)
     rcases hcases i hd with hw | hn
     ·have ht:=hnot q2 hw
      rcases hdf with hdf | hdf
      ·rcases hcases j hdf with hw2 | hn2
       ·rw [htouchw j hw2]at ht; simp at ht
       ·have h3:=hnot q3 hw
        have hin:(Nat.ble (entAt Tr j).lo b && Nat.blt b (entAt Tr j).hi)=true:=by rw [hrange,j3,j4]; exact hn2
        rw [hin]at h3; simp at h3
      ·rw [(hlook j hdf).2.1]at ht; simp at ht
     ·rcases hdf with hdf | hdf
      ·rcases hcases j hdf with hw2 | hn2
       ·have:=j6 b hw2; omega
       ·omega
      ·have:=(hlook j hdf).1; omega
  ·intro i j b hi hj hs h1 h2
   exact hseen i j b hi hj hs h1 h2
 have hsched:∃tp',Region.schedule (P.follows .mixedOrders) ops tp=Region.linearise.go .any ops ops.size tp' (Array.replicate ops.size false) []:=by
  unfold Region.schedule
  rw [if_pos hmix]
  exact⟨_,rfl⟩
 obtain⟨tp',hs2⟩:=hsched
 rw [hs2]at htd
 obtain⟨m1,w1,arr1,st1,hr1,hp1',hlt1,htr1⟩:=hA.first_ok hev hN hE hkdef.symm (m:=m) (fr:=fr) (cs:=cs) (K:=K) (tp:=tp') (w:=w) (by rw [hM0]; exact hr) (by rw [hM0,hT0]; exact hl) (by rw [hT0]; exact htr) hm htd
 rw [htk]at hr1 hp1' hlt1 htr1
 rw [hM0]at hp1'
 have hpl:post.length=ops.size-k:=by rw [hq2,List.length_drop,hlen]
 obtain⟨m2,w2,tm,st2,hr2,hp2',hl3,ht3⟩:=seqR_ok hev hN post (List.range' k (ops.size-k)) sk.t t' _ W' hreg (by rw [hpl]; simp) (fun j i ro hi hro=>by
  have hij:i=k+j:=by
   have:=(List.getElem?_eq_some_iff.1 hi).2
   simp at this
   exact this.symm
  subst hij
  rw [hq2,List.getElem?_drop]at hro
  exact hlall _ ro hro) m1 w1 { fr with tmps:=arr1,todo:=.inRegion ops (List.range' k (ops.size-k)) :: K } cs K hr1 hlt1 htr1 hm rfl
 exact⟨m2,w2,tm,st1.trans st2,hr2,hp1'.trans hp2',hl3,ht3⟩
theorem drawOk (hN:NoOwn P):DrawOk P:=by
 intro ev hev ops r t t' W W' hdec hreg m w fr cs K tp hr hl htr hm htd
 unfold decReg at hdec
 split at hdec
 ·rename_i l hl2
  simp only [if_true]at hdec
  split at hdec
  ·rename_i hcheck
   rw [Bool.and_eq_true]at hcheck
   split at hdec
   ·rename_i pre post hpre hpost
    split at hdec
    ·simp only [Option.some.injEq]at hdec
     subst hdec
     unfold regR at hreg
     simp only at hreg
     split at hreg
     ·exact anyR_ok hev hN hl2 hcheck.1 hcheck.2 (by simp) hpre hpost hreg hr hl htr hm htd
     ·exact anyR_ok hev hN hl2 hcheck.1 hcheck.2 (by simp) hpre hpost hreg hr hl htr hm htd
    ·rw [fbool_eq]at hdec
     simp only [Option.some.injEq]at hdec
     subst hdec
     unfold regR at hreg
     simp only at hreg
     split at hreg
     ·split at hreg
      ·rename_i hch
       refine drawR_ok hev hN hl2 hcheck.1 hcheck.2 hpre hpost ?_ hreg hr hl htr hm htd
       intro i c bi j d bj h1 h2 hij
       unfold chainB at hch
       have h3:=List.all_eq_true.1 hch _ h1
       have h4:=List.all_eq_true.1 h3 _ h2
       simpa [blt_eq,hij] using h4
      ·simp at hreg
     ·exact drawR_ok hev hN hl2 hcheck.1 hcheck.2 hpre hpost (by simp) hreg hr hl htr hm htd
   ·simp at hdec
  ·simp at hdec
 ·simp at hdec
variable {m:Nat→Loc} {W:RW} {w:World}
theorem ev_ok (hN:NoOwn P) (n:Nat):EvOk P (evR P n):=evR_ok hN (drawOk hN) n
theorem CallOk.calls {g:FuncId} {args:List RV} {W':RW} {x:RV} (h:CallOk P g args W x W') {m:Nat→Loc} (hr:Rel m W w) (hb:belowL W.n args=true) {R:Ending→World→Prop}
  (hR:∀m' w',Rel m' W' w'→Post m W w m' W' w'→below W'.n x=true→R (.returned (rv m' x)) w'):Calls P g (args.map (rv m)).toArray w R:=by
 intro cs
 obtain⟨m',w',fr,st,hlv,hfn,hr',hp,hx⟩:=h m w cs hr hb
 exact⟨_,w',fr,hR m' w' hr' hp hx,st,hfn,hlv⟩
omit [Env] in
theorem Post.below {m m':Nat→Loc} {W':RW} {w':World} (h:Post m W w m' W' w') (ho:∀b o,W.get b=some o→o.own=false):RowKit.Below w.heap.size w w':=
 ⟨h.os,h.tape,h.output,h.size,fun r hr=>h.keep r hr fun b o hb hown=>by rw [ho b o hb]at hown; simp at hown⟩
end
end Go.Rv
namespace Go.Rv
open Go
section
theorem Post.toStill {m m':Nat→Loc} {W W':RW} {w w':World} (h:Post m W w m' W' w') (ho:∀b o,W.get b=some o→o.own=false):Still w w':=
 ⟨h.size,fun r hr=>h.keep r hr fun b o hb hown=>by rw [ho b o hb]at hown; simp at hown,h.os,h.tape,h.output⟩
end
theorem lift_ok {e1 e2:Env} (he:e1.ids=[]) {P:Program} {g:FuncId} {args:List RV} {x:RV} {W1:RW} (h:@CallOk e1 P g args (blank 0) x W1) (ha:belowL 0 args=true) (hx:below 0 x=true) (W:RW):@CallOk e2 P g args W x W:=by
 intro m w cs hr hb
 have hr0:@Rel e1 m (blank 0) w:=by
  refine @Rel.mk e1 _ _ _ rfl ?_ ?_ ?_ ?_
  ·intro b o hb
   rw [blank_get hb]; trivial
  ·intro b o hb
   rw [blank_get hb]; trivial
  ·intro a b x y ha _ hx
   rw [blank_get ha]at hx
   simp [RObj.own]at hx
  ·intro i g hi
   rw [he]at hi
   simp at hi
 obtain⟨m',w',fr,st,hl,hf,hr',hp,hx'⟩:=h m w cs hr0 ha
 have hst:=hp.toStill fun b o hb=>by rw [blank_get hb]; rfl
 have hv:rv m' x=rv m x:=rv_agree (n:=0) (fun b hb=>absurd hb (Nat.not_lt_zero b)) x hx
 rw [hv]at hl
 exact⟨m,w',fr,st,hl,hf,@Rel.still e2 m W w w' hr hst,(Post.refl m W w).still hst,below_mono (Nat.zero_le _) _ hx⟩
theorem Rel.conv {e1 e2:Env} (h:e1.ids=e2.ids) {m:Nat→Loc} {W:RW} {w:World} (hr:@Rel e1 m W w):@Rel e2 m W w:=by
 cases hr with
 | mk h1 h2 h3 h4 h5=>exact @Rel.mk e2 m W w h1 h2 h3 h4 (by rw [← h]; exact h5)
theorem conv_ok {e1 e2:Env} (h:e1.ids=e2.ids) {P:Program} {g:FuncId} {args:List RV} {W W':RW} {x:RV} (hc:@CallOk e1 P g args W x W'):@CallOk e2 P g args W x W':=by
 intro m w cs hr hb
 obtain⟨m',w',fr,st,hl,hf,hr',hp,hx⟩:=hc m w cs (@Rel.conv e2 e1 h.symm m W w hr) hb
 exact⟨m',w',fr,st,hl,hf,@Rel.conv e1 e2 h _ _ _ hr',hp,hx⟩
structure Memo where
 g:FuncId
 key:Nat
 args:List RV
 x:RV
noncomputable section
def sameCell:RV→RV→Bool
 | .v (.int j a),.v (.int k b)=>match decEq j k with
  | .isTrue _=>leB a b && leB b a
  | .isFalse _=>false
 | .v (.bool a),.v (.bool b)=>a == b
 | _,_=>false
def sameCells:List RV→List RV→Bool
 | [],[]=>true
 | x :: r,y :: s=>sameCell x y && sameCells r s
 | _,_=>false
def sameOne:RV→RV→Bool
 | .agg cs,.agg ds=>sameCells cs ds
 | x,y=>sameCell x y
def sameA:List RV→List RV→Bool
 | [],[]=>true
 | x :: r,y :: s=>sameOne x y && sameA r s
 | _,_=>false
def hashInt:Int→Nat
 | .ofNat n=>n
 | .negSucc n=>n
def hashCell:RV→Nat
 | .v (.int _ a)=>hashInt a
 | _=>0
def hashCells (l:List RV) (k:Nat):Nat:=List.rec (motive:=fun _=>Nat→Nat) (fun k=>k) (fun x _ ih k=>ih ((k*1000003+hashCell x) % 2305843009213693951)) l k
def hashA (l:List RV) (k:Nat):Nat:=List.rec (motive:=fun _=>Nat→Nat) (fun k=>k) (fun x _ ih k=>ih (match x with
 | .agg cs=>hashCells cs k
 | x=>(k*1000003+hashCell x) % 2305843009213693951)) l k
def memoFind (l:List Memo) (key:Nat) (args:List RV) (W:RW):Option (RV×RW):=match l with
 | []=>none
 | e :: r=>match Nat.beq e.key key with
  | true=>match sameA e.args args with
   | true=>some (e.x,W)
   | false=>memoFind r key args W
  | false=>memoFind r key args W
def memoRun (l:List (FuncId×List Memo)) (g:FuncId) (args:List RV) (W:RW):Option (RV×RW):=match l with
 | []=>none
 | e :: r=>match Nat.beq e.1 g with
  | true=>fnat (hashA args 0) fun k=>memoFind e.2 k args W
  | false=>memoRun r g args W
end
@[reducible] def plainEnv (ids:List Nat):Env:=⟨ids,fun _ _ _=>none⟩
@[reducible] noncomputable def memoEnv (ids:List Nat) (l:List (FuncId×List Memo)):Env:=⟨ids,memoRun l⟩
def Named (P:Program):Prop:=∀(g:FuncId) (fn:Func),P.funcs[g]?=some fn→(fn.name == "runtime.NumGoroutine")=false
theorem named_of {P:Program} (h:(P.funcs.toList.all fun fn=>!(fn.name == "runtime.NumGoroutine"))=true):Named P:=by
 intro g fn hg
 have:=List.all_eq_true.1 h fn (List.mem_of_getElem? (by simpa using hg:P.funcs.toList[g]?=some fn))
 simpa using this
theorem noOwn_plain {P:Program} (h:Named P) (ids:List Nat):@NoOwn (plainEnv ids) P:=
 @NoOwn.mk (plainEnv ids) P h (fun g args W x W' hx=>by exact absurd hx (by simp))
def Memo.Ok (P:Program) (e:Memo):Prop:=(∀ids W,@CallOk (plainEnv ids) P e.g e.args W e.x W)∧∃fn,P.funcs[e.g]?=some fn∧fn.body.isSome=true
theorem memo_of {P:Program} {e:Env} (he:e.ids=[]) (hN:@NoOwn e P) (n:Nat) {m:Memo} (h:(@callF e P (@evR e P n) m.g m.args (blank 0)).map (·.1)=some m.x) (ha:belowL 0 m.args=true) (hx:below 0 m.x=true):m.Ok P:=by
 cases hc:@callF e P (@evR e P n) m.g m.args (blank 0)with
 | none=>rw [hc]at h; simp at h
 | some q =>
  obtain⟨y,W1⟩:=q
  rw [hc]at h
  simp only [Option.map_some,Option.some.injEq]at h
  subst h
  obtain⟨h1,h2⟩:=@callF_ok e P _ hN (@ev_ok e P hN n) _ _ _ _ _ hc
  exact⟨fun ids W=>lift_ok he h1 ha hx W,h2⟩
abbrev Tabs:=List (Nat×IntKind×List Int)
def tabRw (l:Tabs):RW:=⟨l.length,(l.map fun t=>RObj.cells (t.2.2.map fun z=>.v (.int t.2.1 z)) .ro).reverse⟩
def TabsAt (l:Tabs) (w:World):Prop:=∀t∈l,∃ty fz,w.heap[t.1]?=some (.cells (t.2.2.map fun z=>Value.int t.2.1 z).toArray ty fz)
theorem tabRw_get {l:Tabs} {b:Nat} {o:RObj} (h:(tabRw l).get b=some o):∃t,l[b]?=some t∧o=.cells (t.2.2.map fun z=>.v (.int t.2.1 z)) .ro:=by
 unfold tabRw RW.get at h
 simp only [blt_eq,decide_eq_true_eq,lget_eq]at h
 split at h
 ·rename_i hb
  rw [List.getElem?_reverse (by rw [List.length_map]; omega)]at h
  simp only [List.length_map,List.getElem?_map]at h
  rw [show l.length-1-(l.length-1-b)=b by omega]at h
  cases ht:l[b]? with
  | none=>rw [ht]at h; simp at h
  | some t =>
   rw [ht]at h
   simp only [Option.map_some,Option.some.injEq]at h
   exact⟨t,rfl,h.symm⟩
 ·simp at h
theorem tabRel {e:Env} {l:Tabs} (hids:e.ids=l.map (·.1)) {w:World} (h:TabsAt l w):∃m,@Rel e m (tabRw l) w:=by
 refine⟨fun b=>match l[b]? with | some t=>⟨t.1,0,t.2.2.length⟩ | none=>⟨0,0,0⟩,@Rel.mk e _ _ _ ?_ ?_ ?_ ?_ ?_⟩
 ·simp [RW.wf,tabRw]
 ·intro b o hb
  obtain⟨t,ht,rfl⟩:=tabRw_get hb
  obtain⟨ty,fz,hh⟩:=h t (List.mem_of_getElem? ht)
  simp only [ht]
  refine⟨_,ty,fz,hh,?_,fun hk _=>absurd rfl hk,by simp,by simp,fun hk=>by simp at hk⟩
  intro j x hj
  simp only [List.getElem?_map,Option.map_eq_some_iff]at hj
  obtain⟨z,hz,rfl⟩:=hj
  simp [hz,rv]
 ·intro b o hb
  obtain⟨t,ht,rfl⟩:=tabRw_get hb
  refine(belowC_iff _ _).2 fun x hx=>?_
  obtain⟨z,_,rfl⟩:=List.mem_map.1 hx
  exact⟨rfl,rfl⟩
 ·intro a b x y ha _ hx
  obtain⟨t,ht,rfl⟩:=tabRw_get ha
  simp [RObj.own]at hx
 ·intro i g hi
  rw [hids,List.getElem?_map]at hi
  cases ht:l[i]? with
  | none=>rw [ht]at hi; simp at hi
  | some t =>
   rw [ht]at hi
   simp only [Option.map_some,Option.some.injEq]at hi
   exact⟨(List.getElem?_eq_some_iff.1 ht).1,hi,rfl⟩
end Go.Rv
namespace Go.Rv
open Go Go.RowKit Go.WideShapes Go.ChangeShapes
theorem post_new {H:Type} {enc:TypeId×Value→H} {P:Program} {f:Func} {s:ChangeSpec} {apart fresh handsOn again:Bool} {W W':World} {args:Array Value} {v:Value} {ds gs:List (DataW H)} {before pa pv:List MemPlace}
  (hW:DataW.Whole enc P f.params.toList s.vars apart W args.toList ds gs before)
  (hr:∀(b:Nat) (sp:Nat→Bool) (hd:Bool),DataW.TrodAll enc P W' b sp hd f.resultTypes.toList (v.resultList f.resultTypes.size) (s.fn H (ds++gs)).results [])
  (ha:∀sp:Nat→Bool,(∀p∈before,sp p.block=true)→DataW.TrodAll enc P W' 0 sp true f.params.toList args.toList (s.fn H (ds++gs)).args pa)
  (hv:∀sp:Nat→Bool,(∀p∈before,sp p.block=true)→DataW.TrodVars enc P W' sp s.vars (s.fn H (ds++gs)).vars pv)
  (hp:before=pa++pv) (hb:Below W.heap.size W W')
  (hok:∀(j:Nat) (t:TypeId) (r:Value),f.resultTypes[j]?=some t→(v.resultList f.resultTypes.size)[j]?=some r→Value.okWide P W' .any 0 t r) :
  s.post enc P f apart fresh handsOn again W args v W':=by
 have hlt:∀p∈before,p.block < W.heap.size:=fun p hp=>hW.lt p hp
 have hold:∀p∈before,(fun b=>decide (b < W.heap.size)) p.block=true:=fun p hp=>by simpa using hlt p hp
 have hW2:=hW
 obtain⟨_,_,_,_,_,hz,hn⟩:=hW
 subst hp
 refine⟨ds,gs,pa++pv,[],pa,pv,?_,hr _ _ _,ha _ hold,hv _ hold,?_,fun _=>⟨hok,_,_,([]++pa)++pv,⟨[]++pa,pv,trodAll_append (ha _ fun _ _=>rfl) (hr _ _ _),hv _ fun _ _=>rfl,rfl,?_,?_⟩,?_⟩⟩
 ·exact hW2
 ·exact World.keptBut_mono (fun p hq=>⟨hq,by simpa using hq⟩) (hb.frame (·∈pa++pv))
 ·intro b off hin
  have hin':MemPlace.cell b off∈pa++pv:=by simpa using hin
  rw [hb.frozen (hlt _ hin')]
  exact hz b off hin'
 ·intro hap
  simpa using hn hap
 ·intro p hq _
  simpa using hq
end Go.Rv
