import Derived.Test.YtdnphbnnhfpphaaRvP1
import Derived.Laws.AppendOwn
import Derived.Lib.ConvBytes
import Derived.Lib.AppendZeros
import Derived.Orders
namespace Go.Rv
open Go
variable [Env]
section
variable {P:Program} {m:Nat→Loc} {t:RT} {W:RW} {arr:Array Value} {w:World} {e:Eff}
omit [Env] in
theorem filter_entries (m:Nat→Loc) (es:List (RV×RV×Nat)) (p:MapEntry→Bool) (q:RV×RV×Nat→Bool) (h:∀x,p (entryOf m x)=q x) :
  ((es.map (entryOf m)).toArray.filter p)=((es.filter q).map (entryOf m)).toArray:=by
 simp only [List.filter_toArray,List.filter_map]
 congr 2
 apply List.filter_congr
 intro x _
 exact h x
theorem xNext_ok {ty:TypeId} {x:RV} (hr:Rel m W w) (h:xNext W x=some e):EffOk P m W w (sv (Instr.next (rv m x) false ty)) e:=by
 unfold xNext at h
 split at h
 ·rename_i r
  split at h
  ·rename_i b since seen stepped hb
   unfold xNextM at h
   split at h
   ·rename_i b' es clock ro hm
    obtain⟨hbb,hmb⟩:=mapAt_spec hm
    cases hbb
    have hi:w.heap[(m r).blk]?=some (.mapIter (some (m b).blk) since seen.toArray stepped):=hr.obj r _ hb
    have ho:w.heap[(m b).blk]?=some (.map (es.map (entryOf m)).toArray clock):=hr.obj b _ hmb
    have hlt:∀x∈es,below W.n x.1=true∧below W.n x.2.1=true:=hr.lt b _ hmb
    have hblt:b < W.n:=get_lt hmb
    split at h
    ·rename_i hc
     obtain⟨hc1,hc2,hc3⟩:=hc
     subst hc1
     subst hc2
     have hguard:(!seen.toArray.isEmpty && !(es.map (entryOf m)).toArray.isEmpty && (es.map (entryOf m)).toArray.all (fun x=>decide (x.born≥stepped)))=false:=by
      have e1:(es.map (entryOf m)).toArray.all (fun x=>decide (x.born≥stepped))=es.all fun e=>Nat.ble stepped e.2.2:=by
       rw [← Array.all_toList,List.all_map]
       apply List.all_congr rfl
       intro x
       show decide (x.2.2≥stepped)=Nat.ble stepped x.2.2
       rw [Bool.eq_iff_iff,decide_eq_true_eq,Nat.ble_eq]
      rw [e1]
      cases h1:seen.isEmpty<;>cases h2:es.isEmpty<;>cases h3:(es.all fun e=>Nat.ble stepped e.2.2)<;>simp_all
     have hleft:=filter_entries m es (fun e=>!seen.toArray.contains e.born) (fun e=>!seen.contains e.2.2) (fun x=>by simp [entryOf])
     split at h
     ·rename_i hf
      simp only [Option.some.injEq]at h
      subst h
      refine⟨m,w,_,run_sv (v:=.tuple #[.bool false]) ?_,.inl (by simp [rv,rvL]),hr,Post.refl _ _ _,rfl⟩
      unfold Instr.next
      simp only [rv,Sem.run_bind,run_getIter hi,Result.andThen_ok,run_getMap ho]
      rw [hguard]
      simp only [Bool.false_eq_true,if_false,hleft,hf]
      simp [Question.forced]
     ·rename_i k y bn hf
      split at h
      ·rename_i hbn
       obtain⟨W',hset,rfl⟩:=wset_spec h
       have hmem:(k,y,bn)∈es:=by
        have:(k,y,bn)∈es.filter fun e=>!seen.contains e.2.2:=by rw [hf]; simp
        exact(List.mem_filter.1 this).1
       obtain⟨hrel,hpost⟩:=hr.setObj (o':=.miter b stepped (seen++[bn]) stepped) (x:=.mapIter (some (m b).blk) stepped (seen++[bn]).toArray stepped) hb rfl hset hblt (Array.getElem?_eq_some_iff.1 hi).1 (fun heap hh=>hh)
       refine⟨m,_,_,run_sv (v:=.tuple #[.bool true,rv m k,rv m y]) ?_,.inl (by simp [rv,rvL]),hrel,hpost,?_⟩
       ·unfold Instr.next
        simp only [rv,Sem.run_bind,run_getIter hi,Result.andThen_ok,run_getMap ho]
        rw [hguard]
        have hn:¬ (bn≥stepped):=by omega
        simp only [Bool.false_eq_true,if_false,hleft,hf]
        simp [entryOf,hbn,hn,Question.forced,run_setIter hi]
       ·have hn:=(set_spec hset).1
        have:=hlt _ hmem
        simp [below,belowL,hn,this]
      ·simp at h
     ·simp at h
    ·simp at h
   ·simp at h
  ·simp at h
 ·simp at h
theorem xEntry_ok {x:RV} (hr:Rel m W w) (h:xEntry W x=some e):EffOk P m W w (sv (Instr.entry (rv m x))) e:=by
 unfold xEntry at h
 split at h
 ·rename_i r
  split at h
  ·rename_i b since seen stepped hb
   split at h
   ·rename_i b' es clock ro stamp hm hst
    obtain⟨hbb,hmb⟩:=mapAt_spec hm
    cases hbb
    have hi:w.heap[(m r).blk]?=some (.mapIter (some (m b).blk) since seen.toArray stepped):=hr.obj r _ hb
    have ho:w.heap[(m b).blk]?=some (.map (es.map (entryOf m)).toArray clock):=hr.obj b _ hmb
    have hlt:∀x∈es,below W.n x.1=true∧below W.n x.2.1=true:=hr.lt b _ hmb
    split at h
    ·rename_i hc
     subst hc
     split at h
     ·rename_i k y bn hf
      simp only [Option.some.injEq]at h
      subst h
      have hfind:(es.map (entryOf m)).toArray.find? (fun e=>e.born == stamp)=some (entryOf m (k,y,bn)):=by
       rw [← Array.find?_toList,List.find?_map]
       have:(fun e=>e.born == stamp)∘entryOf m=fun e:RV×RV×Nat=>e.2.2 == stamp:=rfl
       rw [this,hf]
       rfl
      have:=hlt _ (List.mem_of_find?_eq_some hf)
      refine⟨m,w,_,run_sv (v:=.tuple #[rv m k,rv m y]) ?_,.inl (by simp [rv,rvL]),hr,Post.refl _ _ _,by simp [below,belowL,this]⟩
      unfold Instr.entry
      have hback:seen.toArray.back?=some stamp:=by simpa using hst
      simp only [rv,Sem.run_bind,run_getIter hi,Result.andThen_ok,hback,run_getMap ho]
      simp [hfind,entryOf]
     ·simp at h
    ·simp at h
   ·simp at h
  ·simp at h
 ·simp at h
theorem xExt_ok {i:Nat} {x:RV} (hb:below W.n x=true) (h:xExt i x=some e):EffOk P m W w (sv (Instr.extract (rv m x) i)) e:=by
 unfold xExt at h
 split at h
 ·rename_i cs
  obtain⟨y,hy,rfl⟩:=oval_ok h
  rw [lget_eq]at hy
  have hb':belowL W.n cs=true:=by simpa [below] using hb
  refine effOk_val ((belowL_iff _ _).1 hb' y (List.mem_of_getElem? hy)) ?_
  simp [Instr.extract,rv,rvL_eq,hy]
 ·simp at h
theorem xLenS_ok {ty aty el:TypeId} {x:RV} (hu:P.underlying ty=some (.slice el)) (h:xLenS x=some e):EffOk P m W w (sv (Builtin.len_ #[ty] aty #[rv m x])) e:=by
 unfold xLenS at h
 split at h
 ·simp only [Option.some.injEq]at h
  subst h
  refine effOk_val rfl ?_
  simp [Builtin.len_,run_underlying hu,rv,goInt]
 ·simp only [Option.some.injEq]at h
  subst h
  refine effOk_val rfl ?_
  simp [Builtin.len_,run_underlying hu,rv,goInt]
 ·simp at h
theorem xCap_ok {ty aty el:TypeId} {x:RV} (hu:P.underlying ty=some (.slice el)) (h:xCap x=some e):EffOk P m W w (sv (Builtin.cap_ #[ty] aty #[rv m x])) e:=by
 unfold xCap at h
 split at h
 ·simp only [Option.some.injEq]at h
  subst h
  refine effOk_val rfl ?_
  simp [Builtin.cap_,run_underlying hu,rv,goInt]
 ·simp at h
theorem xLenT_ok {ty aty:TypeId} {x:RV} (hu:P.underlying ty=some .string) (h:xLenT x=some e):EffOk P m W w (sv (Builtin.len_ #[ty] aty #[rv m x])) e:=by
 unfold xLenT at h
 split at h
 ·simp only [fnat_eq,Option.some.injEq]at h
  subst h
  refine effOk_val rfl ?_
  simp [Builtin.len_,run_underlying hu,rv,goInt]
 ·simp at h
theorem xLenM_ok {ty aty k el:TypeId} {x:RV} (hr:Rel m W w) (hu:P.underlying ty=some (.map k el)) (h:xLenM W x=some e):EffOk P m W w (sv (Builtin.len_ #[ty] aty #[rv m x])) e:=by
 unfold xLenM at h
 split at h
 ·rename_i b es clock ro hm
  obtain⟨rfl,hb⟩:=mapAt_spec hm
  have ho:w.heap[(m b).blk]?=some (.map (es.map (entryOf m)).toArray clock):=hr.obj b _ hb
  simp only [fnat_eq,Option.some.injEq]at h
  subst h
  refine effOk_val rfl ?_
  simp [Builtin.len_,run_underlying hu,rv,goInt,run_getMap ho]
 ·simp at h
theorem xNilc_ok {x:RV} (hb:below W.n x=true) (h:xNilc x=some e) (dst:Option Tmp) (p:Operand) (ty:TypeId) (pos:String) (af:Array Edge) (g:Option (Nat×Bool)) (ρ:Operand→Value) (hρ:ρ p=rv m x) :
  EffOk P m W w (execOp ρ ⟨dst,.nilCheck p,ty,pos,af,g⟩) e:=by
 unfold xNilc at h
 split at h
 ·simp only [Option.some.injEq]at h
  subst h
  exact⟨hb,_,by simp [execOp,hρ,rv],.inl rfl⟩
 ·simp at h
end
end Go.Rv
namespace Go.Rv
open Go
variable [Env]
section
variable {P:Program} {m:Nat→Loc} {t:RT} {W:RW} {arr:Array Value} {w:World} {e:Eff}
omit [Env] in
theorem growBy_le (need:Nat):∀(r c:Nat),c≤need→Builtin.growBy need r c≤need+(need+768) / 4
 | 0,c,h=>by simp only [Builtin.growBy]; omega
 | r+1,c,h=>by
  simp only [Builtin.growBy]
  split
  ·omega
  ·rename_i hc
   by_cases h2:c+(c+768) / 4≤need
   ·exact growBy_le need r _ h2
   ·have:∀r,Builtin.growBy need r (c+(c+768) / 4)=c+(c+768) / 4:=by
     intro r
     cases r with
     | zero=>rfl
     | succ r=>simp only [Builtin.growBy]; rw [if_pos (by omega)]
    rw [this]
    omega
omit [Env] in
theorem nextcap_le (need cap:Nat) (h:cap < need):Builtin.nextslicecap need cap≤2*need:=by
 unfold Builtin.nextslicecap
 split
 ·omega
 ·split
  ·omega
  ·have:=growBy_le need 4 cap (by omega)
   omega
theorem sliceCells_spec (hr:Rel m W w) {size n:Nat} {x:RV} {cs:List RV} (h0:0 < size) (h:sliceCells W size x=some (n,cs)) :
  cs.length=n*size∧belowC W.n cs=true ∧
  ((x=.v (.slice none 0 0)∧n=0∧cs=[]) ∨
   ∃b o c k,x=.sl b o n size∧W.get b=some (.cells c k)∧lcut c o (n*size)=some cs ∧
    (loadCells ⟨(m b).blk,(m b).off+o,none⟩ (n*size)).run P w=.ok (cs.map (rv m)).toArray w):=by
 unfold sliceCells at h
 split at h
 ·simp only [Option.some.injEq,Prod.mk.injEq]at h
  obtain⟨rfl,rfl⟩:=h
  exact⟨by simp,rfl,.inl ⟨rfl,rfl,rfl⟩⟩
 ·rename_i b o n' e'
  split at h
  ·rename_i he
   subst he
   split at h
   ·rename_i c hc
    obtain⟨k,hb⟩:=cellsAt_spec hc
    split at h
    ·rename_i l hl
     simp only [Option.some.injEq,Prod.mk.injEq]at h
     obtain⟨rfl,rfl⟩:=h
     obtain⟨h1,h2,h3⟩:=lcut_cells (P:=P) hr hb hl
     exact⟨h3,h2,.inr ⟨b,o,c,k,rfl,hb,hl,h1⟩⟩
    ·simp at h
   ·simp at h
  ·simp at h
 ·simp at h
theorem firstCells_run (hr:Rel m W w) {size n:Nat} {x:RV} {cs:List RV} (h0:0 < size) (h:sliceCells W size x=some (n,cs)) :
  (Builtin.firstCells size n (rv m x)).run P w=.ok (cs.map (rv m)).toArray w∧(Builtin.lenOf (rv m x)).run P w=.ok n w:=by
 obtain⟨h1,h2,h3⟩:=sliceCells_spec (P:=P) hr h0 h
 rcases h3 with ⟨rfl,rfl,rfl⟩ | ⟨b,o,c,k,rfl,hb,hl,hrun⟩
 ·exact⟨rfl,rfl⟩
 ·exact⟨hrun,rfl⟩
omit [Env] in
theorem zeroCells_size (z:Array Value) (n:Nat):(Builtin.zeroCells z n).size=n*z.size:=by
 simp [Builtin.zeroCells]
theorem rv_slice {size n:Nat} {x:RV} {cs:List RV} (hr:Rel m W w) (h0:0 < size) (h:sliceCells W size x=some (n,cs)) :
  ∃base cap,rv m x=.slice base n cap∧((base=none∧n=0∧cap=0∧x=.v (.slice none 0 0)) ∨
   ∃b o c k,x=.sl b o n size∧W.get b=some (.cells c k)∧lcut c o (n*size)=some cs∧base=some ⟨(m b).blk,(m b).off+o,none⟩∧cap=((m b).cap-((m b).off+o)) / size):=by
 obtain⟨h1,h2,h3⟩:=sliceCells_spec (P:=default) hr h0 h
 rcases h3 with ⟨rfl,rfl,rfl⟩ | ⟨b,o,c,k,rfl,hb,hl,hrun⟩
 ·exact⟨_,_,rfl,.inl ⟨rfl,rfl,rfl,rfl⟩⟩
 ·exact⟨_,_,rfl,.inr ⟨b,o,c,k,rfl,hb,hl,rfl,rfl⟩⟩
omit [Env] in
theorem append_new {ty tx aty el el2:TypeId} {inf:TypeInfo} {z:Value} {n k cap:Nat} {base:Option Addr} {x:Value} {old new:Array Value}
  (hu:P.underlying ty=some (.slice el)) (hux:P.underlying tx=some (.slice el2)) (hi:P.info? el=some inf) (hz:inf.zero=some z)
  (hlen:(Builtin.lenOf x).run P w=.ok k w) (hold:∀w':World,w'.heap=w.heap→(Builtin.firstCells inf.size n (.slice base n cap)).run P w'=.ok old w') (hnew:∀w':World,w'.heap=w.heap→(Builtin.firstCells inf.size k x).run P w'=.ok new w')
  (hneed:cap < n+k) (hb:(n+k)*2*(inf.bytes+1)≤1099511627776) :
  ∃cap' d,n+k≤cap'∧(Builtin.append_ #[ty,tx] aty #[.slice base n cap,x]).run P w =
   .ok (.slice (some ⟨w.heap.size,0,none⟩) (n+k) cap') { w with heap:=w.heap.push (.cells (old++new++Builtin.zeroCells z.cells (cap'-(n+k))) el),drawn:=d }:=by
 have h1:¬ (n+k≤cap):=by omega
 have hbm:(n+k)*2*inf.bytes+(n+k)*2≤1099511627776:=by rw [Nat.mul_add,Nat.mul_one]at hb; exact hb
 have h2:¬ ((n+k:Nat):Int) > IntKind.i64.max:=by rw [IntKind.max_i64]; omega
 have h3:¬ (Builtin.nextslicecap (n+k) cap*inf.bytes > 2 ^ 48):=by
  have:=nextcap_le (n+k) cap hneed
  have:=Nat.mul_le_mul_right inf.bytes this
  rw [Nat.mul_comm 2 (n+k)]at this
  omega
 let q:Question:=.appendCap (n+k) cap el
 refine⟨q.cut (w.tape w.drawn q),w.drawn+1,Nat.le_add_right _ _,?_⟩
 have ho:=hold w.drew rfl
 have hn:=hnew w.drew rfl
 have h2':¬ (9223372036854775807 < (n:Int)+(k:Int)∧inf.bytes=0):=by
  rw [IntKind.max_i64]at h2
  intro hh
  omega
 have h3':¬ (281474976710656 < Builtin.nextslicecap (n+k) cap*inf.bytes):=by simpa using h3
 unfold Builtin.append_
 simp [run_underlying hu,run_underlying hux,run_size hi,hlen,h1,typeInfo,hi,h2',h3',Question.forced,ho,hn,zeroValue,hz,newRow,q]
 rfl
omit [Env] in
theorem append_fits {ty tx aty el el2:TypeId} {inf:TypeInfo} {n k cap:Nat} {base:Option Addr} {x:Value} {new:Array Value} {w':World}
  (hu:P.underlying ty=some (.slice el)) (hux:P.underlying tx=some (.slice el2)) (hi:P.info? el=some inf)
  (hlen:(Builtin.lenOf x).run P w=.ok k w) (hnew:(Builtin.firstCells inf.size k x).run P w=.ok new w)
  (hneed:n+k≤cap) (hst:∀a,base=some a→(storeCells (a.add (n*inf.size)) new.toList).run P w=.ok () w') (hn:base=none→w'=w) :
  (Builtin.append_ #[ty,tx] aty #[.slice base n cap,x]).run P w=.ok (.slice base (n+k) cap) w':=by
 unfold Builtin.append_
 cases base with
 | none =>
  have:=hn rfl
  subst this
  simp [run_underlying hu,run_underlying hux,run_size hi,hlen,hneed,hnew]
 | some a=>simp [run_underlying hu,run_underlying hux,run_size hi,hlen,hneed,hnew,hst a rfl]
theorem Rel.drop_post (_h:Rel m W w) {W1:RW} {b:Nat} (hs:W.set b .dead=some W1) (hw:W.wf):Post m W w m W1 w:=by
 obtain⟨h1,h2,h3,h4⟩:=set_spec hs
 refine⟨fun _ _=>rfl,by omega,Nat.le_refl _,fun _ _ _=>rfl,?_,rfl,rfl,rfl⟩
 intro a x ha hx
 rw [h4 hw]at ha
 by_cases hab:a=b
 ·rw [if_pos hab]at ha
  simp only [Option.some.injEq]at ha
  subst ha
  simp [RObj.own]at hx
 ·rw [if_neg hab]at ha
  exact .inr ⟨a,x,ha,hx,rfl⟩
theorem push_row (hr:Rel m W w) {cs:List RV} (hc:belowC W.n cs=true) {vals:Array Value} {rest:Array Value} {el cap:Nat} (hv:vals.toList=cs.map (rv m)) (hcap:cs.length≤cap) (hsz:cap≤(vals++rest).size) (d:Nat) :
  Rel (upd m W.n ⟨w.heap.size,0,cap⟩) (W.push (.cells cs .gr)) { w with heap:=w.heap.push (.cells (vals++rest) el),drawn:=d } ∧
  Post m W w (upd m W.n ⟨w.heap.size,0,cap⟩) (W.push (.cells cs .gr)) { w with heap:=w.heap.push (.cells (vals++rest) el),drawn:=d }:=by
 obtain⟨h1,h2⟩:=hr.push (o:=.cells cs .gr) (robj:=.cells (vals++rest) el) (l:=⟨w.heap.size,0,cap⟩) rfl (by
  refine⟨vals++rest,el,(0,0),by simp,?_,fun _ _=>rfl,by simpa using hcap,hsz,by simp⟩
  intro j x hj
  have hx:=((belowC_iff W.n cs).1 hc x (List.mem_of_getElem? hj)).2
  have hlen:vals.size=cs.length:=by rw [← Array.length_toList,hv,List.length_map]
  have hjl:j < cs.length:=(List.getElem?_eq_some_iff.1 hj).1
  rw [rv_agree (agree_upd _ _ _) x hx,Nat.zero_add,Array.getElem?_append_left (by omega),← Array.getElem?_toList,hv,List.getElem?_map,hj]
  rfl) (belowC_mono (Nat.le_succ _) _ hc)
 exact⟨h1.same rfl,⟨h2.ag,h2.mono,h2.size,h2.keep,h2.own,rfl,rfl,rfl⟩⟩
theorem xApp_ok {ty tx aty el el2:TypeId} {inf:TypeInfo} {z:List RV} {s x:RV} (hr:Rel m W w) (hu:P.underlying ty=some (.slice el)) (hux:P.underlying tx=some (.slice el2)) (hi:P.info? el=some inf) (hz:zeroCells inf=some z)
  (h0:0 < inf.size∧z.length=inf.size) (hbs:below W.n s=true) (h:xApp W inf.size inf.bytes s x=some e):EffOk P m W w (sv (Builtin.append_ #[ty,tx] aty #[rv m s,rv m x])) e:=by
 obtain⟨zv,z1,rfl,z3⟩:=zeroCells_spec hz
 have hzs:zv.cells.size=inf.size:=by rw [← h0.2]; simp
 unfold xApp at h
 split at h
 ·rename_i n cs k ds hs hx
  obtain⟨hcl,hcb,hcs⟩:=sliceCells_spec (P:=P) hr h0.1 hs
  obtain⟨hdl,hdb,_⟩:=sliceCells_spec (P:=P) hr h0.1 hx
  obtain⟨f1,f2⟩:=firstCells_run (P:=P) hr h0.1 hx
  obtain⟨base,cap,hsv,hbase⟩:=rv_slice hr h0.1 hs
  have hncap:n≤cap:=by
   rcases hbase with ⟨_,rfl,rfl,_⟩ | ⟨b,o,c,kd,rfl,hb,hl,rfl,rfl⟩
   ·exact Nat.le_refl _
   ·obtain⟨arr',ty',fz,_,_,_,q4,q5,_⟩:=hr.obj b _ hb
    obtain⟨l1,_⟩:=lcut_spec hl
    rw [Nat.le_div_iff_mul_le h0.1]
    omega
  have hfirst:∀w':World,w'.heap=w.heap→(Builtin.firstCells inf.size k (rv m x)).run P w'=.ok (ds.map (rv m)).toArray w':=fun w' hw=>(firstCells_run (P:=P) (hr.same hw) h0.1 hx).1
  have holdc:∀w':World,w'.heap=w.heap→(Builtin.firstCells inf.size n (.slice base n cap)).run P w'=.ok (cs.map (rv m)).toArray w':=fun w' hw=>by
   rw [← hsv]; exact(firstCells_run (P:=P) (hr.same hw) h0.1 hs).1
  have hvals:((cs.map (rv m)).toArray++(ds.map (rv m)).toArray).toList=(cs++ds).map (rv m):=by simp
  have hcdl:(cs++ds).length=(n+k)*inf.size:=by rw [List.length_append,hcl,hdl,Nat.add_mul]
  split at h
  ·rename_i hk
   have hk0:k=0:=Nat.eq_of_beq_eq_true hk
   subst hk0
   simp only [Option.some.injEq]at h
   subst h
   have hds:ds=[]:=List.eq_nil_of_length_eq_zero (by rw [hdl]; simp)
   refine⟨m,w,_,run_sv (v:=rv m s) ?_,.inl rfl,hr,Post.refl _ _ _,hbs⟩
   rw [hsv]
   have:=append_fits (P:=P) (w:=w) (w':=w) (aty:=aty) (n:=n) (cap:=cap) (base:=base) hu hux hi f2 f1 (by omega) (fun a _=>by subst hds; rfl) (fun _=>rfl)
   simpa using this
  ·rename_i hk
   split at h
   ·rename_i hbd
    have hbd':(n+k)*2*(inf.bytes+1)≤1099511627776:=Nat.le_of_ble_eq_true hbd
    split at h
    ·rename_i W1 hsp
     rw [fnat_eq]at h
     simp only [Option.some.injEq]at h
     subst h
     have fresh:Rel m W1 w→Post m W w m W1 w→W1.n=W.n→cap < n+k→EffOk P m W w (sv (Builtin.append_ #[ty,tx] aty #[rv m s,rv m x])) (.wr (.sl W1.n 0 (n+k) inf.size) (W1.push (.cells (cs++ds) .gr))):=by
      intro hr1 hp1 hn1 hlt
      obtain⟨cap',d,hc1,hrun⟩:=append_new (P:=P) (w:=w) (aty:=aty) hu hux hi z1 f2 holdc hfirst hlt hbd'
      obtain⟨g1,g2⟩:=push_row hr1 (cs:=cs++ds) (by rw [hn1]; exact belowC_append hcb hdb) (vals:=(cs.map (rv m)).toArray++(ds.map (rv m)).toArray) (rest:=Builtin.zeroCells zv.cells (cap'-(n+k))) (el:=el) (cap:=cap'*inf.size) hvals
       (by rw [hcdl]; exact Nat.mul_le_mul_right _ hc1) (by
        rw [Array.size_append,← Array.length_toList,hvals,List.length_map,hcdl,zeroCells_size,hzs,← Nat.add_mul]
        exact Nat.mul_le_mul_right _ (by omega)) d
      refine⟨_,_,_,run_sv (by rw [hsv]; exact hrun),.inl ?_,g1,hp1.trans g2,by simp [below,blt_eq,RW.push]⟩
      simp [rv,upd,Nat.mul_div_cancel _ h0.1]
     rcases hbase with ⟨rfl,rfl,rfl,rfl⟩ | ⟨b,o,c,kd,rfl,hb,hl,rfl,hcap⟩
     ·simp only [spent,Option.some.injEq]at hsp
      subst hsp
      exact fresh hr (Post.refl _ _ _) rfl (by
       have:k≠0:=fun e=>hk (by rw [e]; rfl)
       omega)
     ·simp only [spent,hb]at hsp
      obtain⟨arr',ty',fz,q1,q2,q3,q4,q5,q6⟩:=hr.obj b _ hb
      obtain⟨l1,l2⟩:=lcut_spec hl
      cases kd with
      | ro=>simp at hsp
      | ex =>
       simp only at hsp
       split at hsp
       ·rename_i hnf
        simp only [Option.some.injEq]at hsp
        subst hsp
        rw [blt_eq,decide_eq_true_eq]at hnf
        refine fresh hr (Post.refl _ _ _) rfl ?_
        rw [hcap,Nat.div_lt_iff_lt_mul h0.1]
        have:=q6 (.inl rfl)
        omega
       ·simp at hsp
      | rx =>
       simp only at hsp
       split at hsp
       ·rename_i hnf
        simp only [Option.some.injEq]at hsp
        subst hsp
        rw [blt_eq,decide_eq_true_eq]at hnf
        refine fresh hr (Post.refl _ _ _) rfl ?_
        rw [hcap,Nat.div_lt_iff_lt_mul h0.1]
        have:=q6 (.inr rfl)
        omega
       ·simp at hsp
      | gr =>
       simp only at hsp
       have hr1:=hr.drop hsp
       have hp1:=hr.drop_post hsp hr.wf
       obtain⟨s1,s2,s3,s4⟩:=set_spec hsp
       have s4:=s4 hr.wf
       by_cases hlt:cap < n+k
       ·exact fresh hr1 hp1 s1 hlt
       ·
        have hfz:=q3 (by simp) (by simp)
        subst hfz
        have hend:(m b).off+o+(n+k)*inf.size≤(m b).cap:=by
         have h1:n+k≤((m b).cap-((m b).off+o)) / inf.size:=by rw [← hcap]; omega
         rw [Nat.le_div_iff_mul_le h0.1]at h1
         have:0 < (n+k)*inf.size:=Nat.mul_pos (by
          have:k≠0:=fun e=>hk (by rw [e]; rfl)
          omega) h0.1
         omega
        have hnk:(n+k)*inf.size=n*inf.size+k*inf.size:=Nat.add_mul _ _ _
        have hdv:∀v∈ds.map (rv m),v.oneCell'=true:=by
         intro v hv
         obtain⟨y,hy,rfl⟩:=List.mem_map.1 hv
         exact oneB_cell ((belowC_iff W.n ds).1 hdb y hy).1
        have hrun:=run_storeCells_at (P:=P) (m b).blk ((m b).off+o+n*inf.size) ty' (ds.map (rv m)) 0 arr' w q1 (by simp [hdl]; omega) hdv
        simp only [Nat.add_zero]at hrun
        have hrow:=append_fits (P:=P) (w:=w) (aty:=aty) (n:=n) (cap:=cap) (base:=some ⟨(m b).blk,(m b).off+o,none⟩) hu hux hi f2 f1 (by omega) (w':=_) (fun a ha=>by
         simp only [Option.some.injEq]at ha
         subst ha
         rw [add_none]
         exact hrun) (fun hh=>by simp at hh)
        have hoth:∀a y,W1.get a=some y→y.live=true→(m b).blk≠(m a).blk:=by
         intro a y ha hy
         rw [s4]at ha
         by_cases hab:a=b
         ·rw [if_pos hab]at ha
          simp only [Option.some.injEq]at ha
          subst ha
          simp [RObj.live]at hy
         ·rw [if_neg hab]at ha
          exact hr.inj b a _ y hb ha rfl hy (Ne.symm hab)
        have hup:∀a y,W1.get a=some y→upd m W1.n ⟨(m b).blk,(m b).off+o,(m b).cap⟩ a=m a:=fun a y ha=>by simp [upd,Nat.ne_of_lt (get_lt ha)]
        refine⟨upd m W1.n ⟨(m b).blk,(m b).off+o,(m b).cap⟩,w.setRow (m b).blk (arr'.toList.take ((m b).off+o+n*inf.size)++ds.map (rv m)++arr'.toList.drop ((m b).off+o+n*inf.size+(ds.map (rv m)).length)).toArray,_,run_sv (by rw [hsv]; exact hrow),.inl ?_,⟨wf_push hr1.wf _,?_,?_,?_,fun i g hi=>⟨Nat.lt_succ_of_lt (hr1.glb i g hi).1,by rw [agree_upd m W1.n _ i (hr1.glb i g hi).1]; exact(hr1.glb i g hi).2⟩⟩,⟨?_,?_,by simp,?_,?_,rfl,rfl,rfl⟩,by simp [below,blt_eq,RW.push]⟩
        ·simp [rv,upd,hcap]
        ·intro a y ha
         rw [get_push]at ha
         by_cases han:a=W1.n
         ·rw [if_pos han]at ha
          simp only [Option.some.injEq]at ha
          subst ha
          have hma:upd m W1.n ⟨(m b).blk,(m b).off+o,(m b).cap⟩ a=⟨(m b).blk,(m b).off+o,(m b).cap⟩:=by simp [upd,han]
          rw [hma]
          refine⟨_,ty',(0,0),setRow_heap w _ _ _ _ _ q1,?_,fun _ _=>rfl,by rw [hcdl]; exact hend,?_,by simp⟩
          ·intro j y hj
           have hy:below W.n y=true:=((belowC_iff W.n _).1 (belowC_append hcb hdb) y (List.mem_of_getElem? hj)).2
           rw [rv_agree (n:=W1.n) (agree_upd _ _ _) y (by rw [s1]; exact hy)]
           have htl:(arr'.toList.take ((m b).off+o+n*inf.size)).length=(m b).off+o+n*inf.size:=by rw [List.length_take,Array.length_toList]; omega
           simp only [List.getElem?_toArray,List.append_assoc]
           by_cases hjn:j < n*inf.size
           ·rw [List.getElem?_append_left (by omega)]at hj
            rw [List.getElem?_append_left (by omega),List.getElem?_take,if_pos (by omega)]
            subst l2
            rw [List.getElem?_take,if_pos hjn,List.getElem?_drop]at hj
            have:=q2 (o+j) y hj
            rw [← Nat.add_assoc]at this
            simpa using this
           ·rw [List.getElem?_append_right (by omega),hcl]at hj
            have hjk:j-n*inf.size < ds.length:=(List.getElem?_eq_some_iff.1 hj).1
            rw [List.getElem?_append_right (by omega),htl,List.getElem?_append_left (by rw [List.length_map]; omega)]
            have e1:(m b).off+o+j-((m b).off+o+n*inf.size)=j-n*inf.size:=by omega
            rw [e1,List.getElem?_map,hj]
            rfl
          ·simp [hdl]
           omega
         ·rw [if_neg han]at ha
          rw [hup a y ha]
          refine((hr1.obj a y ha).agree (hr1.lt a y ha) (agree_upd _ _ _)).heap fun hlv=>?_
          exact setRow_other w _ _ _ (hoth a y ha hlv).symm
        ·intro a y ha
         rw [get_push]at ha
         by_cases han:a=W1.n
         ·rw [if_pos han]at ha
          simp only [Option.some.injEq]at ha
          subst ha
          exact belowC_mono (by simp [RW.push]; omega) _ (belowC_append hcb hdb)
         ·rw [if_neg han]at ha
          exact RObj.lt_mono (Nat.le_succ _) (hr1.lt a y ha)
        ·intro a c' y1 y2 ha hc' hy1 hy2 hac
         rw [get_push]at ha hc'
         by_cases han:a=W1.n
         ·by_cases hcn:c'=W1.n
          ·omega
          ·rw [if_neg hcn]at hc'
           rw [hup c' y2 hc']
           simp only [upd,han,if_true]
           exact hoth c' y2 hc' hy2
         ·rw [if_neg han]at ha
          by_cases hcn:c'=W1.n
          ·rw [hup a y1 ha]
           simp only [upd,hcn,if_true]
           exact(hoth a y1 ha (own_live hy1)).symm
          ·rw [if_neg hcn]at hc'
           rw [hup a y1 ha,hup c' y2 hc']
           exact hr1.inj a c' y1 y2 ha hc' hy1 hy2 hac
        ·rw [← s1]; exact agree_upd _ _ _
        ·simp [RW.push]; omega
        ·intro r hr' hnr
         exact setRow_other w _ _ _ fun hh=>hnr b _ hb rfl hh.symm
        ·intro a y ha hy
         rw [get_push]at ha
         by_cases han:a=W1.n
         ·exact .inr ⟨b,_,hb,rfl,by simp [upd,han]⟩
         ·rw [if_neg han]at ha
          rw [s4]at ha
          by_cases hab:a=b
          ·rw [if_pos hab]at ha
           simp only [Option.some.injEq]at ha
           subst ha
           simp [RObj.own]at hy
          ·rw [if_neg hab]at ha
           exact .inr ⟨a,y,ha,hy,by simp [upd,han]⟩
    ·simp at h
   ·simp at h
 ·simp at h
theorem Rel.toRo1 (hr:Rel m W w) {b:Nat} {c:List RV} {k:Kd} {W1:RW} (hb:W.get b=some (.cells c k)) (hs:W.set b (.cells c .ro)=some W1):Rel m W1 w∧Post m W w m W1 w:=by
 obtain⟨h1,h2,h3,h4⟩:=set_spec hs
 have h4:=h4 hr.wf
 have hget:∀a o,W1.get a=some o→(a=b∧o=.cells c .ro)∨(a≠b∧W.get a=some o):=by
  intro a o ha
  rw [h4]at ha
  by_cases hab:a=b
  ·rw [if_pos hab]at ha
   exact .inl ⟨hab,(Option.some.inj ha).symm⟩
  ·rw [if_neg hab]at ha
   exact .inr ⟨hab,ha⟩
 refine⟨⟨h3 hr.wf,?_,?_,?_,by rw [h1]; exact hr.glb⟩,⟨fun _ _=>rfl,by omega,Nat.le_refl _,fun _ _ _=>rfl,?_,rfl,rfl,rfl⟩⟩
 ·intro a o ha
  rcases hget a o ha with ⟨rfl,rfl⟩ | ⟨_,ha⟩
  ·obtain⟨arr,ty,fz,q1,q2,q3,q4,q5,q6⟩:=hr.obj a _ hb
   exact⟨arr,ty,fz,q1,q2,fun hk=>absurd rfl hk,q4,q5,fun hk=>by simp at hk⟩
  ·exact hr.obj a o ha
 ·intro a o ha
  rw [h1]
  rcases hget a o ha with ⟨rfl,rfl⟩ | ⟨_,ha⟩
  ·exact(show RObj.lt W.n (.cells c k)from hr.lt a _ hb)
  ·exact hr.lt a o ha
 ·intro a a' x y ha ha' hx hy hne
  rcases hget a x ha with ⟨rfl,rfl⟩ | ⟨_,ha⟩
  ·simp [RObj.own]at hx
  ·rcases hget a' y ha' with ⟨rfl,rfl⟩ | ⟨_,ha'⟩
   ·exact hr.inj a a' x _ ha hb hx rfl hne
   ·exact hr.inj a a' x y ha ha' hx hy hne
 ·intro a o ha ho
  rcases hget a o ha with ⟨rfl,rfl⟩ | ⟨_,ha⟩
  ·simp [RObj.own]at ho
  ·exact .inr ⟨a,o,ha,ho,rfl⟩
theorem Rel.alias (hr:Rel m W w) {b:Nat} {c c':List RV} (hb:W.get b=some (.cells c .ro)) (hpre:∀(j:Nat) (x:RV),c'[j]?=some x→c[j]?=some x) (hlen:c'.length≤c.length) :
  Rel (upd m W.n ⟨(m b).blk,(m b).off,(m b).off+c'.length⟩) (W.push (.cells c' .rx)) w∧Post m W w (upd m W.n ⟨(m b).blk,(m b).off,(m b).off+c'.length⟩) (W.push (.cells c' .rx)) w:=by
 have hbn:b < W.n:=get_lt hb
 have hc':belowC W.n c'=true:=(belowC_iff W.n c').2 fun x hx=>by
  obtain⟨j,hj⟩:=List.getElem?_of_mem hx
  exact(belowC_iff W.n c).1 (hr.lt b _ hb) x (List.mem_of_getElem? (hpre j x hj))
 have hup:∀a y,W.get a=some y→upd m W.n ⟨(m b).blk,(m b).off,(m b).off+c'.length⟩ a=m a:=fun a y ha=>by simp [upd,Nat.ne_of_lt (get_lt ha)]
 refine⟨⟨wf_push hr.wf _,?_,?_,?_,fun i g hi=>⟨Nat.lt_succ_of_lt (hr.glb i g hi).1,by rw [agree_upd m W.n _ i (hr.glb i g hi).1]; exact(hr.glb i g hi).2⟩⟩,⟨agree_upd _ _ _,Nat.le_succ _,Nat.le_refl _,fun _ _ _=>rfl,?_,rfl,rfl,rfl⟩⟩
 ·intro a o ha
  rw [get_push]at ha
  by_cases han:a=W.n
  ·rw [if_pos han]at ha
   simp only [Option.some.injEq]at ha
   subst ha
   have hma:upd m W.n ⟨(m b).blk,(m b).off,(m b).off+c'.length⟩ a=⟨(m b).blk,(m b).off,(m b).off+c'.length⟩:=by simp [upd,han]
   rw [hma]
   obtain⟨arr,ty,fz,q1,q2,q3,q4,q5,q6⟩:=hr.obj b _ hb
   refine⟨arr,ty,fz,q1,?_,fun _ hk=>absurd rfl hk,Nat.le_refl _,by show(m b).off+c'.length≤_; omega,fun _=>rfl⟩
   intro j x hj
   rw [q2 j x (hpre j x hj),rv_agree (n:=W.n) (agree_upd _ _ _) x ((belowC_iff W.n c').1 hc' x (List.mem_of_getElem? hj)).2]
  ·rw [if_neg han]at ha
   rw [hup a o ha]
   exact(hr.obj a o ha).agree (hr.lt a o ha) (agree_upd _ _ _)
 ·intro a o ha
  rw [get_push]at ha
  by_cases han:a=W.n
  ·rw [if_pos han]at ha
   simp only [Option.some.injEq]at ha
   subst ha
   exact belowC_mono (Nat.le_succ _) _ hc'
  ·rw [if_neg han]at ha
   exact RObj.lt_mono (Nat.le_succ _) (hr.lt a o ha)
 ·intro a a' x y ha ha' hx hy hne
  rw [get_push]at ha ha'
  by_cases han:a=W.n
  ·rw [if_pos han]at ha
   simp only [Option.some.injEq]at ha
   subst ha
   simp [RObj.own]at hx
  ·rw [if_neg han]at ha
   rw [hup a x ha]
   by_cases han':a'=W.n
   ·have hab:a≠b:=by
     rintro rfl
     rw [hb]at ha
     simp only [Option.some.injEq]at ha
     subst ha
     simp [RObj.own]at hx
    have:=hr.inj a b x _ ha hb hx rfl hab
    simpa [upd,han'] using this
   ·rw [if_neg han']at ha'
    rw [hup a' y ha']
    exact hr.inj a a' x y ha ha' hx hy hne
 ·intro a o ha ho
  rw [get_push]at ha
  by_cases han:a=W.n
  ·rw [if_pos han]at ha
   simp only [Option.some.injEq]at ha
   subst ha
   simp [RObj.own]at ho
  ·rw [if_neg han]at ha
   exact .inr ⟨a,o,ha,ho,by rw [hup a o ha]⟩
theorem xClip_ok {ty el:TypeId} {inf:TypeInfo} {x hi mx:RV} (hr:Rel m W w) (hu:P.underlying ty=some (.slice el)) (hi':P.info? el=some inf) (h0:0 < inf.size)
  (h:xClip W inf.size x hi mx=some e):EffOk P m W w (sv (Instr.sliceAt ty (rv m x) none (some (rv m hi)) (some (rv m mx)))) e:=by
 unfold xClip at h
 split at h
 case h_2=>simp at h
 rename_i k1 hh k2 j
 split at h
 ·split at h
  ·rename_i hc
   rw [Bool.and_eq_true]at hc
   have e1:=Nat.eq_of_beq_eq_true hc.1
   have e2:=Nat.eq_of_beq_eq_true hc.2
   subst e1 e2
   simp only [Option.some.injEq]at h
   subst h
   refine effOk_val rfl ?_
   simp [Instr.sliceAt,Instr.slice,rv,run_underlying hu,Instr.sliceBounds,Instr.sliceBound,asIntOf,run_size hi']
  ·simp at h
 ·rename_i b o n es
  split at h
  case isFalse=>simp at h
  rename_i hc
  simp only [Bool.and_eq_true,blt_eq,decide_eq_true_eq]at hc
  obtain⟨⟨⟨c1,c2⟩,c3⟩,c4⟩:=hc
  have c1:=Nat.eq_of_beq_eq_true c1
  have c2:=Nat.eq_of_beq_eq_true c2
  have c3:=Nat.eq_of_beq_eq_true c3
  subst c1 c2 c3
  split at h
  case h_2=>simp at h
  rename_i c kd hb
  split at h
  case h_2=>simp at h
  rename_i c' ht
  split at h
  case h_2=>simp at h
  rename_i W1 hs
  rw [pushF_eq]at h
  simp only [Option.some.injEq]at h
  subst h
  obtain⟨t1,t2⟩:=ltake_spec _ _ ht
  obtain⟨s1,s2,s3,s4⟩:=set_spec hs
  obtain⟨r1,p1⟩:=hr.toRo1 hb hs
  have hb1:W1.get b=some (.cells c .ro):=by rw [s4 hr.wf,if_pos rfl]
  have hcl:c'.length=o+j*inf.size:=by rw [t2,List.length_take]; omega
  obtain⟨r2,p2⟩:=r1.alias (c':=c') hb1 (fun i x hi2=>by
   rw [t2,List.getElem?_take]at hi2
   split at hi2
   ·exact hi2
   ·simp at hi2) (by rw [hcl]; exact t1)
  obtain⟨arr,ty',fz,_,_,_,hcap,_,_⟩:=hr.obj b _ hb
  have hC:j≤((m b).cap-((m b).off+o)) / inf.size:=by
   rw [Nat.le_div_iff_mul_le h0]
   omega
  refine⟨_,w,_,run_sv (v:=.slice (some ⟨(m b).blk,(m b).off+o,none⟩) j j) ?_,.inl ?_,r2,p1.trans p2,by simp [below,blt_eq,RW.push]⟩
  ·simp only [Instr.sliceAt,Instr.slice,rv,Instr.sliceBounds,Instr.sliceBound,asIntOf,Sem.run_bind,run_underlying hu,Result.andThen_ok,Sem.run_pure,if_true,run_size hi',Int.toNat_natCast,Int.ofNat_eq_natCast,Int.natCast_nonneg]
   rw [if_pos ⟨trivial,Int.ofNat_le.2 hC⟩]
   simp only [Sem.run_pure,Result.andThen_ok]
   rw [if_pos ⟨trivial,Int.le_refl _⟩]
   simp only [Sem.run_pure,Result.andThen_ok,if_neg (show ¬ j=0 by omega),Option.map_some,Nat.zero_mul,add_none,Nat.add_zero,Nat.sub_zero]
  ·simp only [rv,upd,if_true,hcl]
   rw [show(m b).off+(o+j*inf.size)-((m b).off+o)=j*inf.size by omega,Nat.mul_div_cancel _ h0]
 ·simp at h
omit [Env] in
theorem fbytes_eq {β:Type}:∀(l:List UInt8) (k:List RV→β),fbytes l k=k (l.map fun b=>RV.v (.int .u8 b.toNat))
 | [],k=>rfl
 | b :: r,k=>by
  show fnat b.toNat (fun n=>fbytes r fun r=>k (.v (.int .u8 (.ofNat n)) :: r))=_
  rw [fnat_eq,fbytes_eq r]
  rfl
omit [Env] in
theorem bytes_heap (w:World) (el:TypeId) (s:ByteArray):(Lib.bytesWorld w el s).heap=w.heap.push (.cells (Lib.bytesCells w el s) el ((Lib.bytesCells w el s).size,(Lib.bytesCells w el s).size+1)):=by
 apply Array.ext_getElem?
 intro j
 by_cases h1:j < w.heap.size
 ·rw [Lib.bytesWorld_at_old w el s j h1,Array.getElem?_push,if_neg (by omega)]
 ·by_cases h2:j=w.heap.size
  ·subst h2
   rw [Lib.bytesWorld_at_new]
   simp
  ·rw [Array.getElem?_eq_none (by rw [Lib.bytesWorld_size]; omega),Array.getElem?_eq_none (by rw [Array.size_push]; omega)]
theorem xStb_ok {src dst el:TypeId} {x:RV} (hr:Rel m W w) (hs:P.underlying src=some .string) (he:P.underlying el=some (.int .u8)) (hd:P.underlying dst=some (.slice el))
  (h:xStb W x=some e):EffOk P m W w (sv (convert src dst (rv m x))) e:=by
 unfold xStb at h
 split at h
 ·rename_i s
  rw [fbytes_eq,fnat_eq,fnat_eq]at h
  simp only [Option.some.injEq]at h
  subst h
  obtain⟨cs,hcs⟩:∃cs,cs=s.data.toList.map fun b=>RV.v (.int .u8 b.toNat):=⟨_,rfl⟩
  rw [← hcs]
  have hlen:cs.length=s.size:=by rw [hcs,List.length_map]; exact Array.length_toList
  have hcb:belowC W.n cs=true:=(belowC_iff W.n cs).2 fun y hy=>by
   rw [hcs]at hy
   obtain⟨b,_,rfl⟩:=List.mem_map.1 hy
   exact⟨rfl,rfl⟩
  have hcap:s.size≤grownCap w s.size 0 el:=by
   unfold grownCap
   simp [Question.cut]
  have hrun:=Lib.run_convert_string_bytes (P:=P) w src dst el s hs hd he
  have hsz:(Lib.bytesCells w el s).size=grownCap w s.size 0 el:=by
   have:s.data.size=s.size:=rfl
   simp [Lib.bytesCells,this]
   omega
  obtain⟨h1,h2⟩:=hr.push (o:=.cells cs .ro) (robj:=.cells (Lib.bytesCells w el s) el ((Lib.bytesCells w el s).size,(Lib.bytesCells w el s).size+1)) (l:=⟨w.heap.size,0,grownCap w s.size 0 el⟩) rfl (by
   refine⟨Lib.bytesCells w el s,el,((Lib.bytesCells w el s).size,(Lib.bytesCells w el s).size+1),by simp,?_,fun hk=>absurd rfl hk,by simp [hlen,hcap],by rw [hsz]; exact Nat.le_refl _,by simp⟩
   intro j y hj
   have hjl:j < cs.length:=(List.getElem?_eq_some_iff.1 hj).1
   have hd2:s.data.size=s.size:=rfl
   rw [Nat.zero_add]
   unfold Lib.bytesCells
   rw [Array.getElem?_append_left (by simp [hd2]; omega),← Array.getElem?_toList,Array.toList_map,List.getElem?_map]
   rw [hcs,List.getElem?_map]at hj
   cases hb:s.data.toList[j]? with
   | none=>rw [hb]at hj; simp at hj
   | some b =>
    rw [hb]at hj
    simp only [Option.map_some,Option.some.injEq]at hj
    subst hj
    rfl) (belowC_mono (Nat.le_succ _) _ hcb)
  refine⟨_,Lib.bytesWorld w el s,_,run_sv (by simpa [rv] using hrun),.inl ?_,h1.same (bytes_heap w el s),⟨h2.ag,h2.mono,by rw [Lib.bytesWorld_size]; omega,?_,h2.own,rfl,rfl,rfl⟩,by simp [below,blt_eq,RW.push]⟩
  ·simp [rv,upd,hlen]
  ·intro r hr1 hn
   exact Lib.bytesWorld_at_old w el s r hr1
 ·simp at h
theorem xApz_ok {ty tx aty el:TypeId} {ik:IntKind} {inf:TypeInfo} {z:List RV} {s x:RV} (hr:Rel m W w) (hu:P.underlying ty=some (.slice el)) (hux:P.underlying tx=some (.int ik)) (hi:P.info? el=some inf) (hz:zeroCells inf=some z)
  (h0:0 < inf.size∧z.length=inf.size) (h:xApz W inf.size inf.bytes z s x=some e):EffOk P m W w (sv (Builtin.append_ #[ty,tx] aty #[rv m s,rv m x])) e:=by
 obtain⟨zv,z1,rfl,z3⟩:=zeroCells_spec hz
 have hzs:zv.cells.size=inf.size:=by rw [← h0.2]; simp
 unfold xApz at h
 split at h
 ·rename_i n
  split at h
  ·rename_i hc
   simp only [Bool.and_eq_true,blt_eq,decide_eq_true_eq]at hc
   have hb:=Nat.le_of_ble_eq_true hc.2
   have hbm:n*2*inf.bytes+n*2≤1099511627776:=by rw [Nat.mul_add,Nat.mul_one]at hb; exact hb
   have h48:n*inf.bytes≤n*2*inf.bytes:=Nat.mul_le_mul_right _ (by omega)
   rw [fnat_eq]at h
   simp only [Option.some.injEq]at h
   subst h
   have hrun:=Lib.run_append_nil_zeros w ty tx aty el inf zv .i64 ik hu hux hi z1 n hc.1 h0.1 (by omega) (by omega)
   have hcap:n≤grownCap w n 0 el:=Nat.le_add_right _ _
   have hv:(Builtin.zeroCells zv.cells n).toList=(repl n (zv.cells.toList.map RV.v)).map (rv m):=zeros_eq zv.cells n (by omega)
   have hlen:(repl n (zv.cells.toList.map RV.v)).length=n*inf.size:=by rw [repl_length,h0.2]
   obtain⟨g1,g2⟩:=push_row hr (cs:=repl n (zv.cells.toList.map RV.v)) (belowC_repl (belowC_v z3 W.n) n) (vals:=Builtin.zeroCells zv.cells n) (rest:=Builtin.zeroCells zv.cells (grownCap w n 0 el-n)) (el:=el) (cap:=grownCap w n 0 el*inf.size) hv
    (by rw [hlen]; exact Nat.mul_le_mul_right _ hcap) (by
     rw [Array.size_append,zeroCells_size,zeroCells_size,hzs,← Nat.add_mul]
     exact Nat.mul_le_mul_right _ (by omega)) (w.drawn+1)
   refine⟨_,_,_,run_sv hrun,.inl ?_,g1,g2,by simp [below,blt_eq,RW.push]⟩
   simp [rv,upd,Nat.mul_div_cancel _ h0.1]
  ·simp at h
 ·simp at h
end
end Go.Rv
namespace Go.Rv
open Go
variable [Env]
section
variable {P:Program} {m:Nat→Loc} {t:RT} {W:RW} {arr:Array Value} {w:World} {e:Eff}
omit [Env] in
theorem zip_parts (parts:List (Nat×Operand)) (f:Operand→Value):(parts.map fun x=>(x.1,f x.2))=(parts.map (·.1)).zip ((parts.map (·.2)).map f):=by
 induction parts with
 | nil=>rfl
 | cons p r ih=>simp [ih]
omit [Env] in
theorem places_get {places:List (Nat×Nat)} (ks:List Nat) (ps:List (Nat×Nat)) (h:omap (fun k:Nat=>lget places k) ks=some ps) :
  ks.map (fun k=>places.toArray[k]?)=ps.map some:=by
 have:=omap_spec h
 simpa [lget_eq] using this
theorem decBuild_ok (c:Cx m t W arr w) {ty:TypeId} {parts:Array (Nat×Operand)} {op:ROp} (h:decBuild P ty parts.toList=some op) (he:op t W=some e) :
  EffOk P m W w (sv (Instr.build ty (parts.map fun(i,x)=>(i,evV arr x)))) e:=by
 have hparts:(parts.map fun(i,x)=>(i,evV arr x))=((parts.toList.map (·.1)).zip ((parts.toList.map (·.2)).map (evV arr))).toArray:=by
  apply Array.ext'
  rw [Array.toList_map,← zip_parts]
 rw [hparts]
 unfold decBuild at h
 split at h
 ·rename_i ti hti
  split at h
  ·rename_i z hz
   split at h
   ·rename_i fields hu
    split at h
    ·rename_i places hpl
     split at h
     ·rename_i ps hps
      obtain⟨hx,rfl⟩:=withL_spec h
      obtain⟨o1,o2⟩:=opds_ok c hx
      rw [← o1]
      refine xBuild_ok (places.toArray[·]?) hz (places_get _ _ hps) (by simp) o2 ?_ he
      intro v cells hv hf
      simp only [Program.built,hti,hu,hv,hpl,hf]
     ·simp at h
    ·simp at h
   ·rename_i n el hu
    split at h
    ·rename_i i hi
     obtain⟨hx,rfl⟩:=withL_spec h
     obtain⟨o1,o2⟩:=opds_ok c hx
     rw [← o1]
     have hzw:∀xs:List RV,(parts.toList.map (·.1)).zipWith (fun k x=>(k*i.size,i.size,x)) xs=((parts.toList.map (·.1)).map fun k=>(k*i.size,i.size)).zipWith (fun p x=>(p.1,p.2,x)) xs:=by
      intro xs
      simp only [List.zipWith_map_left]
     have he':xBuild z ((parts.toList.map (·.1)).zipWith (fun k x=>(k*i.size,i.size,x)) ((parts.toList.map (·.2)).map fun x=>opd x t))=some e:=he
     rw [hzw]at he'
     refine xBuild_ok (fun k=>some (k*i.size,i.size)) hz (by simp) (by simp) o2 ?_ he'
     intro v cells hv hf
     simp only [Program.built,hti,hu,hv,hi,hf]
    ·simp at h
   ·simp at h
  ·simp at h
 ·simp at h
theorem xBin2_ok {op:BinOp} {ty:TypeId} {x y:RV} (p q:Operand) (h:xBin2 P op ty x y=some e) :
  EffOk P m W w (sv (do eqGuard op ty p q (rv m x) (rv m y); binOp op ty (rv m x) (rv m y))) e:=by
 unfold xBin2 at h
 split at h
 ·rename_i cs
  unfold xBinAgg at h
  split at h
  case h_1=>simp at h
  rename_i hg
  split at h
  case h_2=>exact xBin_ok p q h
  rename_i s ks hk
  split at h
  case h_2=>simp at h
  rename_i r hs
  have he:=agg_equal (m:=m) hk hs w
  have hgu:∀op:BinOp,Sem.run P (eqGuard op ty p q (rv m (.agg cs)) (rv m y)) w=.ok () w:=by
   intro op
   have hy:∃ys,y=.agg ys:=by
    cases s with
    | false=>simp [sameK,keyCells]at hs
    | true=>cases y<;>simp [sameK,keyCells]at hs ⊢
   obtain⟨ys,rfl⟩:=hy
   have key:∀(a b:Array Value),Sem.run P (eqGuard op ty p q (.agg a) (.agg b)) w=.ok () w:=by
    intro a b
    unfold eqGuard
    cases op<;>simp [Sem.run_bind,Sem.run_pure,Result.andThen,run_program,hg]
   exact key _ _
  split at h
  ·simp only [Option.some.injEq]at h
   subst h
   refine effOk_val rfl ?_
   simp only [Sem.run_bind,hgu,Result.andThen]
   show Sem.run P (Op.equal ty (rv m (.agg cs)) (rv m y) >>= fun b=>pure (Value.bool b)) w=_
   rw [Sem.run_bind,he]
   rfl
  ·split at h
   ·simp only [Option.some.injEq]at h
    subst h
    refine effOk_val rfl ?_
    simp only [Sem.run_bind,hgu,Result.andThen]
    show Sem.run P (Op.equal ty (rv m (.agg cs)) (rv m y) >>= fun b=>pure (Value.bool (!b))) w=_
    rw [Sem.run_bind,he]
    rfl
   ·simp only [Option.some.injEq]at h
    subst h
    refine effOk_val rfl ?_
    simp only [Sem.run_bind,hgu,Result.andThen]
    show Sem.run P (Op.equal ty (rv m (.agg cs)) (rv m y) >>= fun b=>pure (Value.bool (!b))) w=_
    rw [Sem.run_bind,he]
    rfl
  ·simp at h
 ·unfold xBinNil at h
  split at h
  ·rename_i el hu
   split at h
   ·have hgu:∀(op:BinOp) (a:Option Addr) (n c:Nat) (b:Value),Sem.run P (eqGuard op ty p q (.slice a n c) b) w=.ok () w:=by
     intro op a n c b
     unfold eqGuard
     cases op<;>simp [Sem.run_pure]
    have he:∀(a:Addr) (n c:Nat),Sem.run P (Op.equal ty (.slice (some a) n c) (.slice none 0 0)) w=.ok false w:=by
     intro a n c
     show Sem.run P (Op.equalIn (9999+1) ty (.slice (some a) n c) (.slice none 0 0)) w=.ok false w
     unfold Op.equalIn
     simp only [Sem.run_bind,run_underlying hu,Result.andThen_ok]
     rfl
    split at h
    ·simp only [Option.some.injEq]at h
     subst h
     refine effOk_val rfl ?_
     simp only [rv,Sem.run_bind,hgu,Result.andThen]
     show Sem.run P (Op.equal ty _ _ >>= fun b=>pure (Value.bool b)) w=_
     rw [Sem.run_bind,he]
     rfl
    ·simp only [Option.some.injEq]at h
     subst h
     refine effOk_val rfl ?_
     simp only [rv,Sem.run_bind,hgu,Result.andThen]
     show Sem.run P (Op.equal ty _ _ >>= fun b=>pure (Value.bool (!b))) w=_
     rw [Sem.run_bind,he]
     rfl
    ·simp at h
   ·simp at h
  ·simp at h
 ·exact xBin_ok p q h
theorem decBsl_ok (c:Cx m t W arr w) {bt:TypeId} {n:Nat} {parts:Array (Nat×Operand)} {op:ROp} (h:decAlloc P (.buildSlice bt n parts)=some op) (he:op t W=some e) :
  EffOk P m W w (sv (Instr.buildSlice bt n (parts.map fun(i,x)=>(i,evV arr x)))) e:=by
 have hparts:(parts.map fun(i,x)=>(i,evV arr x))=((parts.toList.map (·.1)).zip ((parts.toList.map (·.2)).map (evV arr))).toArray:=by
  apply Array.ext'
  rw [Array.toList_map,← zip_parts]
 rw [hparts]
 simp only [decAlloc]at h
 split at h
 ·rename_i el hu
  split at h
  ·rename_i i hi
   split at h
   ·rename_i z hz
    split at h
    ·rename_i hc
     obtain⟨hx,rfl⟩:=withL_spec h
     obtain⟨o1,o2⟩:=opds_ok c hx
     rw [← o1]
     have he':xBsl n i.size z ((parts.toList.map (·.1)).zipWith (fun k x=>(k*i.size,i.size,x)) ((parts.toList.map (·.2)).map fun x=>opd x t))=some e:=he
     have hl:((parts.toList.map (·.2)).map fun x=>opd x t).length=(parts.toList.map (·.1)).length:=by simp
     have hc':n*i.size≤16777216∧0 < i.size∧(0 < n∨parts.toList.map (·.1)=[])∧z.length=i.size:=by
      refine⟨hc.1,hc.2.1,hc.2.2.1.imp id fun h0=>?_,hc.2.2.2⟩
      have:parts.toList=[]:=List.eq_nil_of_length_eq_zero (by simpa using h0)
      rw [this]; rfl
     exact xBsl_ok (P:=P) (m:=m) (W:=W) (w:=w) (ty:=bt) (el:=el) hu hi hz hc' hl o2 he'
    ·simp at h
   ·simp at h
  ·simp at h
 ·simp at h
set_option maxHeartbeats 4000000 in
theorem withS_spec {x:Operand} {lo hi:Option Operand} {k:Opd→Option Opd→Option Opd→ROp} {op:ROp} (h:withS x lo hi k=some op):okO x=true∧okOO lo=true∧okOO hi=true∧op=k (opd x) (lo.map opd) (hi.map opd):=by
 unfold withS at h
 split at h
 ·rename_i hx
  have hx':(okO x=true∧okOO lo=true)∧okOO hi=true:=by simpa using hx
  exact⟨hx'.1.1,hx'.1.2,hx'.2,(Option.some.inj h).symm⟩
 ·simp at h
theorem opdO_ok (c:Cx m t W arr w) {x:Option Operand} (hx:okOO x=true):((x.map opd).map fun f=>f t).map (rv m)=x.map (evV arr):=by
 cases x with
 | none=>rfl
 | some y=>simp [(opd_ok c (show okO y=true from hx)).1]
theorem decOp_ok (c:Cx m t W arr w) {o:Oper} {op:ROp} (h:decOp P o=some op) (he:op t W=some e):EffOk P m W w (execOp (evV arr) o) e:=by
 obtain⟨dst,oo,ty,pos,after,guard⟩:=o
 cases oo<;>simp only [decOp]at h<;>try (simp at h; done)
 case move x =>
  obtain⟨hx,rfl⟩:=with1_spec h
  obtain⟨o1,o2⟩:=opd_ok c hx
  simp only [frv_eq,Option.some.injEq]at he
  subst he
  exact⟨o2,.value (evV arr x),by simp [execOp],.inl (by rw [o1])⟩
 case assign x =>
  obtain⟨hx,rfl⟩:=with1_spec h
  obtain⟨o1,o2⟩:=opd_ok c hx
  simp only [frv_eq,Option.some.injEq]at he
  subst he
  exact⟨o2,.value (evV arr x),by simp [execOp],.inl (by rw [o1])⟩
 case pick x y z =>
  obtain⟨hx,hy,hz,rfl⟩:=with3_spec h
  obtain⟨o1,o2⟩:=opd_ok c hx
  obtain⟨o3,o4⟩:=opd_ok c hy
  obtain⟨o5,o6⟩:=opd_ok c hz
  have:=xPick_ok (P:=P) (m:=m) (W:=W) (w:=w) o4 o6 he
  simpa only [execOp,o1,o3,o5] using this
 case alloc el =>
  simp only [decAlloc]at h
  split at h
  ·rename_i i hi
   split at h
   ·rename_i z hz
    simp only [Option.some.injEq]at h
    subst h
    simp only [Option.some.injEq]at he
    subst he
    exact alloc_ok hi hz
   ·simp at h
  ·simp at h
 case box el x =>
  simp only [decAlloc]at h
  obtain⟨hx,rfl⟩:=with1_spec h
  obtain⟨o1,o2⟩:=opd_ok c hx
  have:=xBox_ok (P:=P) (m:=m) (w:=w) (ty:=el) o2 he
  rw [o1]at this
  exact this
 case build bt parts=>exact decBuild_ok c h he
 case buildSlice bt n parts =>
  exact decBsl_ok c h he
 case load lt a =>
  unfold decLoad at h
  split at h
  ·rename_i i hg hi
   obtain⟨hx,rfl⟩:=with1_spec h
   obtain⟨o1,o2⟩:=opd_ok c hx
   have:=xLdn_ok (P:=P) c.rel hg hi he
   rw [o1]at this
   exact this
  ·rename_i i hg hi
   obtain⟨hx,rfl⟩:=with1_spec h
   obtain⟨o1,o2⟩:=opd_ok c hx
   have:=xLd1_ok (P:=P) c.rel hg he
   rw [o1]at this
   exact this
  ·simp at h
 case store st a x =>
  split at h
  ·rename_i i hi
   obtain⟨ha,hx,rfl⟩:=with2_spec h
   obtain⟨o1,o2⟩:=opd_ok c ha
   obtain⟨o3,o4⟩:=opd_ok c hx
   have:=xSt_ok (P:=P) c.rel hi o4 he
   rw [o1,o3]at this
   exact this
  ·simp at h
 case nilCheck x =>
  obtain⟨hx,rfl⟩:=with1_spec h
  obtain⟨o1,o2⟩:=opd_ok c hx
  exact xNilc_ok o2 he dst x ty pos after guard (evV arr) o1.symm
 case binOp bop bt x y yt =>
  obtain⟨hx,hy,rfl⟩:=with2_spec h
  obtain⟨o1,o2⟩:=opd_ok c hx
  obtain⟨o3,o4⟩:=opd_ok c hy
  have:=xBin2_ok (P:=P) (m:=m) (W:=W) (w:=w) x y he
  rw [o1,o3]at this
  exact this
 case unOp uop ut x =>
  obtain⟨hx,rfl⟩:=with1_spec h
  obtain⟨o1,o2⟩:=opd_ok c hx
  have:=xF1_ok (P:=P) (m:=m) (W:=W) (w:=w) he
  rw [o1]at this
  exact this
 case convert s d x =>
  unfold decConvert at h
  split at h
  ·rename_i el hs hd
   split at h
   ·rename_i hel
    obtain⟨hx,rfl⟩:=with1_spec h
    obtain⟨o1,o2⟩:=opd_ok c hx
    have:=xBts_ok (P:=P) c.rel hs hel hd he
    rw [o1]at this
    exact this
   ·simp at h
  ·rename_i el hs hd
   split at h
   ·rename_i hel
    obtain⟨hx,rfl⟩:=with1_spec h
    obtain⟨o1,o2⟩:=opd_ok c hx
    have:=xStb_ok (P:=P) c.rel hs hel hd he
    rw [o1]at this
    exact this
   ·simp at h
  ·obtain⟨hx,rfl⟩:=with1_spec h
   obtain⟨o1,o2⟩:=opd_ok c hx
   have:=xF1_ok (P:=P) (m:=m) (W:=W) (w:=w) he
   rw [o1]at this
   exact this
 case makeFunc f first caps =>
  cases f<;>simp only []at h<;>try (simp at h; done)
  rename_i f
  split at h
  ·rename_i hcaps
   obtain⟨hx,rfl⟩:=withL_spec h
   obtain⟨o1,o2⟩:=opds_ok c hx
   obtain⟨o3,o4⟩:=opds_ok c hcaps
   simp only [Option.some.injEq]at he
   subst he
   refine effOk_val (by simp [below,o2,o4]) ?_
   simp only [rv,rvL_eq,o1,o3,Instr.makeFunc,Sem.run_pure]
   congr 2
   ·apply Array.ext'; simp
   ·apply Array.ext'; simp
  ·simp at h
 case makeMap mt r =>
  cases r with
  | some r=>simp [decAlloc]at h
  | none =>
   simp only [decAlloc,Option.some.injEq]at h
   subst h
   simp only [Option.some.injEq]at he
   subst he
   exact nmap_ok
 case makeSlice mt l cc =>
  simp only [decAlloc]at h
  split at h
  ·rename_i el hu
   split at h
   ·rename_i i hi
    split at h
    ·rename_i z hz
     split at h
     ·rename_i hc
      obtain⟨hx,hy,rfl⟩:=with2_spec h
      obtain⟨o1,o2⟩:=opd_ok c hx
      obtain⟨o3,o4⟩:=opd_ok c hy
      have:=xMsl_ok (P:=P) (m:=m) (W:=W) (w:=w) hu hi hz hc he
      rw [o1,o3]at this
      exact this
     ·simp at h
    ·simp at h
   ·simp at h
  ·simp at h
 case slice xt x lo hi mx =>
  cases mx with
  | some mx =>
   cases lo with
   | some _=>exact absurd h (by simp)
   | none=>cases hi with
    | none=>exact absurd h (by simp)
    | some hi =>
     change decClip P xt x hi mx=some op at h
     unfold decClip at h
     split at h
     ·rename_i el hu
      split at h
      ·rename_i inf hi'
       split at h
       ·rename_i h0
        obtain⟨k1,k2,k3,rfl⟩:=with3_spec h
        obtain⟨o1,o2⟩:=opd_ok c k1
        obtain⟨o3,o4⟩:=opd_ok c k2
        obtain⟨o5,o6⟩:=opd_ok c k3
        have:=xClip_ok (P:=P) c.rel hu hi' h0 he
        rw [o1,o3,o5]at this
        exact this
       ·simp at h
      ·simp at h
     ·simp at h
  | none =>
   change decSlice P xt x lo hi=some op at h
   simp only [decSlice]at h
   split at h
   ·split at h
    ·obtain⟨hx,hl,hh,rfl⟩:=with3_spec h
     obtain⟨o1,o2⟩:=opd_ok c hx
     obtain⟨o3,o4⟩:=opd_ok c hl
     obtain⟨o5,o6⟩:=opd_ok c hh
     have:=xF3_ok (P:=P) (m:=m) (W:=W) (w:=w) he
     rw [o1,o3,o5]at this
     exact this
    ·obtain⟨hx,hl,rfl⟩:=with2_spec h
     obtain⟨o1,o2⟩:=opd_ok c hx
     obtain⟨o3,o4⟩:=opd_ok c hl
     have:=xF2_ok (P:=P) (m:=m) (W:=W) (w:=w) he
     rw [o1,o3]at this
     exact this
    ·obtain⟨hx,hl,rfl⟩:=with2_spec h
     obtain⟨o1,o2⟩:=opd_ok c hx
     obtain⟨o3,o4⟩:=opd_ok c hl
     have:=xF2_ok (P:=P) (m:=m) (W:=W) (w:=w) he
     rw [o1,o3]at this
     exact this
    ·simp at h
   ·rename_i n el hu
    split at h
    ·rename_i inf hi'
     split at h
     ·rename_i h0
      obtain⟨k1,k2,k3,rfl⟩:=withS_spec h
      obtain⟨o1,o2⟩:=opd_ok c k1
      have:=xSlA_ok (P:=P) c.rel o2 hu hi' h0 he
      rw [o1,opdO_ok c k2,opdO_ok c k3]at this
      exact this
     ·simp at h
    ·simp at h
   ·rename_i el hu
    split at h
    ·rename_i inf hi'
     split at h
     ·rename_i h0
      obtain⟨k1,k2,k3,rfl⟩:=withS_spec h
      obtain⟨o1,o2⟩:=opd_ok c k1
      have:=xSlX_ok (P:=P) c.rel o2 hu hi' h0 he
      rw [o1,opdO_ok c k2,opdO_ok c k3]at this
      exact this
     ·simp at h
    ·simp at h
   ·simp at h
 case fieldAddr s x f =>
  unfold decFieldAddr at h
  split at h
  ·rename_i fields hu
   split at h
   ·rename_i fd hf
    split at h
    ·rename_i i hi
     split at h
     ·simp at h
     ·rename_i h0
      obtain⟨hx,rfl⟩:=with1_spec h
      obtain⟨o1,o2⟩:=opd_ok c hx
      have:=xFa_ok (P:=P) (m:=m) (W:=W) (w:=w) o2 hu hf hi h0 he
      rw [o1]at this
      exact this
    ·simp at h
   ·simp at h
  ·simp at h
 case indexAddr xt x i =>
  unfold decIndexAddr at h
  split at h
  ·rename_i len el hu
   split at h
   ·rename_i inf hi
    obtain⟨hx,hy,rfl⟩:=with2_spec h
    obtain⟨o1,o2⟩:=opd_ok c hx
    obtain⟨o3,o4⟩:=opd_ok c hy
    have:=xIxa_ok (P:=P) (m:=m) (W:=W) (w:=w) o2 hu hi he
    rw [o1,o3]at this
    exact this
   ·simp at h
  ·rename_i el hu
   split at h
   ·rename_i inf hi
    obtain⟨hx,hy,rfl⟩:=with2_spec h
    obtain⟨o1,o2⟩:=opd_ok c hx
    obtain⟨o3,o4⟩:=opd_ok c hy
    have:=xIxs_ok (P:=P) (m:=m) (W:=W) (w:=w) o2 hu hi he
    rw [o1,o3]at this
    exact this
   ·simp at h
  ·simp at h
 case index xt x i =>
  unfold decIndex at h
  split at h
  ·obtain⟨hx,hy,rfl⟩:=with2_spec h
   obtain⟨o1,o2⟩:=opd_ok c hx
   obtain⟨o3,o4⟩:=opd_ok c hy
   have:=xF2_ok (P:=P) (m:=m) (W:=W) (w:=w) he
   rw [o1,o3]at this
   exact this
  ·rename_i len el hu
   split at h
   ·rename_i f inf hf hi
    obtain⟨hx,hy,rfl⟩:=with2_spec h
    obtain⟨o1,o2⟩:=opd_ok c hx
    obtain⟨o3,o4⟩:=opd_ok c hy
    have:=xIxv_ok (P:=P) (m:=m) (W:=W) (w:=w) o2 hu hi hf he
    rw [o1,o3]at this
    exact this
   ·simp at h
  ·simp at h
 case field st x f =>
  unfold decField at h
  split at h
  ·rename_i fields hu
   split at h
   ·rename_i fd hfd
    split at h
    ·rename_i g hg
     obtain⟨hx,rfl⟩:=with1_spec h
     obtain⟨o1,o2⟩:=opd_ok c hx
     have:=xField_ok (P:=P) (m:=m) (W:=W) (w:=w) o2 hu hfd hg he
     rw [o1]at this
     exact this
    ·simp at h
   ·simp at h
  ·simp at h
 case lookup xt x k ok =>
  cases ok with
  | true =>
   change decLookupO P xt x k=some op at h
   unfold decLookupO at h
   split at h
   ·rename_i kt el hu
    split at h
    ·rename_i i s ks hi hk
     split at h
     ·rename_i z hz
      split at h
      ·rename_i hf
       obtain⟨hx,hy,rfl⟩:=with2_spec h
       obtain⟨o1,o2⟩:=opd_ok c hx
       obtain⟨o3,o4⟩:=opd_ok c hy
       have:=xLkO_ok (P:=P) c.rel hu hi hz hf hk he
       rw [o1,o3]at this
       exact this
      ·simp at h
     ·simp at h
    ·simp at h
   ·simp at h
  | false =>
   change decLookup P xt x k=some op at h
   unfold decLookup at h
   split at h
   ·rename_i kt el hu
    split at h
    ·rename_i i s ks hi hk
     split at h
     ·rename_i z hz
      split at h
      ·rename_i hf
       obtain⟨hx,hy,rfl⟩:=with2_spec h
       obtain⟨o1,o2⟩:=opd_ok c hx
       obtain⟨o3,o4⟩:=opd_ok c hy
       have:=xLk_ok (P:=P) c.rel hu hi hz hf hk he
       rw [o1,o3]at this
       exact this
      ·simp at h
     ·simp at h
    ·simp at h
   ·simp at h
 case mapUpdate mt x k v =>
  unfold decMapUpdate at h
  split at h
  ·rename_i kt el hu
   split at h
   ·rename_i s ks hk
    obtain⟨hx,hy,hz,rfl⟩:=with3_spec h
    obtain⟨o1,o2⟩:=opd_ok c hx
    obtain⟨o3,o4⟩:=opd_ok c hy
    obtain⟨o5,o6⟩:=opd_ok c hz
    have:=xMup_ok (P:=P) c.rel hu hk o4 o6 he
    rw [o1,o3,o5]at this
    exact this
   ·simp at h
  ·simp at h
 case insert mt x k v =>
  unfold decMapUpdate at h
  split at h
  ·rename_i kt el hu
   split at h
   ·rename_i s ks hk
    obtain⟨hx,hy,hz,rfl⟩:=with3_spec h
    obtain⟨o1,o2⟩:=opd_ok c hx
    obtain⟨o3,o4⟩:=opd_ok c hy
    obtain⟨o5,o6⟩:=opd_ok c hz
    have:=xMup_ok (P:=P) c.rel hu hk o4 o6 he
    rw [o1,o3,o5]at this
    exact this
   ·simp at h
  ·simp at h
 case range xt x =>
  unfold decRange at h
  split at h
  ·rename_i kt el hu
   obtain⟨hx,rfl⟩:=with1_spec h
   obtain⟨o1,o2⟩:=opd_ok c hx
   have:=xRngM_ok (P:=P) c.rel hu he
   rw [o1]at this
   exact this
  ·simp at h
 case next it st =>
  cases st with
  | true=>exact absurd h (by simp)
  | false =>
   change with1 it (fun x t W=>xNext W (x t))=some op at h
   obtain⟨hx,rfl⟩:=with1_spec h
   obtain⟨o1,o2⟩:=opd_ok c hx
   have:=xNext_ok (P:=P) (ty:=ty) c.rel he
   rw [o1]at this
   exact this
 case entry it =>
  obtain⟨hx,rfl⟩:=with1_spec h
  obtain⟨o1,o2⟩:=opd_ok c hx
  have:=xEntry_ok (P:=P) c.rel he
  rw [o1]at this
  exact this
 case extract x i =>
  obtain⟨hx,rfl⟩:=with1_spec h
  obtain⟨o1,o2⟩:=opd_ok c hx
  have:=xExt_ok (P:=P) (m:=m) (W:=W) (w:=w) o2 he
  rw [o1]at this
  exact this
 case call cl =>
  obtain⟨callee,args,ats⟩:=cl
  unfold decCall at h
  simp only []at h
  split at h
  ·rename_i f
   obtain⟨hx,rfl⟩:=withL_spec h
   have he':(some (Eff.call (opd f t) (args.toList.map fun x=>opd x t)))=some e:=he
   simp only [Option.some.injEq]at he'
   subst he'
   have hx':okO f=true∧args.toList.all okO=true:=by simpa using hx
   obtain⟨o1,o2⟩:=opd_ok c hx'.1
   obtain⟨o3,o4⟩:=opds_ok c hx'.2
   refine⟨o2,o4,?_⟩
   rw [o1,o3]
   have:(args.toList.map (evV arr)).toArray=args.map (evV arr):=by
    apply Array.ext'; simp
   rw [this]
   rfl
  ·rename_i b
   have sem:∀(s:Sem Value),execOp (evV arr) ⟨dst,.call ⟨.builtin b,args,ats⟩,ty,pos,after,guard⟩=sv s→EffOk P m W w (sv s) e→EffOk P m W w (execOp (evV arr) ⟨dst,.call ⟨.builtin b,args,ats⟩,ty,pos,after,guard⟩) e:=by
    intro s h1 h2
    rw [h1]; exact h2
   unfold decBuiltin at h
   split at h
   ·
    rename_i x at1 hargs hats
    have ha:args=#[x]:=by apply Array.ext'; simpa using hargs
    have ht:ats=#[at1]:=by apply Array.ext'; simpa using hats
    subst ha
    subst ht
    refine sem (Builtin.len_ #[at1] ty #[evV arr x]) (by simp [execOp,resolve,invoke,builtin,sv]) ?_
    unfold decLen at h
    split at h
    ·rename_i el hu
     obtain⟨hx,rfl⟩:=with1_spec h
     obtain⟨o1,o2⟩:=opd_ok c hx
     have:=xLenS_ok (P:=P) (m:=m) (W:=W) (w:=w) (aty:=ty) hu he
     rw [o1]at this
     exact this
    ·rename_i hu
     obtain⟨hx,rfl⟩:=with1_spec h
     obtain⟨o1,o2⟩:=opd_ok c hx
     have:=xLenT_ok (P:=P) (m:=m) (W:=W) (w:=w) (aty:=ty) hu he
     rw [o1]at this
     exact this
    ·rename_i k el hu
     obtain⟨hx,rfl⟩:=with1_spec h
     obtain⟨o1,o2⟩:=opd_ok c hx
     have:=xLenM_ok (P:=P) (aty:=ty) c.rel hu he
     rw [o1]at this
     exact this
    ·simp at h
   ·
    rename_i s x at1 at2 hargs hats
    have ha:args=#[s,x]:=by apply Array.ext'; simpa using hargs
    have ht:ats=#[at1,at2]:=by apply Array.ext'; simpa using hats
    subst ha
    subst ht
    refine sem (Builtin.append_ #[at1,at2] ty #[evV arr s,evV arr x]) (by simp [execOp,resolve,invoke,builtin,sv]) ?_
    unfold decAppend at h
    split at h
    ·rename_i el el2 hu hux
     split at h
     ·rename_i inf hi
      split at h
      ·rename_i z hz
       split at h
       ·rename_i h0
        obtain⟨hs,hx,rfl⟩:=with2_spec h
        obtain⟨o1,o2⟩:=opd_ok c hs
        obtain⟨o3,o4⟩:=opd_ok c hx
        have:=xApp_ok (P:=P) (aty:=ty) c.rel hu hux hi hz h0 o2 he
        rw [o1,o3]at this
        exact this
       ·simp at h
      ·simp at h
     ·simp at h
    ·rename_i el k2 hu hux
     split at h
     ·rename_i inf hi
      split at h
      ·rename_i z hz
       split at h
       ·rename_i h0
        obtain⟨hs,hx,rfl⟩:=with2_spec h
        obtain⟨o1,o2⟩:=opd_ok c hs
        obtain⟨o3,o4⟩:=opd_ok c hx
        have:=xApz_ok (P:=P) (aty:=ty) c.rel hu hux hi hz h0 he
        rw [o1,o3]at this
        exact this
       ·simp at h
      ·simp at h
     ·simp at h
    ·simp at h
   ·
    rename_i x at1 hargs hats
    have ha:args=#[x]:=by apply Array.ext'; simpa using hargs
    have ht:ats=#[at1]:=by apply Array.ext'; simpa using hats
    subst ha
    subst ht
    refine sem (Builtin.cap_ #[at1] ty #[evV arr x]) (by simp [execOp,resolve,invoke,builtin,sv]) ?_
    unfold decCap at h
    split at h
    ·rename_i el hu
     obtain⟨hx,rfl⟩:=with1_spec h
     obtain⟨o1,o2⟩:=opd_ok c hx
     have:=xCap_ok (P:=P) (m:=m) (W:=W) (w:=w) (aty:=ty) hu he
     rw [o1]at this
     exact this
    ·simp at h
   ·
    obtain⟨hx,rfl⟩:=withL_spec h
    obtain⟨o1,o2⟩:=opds_ok c hx
    have:=xFl_ok (P:=P) (m:=m) (W:=W) (w:=w) he
    rw [o1]at this
    refine sem (Builtin.min_ ats ty (args.map (evV arr))) rfl ?_
    have e1:(args.toList.map (evV arr)).toArray=args.map (evV arr):=by
     apply Array.ext'; simp
    rw [← e1]; exact this
   ·
    obtain⟨hx,rfl⟩:=withL_spec h
    obtain⟨o1,o2⟩:=opds_ok c hx
    have:=xFl_ok (P:=P) (m:=m) (W:=W) (w:=w) he
    rw [o1]at this
    refine sem (Builtin.max_ ats ty (args.map (evV arr))) rfl ?_
    have e1:(args.toList.map (evV arr)).toArray=args.map (evV arr):=by
     apply Array.ext'; simp
    rw [← e1]; exact this
   ·simp at h
  ·simp at h
end
end Go.Rv
namespace Go.Rv
open Go
variable [Env]
omit [Env] in
theorem eval_evV (fr:Frame):fr.eval=evV fr.tmps:=by
 funext x
 cases x<;>rfl
section
variable {P:Program}
omit [Env] in
theorem step_go {fr fr2:Frame} {cs cs2:List Frame} {w w2:World}
  (h:(stepG P true { frame:=fr,callers:=cs,status:=.running,dying:=none } w).bare=.go { frame:=fr2,callers:=cs2,status:=.running,dying:=none } w2) :
  Steps P (lone fr cs w) (lone fr2 cs2 w2):=.one (step_lone_go h)
omit [Env] in
theorem stepG_run {fr:Frame} {cs:List Frame} {w:World} (hm:fr.mode=.run) :
  stepG P true { frame:=fr,callers:=cs,status:=.running,dying:=none } w=stepG.exec P true true fr cs none w:=by
 simp [stepG,hm]
omit [Env] in
theorem exec_apply {fr:Frame} {cs:List Frame} {w:World} {ops:Array Oper} {i:Nat} {rest:List Nat} {k:List Item} {o:Oper}
  (ht:fr.todo=.inRegion ops (i :: rest) :: k) (ho:ops[i]?=some o) (hw:Region.wanted o (yielded ops fr.tmps)=true) (hd:∀c,o.op≠.defer c) :
  stepG.exec P true true fr cs none w=stepG.apply P true fr cs none (execOp (evV fr.tmps) o) w:=by
 have hoper:fr.oper?=some o:=by simp [Frame.oper?,ht,ho]
 have h1:stepG.exec P true true fr cs none w=stepG.oper P true fr cs none w:=by
  simp [stepG.exec,ht,ho,hw]
 rw [h1]
 unfold stepG.oper
 rw [hoper]
 simp only []
 split
 ·rename_i l c hl hc
  exact absurd hc (hd c)
 ·rw [eval_evV]
omit [Env] in
theorem step_op {fr:Frame} {cs:List Frame} {w w2:World} {ops:Array Oper} {i:Nat} {rest:List Nat} {k:List Item} {o:Oper} {v:Value} {nx:Next}
  (hm:fr.mode=.run) (ht:fr.todo=.inRegion ops (i :: rest) :: k) (ho:ops[i]?=some o) (hw:Region.wanted o (yielded ops fr.tmps)=true) (hd:∀c,o.op≠.defer c)
  (hr:(execOp (evV fr.tmps) o).run P w=.ok nx w2) (hn:Done v nx) :
  Steps P (lone fr cs w) (lone (fr.finish v) cs w2):=by
 apply step_go
 rw [stepG_run hm]
 rw [exec_apply ht ho hw hd]
 rcases hn with rfl | ⟨rfl,rfl⟩
 ·simp [stepG.apply,hr]
 ·simp [stepG.apply,hr]
omit [Env] in
theorem step_op_skip' {fr:Frame} {cs:List Frame} {w:World} {ops:Array Oper} {i:Nat} {rest:List Nat} {k:List Item} {o:Oper}
  (hm:fr.mode=.run) (ht:fr.todo=.inRegion ops (i :: rest) :: k) (ho:ops[i]?=some o) (hw:Region.wanted o (yielded ops fr.tmps)=false) :
  Steps P (lone fr cs w) (lone (fr.finish undef) cs w):=by
 apply step_go
 rw [stepG_run hm]
 simp [stepG.exec,ht,ho,hw]
omit [Env] in
theorem step_enter {fr:Frame} {cs:List Frame} {w w2:World} {ops:Array Oper} {i:Nat} {rest:List Nat} {k:List Item} {o:Oper} {f:FuncId} {args:Array Value}
  (hm:fr.mode=.run) (ht:fr.todo=.inRegion ops (i :: rest) :: k) (ho:ops[i]?=some o) (hw:Region.wanted o (yielded ops fr.tmps)=true) (hd:∀c,o.op≠.defer c)
  (hr:(execOp (evV fr.tmps) o).run P w=.ok (.enter f args) w2) :
  Steps P (lone fr cs w) (lone (Frame.enter P f args .normal) (fr :: cs) w2):=by
 apply step_go
 rw [stepG_run hm]
 rw [exec_apply ht ho hw hd]
 simp [stepG.apply,hr,ht]
omit [Env] in
theorem step_round {fr:Frame} {cs:List Frame} {w w2:World} {ops:Array Oper} {i:Nat} {rest:List Nat} {k:List Item} {o:Oper} {l:Nat} {f:FuncId} {tmps:Array Value} {assign body:Code}
  (hm:fr.mode=.run) (ht:fr.todo=.inRegion ops (i :: rest) :: k) (ho:ops[i]?=some o) (hw:Region.wanted o (yielded ops fr.tmps)=true) (hd:∀c,o.op≠.defer c)
  (hr:(execOp (evV fr.tmps) o).run P w=.ok (.round l f tmps assign body) w2) :
  Steps P (lone fr cs w) (lone (Frame.round l f tmps assign body .normal) (fr :: cs) w2):=by
 apply step_go
 rw [stepG_run hm]
 rw [exec_apply ht ho hw hd]
 simp [stepG.apply,hr]
section
variable {fr:Frame} {cs:List Frame} {w:World} {k:List Item}
omit [Env] in
theorem step_todo {fr:Frame} {cs:List Frame} {w:World} {todo:List Item} (hm:fr.mode=.run) (h:(stepG.exec P true true fr cs none w).bare=.go { frame:={ fr with todo:=todo },callers:=cs,status:=.running,dying:=none } w) :
  Steps P (lone fr cs w) (lone { fr with todo:=todo } cs w):=by
 apply step_go
 rw [stepG_run hm]
 exact h
omit [Env] in
theorem s_skip (hm:fr.mode=.run) (ht:fr.todo=.code .skip :: k):Steps P (lone fr cs w) (lone { fr with todo:=k } cs w):=step_todo hm (by simp [stepG.exec,ht])
omit [Env] in
theorem s_label {l:Nat} (hm:fr.mode=.run) (ht:fr.todo=.code (.label l) :: k):Steps P (lone fr cs w) (lone { fr with todo:=k } cs w):=step_todo hm (by simp [stepG.exec,ht])
omit [Env] in
theorem s_inBlock {id:Nat} (hm:fr.mode=.run) (ht:fr.todo=.inBlock id :: k):Steps P (lone fr cs w) (lone { fr with todo:=k } cs w):=step_todo hm (by simp [stepG.exec,ht])
omit [Env] in
theorem s_inScope {c:Code} (hm:fr.mode=.run) (ht:fr.todo=.inScope c :: k):Steps P (lone fr cs w) (lone { fr with todo:=k } cs w):=step_todo hm (by simp [stepG.exec,ht])
omit [Env] in
theorem s_seq {a b:Code} (hm:fr.mode=.run) (ht:fr.todo=.code (.seq a b) :: k):Steps P (lone fr cs w) (lone { fr with todo:=.code a :: .code b :: k } cs w):=step_todo hm (by simp [stepG.exec,ht])
omit [Env] in
theorem s_cond {c:Operand} {a b:Code} {t:Bool} (hm:fr.mode=.run) (ht:fr.todo=.code (.cond c a b) :: k) (he:evV fr.tmps c=.bool t) :
  Steps P (lone fr cs w) (lone { fr with todo:=.code (if t then a else b) :: k } cs w):=step_todo hm (by simp [stepG.exec,ht,eval_evV,he])
omit [Env] in
theorem s_block {id:Nat} {c:Code} (hm:fr.mode=.run) (ht:fr.todo=.code (.block id c) :: k):Steps P (lone fr cs w) (lone { fr with todo:=.code c :: .inBlock id :: k } cs w):=step_todo hm (by simp [stepG.exec,ht])
omit [Env] in
theorem s_loop {c:Code} (hm:fr.mode=.run) (ht:fr.todo=.code (.loop c) :: k):Steps P (lone fr cs w) (lone { fr with todo:=.code c :: .inLoop c :: k } cs w):=step_todo hm (by simp [stepG.exec,ht])
omit [Env] in
theorem s_scope {c:Code} (hm:fr.mode=.run) (ht:fr.todo=.code (.scope c) :: k):Steps P (lone fr cs w) (lone { fr with todo:=.code c :: .inScope c :: k } cs w):=step_todo hm (by simp [stepG.exec,ht])
omit [Env] in
theorem s_exit {id:Nat} {k':List Item} (hm:fr.mode=.run) (ht:fr.todo=.code (.exit id) :: k) (he:exitTo id k=some k'):Steps P (lone fr cs w) (lone { fr with todo:=k' } cs w):=step_todo hm (by simp [stepG.exec,ht,he])
omit [Env] in
theorem s_region {id:Nat} {ops:Array Oper} (hm:fr.mode=.run) (ht:fr.todo=.code (.region id ops false) :: k):Steps P (lone fr cs w) (lone { fr with todo:=.inRegion ops (List.range ops.size) :: k } cs w):=step_todo hm (by simp [stepG.exec,ht])
omit [Env] in
theorem s_regionEnd {ops:Array Oper} (hm:fr.mode=.run) (ht:fr.todo=.inRegion ops [] :: k):Steps P (lone fr cs w) (lone { fr with todo:=k } cs w):=step_todo hm (by simp [stepG.exec,ht])
omit [Env] in
theorem s_draw {id:Nat} {ops:Array Oper} (hm:fr.mode=.run) (ht:fr.todo=.code (.region id ops true) :: k) :
  ∃t,Steps P (lone fr cs w) (lone { fr with todo:=.inRegion ops (Region.schedule (P.follows .mixedOrders) ops t) :: k } cs { w with drawn:=w.drawn+1 }):=by
 refine⟨w.tape w.drawn (.order fr.fn id),?_⟩
 apply step_go
 rw [stepG_run hm]
 simp [stepG.exec,ht,choose,Sem.run,Question.forced,Question.cut]
omit [Env] in
theorem s_return (hm:fr.mode=.run) (ht:fr.todo=[]∨∃k,fr.todo=.code .ret :: k) (hr:fr.roundOf=none):Steps P (lone fr cs w) (lone { fr with mode:=.returning } cs w):=by
 apply step_go
 rw [stepG_run hm]
 rcases ht with ht | ⟨k,ht⟩
 ·simp [stepG.exec,ht,hr]
 ·simp [stepG.exec,ht,hr]
end
end
end Go.Rv
namespace Go.Rv
open Go
variable [Env]
def markOf (m:Nat→Loc) (d:Nat):Deferred:={ target:=.collected (m d).blk,args:=#[] }
structure FrOk (m:Nat→Loc) (s:St) (fr:Frame) (f:FuncId) (rd:Option Nat):Prop where
 mode:fr.mode=.run
 fn:fr.fn=f
 rnd:fr.roundOf=rd.map fun l=>(m l).blk
 tr:TR m s.t fr.tmps
 ds:fr.defers=s.ds.map (markOf m)
 dlt:∀d∈s.ds,d < s.W.n
 rlt:∀l,rd=some l→l < s.W.n
def Left:Ex→List Item→List Item→Prop
 | .nrm,todo,k=>todo=k
 | .exit id,todo,k=>∃k2,todo=.code (.exit id) :: k2∧exitTo id k2=exitTo id k
 | .ret,todo,_=>∃k2,todo=.code .ret :: k2
 | .goto l,todo,k=>∃k2,todo=.code (.goto l) :: k2∧gotoIn l k2=gotoIn l k
def CodeOk (P:Program) (f:FuncId) (rd:Option Nat) (c:Code) (s:St) (ex:Ex) (s':St):Prop:=
 ∀(m:Nat→Loc) (w:World) (fr:Frame) (cs:List Frame) (k:List Item),Rel m s.W w→tlt s.W.n s.t→FrOk m s fr f rd→fr.todo=.code c :: k →
  ∃m' w' fr2,Steps P (lone fr cs w) (lone fr2 cs w')∧Rel m' s'.W w'∧tlt s'.W.n s'.t∧FrOk m' s' fr2 f rd∧Post m s.W w m' s'.W w'∧fr2.kind=fr.kind∧Left ex fr2.todo k
def EvOk (P:Program) (ev:Ev):Prop:=∀f rd c s ex s',ev f rd c s=some (ex,s')→CodeOk P f rd c s ex s'
section
variable {P:Program} {ev:Ev}
omit [Env] in
theorem step_unwind {fr fr2:Frame} {cs cs2:List Frame} {w w2:World} (hm:fr.mode=.returning)
  (h:(unwind P true fr cs none w).bare=.go { frame:=fr2,callers:=cs2,status:=.running,dying:=none } w2):Steps P (lone fr cs w) (lone fr2 cs2 w2):=by
 apply step_go
 simpa [stepG,hm] using h
theorem takeDs_ok:∀(ds:List Nat) (W W':RW) (m:Nat→Loc) (w:World) (fr:Frame) (cs:List Frame),takeDs ds W=some W'→Rel m W w→fr.mode=.returning→fr.defers=ds.map (markOf m) →
  ∃w',Steps P (lone fr cs w) (lone { fr with defers:=[] } cs w')∧Rel m W' w'∧Post m W w m W' w'
 | [],W,W',m,w,fr,cs,h,hr,hm,hd=>by
  simp only [takeDs,Option.some.injEq]at h
  subst h
  refine⟨w,?_,hr,Post.refl _ _ _⟩
  have:({ fr with defers:=[] }:Frame)=fr:=by
   cases fr
   simp at hd
   subst hd
   rfl
  rw [this]
  exact Steps.refl _ _
 | d :: ds,W,W',m,w,fr,cs,h,hr,hm,hd=>by
  simp only [takeDs]at h
  split at h
  ·rename_i hg
   split at h
   ·rename_i W1 hs
    have ho:w.heap[(m d).blk]?=some (.deferred (some [])):=hr.obj d _ hg
    obtain⟨hr1,hp1⟩:=hr.setObj (o':=.dfr true) (x:=.deferred none) hg rfl hs trivial (Array.getElem?_eq_some_iff.1 ho).1 (fun heap hh=>hh)
    obtain⟨w2,st2,hr2,hp2⟩:=takeDs_ok ds W1 W' m _ { fr with defers:=ds.map (markOf m) } cs h hr1 hm rfl
    refine⟨w2,Steps.trans ?_ st2,hr2,hp1.trans hp2⟩
    apply step_unwind hm
    have htd:(Instr.takeDeferred (m d).blk).run P w=.ok [] { w with heap:=w.heap.setIfInBounds (m d).blk (.deferred none) }:=by
     simp [Instr.takeDeferred,getObj,setObj,Sem.run,ho]
    unfold unwind
    rw [hd]
    simp [markOf,htd]
   ·simp at h
  ·simp at h
def resSem (arr:Array Value) (r:ResultVar):Sem Value:=match r with
 | .tmp t=>pure (arr.getD t undef)
 | .cell a t=>do loadVar t (← asAddr (arr.getD a undef))
theorem results_run {W:RW} {m:Nat→Loc} {w:World} {t:RT} {arr:Array Value} (hr:Rel m W w) (ht:TR m t arr) (hlt:tlt W.n t):∀(l:List ResultVar) (xs:List RV),resultsR P t W l=some xs →
  (l.mapM (resSem arr)).run P w=.ok (xs.map (rv m)) w∧belowL W.n xs=true
 | [],xs,h=>by
  simp only [resultsR,omap,Option.some.injEq]at h
  subst h
  exact⟨rfl,rfl⟩
 | r :: l,xs,h=>by
  simp only [resultsR,omap]at h
  split at h
  ·rename_i y ys hy hys
   simp only [Option.some.injEq]at h
   subst h
   obtain⟨h1,h2⟩:=results_run hr ht hlt l ys hys
   have hone:(resSem arr r).run P w=.ok (rv m y) w∧below W.n y=true:=by
    cases r with
    | tmp i =>
     simp only [resultR,Option.some.injEq]at hy
     subst hy
     exact⟨by rw [← ht.get i]; rfl,hlt i⟩
    | cell a ty =>
     simp only [resultR]at hy
     split at hy
     ·rename_i i b o hg hi hp
      split at hy
      ·rename_i c hc
       obtain⟨k,hb⟩:=cellsAt_spec hc
       split at hy
       ·rename_i l hl
        simp only [Option.some.injEq]at hy
        subst hy
        obtain⟨g1,g2,g3⟩:=lcut_cells (P:=P) hr hb hl
        refine⟨?_,by simpa [below] using g2⟩
        simp only [resSem,Sem.run_bind,ht.get a,hp,rv,asAddr,Sem.run_pure,Result.andThen,loadVar,run_isAgg hg,if_true,run_size hi,g1,rvL_eq]
       ·simp at hy
      ·simp at hy
     ·rename_i i b o hg hi hp
      split at hy
      ·rename_i c hc
       obtain⟨k,hb⟩:=cellsAt_spec hc
       rw [lget_eq]at hy
       refine⟨?_,(hr.cellLt hb hy).2⟩
       simp only [resSem,Sem.run_bind,ht.get a,hp,rv,asAddr,Sem.run_pure,Result.andThen,loadVar,run_isAgg hg,Bool.false_eq_true,if_false,run_load,hr.cell hb hy]
      ·simp at hy
     ·simp at hy
   refine⟨?_,by simp [belowL,hone.2,h2]⟩
   simp only [List.mapM_cons,Sem.run_bind,hone.1,Result.andThen_ok,h1,Sem.run_pure,List.map_cons]
  ·simp at h
omit [Env] in
theorem one_ok (m:Nat→Loc) {n:Nat} {xs:List RV} (h:belowL n xs=true):below n (one xs)=true ∧
  (if h:((xs.map (rv m)).toArray).size=1 then ((xs.map (rv m)).toArray)[0]else .tuple (xs.map (rv m)).toArray)=rv m (one xs):=by
 match xs,h with
 | [],_=>exact⟨rfl,by simp [one,rv,rvL]⟩
 | [x],h=>exact⟨by simpa [belowL,one] using h,by simp [one]⟩
 | x :: y :: r,h=>exact⟨by simpa [below,one] using h,by simp [one,rv,rvL_eq]⟩
theorem results_ok {fn:Func} {W:RW} {m:Nat→Loc} {w:World} {t:RT} {arr:Array Value} (hr:Rel m W w) (ht:TR m t arr) (hlt:tlt W.n t) {xs:List RV} (h:resultsR P t W fn.results.toList=some xs) :
  (results fn arr).run P w=.ok (rv m (one xs)) w∧below W.n (one xs)=true:=by
 obtain⟨h1,h2⟩:=results_run hr ht hlt _ _ h
 obtain⟨h3,h4⟩:=one_ok m h2
 refine⟨?_,h3⟩
 have hres:results fn arr=(do let vs ← fn.results.mapM (resSem arr); pure (if h:vs.size=1 then vs[0]else .tuple vs)):=by
  unfold results
  congr 1
 rw [hres]
 have e:fn.results=fn.results.toList.toArray:=by simp
 rw [e,List.mapM_toArray]
 simp only [Sem.run_bind,Sem.run_map,h1,Result.andThen_ok,Sem.run_pure,h4]
omit [Env] in
theorem enter_get (l:List Value) (n i:Nat):(l.toArray++Array.replicate n undef).getD i undef=(l[i]?).getD undef:=by
 rw [Array.getD_eq_getD_getElem?]
 by_cases hi:i < l.length
 ·rw [Array.getElem?_append_left (by simpa using hi)]
  simp
 ·rw [Array.getElem?_append_right (by simpa using hi),List.getElem?_eq_none (by omega)]
  by_cases h2:i-l.length < n
  ·simp [h2]
  ·simp [h2]
def CallOk (P:Program) (g:FuncId) (args:List RV) (W:RW) (x:RV) (W':RW):Prop:=
 ∀(m:Nat→Loc) (w:World) (cs:List Frame),Rel m W w→belowL W.n args=true →
  ∃m' w' fr,Steps P (lone (Frame.enter P g (args.map (rv m)).toArray .normal) cs w) (lone fr cs w')∧fr.leaving P w' (.returned (rv m' x))∧fr.fn=g ∧
   Rel m' W' w'∧Post m W w m' W' w'∧below W'.n x=true
structure NoOwn (P:Program):Prop where
 name:∀(g:FuncId) (fn:Func),P.funcs[g]?=some fn→(fn.name == "runtime.NumGoroutine")=false
 ext:∀(g:FuncId) (args:List RV) (W:RW) (x:RV) (W':RW),Env.ext g args W=some (x,W')→CallOk P g args W x W'∧∃fn,P.funcs[g]?=some fn∧fn.body.isSome=true
theorem callF_ok (hN:NoOwn P) (hev:EvOk P ev) {g:FuncId} {args:List RV} {W W':RW} {x:RV} (h:callF P ev g args W=some (x,W')) :
  CallOk P g args W x W'∧∃fn,P.funcs[g]?=some fn∧fn.body.isSome=true:=by
 unfold callF at h
 split at h
 ·rename_i r hr
  simp only [Option.some.injEq]at h
  subst h
  exact hN.ext _ _ _ _ _ hr
 split at h
 ·rename_i fn hfn
  split at h
  ·rename_i c hc
   refine⟨?_,fn,hfn,by simp [hc]⟩
   intro m w cs hr hb
   rw [fnat_eq]at h
   unfold finF at h
   split at h
   ·rename_i ex s hs
    have hlen:args.length≤max args.length fn.ntmps:=Nat.le_max_left _ _
    have hlt:tlt W.n (RT.of args (max args.length fn.ntmps)):=by
     intro i
     rw [of_get _ _ _ hlen]
     cases hx:args[i]? with
     | none=>rfl
     | some y=>exact(belowL_iff _ _).1 hb y (List.mem_of_getElem? hx)
    have hfr:FrOk m ⟨RT.of args (max args.length fn.ntmps),W,[]⟩ (Frame.enter P g (args.map (rv m)).toArray .normal) g none:=by
     refine⟨rfl,rfl,rfl,⟨?_,?_⟩,rfl,by simp,by simp⟩
     ·simp [Frame.enter,hfn]; omega
     ·intro i
      rw [of_get _ _ _ hlen]
      simp only [Frame.enter,hfn,Option.map_some,Option.getD_some]
      rw [enter_get,List.getElem?_map]
      cases args[i]?<;>rfl
    have htodo:(Frame.enter P g (args.map (rv m)).toArray .normal).todo=.code c :: []:=by simp [Frame.enter,hfn,hc]
    obtain⟨m1,w1,fr1,st1,hr1,hlt1,hfr1,hp1,hk1,hleft⟩:=hev _ _ _ _ _ _ hs m w _ cs [] hr hlt hfr htodo
    have fin:(fr1.todo=[]∨∃k,fr1.todo=.code .ret :: k)→(match takeDs s.ds s.W with
      | some W'=>match resultsR P s.t W' fn.results.toList with
       | some xs=>some (one xs,W')
       | none=>none
      | none=>none)=some (x,W')→∃m' w' fr,Steps P (lone (Frame.enter P g (args.map (rv m)).toArray .normal) cs w) (lone fr cs w')∧fr.leaving P w' (.returned (rv m' x))∧fr.fn=g ∧
       Rel m' W' w'∧Post m W w m' W' w'∧below W'.n x=true:=by
     intro htd hh
     split at hh
     ·rename_i W2 htk
      split at hh
      ·rename_i xs hxs
       simp only [Option.some.injEq,Prod.mk.injEq]at hh
       obtain⟨rfl,rfl⟩:=hh
       have st2:=s_return (P:=P) (cs:=cs) (w:=w1) hfr1.mode htd hfr1.rnd
       obtain⟨w2,st3,hr2,hp2⟩:=takeDs_ok (P:=P) s.ds s.W W2 m1 w1 { fr1 with mode:=.returning } cs htk hr1 rfl hfr1.ds
       have hlt2:tlt W2.n s.t:=fun i=>below_mono hp2.mono _ (hlt1 i)
       obtain⟨r1,r2⟩:=results_ok (P:=P) (fn:=fn) hr2 hfr1.tr hlt2 hxs
       exact⟨m1,w2,_,st1.trans (st2.trans st3),⟨rfl,rfl,hk1,fn,by rw [← hfr1.fn]at hfn; exact hfn,r1⟩,hfr1.fn,hr2,hp1.trans hp2,r2⟩
      ·simp at hh
     ·simp at hh
    cases ex with
    | nrm=>exact fin (.inl hleft) h
    | ret=>exact fin (.inr hleft) h
    | exit id=>simp at h
    | goto l=>simp at h
   ·simp at h
  ·simp at h
 ·simp at h
end
end Go.Rv
namespace Go.Rv
open Go
variable [Env]
section
variable {P:Program} {ev:Ev}
theorem loopAt {m:Nat→Loc} {W:RW} {w:World} (hr:Rel m W w) {l:Nat} {st:LoopState} {pend:Option Code} {fn:FuncId} {t:RT} {params:Array Tmp} {assign body:Code} {d:Nat}
  (hg:W.get l=some (.loop st pend fn t params assign body d)) :
  ∃arr,TR m t arr∧w.heap[(m l).blk]?=some (.loop ⟨st,pend,fn,arr,params,assign,body,(m d).blk⟩)∧tlt W.n t∧d < W.n:=by
 obtain⟨arr,h1,h2⟩:=hr.obj l _ hg
 obtain⟨h3,h4⟩:=hr.lt l _ hg
 exact⟨arr,h1,h2,h3,h4⟩
omit [Env] in
theorem run_getLoop' {w:World} {l:Nat} {r:Loop} (h:w.heap[l]?=some (.loop r)):(Instr.getLoop l).run P w=.ok r w:=by
 simp [Instr.getLoop,getObj,Sem.run,h]
omit [Env] in
theorem run_setLoop {w:World} {l:Nat} {r:Loop} {o:Obj} (h:w.heap[l]?=some (.loop r)):(setObj l o).run P w=.ok () { w with heap:=w.heap.setIfInBounds l o }:=by
 simp [setObj,Sem.run,h]
theorem Rel.setLoop {m:Nat→Loc} {W W':RW} {w:World} (hr:Rel m W w) {l:Nat} {st st':LoopState} {pend pend':Option Code} {fn:FuncId} {t:RT} {params:Array Tmp} {assign body:Code} {d:Nat} {arr:Array Value}
  (hg:W.get l=some (.loop st pend fn t params assign body d)) (ht:TR m t arr) (hh:w.heap[(m l).blk]?=some (.loop ⟨st,pend,fn,arr,params,assign,body,(m d).blk⟩))
  (hs:W.set l (.loop st' pend' fn t params assign body d)=some W') :
  Rel m W' { w with heap:=w.heap.setIfInBounds (m l).blk (.loop ⟨st',pend',fn,arr,params,assign,body,(m d).blk⟩) }∧Post m W w m W' { w with heap:=w.heap.setIfInBounds (m l).blk (.loop ⟨st',pend',fn,arr,params,assign,body,(m d).blk⟩) }:=
 hr.setObj (o':=.loop st' pend' fn t params assign body d) hg rfl hs (show tlt W.n t∧d < W.n from hr.lt l _ hg) (Array.getElem?_eq_some_iff.1 hh).1 (fun _ h2=>⟨arr,ht,h2⟩)
omit [Env] in
theorem leave_round {fr c:Frame} {cs:List Frame} {w:World} {l:Nat} {r:Loop} {ex:Ex} {v:Bool} {st:LoopState} {p:Option Code}
  (hm:fr.mode=.run) (hr:fr.roundOf=some l) (hk:fr.kind=.normal) (hg:w.heap[l]?=some (.loop r)) (ht:Left ex fr.todo [])
  (hex:(ex=.nrm∧st=.ready∧p=none∧v=true)∨(∃id,ex=.exit id∧st=.done∧p=some (.exit id)∧v=false)∨(ex=.ret∧st=.done∧p=some .ret∧v=false)∨(∃g,ex=.goto g∧st=.done∧p=some (.goto g)∧v=false)) :
  Steps P (lone fr (c :: cs) w) (lone (c.finish (.bool v)) cs { w with heap:=w.heap.setIfInBounds l (.loop { r with state:=st,pending:=p }) }):=by
 have hend:∀j:Option Code,(Instr.endRound l j).run P w=.ok (.bool j.isNone) { w with heap:=w.heap.setIfInBounds l (.loop { r with state:=if j.isNone then .ready else .done,pending:=j }) }:=by
  intro j
  simp [Instr.endRound,run_getLoop' hg,run_setLoop hg]
 apply step_go
 rw [stepG_run hm]
 rcases hex with ⟨rfl,rfl,rfl,rfl⟩ | ⟨id,rfl,rfl,rfl,rfl⟩ | ⟨rfl,rfl,rfl,rfl⟩ | ⟨g,rfl,rfl,rfl,rfl⟩
 ·have ht':fr.todo=[]:=ht
  simp [stepG.exec,ht',hr,hend,doReturn,hk]
 ·obtain⟨k2,ht1,ht2⟩:=ht
  have ht3:exitTo id k2=none:=by rw [ht2]; rfl
  simp [stepG.exec,ht1,ht3,hr,hend,doReturn,hk]
 ·obtain⟨k2,ht1⟩:=ht
  simp [stepG.exec,ht1,hr,hend,doReturn,hk]
 ·obtain⟨k2,ht1,ht2⟩:=ht
  have ht3:gotoIn g k2=none:=by rw [ht2]; rfl
  simp [stepG.exec,ht1,ht3,hr,hend,doReturn,hk]
omit [Env] in
theorem finY_ok {l:Nat} {W W':RW} {st:LoopState} {p:Option Code} {b:Bool} {x:RV} (h:finY l W st p b=some (x,W')) :
  ∃st0 pend fn t params assign body d,W.get l=some (.loop st0 pend fn t params assign body d)∧W.set l (.loop st p fn t params assign body d)=some W'∧x=.v (.bool b):=by
 unfold finY at h
 split at h
 ·rename_i st0 pend fn t params assign body d hg
  split at h
  ·rename_i W2 hs
   simp only [Option.some.injEq,Prod.mk.injEq]at h
   obtain⟨rfl,rfl⟩:=h
   exact⟨_,_,_,_,_,_,_,_,hg,hs,rfl⟩
  ·simp at h
 ·simp at h
omit [Env] in
theorem setParams_ok {m:Nat→Loc} {n:Nat}:∀(ps:List Tmp) (as:List RV) (t t':RT) (arr:Array Value),setParams ps as t=some t'→TR m t arr→tlt n t→belowL n as=true →
  ps.length=as.length∧TR m t' ((ps.zip (as.map (rv m))).foldl (fun(tmps:Array Value) (x:Tmp×Value)=>tmps.setIfInBounds x.1 x.2) arr)∧tlt n t'
 | [],[],t,t',arr,h,ht,hl,hb=>by
  simp only [setParams,Option.some.injEq]at h
  subst h
  exact⟨rfl,ht,hl⟩
 | p :: ps,a :: as,t,t',arr,h,ht,hl,hb=>by
  simp only [setParams]at h
  split at h
  ·rename_i t1 hs
   obtain⟨h1,h2,h3⟩:=set_ok _ _ _ _ hs
   have hb':below n a=true∧belowL n as=true:=by simpa [belowL] using hb
   obtain⟨h4,h5,h6⟩:=setParams_ok (m:=m) ps as t1 t' (arr.setIfInBounds p (rv m a)) h ⟨by simp [ht.size,h1],fun i=>by
    rw [h3 i]
    by_cases hi:p=i
    ·subst hi
     have:p < arr.size:=by rw [ht.size]; exact h2
     simp [this]
    ·rw [if_neg hi,← ht.get i]
     simp [Array.getD_eq_getD_getElem?,Array.getElem?_setIfInBounds_ne hi]⟩ (fun i=>by
    rw [h3 i]
    split
    ·exact hb'.1
    ·exact hl i) hb'.2
   exact⟨by simp [h4],by simpa using h5,h6⟩
  ·simp at h
 | [],_ :: _,_,_,_,h,_,_,_=>by simp [setParams]at h
 | _ :: _,[],_,_,_,h,_,_,_=>by simp [setParams]at h
def CallRun (P:Program) (fr:Frame) (cs:List Frame) (s:Sem Next) (w:World) (v:Value) (w':World):Prop:=
 (∃g args,s.run P w=.ok (.enter g args) w∧Steps P (lone (Frame.enter P g args .normal) (fr :: cs) w) (lone (fr.finish v) cs w')) ∨
 (∃l f tmps as bd,s.run P w=.ok (.round l f tmps as bd) w∧Steps P (lone (Frame.round l f tmps as bd .normal) (fr :: cs) w) (lone (fr.finish v) cs w'))
def callSem (m:Nat→Loc) (f:RV) (args:List RV):Sem Next:=do
 let d ← Deferred.ofValue (rv m f) (args.map (rv m)).toArray
 invoke d.target d.args
theorem run_callFunc (hN:NoOwn P) {g:FuncId} {fn:Func} (h:P.funcs[g]?=some fn) (hb:fn.body.isSome=true) (args:Array Value) (w:World) :
  (callFunc g args).run P w=.ok (.enter g args) w:=by
 have h1:=hN.name g fn h
 obtain⟨c,hc⟩:=Option.isSome_iff_exists.1 hb
 have h3:¬ fn.name = "runtime.NumGoroutine" := by simpa using h1
 simp [callFunc,h,h3,hc]
theorem callY_ok (hev:EvOk P ev) {l:Nat} {args:List RV} {W W':RW} {x:RV} (h:callY ev l args W=some (x,W')) {m:Nat→Loc} {w:World} (hr:Rel m W w) (hba:belowL W.n args=true) (fr:Frame) (cs:List Frame) :
  ∃m' w',CallRun P fr cs (callSem m (.yld l) args) w (rv m' x) w'∧Rel m' W' w'∧Post m W w m' W' w'∧below W'.n x=true:=by
 unfold callY at h
 split at h
 ·rename_i st0 pend0 fn t params assign body d hg
  obtain⟨arr,ht,hh,hlt,hd⟩:=loopAt hr hg
  split at h
  ·rename_i t0 hsp
   obtain⟨hlen,ht0,hlt0⟩:=setParams_ok params.toList args t t0 arr hsp ht hlt hba
   have hrun:(callSem m (.yld l) args).run P w=.ok (.round (m l).blk fn ((params.toList.zip (args.map (rv m))).foldl (fun(tmps:Array Value) (x:Tmp×Value)=>tmps.setIfInBounds x.1 x.2) arr) assign body) w:=by
    have hsz:((args.map (rv m)).toArray).size=params.size:=by simp [← hlen]
    have hz:(params.zip (args.map (rv m)).toArray).foldl (fun(tmps:Array Value) (x:Tmp×Value)=>tmps.setIfInBounds x.1 x.2) arr=(params.toList.zip (args.map (rv m))).foldl (fun(tmps:Array Value) (x:Tmp×Value)=>tmps.setIfInBounds x.1 x.2) arr:=by
     rw [← Array.foldl_toList,Array.toList_zip]
    simp only [callSem,rv,Deferred.ofValue,invoke,Sem.run_bind,Sem.run_pure,Result.andThen_ok,Instr.yield,Array.empty_append,run_getLoop' hh,hsz,ne_eq,not_true_eq_false,if_false]
    rw [← hz]
   unfold begY at h
   split at h
   ·rename_i t1 W1 hs1
    have hlW:l < W.n:=get_lt hg
    obtain⟨m1,w1,fr1,st1,hr1,hlt1,hfr1,hp1,hk1,hleft1⟩:=hev _ _ _ _ _ _ hs1 m w (Frame.round (m l).blk fn ((params.toList.zip (args.map (rv m))).foldl (fun(tmps:Array Value) (x:Tmp×Value)=>tmps.setIfInBounds x.1 x.2) arr) assign body .normal) (fr :: cs) [.beginRound,.code body] hr hlt0
     ⟨rfl,rfl,rfl,ht0,rfl,by simp,fun l' hl'=>by cases hl'; exact hlW⟩ rfl
    split at h
    ·rename_i pend1 f1 t1' ps1 as1 bd1 d1 hg1
     split at h
     ·rename_i W2 hs2
      obtain⟨arr1,ht1,hh1,_,_⟩:=loopAt hr1 hg1
      obtain⟨hr2,hp2⟩:=hr1.setLoop hg1 ht1 hh1 hs2
      have hml:(m1 l).blk=(m l).blk:=by rw [hp1.ag l hlW]
      have hround1:fr1.roundOf=some (m1 l).blk:=hfr1.rnd
      have stb:Steps P (lone fr1 (fr :: cs) w1) (lone { fr1 with todo:=[.code body] } (fr :: cs) { w1 with heap:=w1.heap.setIfInBounds (m1 l).blk (.loop ⟨.busy,pend1,f1,arr1,ps1,as1,bd1,(m1 d1).blk⟩) }):=by
       apply step_go
       rw [stepG_run hfr1.mode]
       have htd:fr1.todo=[.beginRound,.code body]:=hleft1
       have hbr:(Instr.beginRound (m1 l).blk).run P w1=.ok () { w1 with heap:=w1.heap.setIfInBounds (m1 l).blk (.loop ⟨.busy,pend1,f1,arr1,ps1,as1,bd1,(m1 d1).blk⟩) }:=by
        simp [Instr.beginRound,run_getLoop' hh1,run_setLoop hh1]
       simp [stepG.exec,htd,stepG.apply,hround1,hbr,Frame.finish]
      unfold exY at h
      split at h
      ·rename_i ex t3 W3 hs3
       have hlW1:l < W1.n:=get_lt hg1
       have hn2:W2.n=W1.n:=(set_spec hs2).1
       obtain⟨m3,w3,fr3,st3,hr3,hlt3,hfr3,hp3,hk3,hleft3⟩:=hev _ _ _ _ _ _ hs3 m1 _ { fr1 with todo:=[.code body] } (fr :: cs) [] hr2 (fun i=>by
        have:=hlt1 i
        simp only [hn2]
        exact this) ⟨hfr1.mode,hfr1.fn,hfr1.rnd,hfr1.tr,by simpa using hfr1.ds,by simp,fun l' hl'=>by cases hl'; simp only [hn2]; exact hlW1⟩ rfl
       have hround3:fr3.roundOf=some (m3 l).blk:=hfr3.rnd
       have hkn:fr3.kind=.normal:=by rw [hk3]; exact hk1
       have finish:∀(st:LoopState) (p:Option Code) (b:Bool),finY l W3 st p b=some (x,W') →
         ((ex=.nrm∧st=.ready∧p=none∧b=true)∨(∃id,ex=.exit id∧st=.done∧p=some (.exit id)∧b=false)∨(ex=.ret∧st=.done∧p=some .ret∧b=false)∨(∃g,ex=.goto g∧st=.done∧p=some (.goto g)∧b=false)) →
         ∃m' w',CallRun P fr cs (callSem m (.yld l) args) w (rv m' x) w'∧Rel m' W' w'∧Post m W w m' W' w'∧below W'.n x=true:=by
        intro st p b hfin hex
        obtain⟨st4,pend4,fn4,t4,ps4,as4,bd4,d4,hg4,hs4,rfl⟩:=finY_ok hfin
        obtain⟨arr4,ht4,hh4,_,_⟩:=loopAt hr3 hg4
        obtain⟨hr5,hp5⟩:=hr3.setLoop hg4 ht4 hh4 hs4
        have st5:=leave_round (P:=P) (c:=fr) (cs:=cs) hfr3.mode hround3 hkn hh4 hleft3 hex
        exact⟨m3,_,.inr ⟨_,_,_,_,_,hrun,st1.trans (stb.trans (st3.trans st5))⟩,hr5,hp1.trans (hp2.trans (hp3.trans hp5)),rfl⟩
       cases ex with
       | nrm=>exact finish _ _ _ h (.inl ⟨rfl,rfl,rfl,rfl⟩)
       | exit id=>exact finish _ _ _ h (.inr (.inl ⟨id,rfl,rfl,rfl,rfl⟩))
       | ret=>exact finish _ _ _ h (.inr (.inr (.inl ⟨rfl,rfl,rfl,rfl⟩)))
       | goto g=>exact finish _ _ _ h (.inr (.inr (.inr ⟨g,rfl,rfl,rfl,rfl⟩)))
      ·simp at h
     ·simp at h
    ·simp at h
   ·simp at h
  ·simp at h
 ·simp at h
theorem callV_ok (hev:EvOk P ev) (hN:NoOwn P) {f:RV} {args:List RV} {W W':RW} {x:RV} (h:callV P ev f args W=some (x,W')) {m:Nat→Loc} {w:World} (hr:Rel m W w) (hbf:below W.n f=true) (hba:belowL W.n args=true) (fr:Frame) (cs:List Frame) :
  ∃m' w',CallRun P fr cs (callSem m f args) w (rv m' x) w'∧Rel m' W' w'∧Post m W w m' W' w'∧below W'.n x=true:=by
 have viaF:∀(g:FuncId) (as:List RV),callF P ev g as W=some (x,W')→belowL W.n as=true→(∀w,(callSem m f args).run P w=(callFunc g (as.map (rv m)).toArray).run P w) →
   ∃m' w',CallRun P fr cs (callSem m f args) w (rv m' x) w'∧Rel m' W' w'∧Post m W w m' W' w'∧below W'.n x=true:=by
  intro g as hc hb hs
  obtain⟨hok,fn,hfn,hbody⟩:=callF_ok hN hev hc
  obtain⟨m',w',fr2,st,hl,_,hr',hp,hx⟩:=hok m w (fr :: cs) hr hb
  refine⟨m',w',.inl ⟨g,(as.map (rv m)).toArray,by rw [hs,run_callFunc hN hfn hbody],st.trans (.one (step_leave_returned hl))⟩,hr',hp,hx⟩
 have bl:∀ {a b:List RV},belowL W.n a=true→belowL W.n b=true→belowL W.n (a++b)=true:=by
  intro a b h1 h2
  rw [belowL_iff]at *
  intro y hy
  rcases List.mem_append.1 hy with hy | hy
  ·exact h1 y hy
  ·exact h2 y hy
 unfold callV at h
 split at h
 ·rename_i g a c
  split at h
  ·rename_i hflat
   have hflat':a.toList.all oneV=true∧c.toList.all oneV=true:=by simpa using hflat
   refine viaF g _ h (bl (bl (belowC_L (belowC_v hflat'.1 _)) hba) (belowC_L (belowC_v hflat'.2 _))) ?_
   intro w
   simp only [callSem,rv,Deferred.ofValue,invoke,Sem.run_bind,Sem.run_pure,Result.andThen_ok]
   congr 2
   have hmv:∀l:List Value,(l.map RV.v).map (rv m)=l:=fun l=>by rw [← rvL_eq,rvL_v]
   apply Array.ext'
   simp only [List.map_append,hmv,Array.toList_append]
  ·simp at h
 ·rename_i g a c
  have hb2:belowL W.n a=true∧belowL W.n c=true:=by simpa [below] using hbf
  refine viaF g _ h (bl (bl hb2.1 hba) hb2.2) ?_
  intro w
  simp only [callSem,rv,Deferred.ofValue,invoke,Sem.run_bind,Sem.run_pure,Result.andThen_ok]
  congr 2
  apply Array.ext'
  simp only [List.map_append,rvL_eq,Array.toList_append]
 ·exact callY_ok hev h hr hba fr cs
 ·simp at h
end
end Go.Rv
namespace Go.Rv
open Go
variable [Env]
section
variable {P:Program} {ev:Ev}
structure OpOk (P:Program) (ops:Array Oper) (o:Oper) (r:ROper):Prop where
 op:decOp P o=some r.op
 st:r.st=storeTo o.op
 put:PutOk r.put o.dst
 guard:(o.guard=none∧r.guard=none)∨∃j b d,o.guard=some (j,b)∧(ops[j]?).bind (·.dst)=some d∧r.guard=some (fun t=>t.get d,b)
omit [Env] in
theorem fst_eq {β:Type} (x:Option Opd) (k:Option Opd→β):fst x k=k x:=by cases x<;>rfl
theorem decOper_ok {ops:Array Oper} {o:Oper} {r:ROper} (h:decOper P ops o=some r):OpOk P ops o r:=by
 unfold decOper at h
 split at h
 ·rename_i op hop
  obtain⟨g,hg,hput⟩:=putB_ok o.dst
  rw [hg]at h
  simp only at h
  split at h
  ·rename_i hgd
   rw [fst_eq]at h
   simp only [Option.some.injEq]at h
   subst h
   exact⟨hop,rfl,hput,.inl ⟨hgd,rfl⟩⟩
  ·rename_i j b hgd
   split at h
   ·rename_i d hd
    rw [tmpB_eq]at h
    simp only [fst_eq,Option.some.injEq]at h
    subst h
    exact⟨hop,rfl,hput,.inr ⟨j,b,d,hgd,hd,rfl⟩⟩
   ·simp at h
 ·simp at h
theorem wanted_ok {ops:Array Oper} {o:Oper} {r:ROper} (h:OpOk P ops o r) {m:Nat→Loc} {t:RT} {arr:Array Value} (ht:TR m t arr):Region.wanted o (yielded ops arr)=wantedR t r.guard:=by
 rcases h.guard with ⟨h1,h2⟩ | ⟨j,b,d,h1,h2,h3⟩
 ·simp [Region.wanted,h1,h2,wantedR]
 ·have hget:=ht.get d
  have hy:yielded ops arr j=match rv m (t.get d)with | .bool b=>some b | _=>none:=by
   unfold yielded
   rw [h2]
   simp only [Option.bind_some]
   rw [← hget,Array.getD_eq_getD_getElem?]
   cases arr[d]? with
   | none=>rfl
   | some v=>cases v<;>rfl
  simp only [Region.wanted,h1,h3,wantedR,hy]
  cases hx:t.get d with
  | v x=>cases x<;>simp [rv]
  | _=>simp [rv]
theorem noDefer {o:Oper} {op:ROp} (h:decOp P o=some op) (c:Call):o.op≠.defer c:=by
 intro hc
 unfold decOp at h
 rw [hc]at h
 simp at h
def dstSet (d:Option Nat) (arr:Array Value) (v:Value):Array Value:=match d with
 | some d=>arr.setIfInBounds d v
 | none=>arr
omit [Env] in
theorem put_TR {m:Nat→Loc} {t t':RT} {arr:Array Value} {g:Put} {d:Option Nat} {x:RV} {n:Nat} (hp:PutOk g d) (h:g t x=some t') (ht:TR m t arr) (hl:tlt n t) (hx:below n x=true) :
  TR m t' (dstSet d arr (rv m x))∧tlt n t':=by
 obtain⟨h1,h2,h3⟩:=hp t t' x h
 refine⟨?_,fun i=>by
  rw [h3 i]
  split
  ·exact hx
  ·exact hl i⟩
 cases d with
 | none =>
  exact⟨by show arr.size=t'.n; rw [ht.size,h1],fun i=>by rw [h3 i,if_neg (by simp)]; exact ht.get i⟩
 | some d =>
  refine⟨by simp [dstSet,ht.size,h1],fun i=>?_⟩
  rw [h3 i]
  by_cases hi:d=i
  ·subst hi
   have:d < arr.size:=by rw [ht.size]; exact h2 d rfl
   simp [dstSet,this]
  ·rw [if_neg (by simpa using hi),← ht.get i]
   simp [dstSet,Array.getD_eq_getD_getElem?,Array.getElem?_setIfInBounds_ne hi]
omit [Env] in
theorem finish_region {fr:Frame} {ops:Array Oper} {i:Nat} {rest:List Nat} {k:List Item} {o:Oper} (ht:fr.todo=.inRegion ops (i :: rest) :: k) (ho:ops[i]?=some o) (v:Value) :
  fr.finish v={ fr with tmps:=dstSet o.dst fr.tmps v,todo:=.inRegion ops rest :: k }:=by
 simp only [Frame.finish,ht,ho,Option.bind_some]
 cases o.dst<;>rfl
theorem eff_ok (hev:EvOk P ev) (hN:NoOwn P) {ops:Array Oper} {o:Oper} {r:ROper} (hok:OpOk P ops o r) {t:RT} {W W':RW} {x:RV} (h:effR P ev (r.op t W) W=some (x,W'))
  {m:Nat→Loc} {w:World} {fr:Frame} {cs:List Frame} {i:Nat} {rest:List Nat} {k:List Item} (hr:Rel m W w) (hl:tlt W.n t) (htr:TR m t fr.tmps) (hm:fr.mode=.run)
  (ht:fr.todo=.inRegion ops (i :: rest) :: k) (ho:ops[i]?=some o) (hw:Region.wanted o (yielded ops fr.tmps)=true) :
  ∃m' w',Steps P (lone fr cs w) (lone (fr.finish (rv m' x)) cs w')∧Rel m' W' w'∧Post m W w m' W' w'∧below W'.n x=true:=by
 have hd:=noDefer hok.op
 unfold effR at h
 cases he:r.op t W with
 | none=>rw [he]at h; simp at h
 | some e =>
  rw [he]at h
  have heff:=decOp_ok (w:=w) ⟨htr,hl,hr⟩ hok.op he
  cases e with
  | val y =>
   simp only [Option.some.injEq,Prod.mk.injEq]at h
   obtain⟨rfl,rfl⟩:=h
   obtain⟨h1,nx,h2,h3⟩:=heff
   exact⟨m,w,step_op hm ht ho hw hd h2 h3,hr,Post.refl _ _ _,h1⟩
  | alloc ob mk =>
   simp only [fnat_eq,pushF_eq,Option.some.injEq,Prod.mk.injEq]at h
   obtain⟨rfl,rfl⟩:=h
   obtain⟨h1,robj,cap,nx,h2,h3⟩:=heff
   obtain⟨h4,h5,h6⟩:=h3 (upd m W.n ⟨w.heap.size,0,cap⟩) W.n (agree_upd _ _ _) (by simp [upd])
   obtain⟨h7,h8⟩:=hr.push (l:=⟨w.heap.size,0,cap⟩) rfl h5 (RObj.lt_mono (Nat.le_succ _) h1)
   exact⟨_,_,step_op hm ht ho hw hd h2 h4,h7,h8,h6⟩
  | wr y W2 =>
   simp only [Option.some.injEq,Prod.mk.injEq]at h
   obtain⟨rfl,rfl⟩:=h
   obtain⟨m',w',nx,h1,h2,h3,h4,h5⟩:=heff
   exact⟨m',w',step_op hm ht ho hw hd h1 h2,h3,h4,h5⟩
  | call f args =>
   obtain⟨h1,h2,h3⟩:=heff
   obtain⟨m',w',hcr,hr',hp',hx'⟩:=callV_ok hev hN h hr h1 h2 fr cs
   refine⟨m',w',?_,hr',hp',hx'⟩
   rcases hcr with ⟨g,as,hrun,hst⟩ | ⟨l,f',tm,a,b,hrun,hst⟩
   ·exact(step_enter hm ht ho hw hd (by rw [h3]; exact hrun)).trans hst
   ·exact(step_round hm ht ho hw hd (by rw [h3]; exact hrun)).trans hst
theorem oneR_ok (hev:EvOk P ev) (hN:NoOwn P) {ops:Array Oper} {o:Oper} {r:ROper} (hok:OpOk P ops o r) {t t':RT} {W W':RW} (h:oneR P ev r t W=some (t',W'))
  {m:Nat→Loc} {w:World} {fr:Frame} {cs:List Frame} {i:Nat} {rest:List Nat} {k:List Item} (hr:Rel m W w) (hl:tlt W.n t) (htr:TR m t fr.tmps) (hm:fr.mode=.run)
  (ht:fr.todo=.inRegion ops (i :: rest) :: k) (ho:ops[i]?=some o) :
  ∃m' w' tm,Steps P (lone fr cs w) (lone { fr with tmps:=tm,todo:=.inRegion ops rest :: k } cs w')∧Rel m' W' w'∧Post m W w m' W' w'∧tlt W'.n t'∧TR m' t' tm:=by
 unfold oneR at h
 have hwant:=wanted_ok hok htr
 split at h
 ·rename_i hw
  rw [hw]at hwant
  unfold doneR at h
  cases he:effR P ev (r.op t W) W with
  | none=>rw [he]at h; simp at h
  | some q =>
   obtain⟨x,W2⟩:=q
   rw [he]at h
   simp only at h
   split at h
   ·rename_i t2 hput
    simp only [Option.some.injEq,Prod.mk.injEq]at h
    obtain⟨rfl,rfl⟩:=h
    obtain⟨m',w',st,hr',hp',hx'⟩:=eff_ok hev hN hok he hr hl htr hm ht ho hwant
    rw [finish_region ht ho]at st
    have hl':tlt W2.n t:=fun i=>below_mono hp'.mono _ (hl i)
    obtain⟨h1,h2⟩:=put_TR hok.put hput (htr.agree hl hp'.ag) hl' hx'
    exact⟨m',w',_,st,hr',hp',h2,h1⟩
   ·simp at h
 ·rename_i hw
  have hw':wantedR t r.guard=false:=by simpa using hw
  rw [hw']at hwant
  unfold doneR at h
  simp only at h
  split at h
  ·rename_i t2 hput
   simp only [Option.some.injEq,Prod.mk.injEq]at h
   obtain⟨rfl,rfl⟩:=h
   have st:=step_op_skip' (P:=P) (cs:=cs) (w:=w) hm ht ho hwant
   rw [finish_region ht ho]at st
   obtain⟨h1,h2⟩:=put_TR (x:=ud) hok.put hput htr hl rfl
   exact⟨m,w,_,st,hr,Post.refl _ _ _,h2,h1⟩
  ·simp at h
theorem seqR_ok (hev:EvOk P ev) (hN:NoOwn P) {ops:Array Oper}:∀(rs:List ROper) (is:List Nat) (t t':RT) (W W':RW),seqR P ev rs t W=some (t',W') →
  is.length=rs.length→(∀(j i:Nat) (r:ROper),is[j]?=some i→rs[j]?=some r→∃o,ops[i]?=some o∧OpOk P ops o r) →
  ∀(m:Nat→Loc) (w:World) (fr:Frame) (cs:List Frame) (k:List Item),Rel m W w→tlt W.n t→TR m t fr.tmps→fr.mode=.run→fr.todo=.inRegion ops is :: k →
  ∃m' w' tm,Steps P (lone fr cs w) (lone { fr with tmps:=tm,todo:=k } cs w')∧Rel m' W' w'∧Post m W w m' W' w'∧tlt W'.n t'∧TR m' t' tm
 | [],is,t,t',W,W',h,hlen,hall,m,w,fr,cs,k,hr,hl,htr,hm,htd=>by
  have h':some (t,W)=some (t',W'):=h
  simp only [Option.some.injEq,Prod.mk.injEq]at h'
  obtain⟨rfl,rfl⟩:=h'
  have:is=[]:=List.eq_nil_of_length_eq_zero hlen
  subst this
  exact⟨m,w,fr.tmps,s_regionEnd hm htd,hr,Post.refl _ _ _,hl,htr⟩
 | r :: rs,is,t,t',W,W',h,hlen,hall,m,w,fr,cs,k,hr,hl,htr,hm,htd=>by
  have h':Option.rec (motive:=fun _=>Option (RT×RW)) none (fun q=>seqR P ev rs q.1 q.2) (oneR P ev r t W)=some (t',W'):=h
  cases he:oneR P ev r t W with
  | none=>rw [he]at h'; simp at h'
  | some q =>
   rw [he]at h'
   obtain⟨t1,W1⟩:=q
   cases is with
   | nil=>simp at hlen
   | cons i is =>
    obtain⟨o,ho,hok⟩:=hall 0 i r rfl rfl
    obtain⟨m1,w1,tm1,st1,hr1,hp1,hl1,ht1⟩:=oneR_ok hev hN hok he (cs:=cs) hr hl htr hm htd ho
    obtain⟨m2,w2,tm2,st2,hr2,hp2,hl2,ht2⟩:=seqR_ok hev hN rs is t1 t' W1 W' h' (by simpa using hlen) (fun j i r hi hr=>hall (j+1) i r (by simpa using hi) (by simpa using hr)) m1 w1 { fr with tmps:=tm1,todo:=.inRegion ops is :: k } cs k hr1 hl1 ht1 hm rfl
    exact⟨m2,w2,tm2,st1.trans st2,hr2,hp1.trans hp2,hl2,ht2⟩
theorem decRegs_ok {ops:Array Oper} {l:List ROper} (h:omap (decOper P ops) ops.toList=some l) :
  l.length=ops.size∧∀(j:Nat) (r:ROper),l[j]?=some r→∃o,ops[j]?=some o∧OpOk P ops o r:=by
 refine⟨by rw [omap_length h]; simp,?_⟩
 intro j r hj
 have hlen:l.length=ops.size:=by rw [omap_length h]; simp
 have hjl:j < ops.size:=by rw [← hlen]; exact(List.getElem?_eq_some_iff.1 hj).1
 obtain⟨y,h1,h2⟩:=omap_get h j ops[j] (by simp [hjl])
 rw [hj]at h1
 simp only [Option.some.injEq]at h1
 subst h1
 exact⟨ops[j],by simp [hjl],decOper_ok h2⟩
end
end Go.Rv
namespace Go.Rv
open Go
variable [Env]
section
variable {P:Program}
def DrawOk (P:Program):Prop:=∀(ev:Ev),EvOk P ev→∀(ops:Array Oper) (r:RReg) (t t':RT) (W W':RW),decReg P ops true=some r→regR P ev r t W=some (t',W') →
 ∀(m:Nat→Loc) (w:World) (fr:Frame) (cs:List Frame) (k:List Item) (tp:Nat),Rel m W w→tlt W.n t→TR m t fr.tmps→fr.mode=.run →
  fr.todo=.inRegion ops (Region.schedule (P.follows .mixedOrders) ops tp) :: k →
  ∃m' w' tm,Steps P (lone fr cs w) (lone { fr with tmps:=tm,todo:=k } cs w')∧Rel m' W' w'∧Post m W w m' W' w'∧tlt W'.n t'∧TR m' t' tm
variable {ev:Ev}
omit [Env] in
theorem Post.drew {m m':Nat→Loc} {W W':RW} {w w':World} {d:Nat} (h:Post m W { w with drawn:=d } m' W' w'):Post m W w m' W' w':=
 ⟨h.ag,h.mono,h.size,h.keep,h.own,h.os,h.tape,h.output⟩
omit [Env] in
theorem FrOk.next {m m':Nat→Loc} {s:St} {fr:Frame} {f:FuncId} {rd:Option Nat} (h:FrOk m s fr f rd) {W W':RW} {w w':World} (hW:W=s.W) (hp:Post m W w m' W' w') {t':RT} {tm:Array Value} (ht:TR m' t' tm) (k:List Item) :
  FrOk m' ⟨t',W',s.ds⟩ { fr with tmps:=tm,todo:=k } f rd:=by
 subst hW
 refine⟨h.mode,h.fn,?_,ht,?_,fun d hd=>Nat.lt_of_lt_of_le (h.dlt d hd) hp.mono,fun l hl=>Nat.lt_of_lt_of_le (h.rlt l hl) hp.mono⟩
 ·show fr.roundOf=_
  rw [h.rnd]
  cases rd with
  | none=>rfl
  | some l=>simp [hp.ag l (h.rlt l rfl)]
 ·show fr.defers=_
  rw [h.ds]
  apply List.map_congr_left
  intro d hd
  simp [markOf,hp.ag d (h.dlt d hd)]
theorem region_ok (hev:EvOk P ev) (hN:NoOwn P) (hD:DrawOk P) {f:FuncId} {rd:Option Nat} {id:Nat} {ops:Array Oper} {draw:Bool} {s s':St} {ex:Ex}
  (h:stReg P ev s (decReg P ops draw)=some (ex,s')):CodeOk P f rd (.region id ops draw) s ex s':=by
 intro m w fr cs k hr hl hfr htd
 obtain⟨t0,W0,ds0⟩:=s
 unfold stReg at h
 simp only at h
 split at h
 ·rename_i r hdec
  split at h
  ·rename_i t' W' hq
   simp only [Option.some.injEq,Prod.mk.injEq]at h
   obtain⟨rfl,rfl⟩:=h
   cases draw with
   | true =>
    obtain⟨tp,st1⟩:=s_draw (P:=P) (cs:=cs) (w:=w) hfr.mode htd
    obtain⟨m',w',tm,st2,hr',hp',hl',ht'⟩:=hD ev hev ops r t0 t' W0 W' hdec hq m { w with drawn:=w.drawn+1 } { fr with todo:=.inRegion ops (Region.schedule (P.follows .mixedOrders) ops tp) :: k } cs k tp (hr.same rfl) hl hfr.tr hfr.mode rfl
    exact⟨m',w',_,st1.trans st2,hr',hl',hfr.next rfl hp' ht' k,hp'.drew,rfl,rfl⟩
   | false =>
    unfold decReg at hdec
    split at hdec
    ·rename_i l hl2
     simp only [Bool.false_eq_true,if_false,Option.some.injEq]at hdec
     subst hdec
     obtain⟨hlen,hall⟩:=decRegs_ok hl2
     have st1:=s_region (P:=P) (cs:=cs) (w:=w) hfr.mode htd
     obtain⟨m',w',tm,st2,hr',hp',hl',ht'⟩:=seqR_ok hev hN l (List.range ops.size) t0 t' W0 W' hq (by simp [hlen]) (fun j i r hi hrr=>by
      have hji:j=i:=by
       have:=(List.getElem?_eq_some_iff.1 hi).2
       simpa using this
      subst hji
      exact hall j r hrr) m w { fr with todo:=.inRegion ops (List.range ops.size) :: k } cs k hr hl hfr.tr hfr.mode rfl
     exact⟨m',w',_,st1.trans st2,hr',hl',hfr.next rfl hp' ht' k,hp',rfl,rfl⟩
    ·simp at hdec
  ·simp at h
 ·simp at h
omit [Env] in
theorem FrOk.todo {m:Nat→Loc} {s:St} {fr:Frame} {f:FuncId} {rd:Option Nat} (h:FrOk m s fr f rd) (k:List Item):FrOk m s { fr with todo:=k } f rd:=
 ⟨h.mode,h.fn,h.rnd,h.tr,h.ds,h.dlt,h.rlt⟩
omit [Env] in
theorem Left.pass {ex:Ex} {todo:List Item} {x:Item} {k:List Item} (h:Left ex todo (x :: k)) (hx:(∀id,x≠.inBlock id)∧(∀c,x≠.inScope c)) (hn:ex≠.nrm):Left ex todo k:=by
 cases ex with
 | nrm=>exact absurd rfl hn
 | exit id =>
  obtain⟨k2,h1,h2⟩:=h
  refine⟨k2,h1,h2.trans ?_⟩
  cases x<;>simp_all [exitTo]
 | ret=>exact h
 | goto l =>
  obtain⟨k2,h1,h2⟩:=h
  refine⟨k2,h1,h2.trans ?_⟩
  cases x<;>simp_all [gotoIn]
theorem CodeOk.start {f:FuncId} {rd:Option Nat} {c c2:Code} {s s':St} {ex:Ex} (h:CodeOk P f rd c s ex s') (hs:∀(fr:Frame) (cs:List Frame) (w:World) (k:List Item),fr.mode=.run→fr.todo=.code c2 :: k→Steps P (lone fr cs w) (lone { fr with todo:=.code c :: k } cs w)) :
  CodeOk P f rd c2 s ex s':=by
 intro m w fr cs k hr hl hfr htd
 obtain⟨m',w',fr2,st,h1,h2,h3,h4,h5,h6⟩:=h m w { fr with todo:=.code c :: k } cs k hr hl (hfr.todo _) rfl
 exact⟨m',w',fr2,(hs fr cs w k hfr.mode htd).trans st,h1,h2,h3,h4,h5,h6⟩
theorem seq_ok (hev:EvOk P ev) {f:FuncId} {rd:Option Nat} {a b:Code} {s s':St} {ex:Ex} (c:Code) (x:Item) (hx:(∀id,x≠.inBlock id)∧(∀c,x≠.inScope c))
  (hs:∀(fr:Frame) (cs:List Frame) (w:World) (k:List Item),fr.mode=.run→fr.todo=.code c :: k→Steps P (lone fr cs w) (lone { fr with todo:=.code a :: x :: k } cs w))
  (hx2:∀(fr:Frame) (cs:List Frame) (w:World) (k:List Item),fr.mode=.run→fr.todo=x :: k→∃k2,Steps P (lone fr cs w) (lone { fr with todo:=k2 } cs w) ∧
   (∀(m:Nat→Loc) (s1:St),FrOk m s1 fr f rd→ev f rd b s1=some (ex,s')→Rel m s1.W w→tlt s1.W.n s1.t →
    ∃m' w' fr2,Steps P (lone { fr with todo:=k2 } cs w) (lone fr2 cs w')∧Rel m' s'.W w'∧tlt s'.W.n s'.t∧FrOk m' s' fr2 f rd∧Post m s1.W w m' s'.W w'∧fr2.kind=fr.kind∧Left ex fr2.todo k))
  (h:stSeq ev f rd b (ev f rd a s)=some (ex,s')):CodeOk P f rd c s ex s':=by
 intro m w fr cs k hr hl hfr htd
 unfold stSeq at h
 cases he:ev f rd a s with
 | none=>rw [he]at h; simp at h
 | some q =>
  obtain⟨ex1,s1⟩:=q
  rw [he]at h
  obtain⟨m1,w1,fr1,st1,hr1,hl1,hfr1,hp1,hk1,hleft1⟩:=hev _ _ _ _ _ _ he m w { fr with todo:=.code a :: x :: k } cs (x :: k) hr hl (hfr.todo _) rfl
  have st0:=hs fr cs w k hfr.mode htd
  cases ex1 with
  | nrm =>
   have htd1:fr1.todo=x :: k:=hleft1
   obtain⟨k2,st2,hrest⟩:=hx2 fr1 cs w1 k hfr1.mode htd1
   obtain⟨m2,w2,fr2,st3,hr2,hl2,hfr2,hp2,hk2,hleft2⟩:=hrest m1 s1 hfr1 h hr1 hl1
   exact⟨m2,w2,fr2,st0.trans (st1.trans (st2.trans st3)),hr2,hl2,hfr2,hp1.trans hp2,hk2.trans hk1,hleft2⟩
  | exit id =>
   simp only [Option.some.injEq,Prod.mk.injEq]at h
   obtain⟨rfl,rfl⟩:=h
   exact⟨m1,w1,fr1,st0.trans st1,hr1,hl1,hfr1,hp1,hk1,hleft1.pass hx (by simp)⟩
  | ret =>
   simp only [Option.some.injEq,Prod.mk.injEq]at h
   obtain⟨rfl,rfl⟩:=h
   exact⟨m1,w1,fr1,st0.trans st1,hr1,hl1,hfr1,hp1,hk1,hleft1.pass hx (by simp)⟩
  | goto l =>
   simp only [Option.some.injEq,Prod.mk.injEq]at h
   obtain⟨rfl,rfl⟩:=h
   exact⟨m1,w1,fr1,st0.trans st1,hr1,hl1,hfr1,hp1,hk1,hleft1.pass hx (by simp)⟩
end
end Go.Rv
namespace Go.Rv
open Go
variable [Env]
section
variable {P:Program} {ev:Ev}
omit [Env] in
theorem steps_same {A B F:Machine} (h:Steps P A F) (hne:A≠F) (hs:step P A=step P B):Steps P B F:=by
 obtain⟨n,hn⟩:=h
 cases n with
 | zero =>
  simp only [runN,Stepped.next.injEq]at hn
  exact absurd hn hne
 | succ n =>
  refine⟨n+1,?_⟩
  simp only [runN]at hn ⊢
  rw [← hs]
  exact hn
omit [Env] in
theorem lone_inj {fr fr2:Frame} {cs cs2:List Frame} {w w2:World} (h:lone fr cs w=lone fr2 cs2 w2):fr=fr2:=by
 simp only [lone,Machine.mk.injEq]at h
 have:=h.2.1
 simp at this
 exact this.1
omit [Env] in
theorem left_ne {ex:Ex} {c:Code} {k:List Item} (h:Left ex (.code (.loop c) :: k) k):False:=by
 cases ex with
 | nrm =>
  have h':Item.code (.loop c) :: k=k:=h
  have:=congrArg List.length h'
  simp at this
 | exit id=>obtain⟨k2,h1,_⟩:=h; simp at h1
 | ret=>obtain⟨k2,h1⟩:=h; simp at h1
 | goto l=>obtain⟨k2,h1,_⟩:=h; simp at h1
theorem loop_ok (hev:EvOk P ev) {f:FuncId} {rd:Option Nat} {c:Code} {s s':St} {ex:Ex} (h:stSeq ev f rd (.loop c) (ev f rd c s)=some (ex,s')):CodeOk P f rd (.loop c) s ex s':=by
 refine seq_ok hev (.loop c) (.inLoop c) ⟨by simp,by simp⟩ (fun fr cs w k hm ht=>s_loop hm ht) ?_ h
 intro fr cs w k hm ht
 refine⟨.inLoop c :: k,?_,?_⟩
 ·have:({ fr with todo:=.inLoop c :: k }:Frame)=fr:=by
   cases fr
   simp at ht
   subst ht
   rfl
  rw [this]
  exact Steps.refl _ _
 ·intro m s1 hfr hv hr hl
  obtain⟨m2,w2,fr2,st,hr2,hl2,hfr2,hp2,hk2,hleft⟩:=hev _ _ _ _ _ _ hv m w { fr with todo:=.code (.loop c) :: k } cs k hr hl (hfr.todo _) rfl
  refine⟨m2,w2,fr2,?_,hr2,hl2,hfr2,hp2,hk2,hleft⟩
  refine steps_same st ?_ ?_
  ·intro heq
   have:=lone_inj heq
   rw [← this]at hleft
   exact left_ne hleft
  ·have h1:step P (lone { fr with todo:=.code (.loop c) :: k } cs w)=.next (lone { fr with todo:=.code c :: .inLoop c :: k } cs w):=by
    apply step_lone_go
    simp [stepG,stepG.exec,hm]
   have h2:step P (lone { fr with todo:=.inLoop c :: k } cs w)=.next (lone { fr with todo:=.code c :: .inLoop c :: k } cs w):=by
    apply step_lone_go
    simp [stepG,stepG.exec,hm]
   rw [h1,h2]
theorem seqc_ok (hev:EvOk P ev) {f:FuncId} {rd:Option Nat} {a b:Code} {s s':St} {ex:Ex} (h:stSeq ev f rd b (ev f rd a s)=some (ex,s')):CodeOk P f rd (.seq a b) s ex s':=by
 refine seq_ok hev (.seq a b) (.code b) ⟨by simp,by simp⟩ (fun fr cs w k hm ht=>s_seq hm ht) ?_ h
 intro fr cs w k hm ht
 refine⟨.code b :: k,?_,?_⟩
 ·have:({ fr with todo:=.code b :: k }:Frame)=fr:=by
   cases fr
   simp at ht
   subst ht
   rfl
  rw [this]
  exact Steps.refl _ _
 ·intro m s1 hfr hv hr hl
  exact hev _ _ _ _ _ _ hv m w { fr with todo:=.code b :: k } cs k hr hl (hfr.todo _) rfl
theorem cond_ok (hev:EvOk P ev) {f:FuncId} {rd:Option Nat} {c:Operand} {a b:Code} {s s':St} {ex:Ex} (hc:okO c=true) (h:stCond ev f rd (opd c s.t) a b s=some (ex,s')):CodeOk P f rd (.cond c a b) s ex s':=by
 intro m w fr cs k hr hl hfr htd
 unfold stCond at h
 split at h
 ·rename_i x t hx
  have hcond:evV fr.tmps c=.bool t:=by
   rw [← (opd_ok (⟨hfr.tr,hl,hr⟩:Cx m s.t s.W fr.tmps w) hc).1,hx]; rfl
  have st0:=s_cond (P:=P) (cs:=cs) (w:=w) hfr.mode htd hcond
  have key:∀c2,ev f rd c2 s=some (ex,s')→Steps P (lone fr cs w) (lone { fr with todo:=.code c2 :: k } cs w)→∃m' w' fr2,Steps P (lone fr cs w) (lone fr2 cs w')∧Rel m' s'.W w'∧tlt s'.W.n s'.t∧FrOk m' s' fr2 f rd∧Post m s.W w m' s'.W w'∧fr2.kind=fr.kind∧Left ex fr2.todo k:=by
   intro c2 hv st
   obtain⟨m',w',fr2,st2,h1,h2,h3,h4,h5,h6⟩:=hev _ _ _ _ _ _ hv m w { fr with todo:=.code c2 :: k } cs k hr hl (hfr.todo _) rfl
   exact⟨m',w',fr2,st.trans st2,h1,h2,h3,h4,h5,h6⟩
  split at h
  ·exact key a h (by simpa using st0)
  ·exact key b h (by simpa using st0)
 ·simp at h
theorem block_ok (hev:EvOk P ev) {f:FuncId} {rd:Option Nat} {id:Nat} {c:Code} {s s':St} {ex:Ex} (h:stBlock id (ev f rd c s)=some (ex,s')):CodeOk P f rd (.block id c) s ex s':=by
 intro m w fr cs k hr hl hfr htd
 unfold stBlock at h
 cases he:ev f rd c s with
 | none=>rw [he]at h; simp at h
 | some q =>
  obtain⟨ex1,s1⟩:=q
  rw [he]at h
  obtain⟨m1,w1,fr1,st1,hr1,hl1,hfr1,hp1,hk1,hleft1⟩:=hev _ _ _ _ _ _ he m w { fr with todo:=.code c :: .inBlock id :: k } cs (.inBlock id :: k) hr hl (hfr.todo _) rfl
  have st0:=s_block (P:=P) (cs:=cs) (w:=w) hfr.mode htd
  cases ex1 with
  | nrm =>
   simp only [Option.some.injEq,Prod.mk.injEq]at h
   obtain⟨rfl,rfl⟩:=h
   have htd1:fr1.todo=.inBlock id :: k:=hleft1
   exact⟨m1,w1,{ fr1 with todo:=k },st0.trans (st1.trans (s_inBlock hfr1.mode htd1)),hr1,hl1,hfr1.todo _,hp1,hk1,rfl⟩
  | exit id' =>
   simp only at h
   obtain⟨k2,h1,h2⟩:=hleft1
   split at h
   ·rename_i hid
    have hid':id'=id:=Nat.eq_of_beq_eq_true hid
    subst hid'
    simp only [Option.some.injEq,Prod.mk.injEq]at h
    obtain⟨rfl,rfl⟩:=h
    have h3:exitTo id' k2=some k:=by rw [h2]; simp [exitTo]
    exact⟨m1,w1,{ fr1 with todo:=k },st0.trans (st1.trans (s_exit hfr1.mode h1 h3)),hr1,hl1,hfr1.todo _,hp1,hk1,rfl⟩
   ·rename_i hid
    have hid':id'≠id:=fun e=>hid (by rw [e]; exact Nat.beq_refl _)
    simp only [Option.some.injEq,Prod.mk.injEq]at h
    obtain⟨rfl,rfl⟩:=h
    refine⟨m1,w1,fr1,st0.trans st1,hr1,hl1,hfr1,hp1,hk1,k2,h1,h2.trans ?_⟩
    simp [exitTo,Ne.symm hid']
  | ret =>
   simp only [Option.some.injEq,Prod.mk.injEq]at h
   obtain⟨rfl,rfl⟩:=h
   exact⟨m1,w1,fr1,st0.trans st1,hr1,hl1,hfr1,hp1,hk1,hleft1⟩
  | goto l =>
   simp only [Option.some.injEq,Prod.mk.injEq]at h
   obtain⟨rfl,rfl⟩:=h
   obtain⟨k2,h1,h2⟩:=hleft1
   exact⟨m1,w1,fr1,st0.trans st1,hr1,hl1,hfr1,hp1,hk1,k2,h1,h2.trans (by simp [gotoIn])⟩
theorem scope_ok (hev:EvOk P ev) {f:FuncId} {rd:Option Nat} {c:Code} {s s':St} {ex:Ex} (h:stScope (ev f rd c s)=some (ex,s')):CodeOk P f rd (.scope c) s ex s':=by
 intro m w fr cs k hr hl hfr htd
 unfold stScope at h
 cases he:ev f rd c s with
 | none=>rw [he]at h; simp at h
 | some q =>
  obtain⟨ex1,s1⟩:=q
  rw [he]at h
  obtain⟨m1,w1,fr1,st1,hr1,hl1,hfr1,hp1,hk1,hleft1⟩:=hev _ _ _ _ _ _ he m w { fr with todo:=.code c :: .inScope c :: k } cs (.inScope c :: k) hr hl (hfr.todo _) rfl
  have st0:=s_scope (P:=P) (cs:=cs) (w:=w) hfr.mode htd
  cases ex1 with
  | nrm =>
   simp only [Option.some.injEq,Prod.mk.injEq]at h
   obtain⟨rfl,rfl⟩:=h
   have htd1:fr1.todo=.inScope c :: k:=hleft1
   exact⟨m1,w1,{ fr1 with todo:=k },st0.trans (st1.trans (s_inScope hfr1.mode htd1)),hr1,hl1,hfr1.todo _,hp1,hk1,rfl⟩
  | exit id' =>
   simp only [Option.some.injEq,Prod.mk.injEq]at h
   obtain⟨rfl,rfl⟩:=h
   obtain⟨k2,h1,h2⟩:=hleft1
   exact⟨m1,w1,fr1,st0.trans st1,hr1,hl1,hfr1,hp1,hk1,k2,h1,h2.trans (by simp [exitTo])⟩
  | ret =>
   simp only [Option.some.injEq,Prod.mk.injEq]at h
   obtain⟨rfl,rfl⟩:=h
   exact⟨m1,w1,fr1,st0.trans st1,hr1,hl1,hfr1,hp1,hk1,hleft1⟩
  | goto l=>simp at h
theorem range_ok (hev:EvOk P ev) (hN:NoOwn P) {f:FuncId} {rd:Option Nat} {g:Operand} {params:Array Tmp} {assign body:Code} {s s':St} {ex:Ex} (h:stRange P ev f rd g params assign body s=some (ex,s')) :
  CodeOk P f rd (.rangeFunc g params assign body) s ex s':=by
 intro m w fr cs k hr hl hfr htd
 unfold stRange at h
 split at h
 ·rename_i hog
  split at h
  ·rename_i d W1 ds hent
   obtain⟨og1,og2⟩:=opd_ok (⟨hfr.tr,hl,hr⟩:Cx m s.t s.W fr.tmps w) hog
   have hdef:∃(m1:Nat→Loc) (w1:World) (mark:List Deferred),Rel m1 W1 w1∧Post m s.W w m1 W1 w1∧d < W1.n∧(∀e∈ds,e < W1.n)∧ds.map (markOf m1)=mark++fr.defers ∧
     (Instr.enterLoop fr.fn fr.tmps params assign body fr.roundOf).run P w=.ok (w1.heap.size,mark) { w1 with heap:=w1.heap.push (.loop ⟨.ready,none,f,fr.tmps,params,assign,body,(m1 d).blk⟩) }:=by
    unfold enterR at hent
    cases rd with
    | none =>
     simp only [Option.some.injEq,Prod.mk.injEq]at hent
     obtain⟨rfl,rfl,rfl⟩:=hent
     obtain⟨h1,h2⟩:=hr.push (o:=.dfr false) (robj:=.deferred (some [])) (l:=⟨w.heap.size,0,0⟩) rfl (by
      show(w.heap.push _)[w.heap.size]?=_
      simp) trivial
     refine⟨_,_,[{ target:=.collected w.heap.size,args:=#[] }],h1,h2,by simp [RW.push],?_,?_,?_⟩
     ·intro e he
      rcases List.mem_cons.1 he with rfl | he
      ·simp [RW.push]
      ·have:=hfr.dlt e he
       simp [RW.push]; omega
     ·simp only [List.map_cons,List.singleton_append,hfr.ds]
      congr 1
      ·simp [markOf,upd]
      ·apply List.map_congr_left
       intro e he
       simp [markOf,upd,Nat.ne_of_lt (hfr.dlt e he)]
     ·have hrn:fr.roundOf=none:=hfr.rnd
      simp only [hrn,Instr.enterLoop]
      simp [upd,hfr.fn]
      rfl
    | some l =>
     simp only at hent
     split at hent
     ·rename_i st pend f' t' ps' as' bd' d' hg
      simp only [Option.some.injEq,Prod.mk.injEq]at hent
      obtain⟨rfl,rfl,rfl⟩:=hent
      obtain⟨arr,ht,hh,_,hd⟩:=loopAt hr hg
      refine⟨m,w,[],hr,Post.refl _ _ _,hd,hfr.dlt,by simp [hfr.ds],?_⟩
      have hrn:fr.roundOf=some (m l).blk:=hfr.rnd
      simp only [hrn,Instr.enterLoop]
      simp [run_getLoop' hh,hfr.fn]
     ·simp at hent
   obtain⟨m1,w1,mark,hr1,hp1,hd1,hds1,hmark,hrun1⟩:=hdef
   have hl1:tlt W1.n s.t:=fun i=>below_mono hp1.mono _ (hl i)
   have ht1:TR m1 s.t fr.tmps:=hfr.tr.agree hl hp1.ag
   obtain⟨hr2,hp2⟩:=hr1.push (o:=.loop .ready none f s.t params assign body d) (robj:=.loop ⟨.ready,none,f,fr.tmps,params,assign,body,(m1 d).blk⟩) (l:=⟨w1.heap.size,0,0⟩) rfl (by
    refine⟨fr.tmps,ht1.agree hl1 (agree_upd _ _ _),?_⟩
    have:upd m1 W1.n ⟨w1.heap.size,0,0⟩ d=m1 d:=by simp [upd,Nat.ne_of_lt hd1]
    rw [this]
    simp) ⟨fun i=>below_mono (Nat.le_succ _) _ (hl1 i),by omega⟩
   split at h
   ·rename_i r hcall
    obtain⟨x,W2⟩:=r
    let m2:=upd m1 W1.n ⟨w1.heap.size,0,0⟩
    have hbf:below (W1.push (.loop .ready none f s.t params assign body d)).n (opd g s.t)=true:=below_mono (Nat.le_trans hp1.mono (Nat.le_succ _)) _ og2
    obtain⟨m3,w3,hcr,hr3,hp3,hx3⟩:=callV_ok hev hN hcall hr2 hbf (by simp [belowL,below,blt_eq,RW.push]) { fr with todo:=.inRangeFunc w1.heap.size :: k,defers:=mark++fr.defers } cs
    have hgv:rv m2 (opd g s.t)=evV fr.tmps g:=by
     rw [rv_agree (n:=s.W.n) (m:=m) ?_ _ og2,og1]
     intro b hb
     have hb1:b < W1.n:=Nat.lt_of_lt_of_le hb hp1.mono
     show upd m1 W1.n _ b=m b
     simp only [upd,Nat.ne_of_lt hb1,if_false]
     exact hp1.ag b hb
    have hsem:callSem m2 (opd g s.t) [.yld W1.n]=(do
      let d ← resolve (evV fr.tmps) { callee:=.value g,args:=#[.const (.func (.yield w1.heap.size) #[] #[])],argTypes:=#[] } 0
      invoke d.target d.args):=by
     unfold callSem
     rw [hgv]
     have:(List.map (rv m2) [RV.yld W1.n]).toArray=#[Value.func (.yield w1.heap.size) #[] #[]]:=by simp [rv,m2,upd]
     rw [this]
     have hmap:(#[Operand.const (.func (.yield w1.heap.size) #[] #[])]).map (evV fr.tmps)=#[Value.func (.yield w1.heap.size) #[] #[]]:=by simp [evV]
     simp only [resolve,hmap]
    have hent1:=hrun1
    have st1:Steps P (lone fr cs w) (lone ({ fr with todo:=.inRangeFunc w1.heap.size :: k,defers:=mark++fr.defers }.finish (rv m3 x)) cs w3):=by
     have hexec:∀(nx:Next) (fr3:Frame),(callSem m2 (opd g s.t) [.yld W1.n]).run P { w1 with heap:=w1.heap.push (.loop ⟨.ready,none,f,fr.tmps,params,assign,body,(m1 d).blk⟩) }=.ok nx { w1 with heap:=w1.heap.push (.loop ⟨.ready,none,f,fr.tmps,params,assign,body,(m1 d).blk⟩) } →
       ((∃g' as,nx=.enter g' as∧fr3=Frame.enter P g' as .normal)∨(∃l f' tm a b,nx=.round l f' tm a b∧fr3=Frame.round l f' tm a b .normal)) →
       Steps P (lone fr cs w) (lone fr3 ({ fr with todo:=.inRangeFunc w1.heap.size :: k,defers:=mark++fr.defers } :: cs) { w1 with heap:=w1.heap.push (.loop ⟨.ready,none,f,fr.tmps,params,assign,body,(m1 d).blk⟩) }):=by
      intro nx fr3 hrunc hcase
      rw [hsem]at hrunc
      apply step_go
      rw [stepG_run hfr.mode]
      rcases hcase with ⟨g',as,rfl,rfl⟩ | ⟨l,f',tm,a,b,rfl,rfl⟩
      ·simp [stepG.exec,htd,hent1,stepG.apply,eval_evV]
       simp at hrunc
       rw [hrunc]
       rfl
      ·simp [stepG.exec,htd,hent1,stepG.apply,eval_evV]
       simp at hrunc
       rw [hrunc]
       rfl
     rcases hcr with ⟨g',as,hrunc,st⟩ | ⟨l,f',tm,a,b,hrunc,st⟩
     ·exact(hexec _ _ hrunc (.inl ⟨g',as,rfl,rfl⟩)).trans st
     ·exact(hexec _ _ hrunc (.inr ⟨l,f',tm,a,b,rfl,rfl⟩)).trans st
    have hm3:m3 W1.n=⟨w1.heap.size,0,0⟩:=by
     rw [hp3.ag W1.n (by simp [RW.push])]
     simp [upd]
    have hpost3:Post m s.W w m3 W2 w3:=hp1.trans (hp2.trans hp3)
    have hW12:W1.n≤W2.n:=Nat.le_trans (by simp [RW.push]) hp3.mono
    have hag13:∀b,b < W1.n→m3 b=m1 b:=by
     intro b hb
     rw [hp3.ag b (by simp [RW.push]; omega)]
     simp [upd,Nat.ne_of_lt hb]
    have hfin:({ fr with todo:=.inRangeFunc w1.heap.size :: k,defers:=mark++fr.defers }:Frame).finish (rv m3 x)={ fr with todo:=.endRangeFunc w1.heap.size :: k,defers:=mark++fr.defers }:=rfl
    rw [hfin]at st1
    unfold leaveR at h
    split at h
    ·rename_i st pend f' t' ps' as' bd' d' hg2
     split at h
     ·simp at h
     ·rename_i hbusy
      split at h
      ·rename_i W3 hset
       obtain⟨arr2,ht2,hh2,_,_⟩:=loopAt hr3 hg2
       obtain⟨hr4,hp4⟩:=hr3.setLoop hg2 ht2 hh2 hset
       rw [hm3]at hh2 hr4 hp4
       have hendl:(Instr.endLoop w1.heap.size).run P w3=.ok pend { w3 with heap:=w3.heap.setIfInBounds w1.heap.size (.loop ⟨.exhausted,pend,f',arr2,ps',as',bd',(m3 d').blk⟩) }:=by
        simp [Instr.endLoop,run_getLoop' hh2,run_setLoop hh2]
        exact fun e=>absurd e hbusy
       have st2:Steps P (lone { fr with todo:=.endRangeFunc w1.heap.size :: k,defers:=mark++fr.defers } cs w3)
         (lone { fr with todo:=(pend.map Item.code).toList++k,defers:=mark++fr.defers } cs { w3 with heap:=w3.heap.setIfInBounds w1.heap.size (.loop ⟨.exhausted,pend,f',arr2,ps',as',bd',(m3 d').blk⟩) }):=by
        apply step_go
        have hmode:=hfr.mode
        simp [stepG,stepG.exec,hmode,hendl]
       have hn3:W3.n=W2.n:=(set_spec hset).1
       have hl4:tlt W3.n s.t:=fun i=>by
        rw [hn3]
        exact below_mono hW12 _ (hl1 i)
       have hfr4:FrOk m3 ⟨s.t,W3,ds⟩ { fr with todo:=(pend.map Item.code).toList++k,defers:=mark++fr.defers } f rd:=by
        refine⟨hfr.mode,hfr.fn,?_,ht1.agree hl1 hag13,?_,fun e he=>?_,fun l hl=>?_⟩
        ·show fr.roundOf=_
         rw [hfr.rnd]
         cases rd with
         | none=>rfl
         | some l=>simp [hpost3.ag l (hfr.rlt l rfl)]
        ·show mark++fr.defers=_
         rw [← hmark]
         apply List.map_congr_left
         intro e he
         simp [markOf,hag13 e (hds1 e he)]
        ·have:=hds1 e he
         show e < W3.n
         omega
        ·have:=hfr.rlt l hl
         have:=hp1.mono
         show l < W3.n
         omega
       cases pend with
       | none =>
        simp only [Option.some.injEq,Prod.mk.injEq]at h
        obtain⟨rfl,rfl⟩:=h
        exact⟨m3,_,_,st1.trans st2,hr4,hl4,hfr4,hpost3.trans hp4,rfl,rfl⟩
       | some c =>
        simp only at h
        obtain⟨m5,w5,fr5,st5,hr5,hl5,hfr5,hp5,hk5,hleft5⟩:=hev _ _ _ _ _ _ h m3 _ { fr with todo:=.code c :: k,defers:=mark++fr.defers } cs k hr4 hl4 hfr4 rfl
        exact⟨m5,w5,fr5,st1.trans (st2.trans st5),hr5,hl5,hfr5,hpost3.trans (hp4.trans hp5),hk5,hleft5⟩
      ·simp at h
    ·simp at h
   ·simp at h
  ·simp at h
 ·simp at h
theorem refl_ok {f:FuncId} {rd:Option Nat} {c:Code} {s:St} {ex:Ex} (h:∀(_:Nat→Loc) (w:World) (fr:Frame) (cs:List Frame) (k:List Item),fr.mode=.run→fr.todo=.code c :: k →
  ∃todo,Steps P (lone fr cs w) (lone { fr with todo:=todo } cs w)∧Left ex todo k):CodeOk P f rd c s ex s:=by
 intro m w fr cs k hr hl hfr htd
 obtain⟨todo,st,hleft⟩:=h m w fr cs k hfr.mode htd
 exact⟨m,w,_,st,hr,hl,hfr.todo _,Post.refl _ _ _,rfl,hleft⟩
omit [Env] in
theorem stay {fr:Frame} {cs:List Frame} {w:World} {todo:List Item} (ht:fr.todo=todo):Steps P (lone fr cs w) (lone { fr with todo:=todo } cs w):=by
 have:({ fr with todo:=todo }:Frame)=fr:=by
  cases fr
  simp at ht
  subst ht
  rfl
 rw [this]
 exact Steps.refl _ _
theorem stepR_ok (hev:EvOk P ev) (hN:NoOwn P) (hD:DrawOk P):EvOk P (stepR P ev):=by
 intro f rd c s ex s' h
 cases c with
 | skip =>
  simp only [stepR,Option.some.injEq,Prod.mk.injEq]at h
  obtain⟨rfl,rfl⟩:=h
  exact refl_ok fun m w fr cs k hm ht=>⟨k,s_skip hm ht,rfl⟩
 | label l =>
  simp only [stepR,Option.some.injEq,Prod.mk.injEq]at h
  obtain⟨rfl,rfl⟩:=h
  exact refl_ok fun m w fr cs k hm ht=>⟨k,s_label hm ht,rfl⟩
 | ret =>
  simp only [stepR,Option.some.injEq,Prod.mk.injEq]at h
  obtain⟨rfl,rfl⟩:=h
  exact refl_ok fun m w fr cs k hm ht=>⟨_,stay ht,k,rfl⟩
 | exit id =>
  simp only [stepR,Option.some.injEq,Prod.mk.injEq]at h
  obtain⟨rfl,rfl⟩:=h
  exact refl_ok fun m w fr cs k hm ht=>⟨_,stay ht,k,rfl,rfl⟩
 | goto l =>
  simp only [stepR,Option.some.injEq,Prod.mk.injEq]at h
  obtain⟨rfl,rfl⟩:=h
  exact refl_ok fun m w fr cs k hm ht=>⟨_,stay ht,k,rfl,rfl⟩
 | seq a b=>exact seqc_ok hev h
 | cond c a b =>
  simp only [stepR]at h
  split at h
  ·exact cond_ok hev (by assumption) h
  ·simp at h
 | block id c=>exact block_ok hev h
 | loop c=>exact loop_ok hev h
 | scope c=>exact scope_ok hev h
 | region id ops draw=>exact region_ok hev hN hD h
 | rangeFunc g params assign body=>exact range_ok hev hN h
 | refuse why=>simp [stepR]at h
theorem evR_ok (hN:NoOwn P) (hD:DrawOk P) (n:Nat):EvOk P (evR P n):=by
 induction n with
 | zero =>
  intro f rd c s ex s' h
  exact absurd h (by simp [evR])
 | succ n ih=>exact stepR_ok ih hN hD
end
end Go.Rv
namespace Go.Rv
open Go
def pushB (acc:Array Nat) (o:Oper):Array Nat:=
 acc.push (o.after.foldl (fun s e=>if Region.binds .any e then s ||| 2 ^ e.on ||| acc.getD e.on 0 else s) 0)
theorem before_fold (ops:Array Oper):Region.before ops=ops.toList.foldl pushB #[]:=by
 unfold Region.before
 rw [← Array.foldl_toList]
 rfl
theorem bits_fold (acc:Array Nat) (j:Nat):∀(l:List Edge) (s:Nat),(l.foldl (fun s e=>if Region.binds .any e then s ||| 2 ^ e.on ||| acc.getD e.on 0 else s) s).testBit j=true →
  s.testBit j=true∨∃e∈l,Region.binds .any e=true∧(e.on=j∨(acc.getD e.on 0).testBit j=true)
 | [],s,h=>.inl h
 | e :: l,s,h=>by
  rw [List.foldl_cons]at h
  rcases bits_fold acc j l _ h with h1 | ⟨e',h1,h2⟩
  ·split at h1
   ·rename_i hb
    rw [Nat.testBit_or,Nat.testBit_or,Nat.testBit_two_pow]at h1
    simp only [Bool.or_eq_true,decide_eq_true_eq]at h1
    rcases h1 with (h1 | h1) | h1
    ·exact .inl h1
    ·exact .inr ⟨e,by simp,hb,.inl h1⟩
    ·exact .inr ⟨e,by simp,hb,.inr h1⟩
   ·exact .inl h1
  ·exact .inr ⟨e',List.mem_cons_of_mem _ h1,h2⟩
def Bits (ops:List Oper) (acc:Array Nat):Prop:=∀i j,(acc.getD i 0).testBit j=true→∃o,ops[i]?=some o∧∃e∈o.after,Region.binds .any e=true∧(e.on=j∨(acc.getD e.on 0).testBit j=true)
theorem getD_push_lt (acc:Array Nat) (x:Nat) {i:Nat} (h:i < acc.size):(acc.push x).getD i 0=acc.getD i 0:=by
 rw [Array.getD_eq_getD_getElem?,Array.getD_eq_getD_getElem?,Array.getElem?_push_lt h,Array.getElem?_eq_getElem h]
theorem getD_some {acc:Array Nat} {i j:Nat} (h:(acc.getD i 0).testBit j=true):i < acc.size:=by
 rcases Nat.lt_or_ge i acc.size with h1 | h1
 ·exact h1
 ·rw [Array.getD_eq_getD_getElem?,Array.getElem?_eq_none h1]at h
  simp at h
theorem bits_ok (ops:List Oper):∀(l:List Oper) (acc:Array Nat) (pre:List Oper),pre++l=ops→acc.size=pre.length→Bits ops acc→Bits ops (l.foldl pushB acc)∧(l.foldl pushB acc).size=ops.length
 | [],acc,pre,h,hs,hb=>⟨hb,by rw [← h]; simpa using hs⟩
 | o :: l,acc,pre,h,hs,hb=>by
  refine bits_ok ops l (pushB acc o) (pre++[o]) (by rw [← h]; simp) (by simp [pushB,hs]) ?_
  intro i j hij
  have keep:∀k,(acc.getD k 0).testBit j=true→((pushB acc o).getD k 0).testBit j=true:=fun k hk=>by
   unfold pushB
   rw [getD_push_lt acc _ (getD_some hk)]
   exact hk
  rcases Nat.lt_or_ge i acc.size with hi | hi
  ·unfold pushB at hij
   rw [getD_push_lt acc _ hi]at hij
   obtain⟨o',h1,e,h2,h3,h4⟩:=hb i j hij
   exact⟨o',h1,e,h2,h3,h4.imp id (keep _)⟩
  ·have hi2:i=acc.size:=by
    have:=getD_some hij
    simp [pushB]at this
    omega
   subst hi2
   have hv:(pushB acc o).getD acc.size 0=o.after.foldl (fun s e=>if Region.binds .any e then s ||| 2 ^ e.on ||| acc.getD e.on 0 else s) 0:=by
    unfold pushB
    rw [Array.getD_eq_getD_getElem?,Array.getElem?_push_size]
    rfl
   rw [hv,← Array.foldl_toList]at hij
   rcases bits_fold acc j _ _ hij with h1 | ⟨e,h1,h2,h3⟩
   ·simp at h1
   ·refine⟨o,?_,e,by simpa using h1,h2,h3.imp id (keep _)⟩
    rw [← h,hs]
    simp
theorem before_bit {ops:Array Oper} {i j:Nat} (h:((Region.before ops).getD i 0).testBit j=true) :
  ∃o,ops[i]?=some o∧∃e∈o.after,Region.binds .any e=true∧(e.on=j∨((Region.before ops).getD e.on 0).testBit j=true):=by
 rw [before_fold]at h ⊢
 obtain⟨h1,_⟩:=bits_ok ops.toList ops.toList #[] [] rfl rfl (fun i j h=>absurd h (by simp))
 obtain⟨o,h2,h3⟩:=h1 i j h
 exact⟨o,by simpa using h2,h3⟩
theorem before_size (ops:Array Oper):(Region.before ops).size=ops.size:=by
 rw [before_fold]
 obtain⟨_,h⟩:=bits_ok ops.toList ops.toList #[] [] rfl rfl (fun i j h=>absurd h (by simp))
 simpa using h
def Edges (ops:Array Oper):Prop:=∀(i:Nat) (o:Oper),ops[i]?=some o→∀e∈o.after,Region.binds .any e=true→e.on < i
theorem edges_ok {P:Program} {ops:Array Oper} (h:edgesB P ops=true):Edges ops∧((P.follows .mixedOrders || !Region.departs ops)=true):=by
 unfold edgesB at h
 rw [Bool.and_eq_true]at h
 refine⟨?_,h.1⟩
 intro i o ho e he hb
 have h1:=List.all_eq_true.1 h.2 (o,i) (by
  rw [List.mem_zipIdx_iff_getElem?]
  simpa using ho)
 have h2:=List.all_eq_true.1 h1 e (by simpa using he)
 simpa [blt_eq,hb] using h2
theorem before_lt {ops:Array Oper} (hE:Edges ops):∀(i j:Nat),((Region.before ops).getD i 0).testBit j=true→j < i:=by
 intro i
 induction i using Nat.strongRecOn with
 | _ i ih =>
  intro j h
  obtain⟨o,ho,e,he,hb,h1⟩:=before_bit h
  have:=hE i o ho e he hb
  rcases h1 with h1 | h1
  ·omega
  ·have:=ih e.on this j h1
   omega
def Closed (ops:Array Oper) (listed:Array Bool):Prop:=∀(j:Nat) (oj:Oper),ops[j]?=some oj→listed.getD j false=true→∀e∈oj.after,Region.binds .any e=true→listed.getD e.on false=true
theorem closed_before {ops:Array Oper} (hE:Edges ops) {listed:Array Bool} (hc:Closed ops listed):∀(i:Nat) (o:Oper),ops[i]?=some o→(∀e∈o.after,Region.binds .any e=true→listed.getD e.on false=true) →
  ∀j,((Region.before ops).getD i 0).testBit j=true→listed.getD j false=true:=by
 intro i
 induction i using Nat.strongRecOn with
 | _ i ih =>
  intro o ho hl j h
  obtain⟨o',ho',e,he,hb,h1⟩:=before_bit h
  have:o'=o:=Option.some.inj (ho'.symm.trans ho)
  subst this
  rcases h1 with h1 | h1
  ·subst h1
   exact hl e he hb
  ·obtain⟨o2,ho2,_⟩:=before_bit h1
   exact ih e.on (hE i _ ho e he hb) o2 ho2 (hc e.on o2 ho2 (hl e he hb)) j h1
theorem closed_bits {ops:Array Oper} (hE:Edges ops) {listed:Array Bool} (hc:Closed ops listed) {i j:Nat} (hi:listed.getD i false=true) (h:((Region.before ops).getD i 0).testBit j=true):listed.getD j false=true:=by
 obtain⟨o,ho,_⟩:=before_bit h
 exact closed_before hE hc i o ho (hc i o ho hi) j h
theorem Closed.set {ops:Array Oper} {listed:Array Bool} (hc:Closed ops listed) {i:Nat} {o:Oper} (ho:ops[i]?=some o) (hl:∀e∈o.after,Region.binds .any e=true→listed.getD e.on false=true) :
  Closed ops (listed.setIfInBounds i true):=by
 intro j oj hj hlj e he hb
 by_cases hij:i=j
 ·subst hij
  have:oj=o:=Option.some.inj (hj.symm.trans ho)
  subst this
  exact getD_set_true (hl e he hb)
 ·rw [getD_set_ne false hij]at hlj
  exact getD_set_true (hc j oj hj hlj e he hb)
theorem planTail_spec (bs:List Nat):∀(n j:Nat),planTail bs n≤j→j < n→(lget bs j).getD 0 % 2 ^ j=2 ^ j-1
 | 0,j,_,h=>absurd h (Nat.not_lt_zero j)
 | n+1,j,h1,h2=>by
  unfold planTail at h1
  split at h1
  ·rename_i hb
   by_cases hj:j=n
   ·subst hj; exact hb
   ·exact planTail_spec bs n j h1 (by omega)
  ·omega
theorem planTail_le (bs:List Nat):∀(n:Nat),planTail bs n≤n
 | 0=>Nat.le_refl _
 | n+1=>by
  unfold planTail
  split
  ·exact Nat.le_succ_of_le (planTail_le bs n)
  ·exact Nat.le_refl _
theorem tail_bits {ops:Array Oper} {j i:Nat} (h:planTail (Region.before ops).toList ops.size≤j) (hj:j < ops.size) (hi:i < j):((Region.before ops).getD j 0).testBit i=true:=by
 have h1:=planTail_spec _ _ j h hj
 rw [lget_eq]at h1
 have h2:((Region.before ops).toList[j]?).getD 0=(Region.before ops).getD j 0:=by
  rw [Array.getD_eq_getD_getElem?]
  simp
 rw [h2]at h1
 have h3:((Region.before ops).getD j 0 % 2 ^ j).testBit i=(2 ^ j-1).testBit i:=by rw [h1]
 rw [Nat.testBit_mod_two_pow,Nat.testBit_two_pow_sub_one]at h3
 simpa [hi] using h3
theorem go_step (md:Region.Mode) (ops:Array Oper) (fuel t:Nat) (listed:Array Bool) :
  Region.linearise.go md ops (fuel+1) t listed []=match (Region.ready md ops listed)[t % (Region.ready md ops listed).length]? with
   | some i=>i :: Region.linearise.go md ops fuel (t / (Region.ready md ops listed).length) (listed.setIfInBounds i true) []
   | none=>[]:=by
 simp only [Region.linearise.go]
 change (match (Region.ready md ops listed)[t % (Region.ready md ops listed).length]? with
   | some i=>Region.linearise.go md ops fuel (t / (Region.ready md ops listed).length) (listed.setIfInBounds i true) [i]
   | none=>[].reverse)=_
 cases (Region.ready md ops listed)[t % (Region.ready md ops listed).length]? with
 | none=>rfl
 | some i =>
  simp only []
  rw [linearise_go_acc,List.reverse_singleton,List.singleton_append]
theorem off_both {listed:Array Bool} {i:Nat} (h:listed.getD i true=false):listed.getD i false=false:=by
 rcases Nat.lt_or_ge i listed.size with h' | h'
 ·simp [h']at h ⊢; exact h
 ·simp [Array.getElem?_eq_none h']at h
theorem off_in {listed:Array Bool} {i:Nat} (hi:i < listed.size) (h:listed.getD i false=false):listed.getD i true=false:=by
 simp [hi]at h ⊢; exact h
theorem ready_ne {ops:Array Oper} {listed:Array Bool} (hE:Edges ops) (hs:listed.size=ops.size):∀(i:Nat),i < ops.size→listed.getD i true=false→Region.ready .any ops listed≠[]:=by
 intro i
 induction i using Nat.strongRecOn with
 | _ i ih =>
  intro hi hl
  by_cases h:∀e∈ops[i].after,Region.binds .any e=true→listed.getD e.on false=true
  ·have:i∈Region.ready .any ops listed:=mem_ready.2 ⟨hl,ops[i],by simp [hi],h⟩
   intro hn
   rw [hn]at this
   simp at this
  ·simp only [Classical.not_forall]at h
   obtain⟨e,he,hb,hn⟩:=h
   have hlt:=hE i ops[i] (by simp [hi]) e he hb
   exact ih e.on hlt (by omega) (off_in (by omega) (by simpa using hn))
theorem go_take {ops:Array Oper} {listed:Array Bool} (hE:Edges ops) (hs:listed.size=ops.size) {i:Nat} (hi:i < ops.size) (hl:listed.getD i true=false) (fuel t:Nat) :
  ∃i o t',ops[i]?=some o∧listed.getD i true=false∧(∀e∈o.after,Region.binds .any e=true→listed.getD e.on false=true) ∧
   Region.linearise.go .any ops (fuel+1) t listed []=i :: Region.linearise.go .any ops fuel t' (listed.setIfInBounds i true) []:=by
 have hne:=ready_ne hE hs i hi hl
 rw [go_step]
 have hpos:0 < (Region.ready .any ops listed).length:=List.length_pos_iff.2 hne
 have hlt:t % (Region.ready .any ops listed).length < (Region.ready .any ops listed).length:=Nat.mod_lt _ hpos
 rw [List.getElem?_eq_getElem hlt]
 have hm:=List.getElem_mem hlt
 obtain⟨h1,o,h2,h3⟩:=mem_ready.1 hm
 exact⟨_,o,_,h2,h1,fun e he hb=>h3 e he hb,rfl⟩
theorem go_done {md:Region.Mode} {ops:Array Oper} {listed:Array Bool} (h:∀i,i < ops.size→listed.getD i true=true) (fuel t:Nat):Region.linearise.go md ops fuel t listed []=[]:=by
 cases fuel with
 | zero=>rfl
 | succ fuel =>
  rw [go_step]
  have:Region.ready md ops listed=[]:=by
   rw [List.eq_nil_iff_forall_not_mem]
   intro i hi
   obtain⟨h1,o,h2,_⟩:=mem_ready.1 hi
   rw [h i (Array.getElem?_eq_some_iff.1 h2).1]at h1
   simp at h1
  rw [this]
  simp
def unl (listed:Array Bool):Nat→Nat
 | 0=>0
 | n+1=>unl listed n+(if listed.getD n true=false then 1 else 0)
theorem unl_same {listed:Array Bool} {i:Nat}:∀n,n≤i→unl (listed.setIfInBounds i true) n=unl listed n
 | 0,_=>rfl
 | n+1,h=>by
  unfold unl
  rw [unl_same n (by omega),getD_set_ne true (show i≠n by omega)]
theorem unl_set {listed:Array Bool} {i:Nat} (hs:i < listed.size) (hl:listed.getD i true=false):∀n,i < n→unl (listed.setIfInBounds i true) n+1=unl listed n
 | 0,h=>absurd h (Nat.not_lt_zero i)
 | n+1,h=>by
  by_cases hin:i=n
  ·subst hin
   unfold unl
   rw [unl_same i (Nat.le_refl _),if_pos hl,if_neg (by simp [hs])]
  ·have:=unl_set hs hl n (by omega)
   unfold unl
   rw [getD_set_ne true hin]
   omega
theorem unl_pos {listed:Array Bool} {i:Nat} (hl:listed.getD i true=false):∀n,i < n→0 < unl listed n
 | 0,h=>absurd h (Nat.not_lt_zero i)
 | n+1,h=>by
  unfold unl
  by_cases hin:i=n
  ·subst hin
   rw [if_pos hl]
   omega
  ·have:=unl_pos hl n (by omega)
   omega
theorem unl_le (listed:Array Bool):∀n,unl listed n≤n
 | 0=>Nat.le_refl _
 | n+1=>by
  have:=unl_le listed n
  unfold unl
  split<;>omega
theorem go_tail {ops:Array Oper} (hE:Edges ops) {k:Nat} (hk:k=planTail (Region.before ops).toList ops.size):∀(d c:Nat) (listed:Array Bool) (fuel t:Nat),ops.size-c=d→k≤c→c≤ops.size →
  listed.size=ops.size→Closed ops listed→(∀i,i < c→listed.getD i false=true)→(∀i,c≤i→i < ops.size→listed.getD i true=false)→d≤fuel →
  Region.linearise.go .any ops fuel t listed []=List.range' c d
 | 0,c,listed,fuel,t,hd,hkc,hc,hs,hcl,h1,h2,hf=>by
  rw [go_done]
  ·rfl
  ·intro i hi
   have:=h1 i (by omega)
   simp [hs,hi]at this ⊢
   exact this
 | d+1,c,listed,fuel,t,hd,hkc,hc,hs,hcl,h1,h2,hf=>by
  obtain⟨fuel,rfl⟩:∃f,fuel=f+1:=⟨fuel-1,by omega⟩
  obtain⟨i,o,t',ho,hl,he,heq⟩:=go_take hE hs (show c < ops.size by omega) (h2 c (Nat.le_refl _) (by omega)) fuel t
  have hin:i < ops.size:=(Array.getElem?_eq_some_iff.1 ho).1
  have hic:c≤i:=by
   rcases Nat.lt_or_ge i c with h | h
   ·have h3:=h1 i h
    rw [off_both hl]at h3
    simp at h3
   ·exact h
  have hi:i=c:=by
   rcases Nat.lt_or_ge c i with h | h
   ·have hb:=tail_bits (ops:=ops) (by omega) hin h
    have:=closed_before hE hcl i o ho he c hb
    rw [off_both (h2 c (Nat.le_refl _) (by omega))]at this
    simp at this
   ·omega
  subst hi
  rw [heq,List.range'_succ]
  congr 1
  refine go_tail hE hk d (i+1) _ fuel t' (by omega) (by omega) (by omega) (by simp [hs]) (hcl.set ho he) ?_ ?_ (by omega)
  ·intro j hj
   by_cases hji:i=j
   ·subst hji
    simp [hs,hin]
   ·rw [getD_set_ne false hji]
    exact h1 j (by omega)
  ·intro j hj hjn
   rw [getD_set_ne true (show i≠j by omega)]
   exact h2 j (by omega) hjn
end Go.Rv
namespace Go.Rv
open Go
theorem namesB_all {p:Nat→Bool}:∀(l:List RV),RV.rec_1 (motive_1:=fun _=>Bool) (motive_2:=fun _=>Bool)
 (fun _=>true) (fun b _=>p b) (fun b _ _ _=>p b) (fun b=>p b) (fun b=>p b) (fun _ _ _ a c=>a && c) (fun b=>p b) (fun _ a=>a) (fun _ a=>a)
 true (fun _ _ a c=>a && c) l=l.all (namesB p)
 | []=>rfl
 | x :: r=>by
  have:=namesB_all (p:=p) r
  show(namesB p x && _)=_
  rw [this]
  rfl
mutual
theorem rv_names {p:Nat→Bool} {n:Nat} {m m':Nat→Loc} (h:∀b,b < n→p b=true→m' b=m b):∀(x:RV),below n x=true→namesB p x=true→rv m' x=rv m x
 | .v _,_,_=>rfl
 | .ptr b o,hx,hp=>by
  have hb:b < n:=by simpa [below,blt_eq] using hx
  simp only [rv,h b hb hp]
 | .sl b o k e,hx,hp=>by
  have hb:b < n:=by simpa [below,blt_eq] using hx
  simp only [rv,h b hb hp]
 | .mp b,hx,hp=>by
  have hb:b < n:=by simpa [below,blt_eq] using hx
  simp only [rv,h b hb hp]
 | .it b,hx,hp=>by
  have hb:b < n:=by simpa [below,blt_eq] using hx
  simp only [rv,h b hb hp]
 | .yld b,hx,hp=>by
  have hb:b < n:=by simpa [below,blt_eq] using hx
  simp only [rv,h b hb hp]
 | .fn f a c,hx,hp=>by
  have hx':belowL n a=true∧belowL n c=true:=by simpa [below] using hx
  have hp':(a.all (namesB p) && c.all (namesB p))=true:=by rw [← namesB_all,← namesB_all]; exact hp
  rw [Bool.and_eq_true]at hp'
  simp only [rv,rvL_names h a hx'.1 hp'.1,rvL_names h c hx'.2 hp'.2]
 | .agg cs,hx,hp=>by
  have hx':belowL n cs=true:=belowC_L (by simpa [below] using hx)
  have hp':cs.all (namesB p)=true:=by rw [← namesB_all]; exact hp
  simp only [rv,rvL_names h cs hx' hp']
 | .tup cs,hx,hp=>by
  have hx':belowL n cs=true:=by simpa [below] using hx
  have hp':cs.all (namesB p)=true:=by rw [← namesB_all]; exact hp
  simp only [rv,rvL_names h cs hx' hp']
theorem rvL_names {p:Nat→Bool} {n:Nat} {m m':Nat→Loc} (h:∀b,b < n→p b=true→m' b=m b):∀(l:List RV),belowL n l=true→l.all (namesB p)=true→rvL m' l=rvL m l
 | [],_,_=>rfl
 | x :: r,hx,hp=>by
  have hx':below n x=true∧belowL n r=true:=by simpa [belowL] using hx
  have hp':namesB p x=true∧r.all (namesB p)=true:=by simpa using hp
  simp only [rvL,rv_names h x hx'.1 hp'.1,rvL_names h r hx'.2 hp'.2]
end
theorem slotW_eq (b:Nat):∀(l:List (Nat×RObj)),slotW b l=l.map fun x=>if b.testBit x.1 then x.2.toRo else .dead
 | []=>rfl
 | (i,o) :: r=>by simp only [slotW,slotW_eq b r,List.map_cons]
theorem get_over {A B:List RObj} {L:Nat} (b:Nat):(⟨L+A.length,A++B⟩:RW).get b=if b < L then (⟨L,B⟩:RW).get b else A.reverse[b-L]?:=by
 unfold RW.get
 simp only [blt_eq,decide_eq_true_eq,lget_eq]
 by_cases h:b < L
 ·rw [if_pos h,if_pos (by omega),if_pos h,List.getElem?_append_right (by omega)]
  congr 1
  omega
 ·rw [if_neg h]
  by_cases h2:b < L+A.length
  ·rw [if_pos h2,List.getElem?_append_left (by omega),List.getElem?_reverse (by omega)]
   congr 1
   omega
  ·rw [if_neg h2,List.getElem?_eq_none (by simp; omega)]
theorem get_map {B:List RObj} {L:Nat} (f:RObj→RObj) (b:Nat):(⟨L,B.map f⟩:RW).get b=((⟨L,B⟩:RW).get b).map f:=by
 unfold RW.get
 simp only [lget_eq]
 split
 ·simp
 ·rfl
section
variable [Env] {P:Program} {ev:Ev}
theorem Rel.less {m:Nat→Loc} {W1 W2:RW} {w:World} (h:Rel m W1 w) (hwf:W2.wf) (hg:∀b o2,W2.get b=some o2→o2=.dead∨∃o1,W1.get b=some o1∧(o2=o1.toRo∨o2=o1))
  (hlt:∀b o,W2.get b=some o→o.lt W2.n) (hglb:∀i g,Env.ids[i]?=some g→i < W2.n):Rel m W2 w:=by
 have hro:∀o:RObj,o.toRo.own=false:=fun o=>by cases o<;>rfl
 have hlive:∀o:RObj,o.toRo.live=true→o.live=true:=fun o h=>by cases o<;>first | rfl | simp [RObj.toRo,RObj.live]at h
 refine⟨hwf,?_,hlt,?_,fun i g hi=>⟨hglb i g hi,(h.glb i g hi).2⟩⟩
 ·intro b o2 hb
  rcases hg b o2 hb with rfl | ⟨o1,h1,rfl | rfl⟩
  ·trivial
  ·have ho:=h.obj b o1 h1
   cases o1 with
   | cells c k =>
    obtain⟨arr,ty,fz,h1,h2,h3,h4,h5,h6⟩:=ho
    exact⟨arr,ty,fz,h1,h2,fun hk=>absurd rfl hk,h4,h5,fun hk=>by simp at hk⟩
   | map es clock ro=>exact ho
   | dead=>trivial
   | miter _ _ _ _=>trivial
   | siter _ _=>trivial
   | loop _ _ _ _ _ _ _ _=>trivial
   | dfr _=>trivial
  ·exact h.obj b o2 h1
 ·intro a b x y ha hb hx hy hab
  rcases hg a x ha with rfl | ⟨x1,hx1,rfl | rfl⟩
  ·simp [RObj.own]at hx
  ·rw [hro]at hx; simp at hx
  ·rcases hg b y hb with rfl | ⟨y1,hy1,rfl | rfl⟩
   ·simp [RObj.live]at hy
   ·exact h.inj a b x y1 hx1 hy1 hx (hlive y1 hy) hab
   ·exact h.inj a b x y hx1 hy1 hx hy hab
omit [Env] in
theorem toRo_lt {n:Nat} {o:RObj} (h:o.lt n):o.toRo.lt n:=by
 cases o<;>first | exact h | trivial
omit [Env] in
theorem names_mono {p q:Nat→Bool} (h:∀c,p c=true→q c=true):∀(x:RV),namesB p x=true→namesB q x=true:=by
 intro x
 refine RV.rec (motive_1:=fun x=>namesB p x=true→namesB q x=true) (motive_2:=fun l=>l.all (namesB p)=true→l.all (namesB q)=true)
  (fun _ _=>rfl) (fun b _ hp=>h b hp) (fun b _ _ _ hp=>h b hp) (fun b hp=>h b hp) (fun b hp=>h b hp) ?_ (fun b hp=>h b hp) ?_ ?_ (fun _=>rfl) ?_ x
 ·intro f a c ha hc hp
  have hp':(a.all (namesB p) && c.all (namesB p))=true:=by rw [← namesB_all,← namesB_all]; exact hp
  rw [Bool.and_eq_true]at hp'
  have:(a.all (namesB q) && c.all (namesB q))=true:=by rw [ha hp'.1,hc hp'.2]; rfl
  rw [← namesB_all,← namesB_all]at this
  exact this
 ·intro cs hcs hp
  have hp':cs.all (namesB p)=true:=by rw [← namesB_all]; exact hp
  have:=hcs hp'
  rw [← namesB_all]at this
  exact this
 ·intro cs hcs hp
  have hp':cs.all (namesB p)=true:=by rw [← namesB_all]; exact hp
  have:=hcs hp'
  rw [← namesB_all]at this
  exact this
 ·intro y l hy hl hp
  have hp':namesB p y=true∧l.all (namesB p)=true:=by simpa using hp
  simp only [List.all_cons,hy hp'.1,hl hp'.2,Bool.and_self]
omit [Env] in
theorem newB_mono {n n':Nat} {p q:Nat→Bool} (hn:n≤n') (h:∀c,p c=true→q c=true) {o:RObj} (ho:newB n p o=true):newB n' q o=true:=by
 cases o with
 | cells c k =>
  simp only [newB,Bool.and_eq_true,List.all_eq_true]at ho ⊢
  exact⟨belowC_mono hn c ho.1,fun x hx=>names_mono h x (ho.2 x hx)⟩
 | map es clock ro =>
  simp only [newB,Bool.and_eq_true,List.all_eq_true]at ho ⊢
  intro e he
  obtain⟨⟨⟨h1,h2⟩,h3⟩,h4⟩:=ho e he
  exact⟨⟨⟨below_mono hn _ h1,names_mono h _ h2⟩,below_mono hn _ h3⟩,names_mono h _ h4⟩
 | dead=>rfl
 | _=>simp [newB]at ho
omit [Env] in
theorem keepB_spec {n:Nat} {p:Nat→Bool} (o:RObj):newB n p (keepB n p o)=true∧(keepB n p o=.dead∨(keepB n p o=o∧o.own=true)):=by
 have key:∀o':RObj,o'.own=true→newB n p (if newB n p o' then o' else .dead)=true∧((if newB n p o' then o' else .dead)=.dead∨((if newB n p o' then o' else .dead)=o'∧o'.own=true)):=by
  intro o' ho
  split
  ·rename_i hb
   exact⟨hb,.inr ⟨rfl,ho⟩⟩
  ·exact⟨rfl,.inl rfl⟩
 cases o with
 | cells c k=>cases k with
  | ro=>exact⟨rfl,.inl rfl⟩
  | rx=>exact⟨rfl,.inl rfl⟩
  | ex=>exact key _ rfl
  | gr=>exact key _ rfl
 | map es clock ro=>cases ro with
  | true=>exact⟨rfl,.inl rfl⟩
  | false=>exact key _ rfl
 | _=>exact⟨rfl,.inl rfl⟩
omit [Env] in
theorem newB_lt {n:Nat} {p:Nat→Bool} {o:RObj} (h:newB n p o=true):o.lt n:=by
 cases o with
 | cells c k =>
  simp only [newB,Bool.and_eq_true]at h
  exact h.1
 | map es clock ro =>
  simp only [newB,Bool.and_eq_true,List.all_eq_true]at h
  intro e he
  obtain⟨⟨⟨h1,_⟩,h3⟩,_⟩:=h e he
  exact⟨h1,h3⟩
 | dead=>trivial
 | _=>simp [newB]at h
omit [Env] in
theorem ORel.names {n:Nat} {p:Nat→Bool} {m m':Nat→Loc} {o:RObj} {l:Loc} {heap:Array Obj} (hn:newB n p o=true) (h:ORel m o l heap) (hm:∀b,b < n→p b=true→m' b=m b):ORel m' o l heap:=by
 cases o with
 | cells c kd =>
  simp only [newB,Bool.and_eq_true,List.all_eq_true]at hn
  obtain⟨arr,ty,fz,h1,h2,h3⟩:=h
  refine⟨arr,ty,fz,h1,fun j x hj=>?_,h3⟩
  have hmem:=List.mem_of_getElem? hj
  rw [h2 j x hj,rv_names hm x ((belowC_iff n c).1 hn.1 x hmem).2 (hn.2 x hmem)]
 | map es clock ro =>
  simp only [newB,Bool.and_eq_true,List.all_eq_true]at hn
  have h':heap[l.blk]?=some (.map (es.map (entryOf m)).toArray clock):=h
  show heap[l.blk]?=_
  rw [h']
  have:es.map (entryOf m)=es.map (entryOf m'):=List.map_congr_left fun e he=>by
   obtain⟨⟨⟨h1,h2⟩,h3⟩,h4⟩:=hn e he
   simp only [entryOf,rv_names hm _ h1 h2,rv_names hm _ h3 h4]
  rw [this]
 | dead=>trivial
 | _=>simp [newB]at hn
structure PreStep (P:Program) (ev:Ev) (L:Nat) (ws:Wrs) (j:Nat) (o:Oper) (r:ROper) (b:Nat) (s s':PS) (x:RV):Prop where
 n:s'.t.n=s.t.n
 dn:∀d,o.dst=some d→d < s.t.n
 get:∀i,s'.t.get i=if o.dst=some i then x else s.t.get i
 kind:(wantedR s.t r.guard=false∧x=ud∧s'.sl=s.sl∧s'.V=s.V) ∨
  (wantedR s.t r.guard=true∧∃e,r.op s.t (viewOf L b j ws r.st s)=some e∧((e=.val x∧s'.sl=s.sl∧s'.V=s.V) ∨
   (∃ob mk,e=.alloc ob mk∧x=mk (L+s.sl.length)∧s'.sl=(j,ob) :: s.sl∧s'.V=s.V) ∨
   (∃f args W',e=.call f args∧callV P ev f args (viewOf L b j ws r.st s)=some (x,W')∧s'.V=s.V ∧
    (s'.sl=s.sl∨(L+s'.sl.length=W'.n∧∃l,ltake (W'.n-(L+s.sl.length)) W'.l=some l∧s'.sl=(l.map fun o=>(j,keepB W'.n (madeN L b s.sl (L+s.sl.length) W'.n) o))++s.sl))) ∨
   (∃y W' a c off cs k,e=.wr y W'∧r.st=some a∧a s.t=.ptr c off∧c < L∧(j,c,b)∈ws∧W'.get c=some (.cells cs k)∧belowC L cs=true∧x=ud∧s'.sl=s.sl∧s'.V=s.V.set (L-1-c) (.cells cs k))))
 below:below (L+s'.sl.length) x=true
 names:namesB (madeN L b s.sl (L+s.sl.length) (L+s'.sl.length)) x=true
 grow:∃news:List RObj,s'.sl=(news.map fun o=>(j,o))++s.sl∧∀o∈news,newB (L+s'.sl.length) (madeN L b s.sl (L+s.sl.length) (L+s'.sl.length)) o=true
theorem preOne_ok {L j b:Nat} {ws:Wrs} {o:Oper} {r:ROper} {s s':PS} (hput:PutOk r.put o.dst) (h:preOne P ev L ws r b j s=some s') :
  ∃x,PreStep P ev L ws j o r b s s' x:=by
 have vismade:∀n c,visN L b s.sl c=true→madeN L b s.sl (L+s.sl.length) n c=true:=fun n c hc=>by simp [madeN,hc]
 have hn0:(viewOf L b j ws r.st s).n=L+s.sl.length:=by unfold viewOf seen; split<;>rfl
 unfold preOne at h
 split at h
 ·rename_i hw
  unfold preE at h
  cases he:r.op s.t (viewOf L b j ws r.st s)with
  | none=>rw [he]at h; simp at h
  | some e =>
   rw [he]at h
   cases e with
   | val x =>
    simp only at h
    split at h
    ·rename_i hc
     rw [Bool.and_eq_true,hn0]at hc
     split at h
     ·rename_i t2 hp
      simp only [Option.some.injEq]at h
      subst h
      obtain⟨h1,h2,h3⟩:=hput s.t t2 x hp
      exact⟨x,h1,h2,h3,.inr ⟨hw,_,he,.inl ⟨rfl,rfl,rfl⟩⟩,hc.1,names_mono (vismade _) x hc.2,[],rfl,by simp⟩
     ·simp at h
    ·simp at h
   | alloc ob mk =>
    simp only [fnat_eq,hn0]at h
    split at h
    ·rename_i hc
     simp only [Bool.and_eq_true]at hc
     split at h
     ·rename_i t2 hp
      simp only [Option.some.injEq]at h
      subst h
      obtain⟨h1,h2,h3⟩:=hput s.t t2 _ hp
      refine⟨mk (L+s.sl.length),h1,h2,h3,.inr ⟨hw,_,he,.inr (.inl ⟨ob,mk,rfl,rfl,rfl,rfl⟩)⟩,hc.1.2,hc.2,[ob],rfl,fun o ho=>?_⟩
      simp only [List.mem_singleton]at ho
      subst ho
      exact newB_mono (by simp) (vismade _) hc.1.1
     ·simp at h
    ·simp at h
   | wr y W =>
    simp only [preS]at h
    split at h
    ·rename_i a hst
     split at h
     ·rename_i c off ha
      split at h
      ·rename_i hc
       simp only [Bool.and_eq_true,List.any_eq_true,blt_eq,decide_eq_true_eq]at hc
       obtain⟨hc1,e',he',⟨he1,he2⟩,he3⟩:=hc
       have h1:=Nat.eq_of_beq_eq_true he1
       have h2:=Nat.eq_of_beq_eq_true he2
       have h3:=Nat.eq_of_beq_eq_true he3
       obtain⟨e1,e2,e3⟩:=e'
       simp only at h1 h2 h3
       subst h1 h2 h3
       split at h
       ·rename_i cs k hg
        split at h
        ·rename_i hb
         split at h
         ·rename_i t2 hp
          simp only [Option.some.injEq]at h
          subst h
          obtain⟨h1,h2,h3⟩:=hput s.t t2 ud hp
          exact⟨ud,h1,h2,h3,.inr ⟨hw,_,he,.inr (.inr (.inr ⟨y,W,a,e2,off,cs,k,rfl,hst,ha,hc1,he',hg,hb,rfl,rfl,rfl⟩))⟩,rfl,rfl,[],rfl,by simp⟩
         ·simp at h
        ·simp at h
       ·simp at h
      ·simp at h
     ·simp at h
    ·simp at h
   | call f args =>
    simp only at h
    split at h
    ·rename_i rr hcv
     obtain⟨x,W'⟩:=rr
     simp only [preC]at h
     split at h
     ·rename_i hc
      rw [Bool.and_eq_true]at hc
      split at h
      ·rename_i t2 hp
       simp only [Option.some.injEq]at h
       subst h
       obtain⟨h1,h2,h3⟩:=hput s.t t2 x hp
       exact⟨x,h1,h2,h3,.inr ⟨hw,_,he,.inr (.inr (.inl ⟨f,args,W',rfl,hcv,rfl,.inl rfl⟩))⟩,hc.1,names_mono (vismade _) x hc.2,[],rfl,by simp⟩
      ·simp at h
     ·rw [fnat_eq]at h
      split at h
      ·rename_i hc
       simp only [Bool.and_eq_true]at hc
       have hle:=Nat.le_of_ble_eq_true hc.1.1
       split at h
       ·rename_i t2 hp
        split at h
        ·rename_i l hl
         simp only [Option.some.injEq]at h
         subst h
         obtain⟨h1,h2,h3⟩:=hput s.t t2 x hp
         obtain⟨hl1,hl2⟩:=ltake_spec _ _ hl
         have hlen:L+((l.map fun o=>(j,keepB W'.n (madeN L b s.sl (L+s.sl.length) W'.n) o))++s.sl).length=W'.n:=by
          rw [List.length_append,List.length_map,hl2,List.length_take]
          omega
         refine⟨x,h1,h2,h3,.inr ⟨hw,_,he,.inr (.inr (.inl ⟨f,args,W',rfl,hcv,rfl,.inr ⟨hlen,l,hl,rfl⟩⟩))⟩,by rw [hlen]; exact hc.1.2,by rw [hlen]; exact hc.2,
          l.map (keepB W'.n (madeN L b s.sl (L+s.sl.length) W'.n)),by rw [List.map_map]; rfl,fun o ho=>?_⟩
         rw [hlen]
         obtain⟨o',_,rfl⟩:=List.mem_map.1 ho
         exact(keepB_spec o').1
        ·simp at h
       ·simp at h
      ·simp at h
    ·simp at h
 ·rename_i hw
  split at h
  ·rename_i t2 hp
   simp only [Option.some.injEq]at h
   subst h
   obtain⟨h1,h2,h3⟩:=hput s.t t2 ud hp
   exact⟨ud,h1,h2,h3,.inl ⟨by simpa using hw,rfl,rfl,rfl⟩,rfl,rfl,[],rfl,by simp⟩
  ·simp at h
theorem preR_trace (L:Nat) (ws:Wrs):∀(l:List (ROper×Nat)) (i:Nat) (s s':PS),preR P ev L ws l i s=some s' →
  ∃Tr:Nat→PS,Tr 0=s∧Tr l.length=s'∧∀(j:Nat) (x:ROper×Nat),l[j]?=some x→preOne P ev L ws x.1 x.2 (i+j) (Tr j)=some (Tr (j+1))
 | [],i,s,s',h=>by
  have h':some s=some s':=h
  simp only [Option.some.injEq]at h'
  exact⟨fun _=>s,rfl,h',fun j x hx=>by simp at hx⟩
 | y :: l,i,s,s',h=>by
  have h':Option.rec (motive:=fun _=>Option PS) none (fun r=>fnat i fun i=>preR P ev L ws l (i+1) r) (preOne P ev L ws y.1 y.2 i s)=some s':=h
  simp only [fnat_eq]at h'
  cases he:preOne P ev L ws y.1 y.2 i s with
  | none=>rw [he]at h'; simp at h'
  | some q =>
   rw [he]at h'
   obtain⟨Tr,h1,h2,h3⟩:=preR_trace L ws l (i+1) q s' h'
   refine⟨fun j=>match j with | 0=>s | j+1=>Tr j,rfl,h2,?_⟩
   intro j x hx
   cases j with
   | zero =>
    simp only [List.getElem?_cons_zero,Option.some.injEq]at hx
    subst hx
    simp only [Nat.add_zero,he,h1]
   | succ j =>
    have:=h3 j x (by simpa using hx)
    rw [show i+(j+1)=i+1+j by omega]
    exact this
end
end Go.Rv
