import Derived.Test.YtfebjikidfcbcaaSyP2
import Derived.Test.YtfebjikidfcbcaaGrM
import Derived.Test.YtfebjikidfcbcaaStM
import Derived.Test.YtfebjikidfcbcaaLrM
import Derived.Test.YtfebjikidfcbcaaDhM
import Derived.Test.YtfebjikidfcbcaaKtT
import Derived.Test.YtfebjikidfcbcaaKtA
import Derived.Test.YtfebjikidfcbcaaKtB
import Derived.Test.YtfebjikidfcbcaaKwA
import Derived.Test.YtfebjikidfcbcaaKwB
import Derived.Test.YtfebjikidfcbcaaKwC
import Derived.Test.YtfebjikidfcbcaaKwD
import Derived.Test.YtfebjikidfcbcaaKwE
import Derived.Test.YtfebjikidfcbcaaKwF
import Derived.Test.YtfebjikidfcbcaaKwI
import Derived.Test.YtfebjikidfcbcaaKwJ
import Derived.Test.YtfebjikidfcbcaaKwK
import Derived.Test.YtfebjikidfcbcaaSyP2
import Derived.KernelRfl
import Derived.Test.YtfebjikidfcbcaaProg
namespace Go.Proofs.Ytfebjikidfcbcaa.Sy
open Go Go.Rv
set_option linter.unusedVariables false
def rows3 (b d s:Nat→Int) (n:Nat):Rows:=(List.range n).map fun i=>[b i,d i,s i]
theorem rows3_len (b d s:Nat→Int) (n:Nat):(rows3 b d s n).length=n:=by simp [rows3]
theorem rows3_row (b d s:Nat→Int) (n:Nat):∀r∈rows3 b d s n,r.length=3:=by
 intro r hr
 simp only [rows3,List.mem_map]at hr
 obtain⟨_,_,rfl⟩:=hr
 rfl
theorem rows3_get (b d s:Nat→Int) {n i:Nat} (h:i < n):(rows3 b d s n).getD i []=[b i,d i,s i]:=by
 unfold rows3
 simp [List.getD_eq_getElem?_getD,h]
theorem rows3_at (b d s:Nat→Int) {n i:Nat} (h:i < n):Rv.elemOf [.i64,.i64,.i64] (rows3 b d s n) i=[SV.i .i64 (b i),SV.i .i64 (d i),SV.i .i64 (s i)]:=by
 show [SV.i .i64 (((rows3 b d s n).getD i []).getD 0 0),SV.i .i64 (((rows3 b d s n).getD i []).getD 1 0),SV.i .i64 (((rows3 b d s n).getD i []).getD 2 0)]=_
 rw [rows3_get b d s h]
 rfl
theorem rows3_0 (b d s:Nat→Int) {n i:Nat} (h:i < n):cell (rows3 b d s n) i 0=b i:=by
 unfold cell; rw [rows3_get b d s h]; rfl
theorem rows3_1 (b d s:Nat→Int) {n i:Nat} (h:i < n):cell (rows3 b d s n) i 1=d i:=by
 unfold cell; rw [rows3_get b d s h]; rfl
theorem rows3_2 (b d s:Nat→Int) {n i:Nat} (h:i < n):cell (rows3 b d s n) i 2=s i:=by
 unfold cell; rw [rows3_get b d s h]; rfl
open Classical in
noncomputable def dE (fee itr pri cre:Int) (A:Rows) (till k m o q:Int):Int:=
 if k=2 then (if cell A m.toNat 0 < q*pri then 4 else 0)
 else if k=3 then (if cre < cell A m.toNat 1+(q+prt q itr)then 12 else 0)
 else if k=4 then (if cell A m.toNat 1 < q then 12 else if cell A m.toNat 0 < q then 4 else 0)
 else if k=5 then (if till < q then 4 else if cell A m.toNat 0 < q then 4 else 0)
 else if k=6 then (if cell A m.toNat 0 < q then 4 else 0)
 else if k=7 then (if surp A till < q then 12 else if idl A then 6 else 0)
 else if k=8 then (if till < q then 4 else if surp A till < q then 12 else 0)
 else 0
noncomputable def dB (fee itr pri cre:Int) (A:Rows) (till k m o q:Int) (i:Nat):Int:=
 if k=7 then cell A i 0+cS q A i
 else if k=8 then cell A i 0
 else if i=m.toNat then (if k=1 then cell A i 0+(q-prt q fee)else if k=2 then cell A i 0-q*pri else if k=3 then cell A i 0+q else cell A i 0-q)
 else if k=6∧i=o.toNat then cell A i 0+q
 else cell A i 0
def dD (itr:Int) (A:Rows) (k m q:Int) (i:Nat):Int:=
 if k=3∧i=m.toNat then cell A i 1+(q+prt q itr)else if k=4∧i=m.toNat then cell A i 1-q else cell A i 1
def dS (A:Rows) (k m q:Int) (i:Nat):Int:=if k=1∧i=m.toNat then cell A i 2+q else if k=7 then 0 else cell A i 2
def dT (till k q:Int):Int:=if k=1 then till+q else if k=5∨k=8 then till-q else till
noncomputable def dA (fee itr pri cre:Int) (A:Rows) (till k m o q:Int):Rows:=rows3 (dB fee itr pri cre A till k m o q) (dD itr A k m q) (dS A k m q) A.length
open Classical in
noncomputable def afE (fee itr pri cre:Int) (A:Rows) (till k m o q:Int):Int:=
 if dchk A.length k m o q≠0 then dchk A.length k m o q else if dE fee itr pri cre A till k m o q≠0 then dE fee itr pri cre A till k m o q
 else if fullC (dA fee itr pri cre A till k m o q) (dT till k q)then 5 else 0
def isNilC (xs:List SV):Bool:=match xs with
 | .agg (_ :: _ :: _ :: _ :: .v (.slice none 0 0) :: _) :: _=>true
 | _=>false
noncomputable def bonK (A:Rows) (q:Int) (k:Nat):Rows:=rows3 (fun i=>if i < k then cell A i 0+cS q A i else cell A i 0) (fun i=>cell A i 1) (fun i=>if i < k then 0 else cell A i 2) A.length
structure DS where
 e:Int
 A:Rows
 t:Int
structure DlOk (fee itr pri cre:Int) (A:Rows) (till k m o q:Int) (v:DS):Prop where
 e:v.e=dE fee itr pri cre A till k m o q
 l:v.A.length=A.length
 r:∀r∈v.A,r.length=3
 d:v.e=0→v.A=dA fee itr pri cre A till k m o q∧v.t=dT till k q
theorem el3 (A:Rows) (i:Nat):Rv.elemOf [.i64,.i64,.i64] A i=[SV.i .i64 (cell A i 0),SV.i .i64 (cell A i 1),SV.i .i64 (cell A i 2)]:=rfl
theorem dA_at (fee itr pri cre:Int) (A:Rows) (till k m o q:Int) {i:Nat} (h:i < A.length):Rv.elemOf [.i64,.i64,.i64] (dA fee itr pri cre A till k m o q) i=[SV.i .i64 (dB fee itr pri cre A till k m o q i),SV.i .i64 (dD itr A k m q i),SV.i .i64 (dS A k m q i)]:=rows3_at _ _ _ h
theorem DlOk.err {fee itr pri cre:Int} {A:Rows} {till k m o q e t:Int} {A':Rows} (h:e=dE fee itr pri cre A till k m o q) (hne:e≠0) (hl:A'.length=A.length) (hr:∀r∈A',r.length=3):DlOk fee itr pri cre A till k m o q ⟨e,A',t⟩:=⟨h,hl,hr,fun h0=>absurd h0 hne⟩
theorem DlOk.fin {fee itr pri cre:Int} {A:Rows} {till k m o q:Int} (h:0=dE fee itr pri cre A till k m o q):DlOk fee itr pri cre A till k m o q ⟨0,dA fee itr pri cre A till k m o q,dT till k q⟩:=⟨h,rows3_len _ _ _ _,rows3_row _ _ _ _,fun _=>⟨rfl,rfl⟩⟩
theorem cS_in {d:Int} {A:Rows} (h:ShOk d A) {i:Nat} (hi:i < A.length):0≤cS d A i∧cS d A i≤d:=by
 have h0:∀j,j < A.length→0≤cS d A j:=fun j hj=>h.sh.nn hj
 have h1:sumF (cS d A) A.length=d:=h.sh.sum
 have h2:=sumF_mono (f:=cS d A) (n:=A.length) (k:=i+1) (by omega) h0
 have h3:=sumF_mono (f:=cS d A) (n:=i) (k:=0) (by omega) fun j hj=>h0 j (by omega)
 have e:sumF (cS d A) (i+1)=sumF (cS d A) i+cS d A i:=rfl
 have e0:sumF (cS d A) 0=0:=rfl
 have:=h0 i hi
 omega
theorem bonK_0 {A:Rows} {q:Int} {k i:Nat} (h:i < A.length):cell (bonK A q k) i 0=if i < k then cell A i 0+cS q A i else cell A i 0:=rows3_0 _ _ _ h
theorem afE_chk {fee itr pri cre:Int} {A:Rows} {till k m o q:Int} (h:dchk A.length k m o q≠0):afE fee itr pri cre A till k m o q=dchk A.length k m o q:=by
 unfold afE
 rw [if_pos h]
theorem afE_do {fee itr pri cre:Int} {A:Rows} {till k m o q:Int} (h:dchk A.length k m o q=0) (h2:dE fee itr pri cre A till k m o q≠0):afE fee itr pri cre A till k m o q=dE fee itr pri cre A till k m o q:=by
 unfold afE
 rw [if_neg (fun hh=>hh h),if_pos h2]
open Classical in
theorem afE_ful {fee itr pri cre:Int} {A:Rows} {till k m o q:Int} (h:dchk A.length k m o q=0) (h2:dE fee itr pri cre A till k m o q=0):afE fee itr pri cre A till k m o q=if fullC (dA fee itr pri cre A till k m o q) (dT till k q)then 5 else 0:=by
 unfold afE
 rw [if_neg (fun hh=>hh h),if_neg (fun hh=>hh h2)]
noncomputable def F_cloneA:FnE:=⟨62,none,[.one (.l [.i64,.i64,.i64])],fun l=>match l with | [.l A]=>1≤A.length∧A.length≤100 | _=>False,fun l=>match l with | [.l A]=>[.gsl 0 A.length 3 false] | _=>[],fun l=>match l with | [.l A]=>[.gr A.length 3 (.fn (Rv.elemOf [.i64,.i64,.i64] A)) .gr false] | _=>[],fun l=>match l with | [.l A]=>[] | _=>[],false,none,none⟩
noncomputable def A_cloneA:List SV→List Dat→Nat→List SV→Ann:=fun _ _ _ _=>noAnn
def V_cloneA:Prop:=
 ∀(B:RW) (b:RV) (a:List (List Int)),IsLst B b a.length 3 (Rv.elemOf I3 a)→oneB b=true→(∀row∈a,row.length=3)→F_cloneA.pre ([Dat.l a]++[])→LsA B b I3 a∧(b=RV.v (Value.slice none 0 0)→False)∧(¬b=RV.v (Value.slice none 0 0)→LsA B b I3 a∧(a.length=(0:Nat)→Ob ((0:Nat)=a.length)∧EqA (0:Nat) a.length (litEl (symL (replS 0 (List.map SV.v (Value.agg #[Value.int .i64 (0:Int),Value.int .i64 (0:Int),Value.int .i64 (0:Int)]).cells.toList))) 3 0) (El.fn (Rv.elemOf I3 a))∧PlA I3 a∧True)∧(¬a.length=(0:Nat)→Ob (((0:Nat)+a.length)*(2:Nat)*(25:Nat)≤1099511627776)∧Ob ((0:Nat) < 0+((0:Nat)+a.length)*(3:Nat))∧Ob ((0:Nat)+a.length=a.length)∧EqA ((0:Nat)+a.length) a.length (behind 0 (litEl (symL (replS 0 (List.map SV.v (Value.agg #[Value.int .i64 (0:Int),Value.int .i64 (0:Int),Value.int .i64 (0:Int)]).cells.toList))) 3 0) a.length (El.fn (Rv.elemOf I3 a))) (El.fn (Rv.elemOf I3 a))∧PlA I3 a∧True))
set_option linter.unusedSimpArgs false in
set_option maxRecDepth 4000 in
set_option maxHeartbeats 400000 in
theorem v_cloneA:V_cloneA:=by
 unfold V_cloneA EqA I3 LsA PlA
 intro B x A hx hox hrx hA
 have hA:1≤A.length∧A.length≤100:=hA
 simp only [Ob_iff,and_true,true_and]
 refine⟨hx,fun h=>?_,fun h=>⟨hx,fun h0=>absurd h0 (by omega),fun h0=>⟨by omega,by omega,by omega,⟨by omega,fun i _=>behind_at _ _ _ _⟩,plain_elemOf _ _ _⟩⟩⟩
 subst h
 rcases hx with ⟨_,h⟩ | ⟨b,o,c,h,_⟩
 ·omega
 ·cases h
theorem e_cloneA:V_cloneA=needE P [] [] A_cloneA F_cloneA:=by kernel_rfl
theorem n_cloneA:Ob (needE P [] [] A_cloneA F_cloneA):=by
 rw [← e_cloneA]
 exact⟨v_cloneA⟩
theorem b_cloneA:((P.funcs[62]?).any fun fn=>fn.body.isSome)=true:=by kernel_rfl
theorem cloneA_ok:FnE.Ok P F_cloneA:=FnE.ok named (l:=[]) (es:=[]) (A:=A_cloneA) (by rfl) (by rfl) (by rfl) (by
 intro F h; simp at h) (by
 intro F h; simp at h) b_cloneA (by
 intro ds h o ho n sz e k z he
 subst he
 simp only [F_cloneA]at ho
 split at ho
 ·simp only [List.mem_cons,List.not_mem_nil,or_false,SObj.gr.injEq]at ho
  obtain⟨rfl,rfl,rfl,rfl,rfl⟩:=ho
  exact plain_elemOf _ _ _
 ·simp at ho) n_cloneA
noncomputable def C_after:List Dat→Prop:=fun l=>match l with | [.z fee,.z itr,.z pri,.z cre,.l A,.z till,.z dk,.z dm,.z dO,.z dq]=>afE fee itr pri cre A till dk dm dO dq≠0 | _=>False
noncomputable def F_after:FnE:=⟨37,none,[.agg [.i .i64,.i .i64,.i .i64,.i .i64,.l [.i64,.i64,.i64],.i .i64],.agg [.i .i64,.i .i64,.i .i64,.i .i64]],fun l=>match l with | [.z fee,.z itr,.z pri,.z cre,.l A,.z till,.z dk,.z dm,.z dO,.z dq]=>coopErr fee itr pri cre A till=0 | _=>False,fun l=>match l with | [.z fee,.z itr,.z pri,.z cre,.l A,.z till,.z dk,.z dm,.z dO,.z dq]=>[.agg [.i .i64 fee,.i .i64 itr,.i .i64 pri,.i .i64 cre,.gsl 0 A.length 3 false,.i .i64 (dT till dk dq)],.i .i64 0] | _=>[],fun l=>match l with | [.z fee,.z itr,.z pri,.z cre,.l A,.z till,.z dk,.z dm,.z dO,.z dq]=>[.gr A.length 3 (.fn (Rv.elemOf [.i64,.i64,.i64] (dA fee itr pri cre A till dk dm dO dq))) .gr false] | _=>[],fun l=>match l with | [.z fee,.z itr,.z pri,.z cre,.l A,.z till,.z dk,.z dm,.z dO,.z dq]=>[] | _=>[],false,some ⟨C_after,isNilC,fun l=>match l with | [.z fee,.z itr,.z pri,.z cre,.l A,.z till,.z dk,.z dm,.z dO,.z dq]=>[.agg [.v (.int .i64 0),.v (.int .i64 0),.v (.int .i64 0),.v (.int .i64 0),.v (.slice none 0 0),.v (.int .i64 0)],.i .i64 (afE fee itr pri cre A till dk dm dO dq)] | _=>[],fun l=>match l with | [.z fee,.z itr,.z pri,.z cre,.l A,.z till,.z dk,.z dm,.z dO,.z dq]=>[] | _=>[],fun l=>match l with | [.z fee,.z itr,.z pri,.z cre,.l A,.z till,.z dk,.z dm,.z dO,.z dq]=>[] | _=>[]⟩,none⟩
noncomputable def A_after:List SV→List Dat→Nat→List SV→Ann:=fun xs ds n ts=>match xs with
 | [.agg [_,_,_,_,.lst x _ _ _,_],.agg _]=>match ds with
  | [.z fee,.z itr,.z pri,.z cre,.l A,.z till,.z dk,.z dm,.z dO,.z dq]=>match n with
   | 6=>⟨DS,fun v=>([none,none,none,none,some (.ptr 0 0),none,none,some (.ptr 1 0),some (.i .i64 v.e)]++nN 31),fun v=>[.gr A.length 3 (.fn (Rv.elemOf [.i64,.i64,.i64] v.A)) .gr false,.cells [.i .i64 fee,.i .i64 itr,.i .i64 pri,.i .i64 cre,.gsl 2 A.length 3 false,.i .i64 v.t] .ex,.cells [.v (.int .i64 0),.v (.int .i64 0),.v (.int .i64 0),.v (.int .i64 0),.v (.slice none 0 0),.v (.int .i64 0)] .ex],fun v=>DlOk fee itr pri cre A till dk dm dO dq v,fun _=>0,1000000⟩
   | _=>noAnn
  | _=>noAnn
 | _=>noAnn
noncomputable def A_after_1:List SV→List Dat→List SV→List SObj→Nat→List SV→Ann:=fun _ _ _ _ _ _=>noAnn
noncomputable def A_after_2:List SV→List Dat→List SV→List SObj→Nat→List SV→Ann:=fun _ _ _ _ _ _=>noAnn
noncomputable def A_after_3:List SV→List Dat→List SV→List SObj→Nat→List SV→Ann:=fun _ _ _ _ _ _=>noAnn
noncomputable def A_after_4:List SV→List Dat→List SV→List SObj→Nat→List SV→Ann:=fun _ _ _ _ _ _=>noAnn
noncomputable def A_after_5:List SV→List Dat→List SV→List SObj→Nat→List SV→Ann:=fun _ _ _ _ _ _=>noAnn
noncomputable def A_after_6:List SV→List Dat→List SV→List SObj→Nat→List SV→Ann:=fun _ _ _ _ _ _=>noAnn
noncomputable def A_after_7:List SV→List Dat→List SV→List SObj→Nat→List SV→Ann:=fun _ _ _ _ _ _=>noAnn
noncomputable def A_after_8:List SV→List Dat→List SV→List SObj→Nat→List SV→Ann:=fun xs ds ar bs n ts=>match xs with
 | [.agg [_,_,_,_,.lst x _ _ _,_],.agg _]=>match ds with
  | [.z fee,.z itr,.z pri,.z cre,.l A,.z till,.z dk,.z dm,.z dO,.z dq]=>match n with
   | 7=>⟨Nat,fun k=>([some (.ptr 5 0),none,none,none,some (SV.v (Value.int IntKind.i64 (0:Int)))]++nN 23++[some (.gsl 8 A.length 1 false),some (.i .i64 (A.length:Nat)),some (.i .i64 k)]++nN 26),fun k=>[.gr A.length 1 (.fn fun i=>[.i .i64 (cS dq A i)]) .ex false,.dead,.dead,.cells [.i .i64 fee,.i .i64 itr,.i .i64 pri,.i .i64 cre,.gsl 4 A.length 3 false,.i .i64 till] .ex,.gr A.length 3 (.fn (Rv.elemOf [.i64,.i64,.i64] (bonK A dq k))) .gr false,.dead,SObj.cells [SV.v (Value.int IntKind.i64 (0:Int)),SV.v (Value.int IntKind.i64 (0:Int)),SV.v (Value.int IntKind.i64 (0:Int)),SV.v (Value.int IntKind.i64 (0:Int)),SV.v (Value.slice none ((0:Nat)) ((0:Nat))),SV.v (Value.int IntKind.i64 (0:Int))] Kd.ex,.dead,.dead],fun k=>k≤A.length,fun k=>A.length-k,0⟩
   | _=>noAnn
  | _=>noAnn
 | _=>noAnn
noncomputable def A_after_9:List SV→List Dat→List SV→List SObj→Nat→List SV→Ann:=fun _ _ _ _ _ _=>noAnn
noncomputable def A_after_10:List SV→List Dat→List SV→List SObj→Nat→List SV→Ann:=fun _ _ _ _ _ _=>noAnn
noncomputable def I_after:List SV→List Dat→List In:=fun xs ds=>[⟨41,A_after_1 xs ds⟩,⟨74,A_after_2 xs ds⟩,⟨75,A_after_3 xs ds⟩,⟨76,A_after_4 xs ds⟩,⟨77,A_after_5 xs ds⟩,⟨78,A_after_6 xs ds⟩,⟨79,A_after_7 xs ds⟩,⟨80,A_after_8 xs ds⟩,⟨81,A_after_9 xs ds⟩,⟨90,A_after_10 xs ds⟩]
set_option maxRecDepth 10000 in
def V_after:Prop:=
 ∀(B:RW) (g f h i:Int) (r:RV) (d:List (List Int)),IsLst B r d.length 3 (Rv.elemOf I3 d)→oneB r=true→(∀row∈d,row.length=3)→∀(j l a k e:Int),F_after.pre ([Dat.z g,Dat.z f,Dat.z h,Dat.z i,Dat.l d,Dat.z j]++([Dat.z l,Dat.z a,Dat.z k,Dat.z e]++[]))→LsA B r I3 d∧Ob ((0:Int)≤(↑d.length:Int)∧(↑d.length:Int)≤(4000000:Int))∧(¬dchk (↑d.length:Int) l a k e=(0:Int)→Ob (C_after ([Dat.z g,Dat.z f,Dat.z h,Dat.z i,Dat.l d,Dat.z j]++([Dat.z l,Dat.z a,Dat.z k,Dat.z e]++[])))∧Ob (Value.int .i64 (0:Int)=Value.int .i64 (0:Int))∧Ob (Value.int .i64 (0:Int)=Value.int .i64 (0:Int))∧Ob (Value.int .i64 (0:Int)=Value.int .i64 (0:Int))∧Ob (Value.int .i64 (0:Int)=Value.int .i64 (0:Int))∧Ob (SV.v (Value.slice none 0 0)=SV.v (Value.slice none 0 0))∧Ob (Value.int .i64 (0:Int)=Value.int .i64 (0:Int))∧Ob (dchk (↑d.length:Int) l a k e=afE g f h i d j l a k e)∧True)∧(¬¬dchk (↑d.length:Int) l a k e=(0:Int)→RwB B r d.length 3 I3 d fun b=>Ob (F_cloneA.pre [Dat.l b])∧((l=((1:Int),(74:FuncId)).fst→Ob ((0:Int)≤a∧a.toNat < b.length)∧Ob (a.toNat < b.length)∧Ob (((0:Int)≤e∧e≤(1000000000:Int))∧(0:Int)≤g∧g≤(1000000:Int))∧Ob (InR .i64 (e-prt e g))∧Ob (InR .i64 (cell b a.toNat 0+(e-prt e g)))∧Ob (a.toNat < b.length∧((El.fn (Rv.elemOf I3 b)).at a.toNat).length=(3:Nat))∧Ob (a.toNat < b.length)∧(a.toNat=a.toNat→Ob (InR .i64 (cell b a.toNat 2+e))∧Ob (a.toNat < b.length∧((updL (El.fn (Rv.elemOf I3 b)) a.toNat 0 [SV.i .i64 (cell b a.toNat 0+(e-prt e g))]).at a.toNat).length=(3:Nat))∧Ob (InR .i64 (j+e))∧∃(c:DS),Ob (DlOk g f h i d j l a k e c)∧Ob ((0:Int)=c.e)∧EqA b.length d.length (updL (updL (El.fn (Rv.elemOf I3 b)) a.toNat 0 [SV.i .i64 (cell b a.toNat 0+(e-prt e g))]) a.toNat 2 [SV.i .i64 (cell b a.toNat 2+e)]) (El.fn (Rv.elemOf I3 c.A))∧Ob (g=g)∧Ob (f=f)∧Ob (h=h)∧Ob (i=i)∧Ob (b.length=d.length)∧Ob (j+e=c.t)∧Ob (Value.int .i64 (0:Int)=Value.int .i64 (0:Int))∧Ob (Value.int .i64 (0:Int)=Value.int .i64 (0:Int))∧Ob (Value.int .i64 (0:Int)=Value.int .i64 (0:Int))∧Ob (Value.int .i64 (0:Int)=Value.int .i64 (0:Int))∧Ob (SV.v (Value.slice none 0 0)=SV.v (Value.slice none 0 0))∧Ob (Value.int .i64 (0:Int)=Value.int .i64 (0:Int))∧Ob (PlainE d.length (El.fn (Rv.elemOf I3 c.A)))∧True)∧(¬a.toNat=a.toNat→Ob (InR .i64 (cell b a.toNat 2+e))∧Ob (a.toNat < b.length∧((updL (El.fn (Rv.elemOf I3 b)) a.toNat 0 [SV.i .i64 (cell b a.toNat 0+(e-prt e g))]).at a.toNat).length=(3:Nat))∧Ob (InR .i64 (j+e))∧∃(c:DS),Ob (DlOk g f h i d j l a k e c)∧Ob ((0:Int)=c.e)∧EqA b.length d.length (updL (updL (El.fn (Rv.elemOf I3 b)) a.toNat 0 [SV.i .i64 (cell b a.toNat 0+(e-prt e g))]) a.toNat 2 [SV.i .i64 (cell b a.toNat 2+e)]) (El.fn (Rv.elemOf I3 c.A))∧Ob (g=g)∧Ob (f=f)∧Ob (h=h)∧Ob (i=i)∧Ob (b.length=d.length)∧Ob (j+e=c.t)∧Ob (Value.int .i64 (0:Int)=Value.int .i64 (0:Int))∧Ob (Value.int .i64 (0:Int)=Value.int .i64 (0:Int))∧Ob (Value.int .i64 (0:Int)=Value.int .i64 (0:Int))∧Ob (Value.int .i64 (0:Int)=Value.int .i64 (0:Int))∧Ob (SV.v (Value.slice none 0 0)=SV.v (Value.slice none 0 0))∧Ob (Value.int .i64 (0:Int)=Value.int .i64 (0:Int))∧Ob (PlainE d.length (El.fn (Rv.elemOf I3 c.A)))∧True))∧(¬l=((1:Int),(74:FuncId)).fst→(l=((2:Int),(75:FuncId)).fst→Ob (InR .i64 (e*h))∧Ob ((0:Int)≤a∧a.toNat < b.length)∧Ob (a.toNat < b.length)∧(cell b a.toNat 0 < e*h→∃(c:DS),Ob (DlOk g f h i d j l a k e c)∧Ob ((4:Int)=c.e)∧EqA b.length d.length (El.fn (Rv.elemOf I3 b)) (El.fn (Rv.elemOf I3 c.A))∧Ob (g=g)∧Ob (f=f)∧Ob (h=h)∧Ob (i=i)∧Ob (b.length=d.length)∧Ob (j=c.t)∧Ob (Value.int .i64 (0:Int)=Value.int .i64 (0:Int))∧Ob (Value.int .i64 (0:Int)=Value.int .i64 (0:Int))∧Ob (Value.int .i64 (0:Int)=Value.int .i64 (0:Int))∧Ob (Value.int .i64 (0:Int)=Value.int .i64 (0:Int))∧Ob (SV.v (Value.slice none 0 0)=SV.v (Value.slice none 0 0))∧Ob (Value.int .i64 (0:Int)=Value.int .i64 (0:Int))∧Ob (PlainE d.length (El.fn (Rv.elemOf I3 c.A)))∧True)∧(¬cell b a.toNat 0 < e*h→Ob (a.toNat < b.length)∧Ob (InR .i64 (cell b a.toNat 0-e*h))∧Ob (a.toNat < b.length∧((El.fn (Rv.elemOf I3 b)).at a.toNat).length=(3:Nat))∧∃(c:DS),Ob (DlOk g f h i d j l a k e c)∧Ob ((0:Int)=c.e)∧EqA b.length d.length (updL (El.fn (Rv.elemOf I3 b)) a.toNat 0 [SV.i .i64 (cell b a.toNat 0-e*h)]) (El.fn (Rv.elemOf I3 c.A))∧Ob (g=g)∧Ob (f=f)∧Ob (h=h)∧Ob (i=i)∧Ob (b.length=d.length)∧Ob (j=c.t)∧Ob (Value.int .i64 (0:Int)=Value.int .i64 (0:Int))∧Ob (Value.int .i64 (0:Int)=Value.int .i64 (0:Int))∧Ob (Value.int .i64 (0:Int)=Value.int .i64 (0:Int))∧Ob (Value.int .i64 (0:Int)=Value.int .i64 (0:Int))∧Ob (SV.v (Value.slice none 0 0)=SV.v (Value.slice none 0 0))∧Ob (Value.int .i64 (0:Int)=Value.int .i64 (0:Int))∧Ob (PlainE d.length (El.fn (Rv.elemOf I3 c.A)))∧True))∧(¬l=((2:Int),(75:FuncId)).fst→(l=((3:Int),(76:FuncId)).fst→Ob ((0:Int)≤a∧a.toNat < b.length)∧Ob (a.toNat < b.length)∧Ob (((0:Int)≤e∧e≤(1000000000:Int))∧(0:Int)≤f∧f≤(1000000:Int))∧Ob (InR .i64 (e+prt e f))∧Ob (InR .i64 (cell b a.toNat 1+(e+prt e f)))∧Ob (a.toNat < b.length∧((El.fn (Rv.elemOf I3 b)).at a.toNat).length=(3:Nat))∧Ob (a.toNat < b.length)∧(a.toNat=a.toNat→(i < cell b a.toNat 1+(e+prt e f)→∃(c:DS),Ob (DlOk g f h i d j l a k e c)∧Ob ((12:Int)=c.e)∧EqA b.length d.length (updL (El.fn (Rv.elemOf I3 b)) a.toNat 1 [SV.i .i64 (cell b a.toNat 1+(e+prt e f))]) (El.fn (Rv.elemOf I3 c.A))∧Ob (g=g)∧Ob (f=f)∧Ob (h=h)∧Ob (i=i)∧Ob (b.length=d.length)∧Ob (j=c.t)∧Ob (Value.int .i64 (0:Int)=Value.int .i64 (0:Int))∧Ob (Value.int .i64 (0:Int)=Value.int .i64 (0:Int))∧Ob (Value.int .i64 (0:Int)=Value.int .i64 (0:Int))∧Ob (Value.int .i64 (0:Int)=Value.int .i64 (0:Int))∧Ob (SV.v (Value.slice none 0 0)=SV.v (Value.slice none 0 0))∧Ob (Value.int .i64 (0:Int)=Value.int .i64 (0:Int))∧Ob (PlainE d.length (El.fn (Rv.elemOf I3 c.A)))∧True)∧(¬i < cell b a.toNat 1+(e+prt e f)→Ob (a.toNat < b.length)∧(a.toNat=a.toNat→Ob (InR .i64 (cell b a.toNat 0+e))∧Ob (a.toNat < b.length∧((updL (El.fn (Rv.elemOf I3 b)) a.toNat 1 [SV.i .i64 (cell b a.toNat 1+(e+prt e f))]).at a.toNat).length=(3:Nat))∧∃(c:DS),Ob (DlOk g f h i d j l a k e c)∧Ob ((0:Int)=c.e)∧EqA b.length d.length (updL (updL (El.fn (Rv.elemOf I3 b)) a.toNat 1 [SV.i .i64 (cell b a.toNat 1+(e+prt e f))]) a.toNat 0 [SV.i .i64 (cell b a.toNat 0+e)]) (El.fn (Rv.elemOf I3 c.A))∧Ob (g=g)∧Ob (f=f)∧Ob (h=h)∧Ob (i=i)∧Ob (b.length=d.length)∧Ob (j=c.t)∧Ob (Value.int .i64 (0:Int)=Value.int .i64 (0:Int))∧Ob (Value.int .i64 (0:Int)=Value.int .i64 (0:Int))∧Ob (Value.int .i64 (0:Int)=Value.int .i64 (0:Int))∧Ob (Value.int .i64 (0:Int)=Value.int .i64 (0:Int))∧Ob (SV.v (Value.slice none 0 0)=SV.v (Value.slice none 0 0))∧Ob (Value.int .i64 (0:Int)=Value.int .i64 (0:Int))∧Ob (PlainE d.length (El.fn (Rv.elemOf I3 c.A)))∧True)∧(¬a.toNat=a.toNat→Ob (InR .i64 (cell b a.toNat 0+e))∧Ob (a.toNat < b.length∧((updL (El.fn (Rv.elemOf I3 b)) a.toNat 1 [SV.i .i64 (cell b a.toNat 1+(e+prt e f))]).at a.toNat).length=(3:Nat))∧∃(c:DS),Ob (DlOk g f h i d j l a k e c)∧Ob ((0:Int)=c.e)∧EqA b.length d.length (updL (updL (El.fn (Rv.elemOf I3 b)) a.toNat 1 [SV.i .i64 (cell b a.toNat 1+(e+prt e f))]) a.toNat 0 [SV.i .i64 (cell b a.toNat 0+e)]) (El.fn (Rv.elemOf I3 c.A))∧Ob (g=g)∧Ob (f=f)∧Ob (h=h)∧Ob (i=i)∧Ob (b.length=d.length)∧Ob (j=c.t)∧Ob (Value.int .i64 (0:Int)=Value.int .i64 (0:Int))∧Ob (Value.int .i64 (0:Int)=Value.int .i64 (0:Int))∧Ob (Value.int .i64 (0:Int)=Value.int .i64 (0:Int))∧Ob (Value.int .i64 (0:Int)=Value.int .i64 (0:Int))∧Ob (SV.v (Value.slice none 0 0)=SV.v (Value.slice none 0 0))∧Ob (Value.int .i64 (0:Int)=Value.int .i64 (0:Int))∧Ob (PlainE d.length (El.fn (Rv.elemOf I3 c.A)))∧True)))∧(¬a.toNat=a.toNat→(i < cell b a.toNat 1→∃(c:DS),Ob (DlOk g f h i d j l a k e c)∧Ob ((12:Int)=c.e)∧EqA b.length d.length (updL (El.fn (Rv.elemOf I3 b)) a.toNat 1 [SV.i .i64 (cell b a.toNat 1+(e+prt e f))]) (El.fn (Rv.elemOf I3 c.A))∧Ob (g=g)∧Ob (f=f)∧Ob (h=h)∧Ob (i=i)∧Ob (b.length=d.length)∧Ob (j=c.t)∧Ob (Value.int .i64 (0:Int)=Value.int .i64 (0:Int))∧Ob (Value.int .i64 (0:Int)=Value.int .i64 (0:Int))∧Ob (Value.int .i64 (0:Int)=Value.int .i64 (0:Int))∧Ob (Value.int .i64 (0:Int)=Value.int .i64 (0:Int))∧Ob (SV.v (Value.slice none 0 0)=SV.v (Value.slice none 0 0))∧Ob (Value.int .i64 (0:Int)=Value.int .i64 (0:Int))∧Ob (PlainE d.length (El.fn (Rv.elemOf I3 c.A)))∧True)∧(¬i < cell b a.toNat 1→Ob (a.toNat < b.length)∧(a.toNat=a.toNat→Ob (InR .i64 (cell b a.toNat 0+e))∧Ob (a.toNat < b.length∧((updL (El.fn (Rv.elemOf I3 b)) a.toNat 1 [SV.i .i64 (cell b a.toNat 1+(e+prt e f))]).at a.toNat).length=(3:Nat))∧∃(c:DS),Ob (DlOk g f h i d j l a k e c)∧Ob ((0:Int)=c.e)∧EqA b.length d.length (updL (updL (El.fn (Rv.elemOf I3 b)) a.toNat 1 [SV.i .i64 (cell b a.toNat 1+(e+prt e f))]) a.toNat 0 [SV.i .i64 (cell b a.toNat 0+e)]) (El.fn (Rv.elemOf I3 c.A))∧Ob (g=g)∧Ob (f=f)∧Ob (h=h)∧Ob (i=i)∧Ob (b.length=d.length)∧Ob (j=c.t)∧Ob (Value.int .i64 (0:Int)=Value.int .i64 (0:Int))∧Ob (Value.int .i64 (0:Int)=Value.int .i64 (0:Int))∧Ob (Value.int .i64 (0:Int)=Value.int .i64 (0:Int))∧Ob (Value.int .i64 (0:Int)=Value.int .i64 (0:Int))∧Ob (SV.v (Value.slice none 0 0)=SV.v (Value.slice none 0 0))∧Ob (Value.int .i64 (0:Int)=Value.int .i64 (0:Int))∧Ob (PlainE d.length (El.fn (Rv.elemOf I3 c.A)))∧True)∧(¬a.toNat=a.toNat→Ob (InR .i64 (cell b a.toNat 0+e))∧Ob (a.toNat < b.length∧((updL (El.fn (Rv.elemOf I3 b)) a.toNat 1 [SV.i .i64 (cell b a.toNat 1+(e+prt e f))]).at a.toNat).length=(3:Nat))∧∃(c:DS),Ob (DlOk g f h i d j l a k e c)∧Ob ((0:Int)=c.e)∧EqA b.length d.length (updL (updL (El.fn (Rv.elemOf I3 b)) a.toNat 1 [SV.i .i64 (cell b a.toNat 1+(e+prt e f))]) a.toNat 0 [SV.i .i64 (cell b a.toNat 0+e)]) (El.fn (Rv.elemOf I3 c.A))∧Ob (g=g)∧Ob (f=f)∧Ob (h=h)∧Ob (i=i)∧Ob (b.length=d.length)∧Ob (j=c.t)∧Ob (Value.int .i64 (0:Int)=Value.int .i64 (0:Int))∧Ob (Value.int .i64 (0:Int)=Value.int .i64 (0:Int))∧Ob (Value.int .i64 (0:Int)=Value.int .i64 (0:Int))∧Ob (Value.int .i64 (0:Int)=Value.int .i64 (0:Int))∧Ob (SV.v (Value.slice none 0 0)=SV.v (Value.slice none 0 0))∧Ob (Value.int .i64 (0:Int)=Value.int .i64 (0:Int))∧Ob (PlainE d.length (El.fn (Rv.elemOf I3 c.A)))∧True))))∧(¬l=((3:Int),(76:FuncId)).fst→(l=((4:Int),(77:FuncId)).fst→Ob ((0:Int)≤a∧a.toNat < b.length)∧Ob (a.toNat < b.length)∧(cell b a.toNat 1 < e→∃(c:DS),Ob (DlOk g f h i d j l a k e c)∧Ob ((12:Int)=c.e)∧EqA b.length d.length (El.fn (Rv.elemOf I3 b)) (El.fn (Rv.elemOf I3 c.A))∧Ob (g=g)∧Ob (f=f)∧Ob (h=h)∧Ob (i=i)∧Ob (b.length=d.length)∧Ob (j=c.t)∧Ob (Value.int .i64 (0:Int)=Value.int .i64 (0:Int))∧Ob (Value.int .i64 (0:Int)=Value.int .i64 (0:Int))∧Ob (Value.int .i64 (0:Int)=Value.int .i64 (0:Int))∧Ob (Value.int .i64 (0:Int)=Value.int .i64 (0:Int))∧Ob (SV.v (Value.slice none 0 0)=SV.v (Value.slice none 0 0))∧Ob (Value.int .i64 (0:Int)=Value.int .i64 (0:Int))∧Ob (PlainE d.length (El.fn (Rv.elemOf I3 c.A)))∧True)∧(¬cell b a.toNat 1 < e→Ob (a.toNat < b.length)∧Ob (InR .i64 (cell b a.toNat 1-e))∧Ob (a.toNat < b.length∧((El.fn (Rv.elemOf I3 b)).at a.toNat).length=(3:Nat))∧Ob ((0:Int)≤a∧a.toNat < b.length)∧Ob (a.toNat < b.length)∧(a.toNat=a.toNat→(cell b a.toNat 0 < e→∃(c:DS),Ob (DlOk g f h i d j l a k e c)∧Ob ((4:Int)=c.e)∧EqA b.length d.length (updL (El.fn (Rv.elemOf I3 b)) a.toNat 1 [SV.i .i64 (cell b a.toNat 1-e)]) (El.fn (Rv.elemOf I3 c.A))∧Ob (g=g)∧Ob (f=f)∧Ob (h=h)∧Ob (i=i)∧Ob (b.length=d.length)∧Ob (j=c.t)∧Ob (Value.int .i64 (0:Int)=Value.int .i64 (0:Int))∧Ob (Value.int .i64 (0:Int)=Value.int .i64 (0:Int))∧Ob (Value.int .i64 (0:Int)=Value.int .i64 (0:Int))∧Ob (Value.int .i64 (0:Int)=Value.int .i64 (0:Int))∧Ob (SV.v (Value.slice none 0 0)=SV.v (Value.slice none 0 0))∧Ob (Value.int .i64 (0:Int)=Value.int .i64 (0:Int))∧Ob (PlainE d.length (El.fn (Rv.elemOf I3 c.A)))∧True)∧(¬cell b a.toNat 0 < e→Ob (a.toNat < b.length)∧(a.toNat=a.toNat→Ob (InR .i64 (cell b a.toNat 0-e))∧Ob (a.toNat < b.length∧((updL (El.fn (Rv.elemOf I3 b)) a.toNat 1 [SV.i .i64 (cell b a.toNat 1-e)]).at a.toNat).length=(3:Nat))∧∃(c:DS),Ob (DlOk g f h i d j l a k e c)∧Ob ((0:Int)=c.e)∧EqA b.length d.length (updL (updL (El.fn (Rv.elemOf I3 b)) a.toNat 1 [SV.i .i64 (cell b a.toNat 1-e)]) a.toNat 0 [SV.i .i64 (cell b a.toNat 0-e)]) (El.fn (Rv.elemOf I3 c.A))∧Ob (g=g)∧Ob (f=f)∧Ob (h=h)∧Ob (i=i)∧Ob (b.length=d.length)∧Ob (j=c.t)∧Ob (Value.int .i64 (0:Int)=Value.int .i64 (0:Int))∧Ob (Value.int .i64 (0:Int)=Value.int .i64 (0:Int))∧Ob (Value.int .i64 (0:Int)=Value.int .i64 (0:Int))∧Ob (Value.int .i64 (0:Int)=Value.int .i64 (0:Int))∧Ob (SV.v (Value.slice none 0 0)=SV.v (Value.slice none 0 0))∧Ob (Value.int .i64 (0:Int)=Value.int .i64 (0:Int))∧Ob (PlainE d.length (El.fn (Rv.elemOf I3 c.A)))∧True)∧(¬a.toNat=a.toNat→Ob (InR .i64 (cell b a.toNat 0-e))∧Ob (a.toNat < b.length∧((updL (El.fn (Rv.elemOf I3 b)) a.toNat 1 [SV.i .i64 (cell b a.toNat 1-e)]).at a.toNat).length=(3:Nat))∧∃(c:DS),Ob (DlOk g f h i d j l a k e c)∧Ob ((0:Int)=c.e)∧EqA b.length d.length (updL (updL (El.fn (Rv.elemOf I3 b)) a.toNat 1 [SV.i .i64 (cell b a.toNat 1-e)]) a.toNat 0 [SV.i .i64 (cell b a.toNat 0-e)]) (El.fn (Rv.elemOf I3 c.A))∧Ob (g=g)∧Ob (f=f)∧Ob (h=h)∧Ob (i=i)∧Ob (b.length=d.length)∧Ob (j=c.t)∧Ob (Value.int .i64 (0:Int)=Value.int .i64 (0:Int))∧Ob (Value.int .i64 (0:Int)=Value.int .i64 (0:Int))∧Ob (Value.int .i64 (0:Int)=Value.int .i64 (0:Int))∧Ob (Value.int .i64 (0:Int)=Value.int .i64 (0:Int))∧Ob (SV.v (Value.slice none 0 0)=SV.v (Value.slice none 0 0))∧Ob (Value.int .i64 (0:Int)=Value.int .i64 (0:Int))∧Ob (PlainE d.length (El.fn (Rv.elemOf I3 c.A)))∧True)))∧(¬a.toNat=a.toNat→(cell b a.toNat 0 < e→∃(c:DS),Ob (DlOk g f h i d j l a k e c)∧Ob ((4:Int)=c.e)∧EqA b.length d.length (updL (El.fn (Rv.elemOf I3 b)) a.toNat 1 [SV.i .i64 (cell b a.toNat 1-e)]) (El.fn (Rv.elemOf I3 c.A))∧Ob (g=g)∧Ob (f=f)∧Ob (h=h)∧Ob (i=i)∧Ob (b.length=d.length)∧Ob (j=c.t)∧Ob (Value.int .i64 (0:Int)=Value.int .i64 (0:Int))∧Ob (Value.int .i64 (0:Int)=Value.int .i64 (0:Int))∧Ob (Value.int .i64 (0:Int)=Value.int .i64 (0:Int))∧Ob (Value.int .i64 (0:Int)=Value.int .i64 (0:Int))∧Ob (SV.v (Value.slice none 0 0)=SV.v (Value.slice none 0 0))∧Ob (Value.int .i64 (0:Int)=Value.int .i64 (0:Int))∧Ob (PlainE d.length (El.fn (Rv.elemOf I3 c.A)))∧True)∧(¬cell b a.toNat 0 < e→Ob (a.toNat < b.length)∧(a.toNat=a.toNat→Ob (InR .i64 (cell b a.toNat 0-e))∧Ob (a.toNat < b.length∧((updL (El.fn (Rv.elemOf I3 b)) a.toNat 1 [SV.i .i64 (cell b a.toNat 1-e)]).at a.toNat).length=(3:Nat))∧∃(c:DS),Ob (DlOk g f h i d j l a k e c)∧Ob ((0:Int)=c.e)∧EqA b.length d.length (updL (updL (El.fn (Rv.elemOf I3 b)) a.toNat 1 [SV.i .i64 (cell b a.toNat 1-e)]) a.toNat 0 [SV.i .i64 (cell b a.toNat 0-e)]) (El.fn (Rv.elemOf I3 c.A))∧Ob (g=g)∧Ob (f=f)∧Ob (h=h)∧Ob (i=i)∧Ob (b.length=d.length)∧Ob (j=c.t)∧Ob (Value.int .i64 (0:Int)=Value.int .i64 (0:Int))∧Ob (Value.int .i64 (0:Int)=Value.int .i64 (0:Int))∧Ob (Value.int .i64 (0:Int)=Value.int .i64 (0:Int))∧Ob (Value.int .i64 (0:Int)=Value.int .i64 (0:Int))∧Ob (SV.v (Value.slice none 0 0)=SV.v (Value.slice none 0 0))∧Ob (Value.int .i64 (0:Int)=Value.int .i64 (0:Int))∧Ob (PlainE d.length (El.fn (Rv.elemOf I3 c.A)))∧True)∧(¬a.toNat=a.toNat→Ob (InR .i64 (cell b a.toNat 0-e))∧Ob (a.toNat < b.length∧((updL (El.fn (Rv.elemOf I3 b)) a.toNat 1 [SV.i .i64 (cell b a.toNat 1-e)]).at a.toNat).length=(3:Nat))∧∃(c:DS),Ob (DlOk g f h i d j l a k e c)∧Ob ((0:Int)=c.e)∧EqA b.length d.length (updL (updL (El.fn (Rv.elemOf I3 b)) a.toNat 1 [SV.i .i64 (cell b a.toNat 1-e)]) a.toNat 0 [SV.i .i64 (cell b a.toNat 0-e)]) (El.fn (Rv.elemOf I3 c.A))∧Ob (g=g)∧Ob (f=f)∧Ob (h=h)∧Ob (i=i)∧Ob (b.length=d.length)∧Ob (j=c.t)∧Ob (Value.int .i64 (0:Int)=Value.int .i64 (0:Int))∧Ob (Value.int .i64 (0:Int)=Value.int .i64 (0:Int))∧Ob (Value.int .i64 (0:Int)=Value.int .i64 (0:Int))∧Ob (Value.int .i64 (0:Int)=Value.int .i64 (0:Int))∧Ob (SV.v (Value.slice none 0 0)=SV.v (Value.slice none 0 0))∧Ob (Value.int .i64 (0:Int)=Value.int .i64 (0:Int))∧Ob (PlainE d.length (El.fn (Rv.elemOf I3 c.A)))∧True)))))∧(¬l=((4:Int),(77:FuncId)).fst→(l=((5:Int),(78:FuncId)).fst→(j < e→∃(c:DS),Ob (DlOk g f h i d j l a k e c)∧Ob ((4:Int)=c.e)∧EqA b.length d.length (El.fn (Rv.elemOf I3 b)) (El.fn (Rv.elemOf I3 c.A))∧Ob (g=g)∧Ob (f=f)∧Ob (h=h)∧Ob (i=i)∧Ob (b.length=d.length)∧Ob (j=c.t)∧Ob (Value.int .i64 (0:Int)=Value.int .i64 (0:Int))∧Ob (Value.int .i64 (0:Int)=Value.int .i64 (0:Int))∧Ob (Value.int .i64 (0:Int)=Value.int .i64 (0:Int))∧Ob (Value.int .i64 (0:Int)=Value.int .i64 (0:Int))∧Ob (SV.v (Value.slice none 0 0)=SV.v (Value.slice none 0 0))∧Ob (Value.int .i64 (0:Int)=Value.int .i64 (0:Int))∧Ob (PlainE d.length (El.fn (Rv.elemOf I3 c.A)))∧True)∧(¬j < e→Ob (InR .i64 (j-e))∧Ob ((0:Int)≤a∧a.toNat < b.length)∧Ob (a.toNat < b.length)∧(cell b a.toNat 0 < e→∃(c:DS),Ob (DlOk g f h i d j l a k e c)∧Ob ((4:Int)=c.e)∧EqA b.length d.length (El.fn (Rv.elemOf I3 b)) (El.fn (Rv.elemOf I3 c.A))∧Ob (g=g)∧Ob (f=f)∧Ob (h=h)∧Ob (i=i)∧Ob (b.length=d.length)∧Ob (j-e=c.t)∧Ob (Value.int .i64 (0:Int)=Value.int .i64 (0:Int))∧Ob (Value.int .i64 (0:Int)=Value.int .i64 (0:Int))∧Ob (Value.int .i64 (0:Int)=Value.int .i64 (0:Int))∧Ob (Value.int .i64 (0:Int)=Value.int .i64 (0:Int))∧Ob (SV.v (Value.slice none 0 0)=SV.v (Value.slice none 0 0))∧Ob (Value.int .i64 (0:Int)=Value.int .i64 (0:Int))∧Ob (PlainE d.length (El.fn (Rv.elemOf I3 c.A)))∧True)∧(¬cell b a.toNat 0 < e→Ob (a.toNat < b.length)∧Ob (InR .i64 (cell b a.toNat 0-e))∧Ob (a.toNat < b.length∧((El.fn (Rv.elemOf I3 b)).at a.toNat).length=(3:Nat))∧∃(c:DS),Ob (DlOk g f h i d j l a k e c)∧Ob ((0:Int)=c.e)∧EqA b.length d.length (updL (El.fn (Rv.elemOf I3 b)) a.toNat 0 [SV.i .i64 (cell b a.toNat 0-e)]) (El.fn (Rv.elemOf I3 c.A))∧Ob (g=g)∧Ob (f=f)∧Ob (h=h)∧Ob (i=i)∧Ob (b.length=d.length)∧Ob (j-e=c.t)∧Ob (Value.int .i64 (0:Int)=Value.int .i64 (0:Int))∧Ob (Value.int .i64 (0:Int)=Value.int .i64 (0:Int))∧Ob (Value.int .i64 (0:Int)=Value.int .i64 (0:Int))∧Ob (Value.int .i64 (0:Int)=Value.int .i64 (0:Int))∧Ob (SV.v (Value.slice none 0 0)=SV.v (Value.slice none 0 0))∧Ob (Value.int .i64 (0:Int)=Value.int .i64 (0:Int))∧Ob (PlainE d.length (El.fn (Rv.elemOf I3 c.A)))∧True)))∧(¬l=((5:Int),(78:FuncId)).fst→(l=((6:Int),(79:FuncId)).fst→Ob ((0:Int)≤k∧k.toNat < b.length)∧Ob (k.toNat < b.length)∧Ob (InR .i64 (cell b k.toNat 0+e))∧Ob ((0:Int)≤k∧k.toNat < b.length)∧Ob (k.toNat < b.length∧((El.fn (Rv.elemOf I3 b)).at k.toNat).length=(3:Nat))∧Ob ((0:Int)≤a∧a.toNat < b.length)∧Ob (a.toNat < b.length)∧(a.toNat=k.toNat→(cell b k.toNat 0+e < e→∃(c:DS),Ob (DlOk g f h i d j l a k e c)∧Ob ((4:Int)=c.e)∧EqA b.length d.length (updL (El.fn (Rv.elemOf I3 b)) k.toNat 0 [SV.i .i64 (cell b k.toNat 0+e)]) (El.fn (Rv.elemOf I3 c.A))∧Ob (g=g)∧Ob (f=f)∧Ob (h=h)∧Ob (i=i)∧Ob (b.length=d.length)∧Ob (j=c.t)∧Ob (Value.int .i64 (0:Int)=Value.int .i64 (0:Int))∧Ob (Value.int .i64 (0:Int)=Value.int .i64 (0:Int))∧Ob (Value.int .i64 (0:Int)=Value.int .i64 (0:Int))∧Ob (Value.int .i64 (0:Int)=Value.int .i64 (0:Int))∧Ob (SV.v (Value.slice none 0 0)=SV.v (Value.slice none 0 0))∧Ob (Value.int .i64 (0:Int)=Value.int .i64 (0:Int))∧Ob (PlainE d.length (El.fn (Rv.elemOf I3 c.A)))∧True)∧(¬cell b k.toNat 0+e < e→Ob (a.toNat < b.length)∧(a.toNat=k.toNat→Ob (InR .i64 (cell b k.toNat 0+e-e))∧Ob (a.toNat < b.length∧((updL (El.fn (Rv.elemOf I3 b)) k.toNat 0 [SV.i .i64 (cell b k.toNat 0+e)]).at a.toNat).length=(3:Nat))∧∃(c:DS),Ob (DlOk g f h i d j l a k e c)∧Ob ((0:Int)=c.e)∧EqA b.length d.length (updL (updL (El.fn (Rv.elemOf I3 b)) k.toNat 0 [SV.i .i64 (cell b k.toNat 0+e)]) a.toNat 0 [SV.i .i64 (cell b k.toNat 0+e-e)]) (El.fn (Rv.elemOf I3 c.A))∧Ob (g=g)∧Ob (f=f)∧Ob (h=h)∧Ob (i=i)∧Ob (b.length=d.length)∧Ob (j=c.t)∧Ob (Value.int .i64 (0:Int)=Value.int .i64 (0:Int))∧Ob (Value.int .i64 (0:Int)=Value.int .i64 (0:Int))∧Ob (Value.int .i64 (0:Int)=Value.int .i64 (0:Int))∧Ob (Value.int .i64 (0:Int)=Value.int .i64 (0:Int))∧Ob (SV.v (Value.slice none 0 0)=SV.v (Value.slice none 0 0))∧Ob (Value.int .i64 (0:Int)=Value.int .i64 (0:Int))∧Ob (PlainE d.length (El.fn (Rv.elemOf I3 c.A)))∧True)∧(¬a.toNat=k.toNat→Ob (InR .i64 (cell b a.toNat 0-e))∧Ob (a.toNat < b.length∧((updL (El.fn (Rv.elemOf I3 b)) k.toNat 0 [SV.i .i64 (cell b k.toNat 0+e)]).at a.toNat).length=(3:Nat))∧∃(c:DS),Ob (DlOk g f h i d j l a k e c)∧Ob ((0:Int)=c.e)∧EqA b.length d.length (updL (updL (El.fn (Rv.elemOf I3 b)) k.toNat 0 [SV.i .i64 (cell b k.toNat 0+e)]) a.toNat 0 [SV.i .i64 (cell b a.toNat 0-e)]) (El.fn (Rv.elemOf I3 c.A))∧Ob (g=g)∧Ob (f=f)∧Ob (h=h)∧Ob (i=i)∧Ob (b.length=d.length)∧Ob (j=c.t)∧Ob (Value.int .i64 (0:Int)=Value.int .i64 (0:Int))∧Ob (Value.int .i64 (0:Int)=Value.int .i64 (0:Int))∧Ob (Value.int .i64 (0:Int)=Value.int .i64 (0:Int))∧Ob (Value.int .i64 (0:Int)=Value.int .i64 (0:Int))∧Ob (SV.v (Value.slice none 0 0)=SV.v (Value.slice none 0 0))∧Ob (Value.int .i64 (0:Int)=Value.int .i64 (0:Int))∧Ob (PlainE d.length (El.fn (Rv.elemOf I3 c.A)))∧True)))∧(¬a.toNat=k.toNat→(cell b a.toNat 0 < e→∃(c:DS),Ob (DlOk g f h i d j l a k e c)∧Ob ((4:Int)=c.e)∧EqA b.length d.length (updL (El.fn (Rv.elemOf I3 b)) k.toNat 0 [SV.i .i64 (cell b k.toNat 0+e)]) (El.fn (Rv.elemOf I3 c.A))∧Ob (g=g)∧Ob (f=f)∧Ob (h=h)∧Ob (i=i)∧Ob (b.length=d.length)∧Ob (j=c.t)∧Ob (Value.int .i64 (0:Int)=Value.int .i64 (0:Int))∧Ob (Value.int .i64 (0:Int)=Value.int .i64 (0:Int))∧Ob (Value.int .i64 (0:Int)=Value.int .i64 (0:Int))∧Ob (Value.int .i64 (0:Int)=Value.int .i64 (0:Int))∧Ob (SV.v (Value.slice none 0 0)=SV.v (Value.slice none 0 0))∧Ob (Value.int .i64 (0:Int)=Value.int .i64 (0:Int))∧Ob (PlainE d.length (El.fn (Rv.elemOf I3 c.A)))∧True)∧(¬cell b a.toNat 0 < e→Ob (a.toNat < b.length)∧(a.toNat=k.toNat→Ob (InR .i64 (cell b k.toNat 0+e-e))∧Ob (a.toNat < b.length∧((updL (El.fn (Rv.elemOf I3 b)) k.toNat 0 [SV.i .i64 (cell b k.toNat 0+e)]).at a.toNat).length=(3:Nat))∧∃(c:DS),Ob (DlOk g f h i d j l a k e c)∧Ob ((0:Int)=c.e)∧EqA b.length d.length (updL (updL (El.fn (Rv.elemOf I3 b)) k.toNat 0 [SV.i .i64 (cell b k.toNat 0+e)]) a.toNat 0 [SV.i .i64 (cell b k.toNat 0+e-e)]) (El.fn (Rv.elemOf I3 c.A))∧Ob (g=g)∧Ob (f=f)∧Ob (h=h)∧Ob (i=i)∧Ob (b.length=d.length)∧Ob (j=c.t)∧Ob (Value.int .i64 (0:Int)=Value.int .i64 (0:Int))∧Ob (Value.int .i64 (0:Int)=Value.int .i64 (0:Int))∧Ob (Value.int .i64 (0:Int)=Value.int .i64 (0:Int))∧Ob (Value.int .i64 (0:Int)=Value.int .i64 (0:Int))∧Ob (SV.v (Value.slice none 0 0)=SV.v (Value.slice none 0 0))∧Ob (Value.int .i64 (0:Int)=Value.int .i64 (0:Int))∧Ob (PlainE d.length (El.fn (Rv.elemOf I3 c.A)))∧True)∧(¬a.toNat=k.toNat→Ob (InR .i64 (cell b a.toNat 0-e))∧Ob (a.toNat < b.length∧((updL (El.fn (Rv.elemOf I3 b)) k.toNat 0 [SV.i .i64 (cell b k.toNat 0+e)]).at a.toNat).length=(3:Nat))∧∃(c:DS),Ob (DlOk g f h i d j l a k e c)∧Ob ((0:Int)=c.e)∧EqA b.length d.length (updL (updL (El.fn (Rv.elemOf I3 b)) k.toNat 0 [SV.i .i64 (cell b k.toNat 0+e)]) a.toNat 0 [SV.i .i64 (cell b a.toNat 0-e)]) (El.fn (Rv.elemOf I3 c.A))∧Ob (g=g)∧Ob (f=f)∧Ob (h=h)∧Ob (i=i)∧Ob (b.length=d.length)∧Ob (j=c.t)∧Ob (Value.int .i64 (0:Int)=Value.int .i64 (0:Int))∧Ob (Value.int .i64 (0:Int)=Value.int .i64 (0:Int))∧Ob (Value.int .i64 (0:Int)=Value.int .i64 (0:Int))∧Ob (Value.int .i64 (0:Int)=Value.int .i64 (0:Int))∧Ob (SV.v (Value.slice none 0 0)=SV.v (Value.slice none 0 0))∧Ob (Value.int .i64 (0:Int)=Value.int .i64 (0:Int))∧Ob (PlainE d.length (El.fn (Rv.elemOf I3 c.A)))∧True))))∧(¬l=((6:Int),(79:FuncId)).fst→(l=((7:Int),(80:FuncId)).fst→RwE 3 I3 b fun n=>Ob (F_surplus.pre ([Dat.z g,Dat.z f,Dat.z h,Dat.z i,Dat.l n,Dat.z j]++[]))∧(surp n j < e→∃(c:DS),Ob (DlOk g f h i d j l a k e c)∧Ob ((12:Int)=c.e)∧EqA b.length d.length (El.fn (Rv.elemOf I3 b)) (El.fn (Rv.elemOf I3 c.A))∧Ob (g=g)∧Ob (f=f)∧Ob (h=h)∧Ob (i=i)∧Ob (b.length=d.length)∧Ob (j=c.t)∧Ob (Value.int .i64 (0:Int)=Value.int .i64 (0:Int))∧Ob (Value.int .i64 (0:Int)=Value.int .i64 (0:Int))∧Ob (Value.int .i64 (0:Int)=Value.int .i64 (0:Int))∧Ob (Value.int .i64 (0:Int)=Value.int .i64 (0:Int))∧Ob (SV.v (Value.slice none 0 0)=SV.v (Value.slice none 0 0))∧Ob (Value.int .i64 (0:Int)=Value.int .i64 (0:Int))∧Ob (PlainE d.length (El.fn (Rv.elemOf I3 c.A)))∧True)∧(¬surp n j < e→RwE 3 I3 b fun o=>Ob (F_sharesC.pre ([Dat.z g,Dat.z f,Dat.z h,Dat.z i,Dat.l o,Dat.z j]++[Dat.z e]))∧(C_sharesC ([Dat.z g,Dat.z f,Dat.z h,Dat.z i,Dat.l o,Dat.z j]++[Dat.z e])→∃(c:DS),Ob (DlOk g f h i d j l a k e c)∧Ob ((6:Int)=c.e)∧EqA b.length d.length (El.fn (Rv.elemOf I3 b)) (El.fn (Rv.elemOf I3 c.A))∧Ob (g=g)∧Ob (f=f)∧Ob (h=h)∧Ob (i=i)∧Ob (b.length=d.length)∧Ob (j=c.t)∧Ob (Value.int .i64 (0:Int)=Value.int .i64 (0:Int))∧Ob (Value.int .i64 (0:Int)=Value.int .i64 (0:Int))∧Ob (Value.int .i64 (0:Int)=Value.int .i64 (0:Int))∧Ob (Value.int .i64 (0:Int)=Value.int .i64 (0:Int))∧Ob (SV.v (Value.slice none 0 0)=SV.v (Value.slice none 0 0))∧Ob (Value.int .i64 (0:Int)=Value.int .i64 (0:Int))∧Ob (PlainE d.length (El.fn (Rv.elemOf I3 c.A)))∧True)∧(¬C_sharesC ([Dat.z g,Dat.z f,Dat.z h,Dat.z i,Dat.l o,Dat.z j]++[Dat.z e])→Ob (PlainE o.length (El.fn fun(m:Nat)↦[SV.i .i64 (cS e o m)]))∧(∃(c:Nat),Ob (c≤d.length)∧Ob (Value.int .i64 (0:Int)=Value.int .i64 (0:Int))∧Ob (o.length=d.length)∧Ob ((↑o.length:Int)=(↑d.length:Int))∧Ob ((0:Int)=(↑c:Int))∧EqA o.length d.length (El.fn fun(m:Nat)↦[SV.i .i64 (cS e o m)]) (El.fn fun(m:Nat)↦[SV.i .i64 (cS e d m)])∧Ob (g=g)∧Ob (f=f)∧Ob (h=h)∧Ob (i=i)∧Ob (b.length=d.length)∧Ob (j=j)∧EqA b.length d.length (El.fn (Rv.elemOf I3 b)) (El.fn (Rv.elemOf I3 (bonK d e c)))∧Ob (Value.int .i64 (0:Int)=Value.int .i64 (0:Int))∧Ob (Value.int .i64 (0:Int)=Value.int .i64 (0:Int))∧Ob (Value.int .i64 (0:Int)=Value.int .i64 (0:Int))∧Ob (Value.int .i64 (0:Int)=Value.int .i64 (0:Int))∧Ob (SV.v (Value.slice none 0 0)=SV.v (Value.slice none 0 0))∧Ob (Value.int .i64 (0:Int)=Value.int .i64 (0:Int))∧Ob (PlainE d.length (El.fn fun(m:Nat)↦[SV.i .i64 (cS e d m)]))∧Ob (PlainE d.length (El.fn (Rv.elemOf I3 (bonK d e c))))∧True)∧∀(c:Nat),c≤d.length→∀(_ _ _ _ _ _ _ _ _ _ _ _ _ _ _ _ _ _ _ _ _ _ _ _ _ _ _ _ _ _ _ _ _ _ _ _ _ _ _ _ _ _ _ _ _ _ _ _ _ _ _ _:Value),((↑c:Int) < (↑d.length:Int)→Ob ((0:Int)≤(↑c:Int)∧c < d.length)∧Ob (c < d.length)∧Ob ((0:Int)≤(↑c:Int)∧c < d.length)∧Ob (c < d.length)∧Ob (InR .i64 (cell (bonK d e c) c 0+cS e d c))∧Ob ((0:Int)≤(↑c:Int)∧c < d.length)∧Ob (c < d.length∧((El.fn (Rv.elemOf I3 (bonK d e c))).at c).length=(3:Nat))∧Ob ((0:Int)≤(↑c:Int)∧c < d.length)∧Ob (c < d.length∧((updL (El.fn (Rv.elemOf I3 (bonK d e c))) c 0 [SV.i .i64 (cell (bonK d e c) c 0+cS e d c)]).at c).length=(3:Nat))∧Ob (InR .i64 ((↑c:Int)+(1:Int)))∧∃(q:Nat),Ob (q≤d.length∧d.length-q < d.length-c)∧Ob (Value.int .i64 (0:Int)=Value.int .i64 (0:Int))∧Ob (d.length=d.length)∧Ob ((↑d.length:Int)=(↑d.length:Int))∧Ob ((↑c:Int)+(1:Int)=(↑q:Int))∧EqA d.length d.length (El.fn fun(m:Nat)↦[SV.i .i64 (cS e d m)]) (El.fn fun(m:Nat)↦[SV.i .i64 (cS e d m)])∧Ob (g=g)∧Ob (f=f)∧Ob (h=h)∧Ob (i=i)∧Ob (d.length=d.length)∧Ob (j=j)∧EqA d.length d.length (updL (updL (El.fn (Rv.elemOf I3 (bonK d e c))) c 0 [SV.i .i64 (cell (bonK d e c) c 0+cS e d c)]) c 2 [SV.i .i64 (0:Int)]) (El.fn (Rv.elemOf I3 (bonK d e q)))∧Ob (Value.int .i64 (0:Int)=Value.int .i64 (0:Int))∧Ob (Value.int .i64 (0:Int)=Value.int .i64 (0:Int))∧Ob (Value.int .i64 (0:Int)=Value.int .i64 (0:Int))∧Ob (Value.int .i64 (0:Int)=Value.int .i64 (0:Int))∧Ob (SV.v (Value.slice none 0 0)=SV.v (Value.slice none 0 0))∧Ob (Value.int .i64 (0:Int)=Value.int .i64 (0:Int))∧Ob (PlainE d.length (El.fn fun(m:Nat)↦[SV.i .i64 (cS e d m)]))∧Ob (PlainE d.length (El.fn (Rv.elemOf I3 (bonK d e q))))∧True)∧(¬(↑c:Int) < (↑d.length:Int)→∃(p:DS),Ob (DlOk g f h i d j l a k e p)∧Ob ((0:Int)=p.e)∧EqA d.length d.length (El.fn (Rv.elemOf I3 (bonK d e c))) (El.fn (Rv.elemOf I3 p.A))∧Ob (g=g)∧Ob (f=f)∧Ob (h=h)∧Ob (i=i)∧Ob (d.length=d.length)∧Ob (j=p.t)∧Ob (Value.int .i64 (0:Int)=Value.int .i64 (0:Int))∧Ob (Value.int .i64 (0:Int)=Value.int .i64 (0:Int))∧Ob (Value.int .i64 (0:Int)=Value.int .i64 (0:Int))∧Ob (Value.int .i64 (0:Int)=Value.int .i64 (0:Int))∧Ob (SV.v (Value.slice none 0 0)=SV.v (Value.slice none 0 0))∧Ob (Value.int .i64 (0:Int)=Value.int .i64 (0:Int))∧Ob (PlainE d.length (El.fn (Rv.elemOf I3 p.A)))∧True))))∧(¬l=((7:Int),(80:FuncId)).fst→(l=((8:Int),(81:FuncId)).fst→(j < e→∃(c:DS),Ob (DlOk g f h i d j l a k e c)∧Ob ((4:Int)=c.e)∧EqA b.length d.length (El.fn (Rv.elemOf I3 b)) (El.fn (Rv.elemOf I3 c.A))∧Ob (g=g)∧Ob (f=f)∧Ob (h=h)∧Ob (i=i)∧Ob (b.length=d.length)∧Ob (j=c.t)∧Ob (Value.int .i64 (0:Int)=Value.int .i64 (0:Int))∧Ob (Value.int .i64 (0:Int)=Value.int .i64 (0:Int))∧Ob (Value.int .i64 (0:Int)=Value.int .i64 (0:Int))∧Ob (Value.int .i64 (0:Int)=Value.int .i64 (0:Int))∧Ob (SV.v (Value.slice none 0 0)=SV.v (Value.slice none 0 0))∧Ob (Value.int .i64 (0:Int)=Value.int .i64 (0:Int))∧Ob (PlainE d.length (El.fn (Rv.elemOf I3 c.A)))∧True)∧(¬j < e→RwE 3 I3 b fun n=>Ob (F_surplus.pre ([Dat.z g,Dat.z f,Dat.z h,Dat.z i,Dat.l n,Dat.z j]++[]))∧(surp n j < e→∃(c:DS),Ob (DlOk g f h i d j l a k e c)∧Ob ((12:Int)=c.e)∧EqA b.length d.length (El.fn (Rv.elemOf I3 b)) (El.fn (Rv.elemOf I3 c.A))∧Ob (g=g)∧Ob (f=f)∧Ob (h=h)∧Ob (i=i)∧Ob (b.length=d.length)∧Ob (j=c.t)∧Ob (Value.int .i64 (0:Int)=Value.int .i64 (0:Int))∧Ob (Value.int .i64 (0:Int)=Value.int .i64 (0:Int))∧Ob (Value.int .i64 (0:Int)=Value.int .i64 (0:Int))∧Ob (Value.int .i64 (0:Int)=Value.int .i64 (0:Int))∧Ob (SV.v (Value.slice none 0 0)=SV.v (Value.slice none 0 0))∧Ob (Value.int .i64 (0:Int)=Value.int .i64 (0:Int))∧Ob (PlainE d.length (El.fn (Rv.elemOf I3 c.A)))∧True)∧(¬surp n j < e→Ob (InR .i64 (j-e))∧∃(c:DS),Ob (DlOk g f h i d j l a k e c)∧Ob ((0:Int)=c.e)∧EqA b.length d.length (El.fn (Rv.elemOf I3 b)) (El.fn (Rv.elemOf I3 c.A))∧Ob (g=g)∧Ob (f=f)∧Ob (h=h)∧Ob (i=i)∧Ob (b.length=d.length)∧Ob (j-e=c.t)∧Ob (Value.int .i64 (0:Int)=Value.int .i64 (0:Int))∧Ob (Value.int .i64 (0:Int)=Value.int .i64 (0:Int))∧Ob (Value.int .i64 (0:Int)=Value.int .i64 (0:Int))∧Ob (Value.int .i64 (0:Int)=Value.int .i64 (0:Int))∧Ob (SV.v (Value.slice none 0 0)=SV.v (Value.slice none 0 0))∧Ob (Value.int .i64 (0:Int)=Value.int .i64 (0:Int))∧Ob (PlainE d.length (El.fn (Rv.elemOf I3 c.A)))∧True)))∧(¬l=((8:Int),(81:FuncId)).fst→False)))))))))∧∀(c:DS),DlOk g f h i d j l a k e c→∀(_ _ _ _ _ _ _ _ _ _ _ _ _ _ _ _ _ _ _ _ _ _ _ _ _ _ _ _ _ _ _ _ _ _ _ _ _:Value),(¬c.e=(0:Int)→Ob (C_after ([Dat.z g,Dat.z f,Dat.z h,Dat.z i,Dat.l d,Dat.z j]++([Dat.z l,Dat.z a,Dat.z k,Dat.z e]++[])))∧Ob (Value.int .i64 (0:Int)=Value.int .i64 (0:Int))∧Ob (Value.int .i64 (0:Int)=Value.int .i64 (0:Int))∧Ob (Value.int .i64 (0:Int)=Value.int .i64 (0:Int))∧Ob (Value.int .i64 (0:Int)=Value.int .i64 (0:Int))∧Ob (SV.v (Value.slice none 0 0)=SV.v (Value.slice none 0 0))∧Ob (Value.int .i64 (0:Int)=Value.int .i64 (0:Int))∧Ob (c.e=afE g f h i d j l a k e)∧True)∧(¬¬c.e=(0:Int)→RwA d.length d.length 3 I3 ((El.fn (Rv.elemOf I3 c.A)).at) fun n=>Ob (F_isFull.pre ([Dat.z g,Dat.z f,Dat.z h,Dat.z i,Dat.l n,Dat.z c.t]++[]))∧(fullC n c.t→Ob (C_after ([Dat.z g,Dat.z f,Dat.z h,Dat.z i,Dat.l d,Dat.z j]++([Dat.z l,Dat.z a,Dat.z k,Dat.z e]++[])))∧Ob (Value.int .i64 (0:Int)=Value.int .i64 (0:Int))∧Ob (Value.int .i64 (0:Int)=Value.int .i64 (0:Int))∧Ob (Value.int .i64 (0:Int)=Value.int .i64 (0:Int))∧Ob (Value.int .i64 (0:Int)=Value.int .i64 (0:Int))∧Ob (SV.v (Value.slice none 0 0)=SV.v (Value.slice none 0 0))∧Ob (Value.int .i64 (0:Int)=Value.int .i64 (0:Int))∧Ob ((5:Int)=afE g f h i d j l a k e)∧True)∧(¬fullC n c.t→Ob ¬C_after ([Dat.z g,Dat.z f,Dat.z h,Dat.z i,Dat.l d,Dat.z j]++([Dat.z l,Dat.z a,Dat.z k,Dat.z e]++[]))∧Ob (g=g)∧Ob (f=f)∧Ob (h=h)∧Ob (i=i)∧Ob (d.length=d.length)∧Ob (c.t=dT j l e)∧Ob ((0:Int)=(0:Int))∧EqA d.length d.length (El.fn (Rv.elemOf I3 c.A)) (El.fn (Rv.elemOf I3 (dA g f h i d j l a k e)))∧Ob (PlainE d.length (El.fn (Rv.elemOf I3 (dA g f h i d j l a k e))))∧True)))
set_option linter.unusedSimpArgs false in
set_option maxRecDepth 4000 in
set_option maxHeartbeats 2000000 in
theorem v_after:V_after:=by
 unfold V_after EqA I3 LsA RwA RwB RwE
 intro B fee itr pri cre x A hx hox hrx till dk dm dO dq hpre
 have hpre:coopErr fee itr pri cre A till=0:=hpre
 have hv:=coop_ok hpre
 have hl:=hv.l
 have hlen:A.length≤100:=by omega
 simp only [Ob_iff,eq_self,and_true,true_and,InR,true_implies,not_true_eq_false,false_implies,Classical.not_not]
 refine⟨hx,⟨by omega,by omega⟩,fun h=>?_,fun h=>⟨A,⟨hx,rfl,hrx,fun _ _=>rfl⟩,⟨by omega,by omega⟩,?_,?_⟩⟩
 ·have e:=afE_chk (fee:=fee) (itr:=itr) (pri:=pri) (cre:=cre) (till:=till) h
  exact⟨show afE fee itr pri cre A till dk dm dO dq≠0 by rw [e]; exact h,e.symm⟩
 ·simp only [eq_self,true_and,and_true]
  obtain⟨hk,hm,hq,ho⟩:=dchk_ok (by omega) h
  have hm1:dm.toNat < A.length:=by omega
  have am:=hv.a dm.toNat hm1
  unfold accAt mny at am
  have ht:=hv.t
  unfold mny at ht
  have hrt:=hv.r
  unfold mny at hrt
  have pf:=prt_in (q:=dq) (p:=fee) (by omega) hrt.1
  have pi:=prt_in (q:=dq) (p:=itr) (by omega) hrt.2.1
  have hqp:0≤dq*pri∧dq*pri≤1000000000000:=by
   have h3:0≤dq*pri:=Int.mul_nonneg (by omega) hrt.2.2.1.1
   have h4:dq*pri≤dq*1000:=Int.mul_le_mul_of_nonneg_left hrt.2.2.1.2 (by omega)
   omega
  refine⟨fun h1=>?_,fun g1=>⟨fun h1=>?_,fun g2=>⟨fun h1=>?_,fun g3=>⟨fun h1=>?_,fun g4=>⟨fun h1=>?_,fun g5=>⟨fun h1=>?_,fun g6=>⟨fun h1=>?_,fun g7=>⟨fun h1=>?_,fun g8=>?_⟩⟩⟩⟩⟩⟩⟩⟩
  ·have h1:dk=1:=h1
   subst h1
   refine⟨⟨hm.1,hm1⟩,hm1,⟨by omega,by omega⟩,by omega,by omega,⟨hm1,rfl⟩,hm1,by omega,⟨hm1,by simp [updL,El.at,el3]⟩,by omega,⟨0,_,_⟩,DlOk.fin rfl,rfl,fun i hi=>?_,rfl,plain_elemOf _ _ _⟩
   show _=Rv.elemOf _ (dA _ _ _ _ _ _ _ _ _ _) i
   rw [dA_at _ _ _ _ _ _ _ _ _ _ hi]
   by_cases e:i=dm.toNat<;>simp [updL,El.at,el3,dB,dD,dS,e]
  ·have h1:dk=2:=h1
   subst h1
   refine⟨by omega,⟨hm.1,hm1⟩,hm1,fun h2=>⟨⟨4,A,till⟩,DlOk.err (by simp [dE,h2]) (by omega) rfl hrx,rfl,fun i hi=>rfl,rfl,plain_elemOf _ _ _⟩,fun h2=>⟨hm1,by omega,⟨hm1,rfl⟩,⟨0,_,_⟩,DlOk.fin (by simp [dE]; omega),rfl,fun i hi=>?_,rfl,plain_elemOf _ _ _⟩⟩
   show _=Rv.elemOf _ (dA _ _ _ _ _ _ _ _ _ _) i
   rw [dA_at _ _ _ _ _ _ _ _ _ _ hi]
   by_cases e:i=dm.toNat<;>simp [updL,El.at,el3,dB,dD,dS,e]
  ·have h1:dk=3:=h1
   subst h1
   refine⟨⟨hm.1,hm1⟩,hm1,⟨by omega,by omega⟩,by omega,by omega,⟨hm1,rfl⟩,hm1,fun h2=>⟨⟨12,rows3 (fun i=>cell A i 0) (dD itr A 3 dm dq) (fun i=>cell A i 2) A.length,till⟩,DlOk.err (by simp [dE,h2]) (by omega) (rows3_len _ _ _ _) (rows3_row _ _ _ _),rfl,fun i hi=>?_,rfl,plain_elemOf _ _ _⟩,fun h2=>⟨hm1,by omega,⟨hm1,by simp [updL,El.at,el3]⟩,⟨0,_,_⟩,DlOk.fin (by simp [dE]; omega),rfl,fun i hi=>?_,rfl,plain_elemOf _ _ _⟩⟩
   ·show _=Rv.elemOf _ (rows3 _ _ _ _) i
    rw [rows3_at _ _ _ hi]
    by_cases e:i=dm.toNat<;>simp [updL,El.at,el3,dD,e]
   ·show _=Rv.elemOf _ (dA _ _ _ _ _ _ _ _ _ _) i
    rw [dA_at _ _ _ _ _ _ _ _ _ _ hi]
    by_cases e:i=dm.toNat<;>simp [updL,El.at,el3,dB,dD,dS,e]
  ·have h1:dk=4:=h1
   subst h1
   refine⟨⟨hm.1,hm1⟩,hm1,fun h2=>⟨⟨12,A,till⟩,DlOk.err (by simp [dE,h2]) (by omega) rfl hrx,rfl,fun i hi=>rfl,rfl,plain_elemOf _ _ _⟩,fun h2=>⟨hm1,by omega,⟨hm1,rfl⟩,⟨hm.1,hm1⟩,hm1,fun h3=>⟨⟨4,rows3 (fun i=>cell A i 0) (dD itr A 4 dm dq) (fun i=>cell A i 2) A.length,till⟩,DlOk.err (by simp [dE,h2,h3]) (by omega) (rows3_len _ _ _ _) (rows3_row _ _ _ _),rfl,fun i hi=>?_,rfl,plain_elemOf _ _ _⟩,fun h3=>⟨hm1,by omega,⟨hm1,by simp [updL,El.at,el3]⟩,⟨0,_,_⟩,DlOk.fin (by simp [dE]; omega),rfl,fun i hi=>?_,rfl,plain_elemOf _ _ _⟩⟩⟩
   ·show _=Rv.elemOf _ (rows3 _ _ _ _) i
    rw [rows3_at _ _ _ hi]
    by_cases e:i=dm.toNat<;>simp [updL,El.at,el3,dD,e]
   ·show _=Rv.elemOf _ (dA _ _ _ _ _ _ _ _ _ _) i
    rw [dA_at _ _ _ _ _ _ _ _ _ _ hi]
    by_cases e:i=dm.toNat<;>simp [updL,El.at,el3,dB,dD,dS,e]
  ·have h1:dk=5:=h1
   subst h1
   refine⟨fun h2=>⟨⟨4,A,till⟩,DlOk.err (by simp [dE,h2]) (by omega) rfl hrx,rfl,fun i hi=>rfl,rfl,plain_elemOf _ _ _⟩,fun h2=>⟨by omega,⟨hm.1,hm1⟩,hm1,fun h3=>⟨⟨4,A,till-dq⟩,DlOk.err (by simp [dE,h2,h3]) (by omega) rfl hrx,rfl,fun i hi=>rfl,rfl,plain_elemOf _ _ _⟩,fun h3=>⟨hm1,by omega,⟨hm1,rfl⟩,⟨0,_,_⟩,DlOk.fin (by simp [dE]; omega),rfl,fun i hi=>?_,rfl,plain_elemOf _ _ _⟩⟩⟩
   show _=Rv.elemOf _ (dA _ _ _ _ _ _ _ _ _ _) i
   rw [dA_at _ _ _ _ _ _ _ _ _ _ hi]
   by_cases e:i=dm.toNat<;>simp [updL,El.at,el3,dB,dD,dS,e]
  ·have h1:dk=6:=h1
   subst h1
   obtain⟨ho1,ho2⟩:=ho rfl
   have ho3:dO.toNat < A.length:=by omega
   have ne:¬ dm.toNat=dO.toNat:=by omega
   have ao:=hv.a dO.toNat ho3
   unfold accAt mny at ao
   simp only [ne,false_implies,true_and,not_false_eq_true,true_implies]
   refine⟨⟨ho1.1,ho3⟩,ho3,by omega,⟨ho1.1,ho3⟩,⟨ho3,rfl⟩,⟨hm.1,hm1⟩,hm1,fun h3=>⟨⟨4,rows3 (fun i=>if i=dO.toNat then cell A i 0+dq else cell A i 0) (fun i=>cell A i 1) (fun i=>cell A i 2) A.length,till⟩,DlOk.err (by simp [dE,h3]) (by omega) (rows3_len _ _ _ _) (rows3_row _ _ _ _),rfl,fun i hi=>?_,rfl,plain_elemOf _ _ _⟩,fun h3=>⟨hm1,by omega,⟨hm1,by simp [updL,El.at,el3,ne]⟩,⟨0,_,_⟩,DlOk.fin (by simp [dE]; omega),rfl,fun i hi=>?_,rfl,plain_elemOf _ _ _⟩⟩
   ·show _=Rv.elemOf _ (rows3 _ _ _ _) i
    rw [rows3_at _ _ _ hi]
    by_cases e:i=dO.toNat<;>simp [updL,El.at,el3,e]
   ·show _=Rv.elemOf _ (dA _ _ _ _ _ _ _ _ _ _) i
    rw [dA_at _ _ _ _ _ _ _ _ _ _ hi]
    by_cases e:i=dm.toNat
    ·subst e
     simp [updL,El.at,el3,dB,dD,dS,ne]
    ·have e3:¬ dO.toNat=dm.toNat:=fun h=>ne h.symm
     by_cases e2:i=dO.toNat
     ·simp [updL,El.at,el3,dB,dD,dS,e2,e3]
     ·simp [updL,El.at,el3,dB,dD,dS,e,e2]
  ·have h1:dk=7:=h1
   subst h1
   refine⟨A,⟨rfl,hrx,fun i hi=>rfl⟩,hv.small,fun h2=>⟨⟨12,A,till⟩,DlOk.err (by simp [dE,h2]) (by omega) rfl hrx,rfl,fun i hi=>rfl,rfl,plain_elemOf _ _ _⟩,fun h2=>⟨A,⟨rfl,hrx,fun i hi=>rfl⟩,⟨hpre,by unfold mny; omega⟩,fun h3=>?_,fun h3=>?_⟩⟩
   ·have h3:idl A:=h3
    exact⟨⟨6,A,till⟩,DlOk.err (by simp [dE,h2,h3]) (by omega) rfl hrx,rfl,fun i hi=>rfl,rfl,plain_elemOf _ _ _⟩
   ·have h3:¬ idl A:=h3
    have sh:=hv.shr (d:=dq) (by unfold mny; omega) h3
    refine⟨plain_fnD _ _,⟨0,Nat.zero_le _,rfl,rfl,rfl,⟨rfl,fun i hi=>rfl⟩,fun i hi=>?_,plain_fnD _ _,plain_elemOf _ _ _⟩,?_⟩
    ·show _=Rv.elemOf _ (rows3 _ _ _ _) i
     rw [rows3_at _ _ _ hi]
     simp [el3,El.at]
    intro k hk
    intros
    refine⟨fun h4=>?_,fun h4=>?_⟩
    ·have hk:k < A.length:=by omega
     have ak:=hv.a k hk
     unfold accAt mny at ak
     have sk:=cS_in sh hk
     rw [bonK_0 hk,if_neg (Nat.lt_irrefl _)]
     refine⟨⟨by omega,hk⟩,hk,⟨by omega,hk⟩,hk,by omega,⟨by omega,hk⟩,⟨hk,rfl⟩,⟨by omega,hk⟩,⟨hk,by simp [updL,El.at,el3]⟩,by omega,k+1,⟨hk,by omega⟩,by omega,fun i hi=>trivial,fun i hi=>?_,plain_fnD _ _,plain_elemOf _ _ _⟩
     show _=Rv.elemOf _ (rows3 _ _ _ _) i
     rw [rows3_at _ _ _ hi]
     have e1:Rv.elemOf [.i64,.i64,.i64] (bonK A dq k) i=_:=rows3_at _ _ _ hi
     by_cases e:i=k
     ·subst e
      simp [updL,El.at,e1]
     ·have e2:(i < k+1)=(i < k):=by apply propext; omega
      simp [updL,El.at,e1,e,e2]
    ·have ek:k=A.length:=by omega
     subst ek
     refine⟨⟨0,_,_⟩,DlOk.fin (by simp [dE,h2,h3]),rfl,fun i hi=>?_,rfl,plain_elemOf _ _ _⟩
     show _=Rv.elemOf _ (dA _ _ _ _ _ _ _ _ _ _) i
     rw [dA_at _ _ _ _ _ _ _ _ _ _ hi]
     have e1:Rv.elemOf [.i64,.i64,.i64] (bonK A dq A.length) i=_:=rows3_at _ _ _ hi
     simp [El.at,e1,hi,dB,dD,dS]
  ·have h1:dk=8:=h1
   subst h1
   refine⟨fun h2=>⟨⟨4,A,till⟩,DlOk.err (by simp [dE,h2]) (by omega) rfl hrx,rfl,fun i hi=>rfl,rfl,plain_elemOf _ _ _⟩,fun h2=>⟨A,⟨rfl,hrx,fun i hi=>rfl⟩,hv.small,fun h3=>⟨⟨12,A,till⟩,DlOk.err (by simp [dE,h2,h3]) (by omega) rfl hrx,rfl,fun i hi=>rfl,rfl,plain_elemOf _ _ _⟩,fun h3=>⟨by omega,⟨0,_,_⟩,DlOk.fin (by simp [dE]; omega),rfl,fun i hi=>?_,rfl,plain_elemOf _ _ _⟩⟩⟩
   show _=Rv.elemOf _ (dA _ _ _ _ _ _ _ _ _ _) i
   rw [dA_at _ _ _ _ _ _ _ _ _ _ hi]
   simp [El.at,el3,dB,dD,dS]
  ·have g1:¬ dk=1:=g1
   have g2:¬ dk=2:=g2
   have g3:¬ dk=3:=g3
   have g4:¬ dk=4:=g4
   have g5:¬ dk=5:=g5
   have g6:¬ dk=6:=g6
   have g7:¬ dk=7:=g7
   have g8:¬ dk=8:=g8
   omega
 ·intro v hvv
  intros
  refine⟨fun h2=>?_,fun h2=>⟨v.A,⟨hvv.l,hvv.r,fun i hi=>rfl⟩,⟨by rw [hvv.l]; omega,by rw [hvv.l]; omega⟩,fun h3=>?_,fun h3=>?_⟩⟩
  ·have e:=afE_do h (hvv.e ▸ h2)
   exact⟨show afE fee itr pri cre A till dk dm dO dq≠0 by rw [e]; exact hvv.e ▸ h2,by rw [e]; exact hvv.e⟩
  ·obtain⟨d1,d2⟩:=hvv.d h2
   rw [d1,d2]at h3
   have e:=afE_ful h (hvv.e ▸ h2)
   rw [if_pos h3]at e
   exact⟨show afE fee itr pri cre A till dk dm dO dq≠0 by rw [e]; omega,e.symm⟩
  ·obtain⟨d1,d2⟩:=hvv.d h2
   have h3':=h3
   rw [d1,d2]at h3
   have e:=afE_ful h (hvv.e ▸ h2)
   rw [if_neg h3]at e
   exact⟨fun hh=>absurd e (show afE fee itr pri cre A till dk dm dO dq≠0 from hh),d2,fun i hi=>by rw [d1],plain_elemOf _ _ _⟩
theorem e_after:V_after=needEI P [F_checkDeal,F_partUp] [F_cloneA,F_deeds,F_surplus,F_sharesC,F_isFull] I_after A_after F_after:=by kernel_rfl
theorem n_after:Ob (needEI P [F_checkDeal,F_partUp] [F_cloneA,F_deeds,F_surplus,F_sharesC,F_isFull] I_after A_after F_after):=by
 rw [← e_after]
 exact⟨v_after⟩
theorem b_after:((P.funcs[37]?).any fun fn=>fn.body.isSome)=true:=by kernel_rfl
theorem after_ok:FnE.Ok P F_after:=FnE.okI named (l:=[F_checkDeal,F_partUp]) (es:=[F_cloneA,F_deeds,F_surplus,F_sharesC,F_isFull]) (I:=I_after) (A:=A_after) (by rfl) (by rfl) (by rfl) (by
 intro F h
 simp only [List.mem_cons,List.not_mem_nil,or_false]at h
 rcases h with rfl | rfl
 ·exact checkDeal_ok
 ·exact partUp_ok
) (by
 intro F h
 simp only [List.mem_cons,List.not_mem_nil,or_false]at h
 rcases h with rfl | rfl | rfl | rfl | rfl
 ·exact cloneA_ok
 ·exact deeds_ok
 ·exact surplus_ok
 ·exact sharesC_ok
 ·exact isFull_ok
) b_after (by
 intro ds h o ho n sz e k z he
 subst he
 simp only [F_after]at ho
 split at ho
 ·simp only [List.mem_cons,List.not_mem_nil,or_false,SObj.gr.injEq]at ho
  obtain⟨rfl,rfl,rfl,rfl,rfl⟩:=ho
  exact plain_elemOf _ _ _
 ·simp at ho) n_after (by
 intro a ha ds h hc o ho
 simp only [F_after,Option.some.injEq]at ha
 subst ha
 simp only at ho
 split at ho<;>simp at ho)
end Go.Proofs.Ytfebjikidfcbcaa.Sy
