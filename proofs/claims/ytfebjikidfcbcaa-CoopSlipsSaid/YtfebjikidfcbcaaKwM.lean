import Derived.Test.YtfebjikidfcbcaaSyP2
import Derived.Test.YtfebjikidfcbcaaGrM
import Derived.Test.YtfebjikidfcbcaaStM
import Derived.Test.YtfebjikidfcbcaaLrM
import Derived.Test.YtfebjikidfcbcaaDhM
import Derived.Test.YtfebjikidfcbcaaKtT
import Derived.Test.YtfebjikidfcbcaaKtA
import Derived.Test.YtfebjikidfcbcaaKtB
import Derived.Test.YtfebjikidfcbcaaKwA
import Derived.Test.YtfebjikidfcbcaaKwB
import Derived.Test.YtfebjikidfcbcaaKwC
import Derived.Test.YtfebjikidfcbcaaKwD
import Derived.Test.YtfebjikidfcbcaaKwE
import Derived.Test.YtfebjikidfcbcaaKwF
import Derived.Test.YtfebjikidfcbcaaKwI
import Derived.Test.YtfebjikidfcbcaaKwJ
import Derived.Test.YtfebjikidfcbcaaKwK
import Derived.Test.YtfebjikidfcbcaaSyP2
import Derived.KernelRfl
import Derived.Test.YtfebjikidfcbcaaProg
namespace Go.Proofs.Ytfebjikidfcbcaa.Sy
open Go Go.Rv
set_option linter.unusedVariables false
def rows3 (b d s:Nat→Int) (n:Nat):Rows:=(List.range n).map fun i=>[b i,d i,s i]
theorem rows3_len (b d s:Nat→Int) (n:Nat):(rows3 b d s n).length=n:=by simp [rows3]
theorem rows3_row (b d s:Nat→Int) (n:Nat):∀r∈rows3 b d s n,r.length=3:=by
 intro r hr
 simp only [rows3,List.mem_map]at hr
 obtain⟨_,_,rfl⟩:=hr
 rfl
theorem rows3_get (b d s:Nat→Int) {n i:Nat} (h:i < n):(rows3 b d s n).getD i []=[b i,d i,s i]:=by
 unfold rows3
 simp [List.getD_eq_getElem?_getD,h]
theorem rows3_at (b d s:Nat→Int) {n i:Nat} (h:i < n):Rv.elemOf [.i64,.i64,.i64] (rows3 b d s n) i=[SV.i .i64 (b i),SV.i .i64 (d i),SV.i .i64 (s i)]:=by
 show [SV.i .i64 (((rows3 b d s n).getD i []).getD 0 0),SV.i .i64 (((rows3 b d s n).getD i []).getD 1 0),SV.i .i64 (((rows3 b d s n).getD i []).getD 2 0)]=_
 rw [rows3_get b d s h]
 rfl
theorem rows3_0 (b d s:Nat→Int) {n i:Nat} (h:i < n):cell (rows3 b d s n) i 0=b i:=by
 unfold cell; rw [rows3_get b d s h]; rfl
theorem rows3_1 (b d s:Nat→Int) {n i:Nat} (h:i < n):cell (rows3 b d s n) i 1=d i:=by
 unfold cell; rw [rows3_get b d s h]; rfl
theorem rows3_2 (b d s:Nat→Int) {n i:Nat} (h:i < n):cell (rows3 b d s n) i 2=s i:=by
 unfold cell; rw [rows3_get b d s h]; rfl
open Classical in
noncomputable def dE (fee itr pri cre:Int) (A:Rows) (till k m o q:Int):Int:=
 if k=2 then (if cell A m.toNat 0 < q*pri then 4 else 0)
 else if k=3 then (if cre < cell A m.toNat 1+(q+prt q itr)then 12 else 0)
 else if k=4 then (if cell A m.toNat 1 < q then 12 else if cell A m.toNat 0 < q then 4 else 0)
 else if k=5 then (if till < q then 4 else if cell A m.toNat 0 < q then 4 else 0)
 else if k=6 then (if cell A m.toNat 0 < q then 4 else 0)
 else if k=7 then (if surp A till < q then 12 else if idl A then 6 else 0)
 else if k=8 then (if till < q then 4 else if surp A till < q then 12 else 0)
 else 0
noncomputable def dB (fee itr pri cre:Int) (A:Rows) (till k m o q:Int) (i:Nat):Int:=
 if k=7 then cell A i 0+cS q A i
 else if k=8 then cell A i 0
 else if i=m.toNat then (if k=1 then cell A i 0+(q-prt q fee)else if k=2 then cell A i 0-q*pri else if k=3 then cell A i 0+q else cell A i 0-q)
 else if k=6∧i=o.toNat then cell A i 0+q
 else cell A i 0
def dD (itr:Int) (A:Rows) (k m q:Int) (i:Nat):Int:=
 if k=3∧i=m.toNat then cell A i 1+(q+prt q itr)else if k=4∧i=m.toNat then cell A i 1-q else cell A i 1
def dS (A:Rows) (k m q:Int) (i:Nat):Int:=if k=1∧i=m.toNat then cell A i 2+q else if k=7 then 0 else cell A i 2
def dT (till k q:Int):Int:=if k=1 then till+q else if k=5∨k=8 then till-q else till
noncomputable def dA (fee itr pri cre:Int) (A:Rows) (till k m o q:Int):Rows:=rows3 (dB fee itr pri cre A till k m o q) (dD itr A k m q) (dS A k m q) A.length
open Classical in
noncomputable def afE (fee itr pri cre:Int) (A:Rows) (till k m o q:Int):Int:=
 if dchk A.length k m o q≠0 then dchk A.length k m o q else if dE fee itr pri cre A till k m o q≠0 then dE fee itr pri cre A till k m o q
 else if fullC (dA fee itr pri cre A till k m o q) (dT till k q)then 5 else 0
def isNilC (xs:List SV):Bool:=match xs with
 | .agg (_ :: _ :: _ :: _ :: .v (.slice none 0 0) :: _) :: _=>true
 | _=>false
noncomputable def bonK (A:Rows) (q:Int) (k:Nat):Rows:=rows3 (fun i=>if i < k then cell A i 0+cS q A i else cell A i 0) (fun i=>cell A i 1) (fun i=>if i < k then 0 else cell A i 2) A.length
structure DS where
 e:Int
 A:Rows
 t:Int
structure DlOk (fee itr pri cre:Int) (A:Rows) (till k m o q:Int) (v:DS):Prop where
 e:v.e=dE fee itr pri cre A till k m o q
 l:v.A.length=A.length
 r:∀r∈v.A,r.length=3
 d:v.e=0→v.A=dA fee itr pri cre A till k m o q∧v.t=dT till k q
theorem el3 (A:Rows) (i:Nat):Rv.elemOf [.i64,.i64,.i64] A i=[SV.i .i64 (cell A i 0),SV.i .i64 (cell A i 1),SV.i .i64 (cell A i 2)]:=rfl
theorem dA_at (fee itr pri cre:Int) (A:Rows) (till k m o q:Int) {i:Nat} (h:i < A.length):Rv.elemOf [.i64,.i64,.i64] (dA fee itr pri cre A till k m o q) i=[SV.i .i64 (dB fee itr pri cre A till k m o q i),SV.i .i64 (dD itr A k m q i),SV.i .i64 (dS A k m q i)]:=rows3_at _ _ _ h
theorem DlOk.err {fee itr pri cre:Int} {A:Rows} {till k m o q e t:Int} {A':Rows} (h:e=dE fee itr pri cre A till k m o q) (hne:e≠0) (hl:A'.length=A.length) (hr:∀r∈A',r.length=3):DlOk fee itr pri cre A till k m o q ⟨e,A',t⟩:=⟨h,hl,hr,fun h0=>absurd h0 hne⟩
theorem DlOk.fin {fee itr pri cre:Int} {A:Rows} {till k m o q:Int} (h:0=dE fee itr pri cre A till k m o q):DlOk fee itr pri cre A till k m o q ⟨0,dA fee itr pri cre A till k m o q,dT till k q⟩:=⟨h,rows3_len _ _ _ _,rows3_row _ _ _ _,fun _=>⟨rfl,rfl⟩⟩
theorem cS_in {d:Int} {A:Rows} (h:ShOk d A) {i:Nat} (hi:i < A.length):0≤cS d A i∧cS d A i≤d:=by
 have h0:∀j,j < A.length→0≤cS d A j:=fun j hj=>h.sh.nn hj
 have h1:sumF (cS d A) A.length=d:=h.sh.sum
 have h2:=sumF_mono (f:=cS d A) (n:=A.length) (k:=i+1) (by omega) h0
 have h3:=sumF_mono (f:=cS d A) (n:=i) (k:=0) (by omega) fun j hj=>h0 j (by omega)
 have e:sumF (cS d A) (i+1)=sumF (cS d A) i+cS d A i:=rfl
 have e0:sumF (cS d A) 0=0:=rfl
 have:=h0 i hi
 omega
theorem bonK_0 {A:Rows} {q:Int} {k i:Nat} (h:i < A.length):cell (bonK A q k) i 0=if i < k then cell A i 0+cS q A i else cell A i 0:=rows3_0 _ _ _ h
theorem afE_chk {fee itr pri cre:Int} {A:Rows} {till k m o q:Int} (h:dchk A.length k m o q≠0):afE fee itr pri cre A till k m o q=dchk A.length k m o q:=by
 unfold afE
 rw [if_pos h]
theorem afE_do {fee itr pri cre:Int} {A:Rows} {till k m o q:Int} (h:dchk A.length k m o q=0) (h2:dE fee itr pri cre A till k m o q≠0):afE fee itr pri cre A till k m o q=dE fee itr pri cre A till k m o q:=by
 unfold afE
 rw [if_neg (fun hh=>hh h),if_pos h2]
open Classical in
theorem afE_ful {fee itr pri cre:Int} {A:Rows} {till k m o q:Int} (h:dchk A.length k m o q=0) (h2:dE fee itr pri cre A till k m o q=0):afE fee itr pri cre A till k m o q=if fullC (dA fee itr pri cre A till k m o q) (dT till k q)then 5 else 0:=by
 unfold afE
 rw [if_neg (fun hh=>hh h),if_neg (fun hh=>hh h2)]
noncomputable def F_cloneA:FnE:=⟨62,none,[.one (.l [.i64,.i64,.i64])],fun l=>match l with | [.l A]=>1≤A.length∧A.length≤100 | _=>False,fun l=>match l with | [.l A]=>[.gsl 0 A.length 3 false] | _=>[],fun l=>match l with | [.l A]=>[.gr A.length 3 (.fn (Rv.elemOf [.i64,.i64,.i64] A)) .gr false] | _=>[],fun l=>match l with | [.l A]=>[] | _=>[],false,none,none⟩
noncomputable def A_cloneA:List SV→List Dat→Nat→List SV→Ann:=fun _ _ _ _=>noAnn
def V_cloneA:Prop:=∀(B:RW) (x:RV) (rows:List (List Int)),IsLst B x rows.length 3 (Rv.elemOf [.i64,.i64,.i64] rows)→oneB x=true→(∀row∈rows,row.length=3)→F_cloneA.pre ([Dat.l rows]++[])→Ob (IsLst B x rows.length 3 (Rv.elemOf [.i64,.i64,.i64] rows))∧(x=RV.v (Value.slice none 0 0)→False)∧(¬x=RV.v (Value.slice none 0 0)→Ob (IsLst B x rows.length 3 (Rv.elemOf [.i64,.i64,.i64] rows))∧(rows.length=(0:Nat)→Ob ((0:Nat)=rows.length)∧Ob ((0:Nat)=rows.length∧∀(i:Nat),i < rows.length→(litEl (symL (replS 0 (List.map SV.v (Value.agg #[Value.int .i64 (0:Int),Value.int .i64 (0:Int),Value.int .i64 (0:Int)]).cells.toList))) 3 0).at i=(El.fn (Rv.elemOf [.i64,.i64,.i64] rows)).at i)∧Ob (PlainE rows.length (El.fn (Rv.elemOf [.i64,.i64,.i64] rows)))∧True)∧(¬rows.length=(0:Nat)→Ob (((0:Nat)+rows.length)*(2:Nat)*(25:Nat)≤1099511627776)∧Ob ((0:Nat) < 0+((0:Nat)+rows.length)*(3:Nat))∧Ob ((0:Nat)+rows.length=rows.length)∧Ob ((0:Nat)+rows.length=rows.length∧∀(i:Nat),i < rows.length→(behind 0 (litEl (symL (replS 0 (List.map SV.v (Value.agg #[Value.int .i64 (0:Int),Value.int .i64 (0:Int),Value.int .i64 (0:Int)]).cells.toList))) 3 0) rows.length (El.fn (Rv.elemOf [.i64,.i64,.i64] rows))).at i=(El.fn (Rv.elemOf [.i64,.i64,.i64] rows)).at i)∧Ob (PlainE rows.length (El.fn (Rv.elemOf [.i64,.i64,.i64] rows)))∧True))
set_option linter.unusedSimpArgs false in
set_option maxRecDepth 4000 in
set_option maxHeartbeats 400000 in
theorem v_cloneA:V_cloneA:=by
 unfold V_cloneA
 intro B x A hx hox hrx hA
 have hA:1≤A.length∧A.length≤100:=hA
 simp only [Ob_iff,and_true,true_and]
 refine⟨hx,fun h=>?_,fun h=>⟨hx,fun h0=>absurd h0 (by omega),fun h0=>⟨by omega,by omega,by omega,⟨by omega,fun i _=>behind_at _ _ _ _⟩,plain_elemOf _ _ _⟩⟩⟩
 subst h
 rcases hx with ⟨_,h⟩ | ⟨b,o,c,h,_⟩
 ·omega
 ·cases h
theorem e_cloneA:V_cloneA=needE P [] [] A_cloneA F_cloneA:=by kernel_rfl
theorem n_cloneA:Ob (needE P [] [] A_cloneA F_cloneA):=by
 rw [← e_cloneA]
 exact⟨v_cloneA⟩
theorem b_cloneA:((P.funcs[62]?).any fun fn=>fn.body.isSome)=true:=by kernel_rfl
theorem cloneA_ok:FnE.Ok P F_cloneA:=FnE.ok named (l:=[]) (es:=[]) (A:=A_cloneA) (by rfl) (by rfl) (by rfl) (by
 intro F h; simp at h) (by
 intro F h; simp at h) b_cloneA (by
 intro ds h o ho n sz e k z he
 subst he
 simp only [F_cloneA]at ho
 split at ho
 ·simp only [List.mem_cons,List.not_mem_nil,or_false,SObj.gr.injEq]at ho
  obtain⟨rfl,rfl,rfl,rfl,rfl⟩:=ho
  exact plain_elemOf _ _ _
 ·simp at ho) n_cloneA
noncomputable def C_after:List Dat→Prop:=fun l=>match l with | [.z fee,.z itr,.z pri,.z cre,.l A,.z till,.z dk,.z dm,.z dO,.z dq]=>afE fee itr pri cre A till dk dm dO dq≠0 | _=>False
noncomputable def F_after:FnE:=⟨37,none,[.agg [.i .i64,.i .i64,.i .i64,.i .i64,.l [.i64,.i64,.i64],.i .i64],.agg [.i .i64,.i .i64,.i .i64,.i .i64]],fun l=>match l with | [.z fee,.z itr,.z pri,.z cre,.l A,.z till,.z dk,.z dm,.z dO,.z dq]=>coopErr fee itr pri cre A till=0 | _=>False,fun l=>match l with | [.z fee,.z itr,.z pri,.z cre,.l A,.z till,.z dk,.z dm,.z dO,.z dq]=>[.agg [.i .i64 fee,.i .i64 itr,.i .i64 pri,.i .i64 cre,.gsl 0 A.length 3 false,.i .i64 (dT till dk dq)],.i .i64 0] | _=>[],fun l=>match l with | [.z fee,.z itr,.z pri,.z cre,.l A,.z till,.z dk,.z dm,.z dO,.z dq]=>[.gr A.length 3 (.fn (Rv.elemOf [.i64,.i64,.i64] (dA fee itr pri cre A till dk dm dO dq))) .gr false] | _=>[],fun l=>match l with | [.z fee,.z itr,.z pri,.z cre,.l A,.z till,.z dk,.z dm,.z dO,.z dq]=>[] | _=>[],false,some ⟨C_after,isNilC,fun l=>match l with | [.z fee,.z itr,.z pri,.z cre,.l A,.z till,.z dk,.z dm,.z dO,.z dq]=>[.agg [.v (.int .i64 0),.v (.int .i64 0),.v (.int .i64 0),.v (.int .i64 0),.v (.slice none 0 0),.v (.int .i64 0)],.i .i64 (afE fee itr pri cre A till dk dm dO dq)] | _=>[],fun l=>match l with | [.z fee,.z itr,.z pri,.z cre,.l A,.z till,.z dk,.z dm,.z dO,.z dq]=>[] | _=>[],fun l=>match l with | [.z fee,.z itr,.z pri,.z cre,.l A,.z till,.z dk,.z dm,.z dO,.z dq]=>[] | _=>[]⟩,none⟩
noncomputable def A_after:List SV→List Dat→Nat→List SV→Ann:=fun xs ds n ts=>match xs with
 | [.agg [_,_,_,_,.lst x _ _ _,_],.agg _]=>match ds with
  | [.z fee,.z itr,.z pri,.z cre,.l A,.z till,.z dk,.z dm,.z dO,.z dq]=>match n with
   | 6=>⟨DS,fun v=>[none,none,none,none,some (.ptr 0 0),none,none,some (.ptr 1 0),some (.i .i64 v.e),none,none,none,none,none,none,none,none,none,none,none,none,none,none,none,none,none,none,none,none,none,none,none,none,none,none,none,none,none,none,none],fun v=>[.gr A.length 3 (.fn (Rv.elemOf [.i64,.i64,.i64] v.A)) .gr false,.cells [.i .i64 fee,.i .i64 itr,.i .i64 pri,.i .i64 cre,.gsl 2 A.length 3 false,.i .i64 v.t] .ex,.cells [.v (.int .i64 0),.v (.int .i64 0),.v (.int .i64 0),.v (.int .i64 0),.v (.slice none 0 0),.v (.int .i64 0)] .ex],fun v=>DlOk fee itr pri cre A till dk dm dO dq v,fun _=>0,1000000⟩
   | _=>noAnn
  | _=>noAnn
 | _=>noAnn
noncomputable def A_after_1:List SV→List Dat→List SV→List SObj→Nat→List SV→Ann:=fun _ _ _ _ _ _=>noAnn
noncomputable def A_after_2:List SV→List Dat→List SV→List SObj→Nat→List SV→Ann:=fun _ _ _ _ _ _=>noAnn
noncomputable def A_after_3:List SV→List Dat→List SV→List SObj→Nat→List SV→Ann:=fun _ _ _ _ _ _=>noAnn
noncomputable def A_after_4:List SV→List Dat→List SV→List SObj→Nat→List SV→Ann:=fun _ _ _ _ _ _=>noAnn
noncomputable def A_after_5:List SV→List Dat→List SV→List SObj→Nat→List SV→Ann:=fun _ _ _ _ _ _=>noAnn
noncomputable def A_after_6:List SV→List Dat→List SV→List SObj→Nat→List SV→Ann:=fun _ _ _ _ _ _=>noAnn
noncomputable def A_after_7:List SV→List Dat→List SV→List SObj→Nat→List SV→Ann:=fun _ _ _ _ _ _=>noAnn
noncomputable def A_after_8:List SV→List Dat→List SV→List SObj→Nat→List SV→Ann:=fun xs ds ar bs n ts=>match xs with
 | [.agg [_,_,_,_,.lst x _ _ _,_],.agg _]=>match ds with
  | [.z fee,.z itr,.z pri,.z cre,.l A,.z till,.z dk,.z dm,.z dO,.z dq]=>match n with
   | 7=>⟨Nat,fun k=>[some (.ptr 5 0),none,none,none,some (SV.v (Value.int IntKind.i64 (0:Int))),none,none,none,none,none,none,none,none,none,none,none,none,none,none,none,none,none,none,none,none,none,none,none,some (.gsl 8 A.length 1 false),some (.i .i64 (A.length:Nat)),some (.i .i64 k),none,none,none,none,none,none,none,none,none,none,none,none,none,none,none,none,none,none,none,none,none,none,none,none,none,none],fun k=>[.gr A.length 1 (.fn fun i=>[.i .i64 (cS dq A i)]) .ex false,.dead,.dead,.cells [.i .i64 fee,.i .i64 itr,.i .i64 pri,.i .i64 cre,.gsl 4 A.length 3 false,.i .i64 till] .ex,.gr A.length 3 (.fn (Rv.elemOf [.i64,.i64,.i64] (bonK A dq k))) .gr false,.dead,SObj.cells [SV.v (Value.int IntKind.i64 (0:Int)),SV.v (Value.int IntKind.i64 (0:Int)),SV.v (Value.int IntKind.i64 (0:Int)),SV.v (Value.int IntKind.i64 (0:Int)),SV.v (Value.slice none ((0:Nat)) ((0:Nat))),SV.v (Value.int IntKind.i64 (0:Int))] Kd.ex,.dead,.dead],fun k=>k≤A.length,fun k=>A.length-k,0⟩
   | _=>noAnn
  | _=>noAnn
 | _=>noAnn
noncomputable def A_after_9:List SV→List Dat→List SV→List SObj→Nat→List SV→Ann:=fun _ _ _ _ _ _=>noAnn
noncomputable def A_after_10:List SV→List Dat→List SV→List SObj→Nat→List SV→Ann:=fun _ _ _ _ _ _=>noAnn
noncomputable def I_after:List SV→List Dat→List In:=fun xs ds=>[⟨41,A_after_1 xs ds⟩,⟨74,A_after_2 xs ds⟩,⟨75,A_after_3 xs ds⟩,⟨76,A_after_4 xs ds⟩,⟨77,A_after_5 xs ds⟩,⟨78,A_after_6 xs ds⟩,⟨79,A_after_7 xs ds⟩,⟨80,A_after_8 xs ds⟩,⟨81,A_after_9 xs ds⟩,⟨90,A_after_10 xs ds⟩]
set_option maxRecDepth 10000 in
def V_after:Prop:=∀(B:RW) (n n_1 n_2 n_3:Int) (x:RV) (rows:List (List Int)),IsLst B x rows.length 3 (Rv.elemOf [.i64,.i64,.i64] rows)→oneB x=true→(∀row∈rows,row.length=3)→∀(n_4 n_5 n_6 n_7 n_8:Int),F_after.pre ([Dat.z n,Dat.z n_1,Dat.z n_2,Dat.z n_3,Dat.l rows,Dat.z n_4]++([Dat.z n_5,Dat.z n_6,Dat.z n_7,Dat.z n_8]++[]))→Ob (IsLst B x rows.length 3 (Rv.elemOf [.i64,.i64,.i64] rows))∧Ob ((0:Int)≤(↑rows.length:Int)∧(↑rows.length:Int)≤(4000000:Int))∧(¬dchk (↑rows.length:Int) n_5 n_6 n_7 n_8=(0:Int)→Ob (C_after ([Dat.z n,Dat.z n_1,Dat.z n_2,Dat.z n_3,Dat.l rows,Dat.z n_4]++([Dat.z n_5,Dat.z n_6,Dat.z n_7,Dat.z n_8]++[])))∧Ob (Value.int .i64 (0:Int)=Value.int .i64 (0:Int))∧Ob (Value.int .i64 (0:Int)=Value.int .i64 (0:Int))∧Ob (Value.int .i64 (0:Int)=Value.int .i64 (0:Int))∧Ob (Value.int .i64 (0:Int)=Value.int .i64 (0:Int))∧Ob (SV.v (Value.slice none 0 0)=SV.v (Value.slice none 0 0))∧Ob (Value.int .i64 (0:Int)=Value.int .i64 (0:Int))∧Ob (dchk (↑rows.length:Int) n_5 n_6 n_7 n_8=afE n n_1 n_2 n_3 rows n_4 n_5 n_6 n_7 n_8)∧True)∧(¬¬dchk (↑rows.length:Int) n_5 n_6 n_7 n_8=(0:Int)→∃(l1:List (List Int)),Ob (IsLst B x rows.length 3 (Rv.elemOf [.i64,.i64,.i64] rows)∧l1.length=rows.length∧(∀r∈l1,r.length=3)∧∀(i:Nat),i < rows.length→Rv.elemOf [.i64,.i64,.i64] rows i=Rv.elemOf [.i64,.i64,.i64] l1 i)∧Ob (F_cloneA.pre [Dat.l l1])∧((n_5=((1:Int),(74:FuncId)).fst→Ob ((0:Int)≤n_6∧n_6.toNat < l1.length)∧Ob (n_6.toNat < l1.length)∧Ob (((0:Int)≤n_8∧n_8≤(1000000000:Int))∧(0:Int)≤n∧n≤(1000000:Int))∧Ob (InR .i64 (n_8-prt n_8 n))∧Ob (InR .i64 (cell l1 n_6.toNat 0+(n_8-prt n_8 n)))∧Ob (n_6.toNat < l1.length∧((El.fn (Rv.elemOf [.i64,.i64,.i64] l1)).at n_6.toNat).length=(3:Nat))∧Ob (n_6.toNat < l1.length)∧(n_6.toNat=n_6.toNat→Ob (InR .i64 (cell l1 n_6.toNat 2+n_8))∧Ob (n_6.toNat < l1.length∧((updL (El.fn (Rv.elemOf [.i64,.i64,.i64] l1)) n_6.toNat 0 [SV.i .i64 (cell l1 n_6.toNat 0+(n_8-prt n_8 n))]).at n_6.toNat).length=(3:Nat))∧Ob (InR .i64 (n_4+n_8))∧∃(a:DS),Ob (DlOk n n_1 n_2 n_3 rows n_4 n_5 n_6 n_7 n_8 a)∧Ob ((0:Int)=a.e)∧Ob (l1.length=rows.length∧∀(i:Nat),i < rows.length→(updL (updL (El.fn (Rv.elemOf [.i64,.i64,.i64] l1)) n_6.toNat 0 [SV.i .i64 (cell l1 n_6.toNat 0+(n_8-prt n_8 n))]) n_6.toNat 2 [SV.i .i64 (cell l1 n_6.toNat 2+n_8)]).at i=(El.fn (Rv.elemOf [.i64,.i64,.i64] a.A)).at i)∧Ob (n=n)∧Ob (n_1=n_1)∧Ob (n_2=n_2)∧Ob (n_3=n_3)∧Ob (l1.length=rows.length)∧Ob (n_4+n_8=a.t)∧Ob (Value.int .i64 (0:Int)=Value.int .i64 (0:Int))∧Ob (Value.int .i64 (0:Int)=Value.int .i64 (0:Int))∧Ob (Value.int .i64 (0:Int)=Value.int .i64 (0:Int))∧Ob (Value.int .i64 (0:Int)=Value.int .i64 (0:Int))∧Ob (SV.v (Value.slice none 0 0)=SV.v (Value.slice none 0 0))∧Ob (Value.int .i64 (0:Int)=Value.int .i64 (0:Int))∧Ob (PlainE rows.length (El.fn (Rv.elemOf [.i64,.i64,.i64] a.A)))∧True)∧(¬n_6.toNat=n_6.toNat→Ob (InR .i64 (cell l1 n_6.toNat 2+n_8))∧Ob (n_6.toNat < l1.length∧((updL (El.fn (Rv.elemOf [.i64,.i64,.i64] l1)) n_6.toNat 0 [SV.i .i64 (cell l1 n_6.toNat 0+(n_8-prt n_8 n))]).at n_6.toNat).length=(3:Nat))∧Ob (InR .i64 (n_4+n_8))∧∃(a:DS),Ob (DlOk n n_1 n_2 n_3 rows n_4 n_5 n_6 n_7 n_8 a)∧Ob ((0:Int)=a.e)∧Ob (l1.length=rows.length∧∀(i:Nat),i < rows.length→(updL (updL (El.fn (Rv.elemOf [.i64,.i64,.i64] l1)) n_6.toNat 0 [SV.i .i64 (cell l1 n_6.toNat 0+(n_8-prt n_8 n))]) n_6.toNat 2 [SV.i .i64 (cell l1 n_6.toNat 2+n_8)]).at i=(El.fn (Rv.elemOf [.i64,.i64,.i64] a.A)).at i)∧Ob (n=n)∧Ob (n_1=n_1)∧Ob (n_2=n_2)∧Ob (n_3=n_3)∧Ob (l1.length=rows.length)∧Ob (n_4+n_8=a.t)∧Ob (Value.int .i64 (0:Int)=Value.int .i64 (0:Int))∧Ob (Value.int .i64 (0:Int)=Value.int .i64 (0:Int))∧Ob (Value.int .i64 (0:Int)=Value.int .i64 (0:Int))∧Ob (Value.int .i64 (0:Int)=Value.int .i64 (0:Int))∧Ob (SV.v (Value.slice none 0 0)=SV.v (Value.slice none 0 0))∧Ob (Value.int .i64 (0:Int)=Value.int .i64 (0:Int))∧Ob (PlainE rows.length (El.fn (Rv.elemOf [.i64,.i64,.i64] a.A)))∧True))∧(¬n_5=((1:Int),(74:FuncId)).fst→(n_5=((2:Int),(75:FuncId)).fst→Ob (InR .i64 (n_8*n_2))∧Ob ((0:Int)≤n_6∧n_6.toNat < l1.length)∧Ob (n_6.toNat < l1.length)∧(cell l1 n_6.toNat 0 < n_8*n_2→∃(a:DS),Ob (DlOk n n_1 n_2 n_3 rows n_4 n_5 n_6 n_7 n_8 a)∧Ob ((4:Int)=a.e)∧Ob (l1.length=rows.length∧∀(i:Nat),i < rows.length→(El.fn (Rv.elemOf [.i64,.i64,.i64] l1)).at i=(El.fn (Rv.elemOf [.i64,.i64,.i64] a.A)).at i)∧Ob (n=n)∧Ob (n_1=n_1)∧Ob (n_2=n_2)∧Ob (n_3=n_3)∧Ob (l1.length=rows.length)∧Ob (n_4=a.t)∧Ob (Value.int .i64 (0:Int)=Value.int .i64 (0:Int))∧Ob (Value.int .i64 (0:Int)=Value.int .i64 (0:Int))∧Ob (Value.int .i64 (0:Int)=Value.int .i64 (0:Int))∧Ob (Value.int .i64 (0:Int)=Value.int .i64 (0:Int))∧Ob (SV.v (Value.slice none 0 0)=SV.v (Value.slice none 0 0))∧Ob (Value.int .i64 (0:Int)=Value.int .i64 (0:Int))∧Ob (PlainE rows.length (El.fn (Rv.elemOf [.i64,.i64,.i64] a.A)))∧True)∧(¬cell l1 n_6.toNat 0 < n_8*n_2→Ob (n_6.toNat < l1.length)∧Ob (InR .i64 (cell l1 n_6.toNat 0-n_8*n_2))∧Ob (n_6.toNat < l1.length∧((El.fn (Rv.elemOf [.i64,.i64,.i64] l1)).at n_6.toNat).length=(3:Nat))∧∃(a:DS),Ob (DlOk n n_1 n_2 n_3 rows n_4 n_5 n_6 n_7 n_8 a)∧Ob ((0:Int)=a.e)∧Ob (l1.length=rows.length∧∀(i:Nat),i < rows.length→(updL (El.fn (Rv.elemOf [.i64,.i64,.i64] l1)) n_6.toNat 0 [SV.i .i64 (cell l1 n_6.toNat 0-n_8*n_2)]).at i=(El.fn (Rv.elemOf [.i64,.i64,.i64] a.A)).at i)∧Ob (n=n)∧Ob (n_1=n_1)∧Ob (n_2=n_2)∧Ob (n_3=n_3)∧Ob (l1.length=rows.length)∧Ob (n_4=a.t)∧Ob (Value.int .i64 (0:Int)=Value.int .i64 (0:Int))∧Ob (Value.int .i64 (0:Int)=Value.int .i64 (0:Int))∧Ob (Value.int .i64 (0:Int)=Value.int .i64 (0:Int))∧Ob (Value.int .i64 (0:Int)=Value.int .i64 (0:Int))∧Ob (SV.v (Value.slice none 0 0)=SV.v (Value.slice none 0 0))∧Ob (Value.int .i64 (0:Int)=Value.int .i64 (0:Int))∧Ob (PlainE rows.length (El.fn (Rv.elemOf [.i64,.i64,.i64] a.A)))∧True))∧(¬n_5=((2:Int),(75:FuncId)).fst→(n_5=((3:Int),(76:FuncId)).fst→Ob ((0:Int)≤n_6∧n_6.toNat < l1.length)∧Ob (n_6.toNat < l1.length)∧Ob (((0:Int)≤n_8∧n_8≤(1000000000:Int))∧(0:Int)≤n_1∧n_1≤(1000000:Int))∧Ob (InR .i64 (n_8+prt n_8 n_1))∧Ob (InR .i64 (cell l1 n_6.toNat 1+(n_8+prt n_8 n_1)))∧Ob (n_6.toNat < l1.length∧((El.fn (Rv.elemOf [.i64,.i64,.i64] l1)).at n_6.toNat).length=(3:Nat))∧Ob (n_6.toNat < l1.length)∧(n_6.toNat=n_6.toNat→(n_3 < cell l1 n_6.toNat 1+(n_8+prt n_8 n_1)→∃(a:DS),Ob (DlOk n n_1 n_2 n_3 rows n_4 n_5 n_6 n_7 n_8 a)∧Ob ((12:Int)=a.e)∧Ob (l1.length=rows.length∧∀(i:Nat),i < rows.length→(updL (El.fn (Rv.elemOf [.i64,.i64,.i64] l1)) n_6.toNat 1 [SV.i .i64 (cell l1 n_6.toNat 1+(n_8+prt n_8 n_1))]).at i=(El.fn (Rv.elemOf [.i64,.i64,.i64] a.A)).at i)∧Ob (n=n)∧Ob (n_1=n_1)∧Ob (n_2=n_2)∧Ob (n_3=n_3)∧Ob (l1.length=rows.length)∧Ob (n_4=a.t)∧Ob (Value.int .i64 (0:Int)=Value.int .i64 (0:Int))∧Ob (Value.int .i64 (0:Int)=Value.int .i64 (0:Int))∧Ob (Value.int .i64 (0:Int)=Value.int .i64 (0:Int))∧Ob (Value.int .i64 (0:Int)=Value.int .i64 (0:Int))∧Ob (SV.v (Value.slice none 0 0)=SV.v (Value.slice none 0 0))∧Ob (Value.int .i64 (0:Int)=Value.int .i64 (0:Int))∧Ob (PlainE rows.length (El.fn (Rv.elemOf [.i64,.i64,.i64] a.A)))∧True)∧(¬n_3 < cell l1 n_6.toNat 1+(n_8+prt n_8 n_1)→Ob (n_6.toNat < l1.length)∧(n_6.toNat=n_6.toNat→Ob (InR .i64 (cell l1 n_6.toNat 0+n_8))∧Ob (n_6.toNat < l1.length∧((updL (El.fn (Rv.elemOf [.i64,.i64,.i64] l1)) n_6.toNat 1 [SV.i .i64 (cell l1 n_6.toNat 1+(n_8+prt n_8 n_1))]).at n_6.toNat).length=(3:Nat))∧∃(a:DS),Ob (DlOk n n_1 n_2 n_3 rows n_4 n_5 n_6 n_7 n_8 a)∧Ob ((0:Int)=a.e)∧Ob (l1.length=rows.length∧∀(i:Nat),i < rows.length→(updL (updL (El.fn (Rv.elemOf [.i64,.i64,.i64] l1)) n_6.toNat 1 [SV.i .i64 (cell l1 n_6.toNat 1+(n_8+prt n_8 n_1))]) n_6.toNat 0 [SV.i .i64 (cell l1 n_6.toNat 0+n_8)]).at i=(El.fn (Rv.elemOf [.i64,.i64,.i64] a.A)).at i)∧Ob (n=n)∧Ob (n_1=n_1)∧Ob (n_2=n_2)∧Ob (n_3=n_3)∧Ob (l1.length=rows.length)∧Ob (n_4=a.t)∧Ob (Value.int .i64 (0:Int)=Value.int .i64 (0:Int))∧Ob (Value.int .i64 (0:Int)=Value.int .i64 (0:Int))∧Ob (Value.int .i64 (0:Int)=Value.int .i64 (0:Int))∧Ob (Value.int .i64 (0:Int)=Value.int .i64 (0:Int))∧Ob (SV.v (Value.slice none 0 0)=SV.v (Value.slice none 0 0))∧Ob (Value.int .i64 (0:Int)=Value.int .i64 (0:Int))∧Ob (PlainE rows.length (El.fn (Rv.elemOf [.i64,.i64,.i64] a.A)))∧True)∧(¬n_6.toNat=n_6.toNat→Ob (InR .i64 (cell l1 n_6.toNat 0+n_8))∧Ob (n_6.toNat < l1.length∧((updL (El.fn (Rv.elemOf [.i64,.i64,.i64] l1)) n_6.toNat 1 [SV.i .i64 (cell l1 n_6.toNat 1+(n_8+prt n_8 n_1))]).at n_6.toNat).length=(3:Nat))∧∃(a:DS),Ob (DlOk n n_1 n_2 n_3 rows n_4 n_5 n_6 n_7 n_8 a)∧Ob ((0:Int)=a.e)∧Ob (l1.length=rows.length∧∀(i:Nat),i < rows.length→(updL (updL (El.fn (Rv.elemOf [.i64,.i64,.i64] l1)) n_6.toNat 1 [SV.i .i64 (cell l1 n_6.toNat 1+(n_8+prt n_8 n_1))]) n_6.toNat 0 [SV.i .i64 (cell l1 n_6.toNat 0+n_8)]).at i=(El.fn (Rv.elemOf [.i64,.i64,.i64] a.A)).at i)∧Ob (n=n)∧Ob (n_1=n_1)∧Ob (n_2=n_2)∧Ob (n_3=n_3)∧Ob (l1.length=rows.length)∧Ob (n_4=a.t)∧Ob (Value.int .i64 (0:Int)=Value.int .i64 (0:Int))∧Ob (Value.int .i64 (0:Int)=Value.int .i64 (0:Int))∧Ob (Value.int .i64 (0:Int)=Value.int .i64 (0:Int))∧Ob (Value.int .i64 (0:Int)=Value.int .i64 (0:Int))∧Ob (SV.v (Value.slice none 0 0)=SV.v (Value.slice none 0 0))∧Ob (Value.int .i64 (0:Int)=Value.int .i64 (0:Int))∧Ob (PlainE rows.length (El.fn (Rv.elemOf [.i64,.i64,.i64] a.A)))∧True)))∧(¬n_6.toNat=n_6.toNat→(n_3 < cell l1 n_6.toNat 1→∃(a:DS),Ob (DlOk n n_1 n_2 n_3 rows n_4 n_5 n_6 n_7 n_8 a)∧Ob ((12:Int)=a.e)∧Ob (l1.length=rows.length∧∀(i:Nat),i < rows.length→(updL (El.fn (Rv.elemOf [.i64,.i64,.i64] l1)) n_6.toNat 1 [SV.i .i64 (cell l1 n_6.toNat 1+(n_8+prt n_8 n_1))]).at i=(El.fn (Rv.elemOf [.i64,.i64,.i64] a.A)).at i)∧Ob (n=n)∧Ob (n_1=n_1)∧Ob (n_2=n_2)∧Ob (n_3=n_3)∧Ob (l1.length=rows.length)∧Ob (n_4=a.t)∧Ob (Value.int .i64 (0:Int)=Value.int .i64 (0:Int))∧Ob (Value.int .i64 (0:Int)=Value.int .i64 (0:Int))∧Ob (Value.int .i64 (0:Int)=Value.int .i64 (0:Int))∧Ob (Value.int .i64 (0:Int)=Value.int .i64 (0:Int))∧Ob (SV.v (Value.slice none 0 0)=SV.v (Value.slice none 0 0))∧Ob (Value.int .i64 (0:Int)=Value.int .i64 (0:Int))∧Ob (PlainE rows.length (El.fn (Rv.elemOf [.i64,.i64,.i64] a.A)))∧True)∧(¬n_3 < cell l1 n_6.toNat 1→Ob (n_6.toNat < l1.length)∧(n_6.toNat=n_6.toNat→Ob (InR .i64 (cell l1 n_6.toNat 0+n_8))∧Ob (n_6.toNat < l1.length∧((updL (El.fn (Rv.elemOf [.i64,.i64,.i64] l1)) n_6.toNat 1 [SV.i .i64 (cell l1 n_6.toNat 1+(n_8+prt n_8 n_1))]).at n_6.toNat).length=(3:Nat))∧∃(a:DS),Ob (DlOk n n_1 n_2 n_3 rows n_4 n_5 n_6 n_7 n_8 a)∧Ob ((0:Int)=a.e)∧Ob (l1.length=rows.length∧∀(i:Nat),i < rows.length→(updL (updL (El.fn (Rv.elemOf [.i64,.i64,.i64] l1)) n_6.toNat 1 [SV.i .i64 (cell l1 n_6.toNat 1+(n_8+prt n_8 n_1))]) n_6.toNat 0 [SV.i .i64 (cell l1 n_6.toNat 0+n_8)]).at i=(El.fn (Rv.elemOf [.i64,.i64,.i64] a.A)).at i)∧Ob (n=n)∧Ob (n_1=n_1)∧Ob (n_2=n_2)∧Ob (n_3=n_3)∧Ob (l1.length=rows.length)∧Ob (n_4=a.t)∧Ob (Value.int .i64 (0:Int)=Value.int .i64 (0:Int))∧Ob (Value.int .i64 (0:Int)=Value.int .i64 (0:Int))∧Ob (Value.int .i64 (0:Int)=Value.int .i64 (0:Int))∧Ob (Value.int .i64 (0:Int)=Value.int .i64 (0:Int))∧Ob (SV.v (Value.slice none 0 0)=SV.v (Value.slice none 0 0))∧Ob (Value.int .i64 (0:Int)=Value.int .i64 (0:Int))∧Ob (PlainE rows.length (El.fn (Rv.elemOf [.i64,.i64,.i64] a.A)))∧True)∧(¬n_6.toNat=n_6.toNat→Ob (InR .i64 (cell l1 n_6.toNat 0+n_8))∧Ob (n_6.toNat < l1.length∧((updL (El.fn (Rv.elemOf [.i64,.i64,.i64] l1)) n_6.toNat 1 [SV.i .i64 (cell l1 n_6.toNat 1+(n_8+prt n_8 n_1))]).at n_6.toNat).length=(3:Nat))∧∃(a:DS),Ob (DlOk n n_1 n_2 n_3 rows n_4 n_5 n_6 n_7 n_8 a)∧Ob ((0:Int)=a.e)∧Ob (l1.length=rows.length∧∀(i:Nat),i < rows.length→(updL (updL (El.fn (Rv.elemOf [.i64,.i64,.i64] l1)) n_6.toNat 1 [SV.i .i64 (cell l1 n_6.toNat 1+(n_8+prt n_8 n_1))]) n_6.toNat 0 [SV.i .i64 (cell l1 n_6.toNat 0+n_8)]).at i=(El.fn (Rv.elemOf [.i64,.i64,.i64] a.A)).at i)∧Ob (n=n)∧Ob (n_1=n_1)∧Ob (n_2=n_2)∧Ob (n_3=n_3)∧Ob (l1.length=rows.length)∧Ob (n_4=a.t)∧Ob (Value.int .i64 (0:Int)=Value.int .i64 (0:Int))∧Ob (Value.int .i64 (0:Int)=Value.int .i64 (0:Int))∧Ob (Value.int .i64 (0:Int)=Value.int .i64 (0:Int))∧Ob (Value.int .i64 (0:Int)=Value.int .i64 (0:Int))∧Ob (SV.v (Value.slice none 0 0)=SV.v (Value.slice none 0 0))∧Ob (Value.int .i64 (0:Int)=Value.int .i64 (0:Int))∧Ob (PlainE rows.length (El.fn (Rv.elemOf [.i64,.i64,.i64] a.A)))∧True))))∧(¬n_5=((3:Int),(76:FuncId)).fst→(n_5=((4:Int),(77:FuncId)).fst→Ob ((0:Int)≤n_6∧n_6.toNat < l1.length)∧Ob (n_6.toNat < l1.length)∧(cell l1 n_6.toNat 1 < n_8→∃(a:DS),Ob (DlOk n n_1 n_2 n_3 rows n_4 n_5 n_6 n_7 n_8 a)∧Ob ((12:Int)=a.e)∧Ob (l1.length=rows.length∧∀(i:Nat),i < rows.length→(El.fn (Rv.elemOf [.i64,.i64,.i64] l1)).at i=(El.fn (Rv.elemOf [.i64,.i64,.i64] a.A)).at i)∧Ob (n=n)∧Ob (n_1=n_1)∧Ob (n_2=n_2)∧Ob (n_3=n_3)∧Ob (l1.length=rows.length)∧Ob (n_4=a.t)∧Ob (Value.int .i64 (0:Int)=Value.int .i64 (0:Int))∧Ob (Value.int .i64 (0:Int)=Value.int .i64 (0:Int))∧Ob (Value.int .i64 (0:Int)=Value.int .i64 (0:Int))∧Ob (Value.int .i64 (0:Int)=Value.int .i64 (0:Int))∧Ob (SV.v (Value.slice none 0 0)=SV.v (Value.slice none 0 0))∧Ob (Value.int .i64 (0:Int)=Value.int .i64 (0:Int))∧Ob (PlainE rows.length (El.fn (Rv.elemOf [.i64,.i64,.i64] a.A)))∧True)∧(¬cell l1 n_6.toNat 1 < n_8→Ob (n_6.toNat < l1.length)∧Ob (InR .i64 (cell l1 n_6.toNat 1-n_8))∧Ob (n_6.toNat < l1.length∧((El.fn (Rv.elemOf [.i64,.i64,.i64] l1)).at n_6.toNat).length=(3:Nat))∧Ob ((0:Int)≤n_6∧n_6.toNat < l1.length)∧Ob (n_6.toNat < l1.length)∧(n_6.toNat=n_6.toNat→(cell l1 n_6.toNat 0 < n_8→∃(a:DS),Ob (DlOk n n_1 n_2 n_3 rows n_4 n_5 n_6 n_7 n_8 a)∧Ob ((4:Int)=a.e)∧Ob (l1.length=rows.length∧∀(i:Nat),i < rows.length→(updL (El.fn (Rv.elemOf [.i64,.i64,.i64] l1)) n_6.toNat 1 [SV.i .i64 (cell l1 n_6.toNat 1-n_8)]).at i=(El.fn (Rv.elemOf [.i64,.i64,.i64] a.A)).at i)∧Ob (n=n)∧Ob (n_1=n_1)∧Ob (n_2=n_2)∧Ob (n_3=n_3)∧Ob (l1.length=rows.length)∧Ob (n_4=a.t)∧Ob (Value.int .i64 (0:Int)=Value.int .i64 (0:Int))∧Ob (Value.int .i64 (0:Int)=Value.int .i64 (0:Int))∧Ob (Value.int .i64 (0:Int)=Value.int .i64 (0:Int))∧Ob (Value.int .i64 (0:Int)=Value.int .i64 (0:Int))∧Ob (SV.v (Value.slice none 0 0)=SV.v (Value.slice none 0 0))∧Ob (Value.int .i64 (0:Int)=Value.int .i64 (0:Int))∧Ob (PlainE rows.length (El.fn (Rv.elemOf [.i64,.i64,.i64] a.A)))∧True)∧(¬cell l1 n_6.toNat 0 < n_8→Ob (n_6.toNat < l1.length)∧(n_6.toNat=n_6.toNat→Ob (InR .i64 (cell l1 n_6.toNat 0-n_8))∧Ob (n_6.toNat < l1.length∧((updL (El.fn (Rv.elemOf [.i64,.i64,.i64] l1)) n_6.toNat 1 [SV.i .i64 (cell l1 n_6.toNat 1-n_8)]).at n_6.toNat).length=(3:Nat))∧∃(a:DS),Ob (DlOk n n_1 n_2 n_3 rows n_4 n_5 n_6 n_7 n_8 a)∧Ob ((0:Int)=a.e)∧Ob (l1.length=rows.length∧∀(i:Nat),i < rows.length→(updL (updL (El.fn (Rv.elemOf [.i64,.i64,.i64] l1)) n_6.toNat 1 [SV.i .i64 (cell l1 n_6.toNat 1-n_8)]) n_6.toNat 0 [SV.i .i64 (cell l1 n_6.toNat 0-n_8)]).at i=(El.fn (Rv.elemOf [.i64,.i64,.i64] a.A)).at i)∧Ob (n=n)∧Ob (n_1=n_1)∧Ob (n_2=n_2)∧Ob (n_3=n_3)∧Ob (l1.length=rows.length)∧Ob (n_4=a.t)∧Ob (Value.int .i64 (0:Int)=Value.int .i64 (0:Int))∧Ob (Value.int .i64 (0:Int)=Value.int .i64 (0:Int))∧Ob (Value.int .i64 (0:Int)=Value.int .i64 (0:Int))∧Ob (Value.int .i64 (0:Int)=Value.int .i64 (0:Int))∧Ob (SV.v (Value.slice none 0 0)=SV.v (Value.slice none 0 0))∧Ob (Value.int .i64 (0:Int)=Value.int .i64 (0:Int))∧Ob (PlainE rows.length (El.fn (Rv.elemOf [.i64,.i64,.i64] a.A)))∧True)∧(¬n_6.toNat=n_6.toNat→Ob (InR .i64 (cell l1 n_6.toNat 0-n_8))∧Ob (n_6.toNat < l1.length∧((updL (El.fn (Rv.elemOf [.i64,.i64,.i64] l1)) n_6.toNat 1 [SV.i .i64 (cell l1 n_6.toNat 1-n_8)]).at n_6.toNat).length=(3:Nat))∧∃(a:DS),Ob (DlOk n n_1 n_2 n_3 rows n_4 n_5 n_6 n_7 n_8 a)∧Ob ((0:Int)=a.e)∧Ob (l1.length=rows.length∧∀(i:Nat),i < rows.length→(updL (updL (El.fn (Rv.elemOf [.i64,.i64,.i64] l1)) n_6.toNat 1 [SV.i .i64 (cell l1 n_6.toNat 1-n_8)]) n_6.toNat 0 [SV.i .i64 (cell l1 n_6.toNat 0-n_8)]).at i=(El.fn (Rv.elemOf [.i64,.i64,.i64] a.A)).at i)∧Ob (n=n)∧Ob (n_1=n_1)∧Ob (n_2=n_2)∧Ob (n_3=n_3)∧Ob (l1.length=rows.length)∧Ob (n_4=a.t)∧Ob (Value.int .i64 (0:Int)=Value.int .i64 (0:Int))∧Ob (Value.int .i64 (0:Int)=Value.int .i64 (0:Int))∧Ob (Value.int .i64 (0:Int)=Value.int .i64 (0:Int))∧Ob (Value.int .i64 (0:Int)=Value.int .i64 (0:Int))∧Ob (SV.v (Value.slice none 0 0)=SV.v (Value.slice none 0 0))∧Ob (Value.int .i64 (0:Int)=Value.int .i64 (0:Int))∧Ob (PlainE rows.length (El.fn (Rv.elemOf [.i64,.i64,.i64] a.A)))∧True)))∧(¬n_6.toNat=n_6.toNat→(cell l1 n_6.toNat 0 < n_8→∃(a:DS),Ob (DlOk n n_1 n_2 n_3 rows n_4 n_5 n_6 n_7 n_8 a)∧Ob ((4:Int)=a.e)∧Ob (l1.length=rows.length∧∀(i:Nat),i < rows.length→(updL (El.fn (Rv.elemOf [.i64,.i64,.i64] l1)) n_6.toNat 1 [SV.i .i64 (cell l1 n_6.toNat 1-n_8)]).at i=(El.fn (Rv.elemOf [.i64,.i64,.i64] a.A)).at i)∧Ob (n=n)∧Ob (n_1=n_1)∧Ob (n_2=n_2)∧Ob (n_3=n_3)∧Ob (l1.length=rows.length)∧Ob (n_4=a.t)∧Ob (Value.int .i64 (0:Int)=Value.int .i64 (0:Int))∧Ob (Value.int .i64 (0:Int)=Value.int .i64 (0:Int))∧Ob (Value.int .i64 (0:Int)=Value.int .i64 (0:Int))∧Ob (Value.int .i64 (0:Int)=Value.int .i64 (0:Int))∧Ob (SV.v (Value.slice none 0 0)=SV.v (Value.slice none 0 0))∧Ob (Value.int .i64 (0:Int)=Value.int .i64 (0:Int))∧Ob (PlainE rows.length (El.fn (Rv.elemOf [.i64,.i64,.i64] a.A)))∧True)∧(¬cell l1 n_6.toNat 0 < n_8→Ob (n_6.toNat < l1.length)∧(n_6.toNat=n_6.toNat→Ob (InR .i64 (cell l1 n_6.toNat 0-n_8))∧Ob (n_6.toNat < l1.length∧((updL (El.fn (Rv.elemOf [.i64,.i64,.i64] l1)) n_6.toNat 1 [SV.i .i64 (cell l1 n_6.toNat 1-n_8)]).at n_6.toNat).length=(3:Nat))∧∃(a:DS),Ob (DlOk n n_1 n_2 n_3 rows n_4 n_5 n_6 n_7 n_8 a)∧Ob ((0:Int)=a.e)∧Ob (l1.length=rows.length∧∀(i:Nat),i < rows.length→(updL (updL (El.fn (Rv.elemOf [.i64,.i64,.i64] l1)) n_6.toNat 1 [SV.i .i64 (cell l1 n_6.toNat 1-n_8)]) n_6.toNat 0 [SV.i .i64 (cell l1 n_6.toNat 0-n_8)]).at i=(El.fn (Rv.elemOf [.i64,.i64,.i64] a.A)).at i)∧Ob (n=n)∧Ob (n_1=n_1)∧Ob (n_2=n_2)∧Ob (n_3=n_3)∧Ob (l1.length=rows.length)∧Ob (n_4=a.t)∧Ob (Value.int .i64 (0:Int)=Value.int .i64 (0:Int))∧Ob (Value.int .i64 (0:Int)=Value.int .i64 (0:Int))∧Ob (Value.int .i64 (0:Int)=Value.int .i64 (0:Int))∧Ob (Value.int .i64 (0:Int)=Value.int .i64 (0:Int))∧Ob (SV.v (Value.slice none 0 0)=SV.v (Value.slice none 0 0))∧Ob (Value.int .i64 (0:Int)=Value.int .i64 (0:Int))∧Ob (PlainE rows.length (El.fn (Rv.elemOf [.i64,.i64,.i64] a.A)))∧True)∧(¬n_6.toNat=n_6.toNat→Ob (InR .i64 (cell l1 n_6.toNat 0-n_8))∧Ob (n_6.toNat < l1.length∧((updL (El.fn (Rv.elemOf [.i64,.i64,.i64] l1)) n_6.toNat 1 [SV.i .i64 (cell l1 n_6.toNat 1-n_8)]).at n_6.toNat).length=(3:Nat))∧∃(a:DS),Ob (DlOk n n_1 n_2 n_3 rows n_4 n_5 n_6 n_7 n_8 a)∧Ob ((0:Int)=a.e)∧Ob (l1.length=rows.length∧∀(i:Nat),i < rows.length→(updL (updL (El.fn (Rv.elemOf [.i64,.i64,.i64] l1)) n_6.toNat 1 [SV.i .i64 (cell l1 n_6.toNat 1-n_8)]) n_6.toNat 0 [SV.i .i64 (cell l1 n_6.toNat 0-n_8)]).at i=(El.fn (Rv.elemOf [.i64,.i64,.i64] a.A)).at i)∧Ob (n=n)∧Ob (n_1=n_1)∧Ob (n_2=n_2)∧Ob (n_3=n_3)∧Ob (l1.length=rows.length)∧Ob (n_4=a.t)∧Ob (Value.int .i64 (0:Int)=Value.int .i64 (0:Int))∧Ob (Value.int .i64 (0:Int)=Value.int .i64 (0:Int))∧Ob (Value.int .i64 (0:Int)=Value.int .i64 (0:Int))∧Ob (Value.int .i64 (0:Int)=Value.int .i64 (0:Int))∧Ob (SV.v (Value.slice none 0 0)=SV.v (Value.slice none 0 0))∧Ob (Value.int .i64 (0:Int)=Value.int .i64 (0:Int))∧Ob (PlainE rows.length (El.fn (Rv.elemOf [.i64,.i64,.i64] a.A)))∧True)))))∧(¬n_5=((4:Int),(77:FuncId)).fst→(n_5=((5:Int),(78:FuncId)).fst→(n_4 < n_8→∃(a:DS),Ob (DlOk n n_1 n_2 n_3 rows n_4 n_5 n_6 n_7 n_8 a)∧Ob ((4:Int)=a.e)∧Ob (l1.length=rows.length∧∀(i:Nat),i < rows.length→(El.fn (Rv.elemOf [.i64,.i64,.i64] l1)).at i=(El.fn (Rv.elemOf [.i64,.i64,.i64] a.A)).at i)∧Ob (n=n)∧Ob (n_1=n_1)∧Ob (n_2=n_2)∧Ob (n_3=n_3)∧Ob (l1.length=rows.length)∧Ob (n_4=a.t)∧Ob (Value.int .i64 (0:Int)=Value.int .i64 (0:Int))∧Ob (Value.int .i64 (0:Int)=Value.int .i64 (0:Int))∧Ob (Value.int .i64 (0:Int)=Value.int .i64 (0:Int))∧Ob (Value.int .i64 (0:Int)=Value.int .i64 (0:Int))∧Ob (SV.v (Value.slice none 0 0)=SV.v (Value.slice none 0 0))∧Ob (Value.int .i64 (0:Int)=Value.int .i64 (0:Int))∧Ob (PlainE rows.length (El.fn (Rv.elemOf [.i64,.i64,.i64] a.A)))∧True)∧(¬n_4 < n_8→Ob (InR .i64 (n_4-n_8))∧Ob ((0:Int)≤n_6∧n_6.toNat < l1.length)∧Ob (n_6.toNat < l1.length)∧(cell l1 n_6.toNat 0 < n_8→∃(a:DS),Ob (DlOk n n_1 n_2 n_3 rows n_4 n_5 n_6 n_7 n_8 a)∧Ob ((4:Int)=a.e)∧Ob (l1.length=rows.length∧∀(i:Nat),i < rows.length→(El.fn (Rv.elemOf [.i64,.i64,.i64] l1)).at i=(El.fn (Rv.elemOf [.i64,.i64,.i64] a.A)).at i)∧Ob (n=n)∧Ob (n_1=n_1)∧Ob (n_2=n_2)∧Ob (n_3=n_3)∧Ob (l1.length=rows.length)∧Ob (n_4-n_8=a.t)∧Ob (Value.int .i64 (0:Int)=Value.int .i64 (0:Int))∧Ob (Value.int .i64 (0:Int)=Value.int .i64 (0:Int))∧Ob (Value.int .i64 (0:Int)=Value.int .i64 (0:Int))∧Ob (Value.int .i64 (0:Int)=Value.int .i64 (0:Int))∧Ob (SV.v (Value.slice none 0 0)=SV.v (Value.slice none 0 0))∧Ob (Value.int .i64 (0:Int)=Value.int .i64 (0:Int))∧Ob (PlainE rows.length (El.fn (Rv.elemOf [.i64,.i64,.i64] a.A)))∧True)∧(¬cell l1 n_6.toNat 0 < n_8→Ob (n_6.toNat < l1.length)∧Ob (InR .i64 (cell l1 n_6.toNat 0-n_8))∧Ob (n_6.toNat < l1.length∧((El.fn (Rv.elemOf [.i64,.i64,.i64] l1)).at n_6.toNat).length=(3:Nat))∧∃(a:DS),Ob (DlOk n n_1 n_2 n_3 rows n_4 n_5 n_6 n_7 n_8 a)∧Ob ((0:Int)=a.e)∧Ob (l1.length=rows.length∧∀(i:Nat),i < rows.length→(updL (El.fn (Rv.elemOf [.i64,.i64,.i64] l1)) n_6.toNat 0 [SV.i .i64 (cell l1 n_6.toNat 0-n_8)]).at i=(El.fn (Rv.elemOf [.i64,.i64,.i64] a.A)).at i)∧Ob (n=n)∧Ob (n_1=n_1)∧Ob (n_2=n_2)∧Ob (n_3=n_3)∧Ob (l1.length=rows.length)∧Ob (n_4-n_8=a.t)∧Ob (Value.int .i64 (0:Int)=Value.int .i64 (0:Int))∧Ob (Value.int .i64 (0:Int)=Value.int .i64 (0:Int))∧Ob (Value.int .i64 (0:Int)=Value.int .i64 (0:Int))∧Ob (Value.int .i64 (0:Int)=Value.int .i64 (0:Int))∧Ob (SV.v (Value.slice none 0 0)=SV.v (Value.slice none 0 0))∧Ob (Value.int .i64 (0:Int)=Value.int .i64 (0:Int))∧Ob (PlainE rows.length (El.fn (Rv.elemOf [.i64,.i64,.i64] a.A)))∧True)))∧(¬n_5=((5:Int),(78:FuncId)).fst→(n_5=((6:Int),(79:FuncId)).fst→Ob ((0:Int)≤n_7∧n_7.toNat < l1.length)∧Ob (n_7.toNat < l1.length)∧Ob (InR .i64 (cell l1 n_7.toNat 0+n_8))∧Ob ((0:Int)≤n_7∧n_7.toNat < l1.length)∧Ob (n_7.toNat < l1.length∧((El.fn (Rv.elemOf [.i64,.i64,.i64] l1)).at n_7.toNat).length=(3:Nat))∧Ob ((0:Int)≤n_6∧n_6.toNat < l1.length)∧Ob (n_6.toNat < l1.length)∧(n_6.toNat=n_7.toNat→(cell l1 n_7.toNat 0+n_8 < n_8→∃(a:DS),Ob (DlOk n n_1 n_2 n_3 rows n_4 n_5 n_6 n_7 n_8 a)∧Ob ((4:Int)=a.e)∧Ob (l1.length=rows.length∧∀(i:Nat),i < rows.length→(updL (El.fn (Rv.elemOf [.i64,.i64,.i64] l1)) n_7.toNat 0 [SV.i .i64 (cell l1 n_7.toNat 0+n_8)]).at i=(El.fn (Rv.elemOf [.i64,.i64,.i64] a.A)).at i)∧Ob (n=n)∧Ob (n_1=n_1)∧Ob (n_2=n_2)∧Ob (n_3=n_3)∧Ob (l1.length=rows.length)∧Ob (n_4=a.t)∧Ob (Value.int .i64 (0:Int)=Value.int .i64 (0:Int))∧Ob (Value.int .i64 (0:Int)=Value.int .i64 (0:Int))∧Ob (Value.int .i64 (0:Int)=Value.int .i64 (0:Int))∧Ob (Value.int .i64 (0:Int)=Value.int .i64 (0:Int))∧Ob (SV.v (Value.slice none 0 0)=SV.v (Value.slice none 0 0))∧Ob (Value.int .i64 (0:Int)=Value.int .i64 (0:Int))∧Ob (PlainE rows.length (El.fn (Rv.elemOf [.i64,.i64,.i64] a.A)))∧True)∧(¬cell l1 n_7.toNat 0+n_8 < n_8→Ob (n_6.toNat < l1.length)∧(n_6.toNat=n_7.toNat→Ob (InR .i64 (cell l1 n_7.toNat 0+n_8-n_8))∧Ob (n_6.toNat < l1.length∧((updL (El.fn (Rv.elemOf [.i64,.i64,.i64] l1)) n_7.toNat 0 [SV.i .i64 (cell l1 n_7.toNat 0+n_8)]).at n_6.toNat).length=(3:Nat))∧∃(a:DS),Ob (DlOk n n_1 n_2 n_3 rows n_4 n_5 n_6 n_7 n_8 a)∧Ob ((0:Int)=a.e)∧Ob (l1.length=rows.length∧∀(i:Nat),i < rows.length→(updL (updL (El.fn (Rv.elemOf [.i64,.i64,.i64] l1)) n_7.toNat 0 [SV.i .i64 (cell l1 n_7.toNat 0+n_8)]) n_6.toNat 0 [SV.i .i64 (cell l1 n_7.toNat 0+n_8-n_8)]).at i=(El.fn (Rv.elemOf [.i64,.i64,.i64] a.A)).at i)∧Ob (n=n)∧Ob (n_1=n_1)∧Ob (n_2=n_2)∧Ob (n_3=n_3)∧Ob (l1.length=rows.length)∧Ob (n_4=a.t)∧Ob (Value.int .i64 (0:Int)=Value.int .i64 (0:Int))∧Ob (Value.int .i64 (0:Int)=Value.int .i64 (0:Int))∧Ob (Value.int .i64 (0:Int)=Value.int .i64 (0:Int))∧Ob (Value.int .i64 (0:Int)=Value.int .i64 (0:Int))∧Ob (SV.v (Value.slice none 0 0)=SV.v (Value.slice none 0 0))∧Ob (Value.int .i64 (0:Int)=Value.int .i64 (0:Int))∧Ob (PlainE rows.length (El.fn (Rv.elemOf [.i64,.i64,.i64] a.A)))∧True)∧(¬n_6.toNat=n_7.toNat→Ob (InR .i64 (cell l1 n_6.toNat 0-n_8))∧Ob (n_6.toNat < l1.length∧((updL (El.fn (Rv.elemOf [.i64,.i64,.i64] l1)) n_7.toNat 0 [SV.i .i64 (cell l1 n_7.toNat 0+n_8)]).at n_6.toNat).length=(3:Nat))∧∃(a:DS),Ob (DlOk n n_1 n_2 n_3 rows n_4 n_5 n_6 n_7 n_8 a)∧Ob ((0:Int)=a.e)∧Ob (l1.length=rows.length∧∀(i:Nat),i < rows.length→(updL (updL (El.fn (Rv.elemOf [.i64,.i64,.i64] l1)) n_7.toNat 0 [SV.i .i64 (cell l1 n_7.toNat 0+n_8)]) n_6.toNat 0 [SV.i .i64 (cell l1 n_6.toNat 0-n_8)]).at i=(El.fn (Rv.elemOf [.i64,.i64,.i64] a.A)).at i)∧Ob (n=n)∧Ob (n_1=n_1)∧Ob (n_2=n_2)∧Ob (n_3=n_3)∧Ob (l1.length=rows.length)∧Ob (n_4=a.t)∧Ob (Value.int .i64 (0:Int)=Value.int .i64 (0:Int))∧Ob (Value.int .i64 (0:Int)=Value.int .i64 (0:Int))∧Ob (Value.int .i64 (0:Int)=Value.int .i64 (0:Int))∧Ob (Value.int .i64 (0:Int)=Value.int .i64 (0:Int))∧Ob (SV.v (Value.slice none 0 0)=SV.v (Value.slice none 0 0))∧Ob (Value.int .i64 (0:Int)=Value.int .i64 (0:Int))∧Ob (PlainE rows.length (El.fn (Rv.elemOf [.i64,.i64,.i64] a.A)))∧True)))∧(¬n_6.toNat=n_7.toNat→(cell l1 n_6.toNat 0 < n_8→∃(a:DS),Ob (DlOk n n_1 n_2 n_3 rows n_4 n_5 n_6 n_7 n_8 a)∧Ob ((4:Int)=a.e)∧Ob (l1.length=rows.length∧∀(i:Nat),i < rows.length→(updL (El.fn (Rv.elemOf [.i64,.i64,.i64] l1)) n_7.toNat 0 [SV.i .i64 (cell l1 n_7.toNat 0+n_8)]).at i=(El.fn (Rv.elemOf [.i64,.i64,.i64] a.A)).at i)∧Ob (n=n)∧Ob (n_1=n_1)∧Ob (n_2=n_2)∧Ob (n_3=n_3)∧Ob (l1.length=rows.length)∧Ob (n_4=a.t)∧Ob (Value.int .i64 (0:Int)=Value.int .i64 (0:Int))∧Ob (Value.int .i64 (0:Int)=Value.int .i64 (0:Int))∧Ob (Value.int .i64 (0:Int)=Value.int .i64 (0:Int))∧Ob (Value.int .i64 (0:Int)=Value.int .i64 (0:Int))∧Ob (SV.v (Value.slice none 0 0)=SV.v (Value.slice none 0 0))∧Ob (Value.int .i64 (0:Int)=Value.int .i64 (0:Int))∧Ob (PlainE rows.length (El.fn (Rv.elemOf [.i64,.i64,.i64] a.A)))∧True)∧(¬cell l1 n_6.toNat 0 < n_8→Ob (n_6.toNat < l1.length)∧(n_6.toNat=n_7.toNat→Ob (InR .i64 (cell l1 n_7.toNat 0+n_8-n_8))∧Ob (n_6.toNat < l1.length∧((updL (El.fn (Rv.elemOf [.i64,.i64,.i64] l1)) n_7.toNat 0 [SV.i .i64 (cell l1 n_7.toNat 0+n_8)]).at n_6.toNat).length=(3:Nat))∧∃(a:DS),Ob (DlOk n n_1 n_2 n_3 rows n_4 n_5 n_6 n_7 n_8 a)∧Ob ((0:Int)=a.e)∧Ob (l1.length=rows.length∧∀(i:Nat),i < rows.length→(updL (updL (El.fn (Rv.elemOf [.i64,.i64,.i64] l1)) n_7.toNat 0 [SV.i .i64 (cell l1 n_7.toNat 0+n_8)]) n_6.toNat 0 [SV.i .i64 (cell l1 n_7.toNat 0+n_8-n_8)]).at i=(El.fn (Rv.elemOf [.i64,.i64,.i64] a.A)).at i)∧Ob (n=n)∧Ob (n_1=n_1)∧Ob (n_2=n_2)∧Ob (n_3=n_3)∧Ob (l1.length=rows.length)∧Ob (n_4=a.t)∧Ob (Value.int .i64 (0:Int)=Value.int .i64 (0:Int))∧Ob (Value.int .i64 (0:Int)=Value.int .i64 (0:Int))∧Ob (Value.int .i64 (0:Int)=Value.int .i64 (0:Int))∧Ob (Value.int .i64 (0:Int)=Value.int .i64 (0:Int))∧Ob (SV.v (Value.slice none 0 0)=SV.v (Value.slice none 0 0))∧Ob (Value.int .i64 (0:Int)=Value.int .i64 (0:Int))∧Ob (PlainE rows.length (El.fn (Rv.elemOf [.i64,.i64,.i64] a.A)))∧True)∧(¬n_6.toNat=n_7.toNat→Ob (InR .i64 (cell l1 n_6.toNat 0-n_8))∧Ob (n_6.toNat < l1.length∧((updL (El.fn (Rv.elemOf [.i64,.i64,.i64] l1)) n_7.toNat 0 [SV.i .i64 (cell l1 n_7.toNat 0+n_8)]).at n_6.toNat).length=(3:Nat))∧∃(a:DS),Ob (DlOk n n_1 n_2 n_3 rows n_4 n_5 n_6 n_7 n_8 a)∧Ob ((0:Int)=a.e)∧Ob (l1.length=rows.length∧∀(i:Nat),i < rows.length→(updL (updL (El.fn (Rv.elemOf [.i64,.i64,.i64] l1)) n_7.toNat 0 [SV.i .i64 (cell l1 n_7.toNat 0+n_8)]) n_6.toNat 0 [SV.i .i64 (cell l1 n_6.toNat 0-n_8)]).at i=(El.fn (Rv.elemOf [.i64,.i64,.i64] a.A)).at i)∧Ob (n=n)∧Ob (n_1=n_1)∧Ob (n_2=n_2)∧Ob (n_3=n_3)∧Ob (l1.length=rows.length)∧Ob (n_4=a.t)∧Ob (Value.int .i64 (0:Int)=Value.int .i64 (0:Int))∧Ob (Value.int .i64 (0:Int)=Value.int .i64 (0:Int))∧Ob (Value.int .i64 (0:Int)=Value.int .i64 (0:Int))∧Ob (Value.int .i64 (0:Int)=Value.int .i64 (0:Int))∧Ob (SV.v (Value.slice none 0 0)=SV.v (Value.slice none 0 0))∧Ob (Value.int .i64 (0:Int)=Value.int .i64 (0:Int))∧Ob (PlainE rows.length (El.fn (Rv.elemOf [.i64,.i64,.i64] a.A)))∧True))))∧(¬n_5=((6:Int),(79:FuncId)).fst→(n_5=((7:Int),(80:FuncId)).fst→∃(l2:List (List Int)),Ob (l1.length=l1.length∧l2.length=l1.length∧(∀r∈l2,r.length=3)∧∀(i:Nat),i < l1.length→(El.fn (Rv.elemOf [.i64,.i64,.i64] l1)).at i=Rv.elemOf [.i64,.i64,.i64] l2 i)∧Ob (F_surplus.pre ([Dat.z n,Dat.z n_1,Dat.z n_2,Dat.z n_3,Dat.l l2,Dat.z n_4]++[]))∧(surp l2 n_4 < n_8→∃(a:DS),Ob (DlOk n n_1 n_2 n_3 rows n_4 n_5 n_6 n_7 n_8 a)∧Ob ((12:Int)=a.e)∧Ob (l1.length=rows.length∧∀(i:Nat),i < rows.length→(El.fn (Rv.elemOf [.i64,.i64,.i64] l1)).at i=(El.fn (Rv.elemOf [.i64,.i64,.i64] a.A)).at i)∧Ob (n=n)∧Ob (n_1=n_1)∧Ob (n_2=n_2)∧Ob (n_3=n_3)∧Ob (l1.length=rows.length)∧Ob (n_4=a.t)∧Ob (Value.int .i64 (0:Int)=Value.int .i64 (0:Int))∧Ob (Value.int .i64 (0:Int)=Value.int .i64 (0:Int))∧Ob (Value.int .i64 (0:Int)=Value.int .i64 (0:Int))∧Ob (Value.int .i64 (0:Int)=Value.int .i64 (0:Int))∧Ob (SV.v (Value.slice none 0 0)=SV.v (Value.slice none 0 0))∧Ob (Value.int .i64 (0:Int)=Value.int .i64 (0:Int))∧Ob (PlainE rows.length (El.fn (Rv.elemOf [.i64,.i64,.i64] a.A)))∧True)∧(¬surp l2 n_4 < n_8→∃(l3:List (List Int)),Ob (l1.length=l1.length∧l3.length=l1.length∧(∀r∈l3,r.length=3)∧∀(i:Nat),i < l1.length→(El.fn (Rv.elemOf [.i64,.i64,.i64] l1)).at i=Rv.elemOf [.i64,.i64,.i64] l3 i)∧Ob (F_sharesC.pre ([Dat.z n,Dat.z n_1,Dat.z n_2,Dat.z n_3,Dat.l l3,Dat.z n_4]++[Dat.z n_8]))∧(C_sharesC ([Dat.z n,Dat.z n_1,Dat.z n_2,Dat.z n_3,Dat.l l3,Dat.z n_4]++[Dat.z n_8])→∃(a:DS),Ob (DlOk n n_1 n_2 n_3 rows n_4 n_5 n_6 n_7 n_8 a)∧Ob ((6:Int)=a.e)∧Ob (l1.length=rows.length∧∀(i:Nat),i < rows.length→(El.fn (Rv.elemOf [.i64,.i64,.i64] l1)).at i=(El.fn (Rv.elemOf [.i64,.i64,.i64] a.A)).at i)∧Ob (n=n)∧Ob (n_1=n_1)∧Ob (n_2=n_2)∧Ob (n_3=n_3)∧Ob (l1.length=rows.length)∧Ob (n_4=a.t)∧Ob (Value.int .i64 (0:Int)=Value.int .i64 (0:Int))∧Ob (Value.int .i64 (0:Int)=Value.int .i64 (0:Int))∧Ob (Value.int .i64 (0:Int)=Value.int .i64 (0:Int))∧Ob (Value.int .i64 (0:Int)=Value.int .i64 (0:Int))∧Ob (SV.v (Value.slice none 0 0)=SV.v (Value.slice none 0 0))∧Ob (Value.int .i64 (0:Int)=Value.int .i64 (0:Int))∧Ob (PlainE rows.length (El.fn (Rv.elemOf [.i64,.i64,.i64] a.A)))∧True)∧(¬C_sharesC ([Dat.z n,Dat.z n_1,Dat.z n_2,Dat.z n_3,Dat.l l3,Dat.z n_4]++[Dat.z n_8])→Ob (PlainE l3.length (El.fn fun(i:Nat)↦[SV.i .i64 (cS n_8 l3 i)]))∧(∃(a:Nat),Ob (a≤rows.length)∧Ob (Value.int .i64 (0:Int)=Value.int .i64 (0:Int))∧Ob (l3.length=rows.length)∧Ob ((↑l3.length:Int)=(↑rows.length:Int))∧Ob ((0:Int)=(↑a:Int))∧Ob (l3.length=rows.length∧∀(i:Nat),i < rows.length→(El.fn fun(i:Nat)↦[SV.i .i64 (cS n_8 l3 i)]).at i=(El.fn fun(i:Nat)↦[SV.i .i64 (cS n_8 rows i)]).at i)∧Ob (n=n)∧Ob (n_1=n_1)∧Ob (n_2=n_2)∧Ob (n_3=n_3)∧Ob (l1.length=rows.length)∧Ob (n_4=n_4)∧Ob (l1.length=rows.length∧∀(i:Nat),i < rows.length→(El.fn (Rv.elemOf [.i64,.i64,.i64] l1)).at i=(El.fn (Rv.elemOf [.i64,.i64,.i64] (bonK rows n_8 a))).at i)∧Ob (Value.int .i64 (0:Int)=Value.int .i64 (0:Int))∧Ob (Value.int .i64 (0:Int)=Value.int .i64 (0:Int))∧Ob (Value.int .i64 (0:Int)=Value.int .i64 (0:Int))∧Ob (Value.int .i64 (0:Int)=Value.int .i64 (0:Int))∧Ob (SV.v (Value.slice none 0 0)=SV.v (Value.slice none 0 0))∧Ob (Value.int .i64 (0:Int)=Value.int .i64 (0:Int))∧Ob (PlainE rows.length (El.fn fun(i:Nat)↦[SV.i .i64 (cS n_8 rows i)]))∧Ob (PlainE rows.length (El.fn (Rv.elemOf [.i64,.i64,.i64] (bonK rows n_8 a))))∧True)∧∀(a:Nat),a≤rows.length→∀(_ _ _ _ _ _ _ _ _ _ _ _ _ _ _ _ _ _ _ _ _ _ _ _ _ _ _ _ _ _ _ _ _ _ _ _ _ _ _ _ _ _ _ _ _ _ _ _ _ _ _ _:Value),((↑a:Int) < (↑rows.length:Int)→Ob ((0:Int)≤(↑a:Int)∧a < rows.length)∧Ob (a < rows.length)∧Ob ((0:Int)≤(↑a:Int)∧a < rows.length)∧Ob (a < rows.length)∧Ob (InR .i64 (cell (bonK rows n_8 a) a 0+cS n_8 rows a))∧Ob ((0:Int)≤(↑a:Int)∧a < rows.length)∧Ob (a < rows.length∧((El.fn (Rv.elemOf [.i64,.i64,.i64] (bonK rows n_8 a))).at a).length=(3:Nat))∧Ob ((0:Int)≤(↑a:Int)∧a < rows.length)∧Ob (a < rows.length∧((updL (El.fn (Rv.elemOf [.i64,.i64,.i64] (bonK rows n_8 a))) a 0 [SV.i .i64 (cell (bonK rows n_8 a) a 0+cS n_8 rows a)]).at a).length=(3:Nat))∧Ob (InR .i64 ((↑a:Int)+(1:Int)))∧∃(a':Nat),Ob (a'≤rows.length∧rows.length-a' < rows.length-a)∧Ob (Value.int .i64 (0:Int)=Value.int .i64 (0:Int))∧Ob (rows.length=rows.length)∧Ob ((↑rows.length:Int)=(↑rows.length:Int))∧Ob ((↑a:Int)+(1:Int)=(↑a':Int))∧Ob (rows.length=rows.length∧∀(i:Nat),i < rows.length→(El.fn fun(i:Nat)↦[SV.i .i64 (cS n_8 rows i)]).at i=(El.fn fun(i:Nat)↦[SV.i .i64 (cS n_8 rows i)]).at i)∧Ob (n=n)∧Ob (n_1=n_1)∧Ob (n_2=n_2)∧Ob (n_3=n_3)∧Ob (rows.length=rows.length)∧Ob (n_4=n_4)∧Ob (rows.length=rows.length∧∀(i:Nat),i < rows.length→(updL (updL (El.fn (Rv.elemOf [.i64,.i64,.i64] (bonK rows n_8 a))) a 0 [SV.i .i64 (cell (bonK rows n_8 a) a 0+cS n_8 rows a)]) a 2 [SV.i .i64 (0:Int)]).at i=(El.fn (Rv.elemOf [.i64,.i64,.i64] (bonK rows n_8 a'))).at i)∧Ob (Value.int .i64 (0:Int)=Value.int .i64 (0:Int))∧Ob (Value.int .i64 (0:Int)=Value.int .i64 (0:Int))∧Ob (Value.int .i64 (0:Int)=Value.int .i64 (0:Int))∧Ob (Value.int .i64 (0:Int)=Value.int .i64 (0:Int))∧Ob (SV.v (Value.slice none 0 0)=SV.v (Value.slice none 0 0))∧Ob (Value.int .i64 (0:Int)=Value.int .i64 (0:Int))∧Ob (PlainE rows.length (El.fn fun(i:Nat)↦[SV.i .i64 (cS n_8 rows i)]))∧Ob (PlainE rows.length (El.fn (Rv.elemOf [.i64,.i64,.i64] (bonK rows n_8 a'))))∧True)∧(¬(↑a:Int) < (↑rows.length:Int)→∃(a_1:DS),Ob (DlOk n n_1 n_2 n_3 rows n_4 n_5 n_6 n_7 n_8 a_1)∧Ob ((0:Int)=a_1.e)∧Ob (rows.length=rows.length∧∀(i:Nat),i < rows.length→(El.fn (Rv.elemOf [.i64,.i64,.i64] (bonK rows n_8 a))).at i=(El.fn (Rv.elemOf [.i64,.i64,.i64] a_1.A)).at i)∧Ob (n=n)∧Ob (n_1=n_1)∧Ob (n_2=n_2)∧Ob (n_3=n_3)∧Ob (rows.length=rows.length)∧Ob (n_4=a_1.t)∧Ob (Value.int .i64 (0:Int)=Value.int .i64 (0:Int))∧Ob (Value.int .i64 (0:Int)=Value.int .i64 (0:Int))∧Ob (Value.int .i64 (0:Int)=Value.int .i64 (0:Int))∧Ob (Value.int .i64 (0:Int)=Value.int .i64 (0:Int))∧Ob (SV.v (Value.slice none 0 0)=SV.v (Value.slice none 0 0))∧Ob (Value.int .i64 (0:Int)=Value.int .i64 (0:Int))∧Ob (PlainE rows.length (El.fn (Rv.elemOf [.i64,.i64,.i64] a_1.A)))∧True))))∧(¬n_5=((7:Int),(80:FuncId)).fst→(n_5=((8:Int),(81:FuncId)).fst→(n_4 < n_8→∃(a:DS),Ob (DlOk n n_1 n_2 n_3 rows n_4 n_5 n_6 n_7 n_8 a)∧Ob ((4:Int)=a.e)∧Ob (l1.length=rows.length∧∀(i:Nat),i < rows.length→(El.fn (Rv.elemOf [.i64,.i64,.i64] l1)).at i=(El.fn (Rv.elemOf [.i64,.i64,.i64] a.A)).at i)∧Ob (n=n)∧Ob (n_1=n_1)∧Ob (n_2=n_2)∧Ob (n_3=n_3)∧Ob (l1.length=rows.length)∧Ob (n_4=a.t)∧Ob (Value.int .i64 (0:Int)=Value.int .i64 (0:Int))∧Ob (Value.int .i64 (0:Int)=Value.int .i64 (0:Int))∧Ob (Value.int .i64 (0:Int)=Value.int .i64 (0:Int))∧Ob (Value.int .i64 (0:Int)=Value.int .i64 (0:Int))∧Ob (SV.v (Value.slice none 0 0)=SV.v (Value.slice none 0 0))∧Ob (Value.int .i64 (0:Int)=Value.int .i64 (0:Int))∧Ob (PlainE rows.length (El.fn (Rv.elemOf [.i64,.i64,.i64] a.A)))∧True)∧(¬n_4 < n_8→∃(l2:List (List Int)),Ob (l1.length=l1.length∧l2.length=l1.length∧(∀r∈l2,r.length=3)∧∀(i:Nat),i < l1.length→(El.fn (Rv.elemOf [.i64,.i64,.i64] l1)).at i=Rv.elemOf [.i64,.i64,.i64] l2 i)∧Ob (F_surplus.pre ([Dat.z n,Dat.z n_1,Dat.z n_2,Dat.z n_3,Dat.l l2,Dat.z n_4]++[]))∧(surp l2 n_4 < n_8→∃(a:DS),Ob (DlOk n n_1 n_2 n_3 rows n_4 n_5 n_6 n_7 n_8 a)∧Ob ((12:Int)=a.e)∧Ob (l1.length=rows.length∧∀(i:Nat),i < rows.length→(El.fn (Rv.elemOf [.i64,.i64,.i64] l1)).at i=(El.fn (Rv.elemOf [.i64,.i64,.i64] a.A)).at i)∧Ob (n=n)∧Ob (n_1=n_1)∧Ob (n_2=n_2)∧Ob (n_3=n_3)∧Ob (l1.length=rows.length)∧Ob (n_4=a.t)∧Ob (Value.int .i64 (0:Int)=Value.int .i64 (0:Int))∧Ob (Value.int .i64 (0:Int)=Value.int .i64 (0:Int))∧Ob (Value.int .i64 (0:Int)=Value.int .i64 (0:Int))∧Ob (Value.int .i64 (0:Int)=Value.int .i64 (0:Int))∧Ob (SV.v (Value.slice none 0 0)=SV.v (Value.slice none 0 0))∧Ob (Value.int .i64 (0:Int)=Value.int .i64 (0:Int))∧Ob (PlainE rows.length (El.fn (Rv.elemOf [.i64,.i64,.i64] a.A)))∧True)∧(¬surp l2 n_4 < n_8→Ob (InR .i64 (n_4-n_8))∧∃(a:DS),Ob (DlOk n n_1 n_2 n_3 rows n_4 n_5 n_6 n_7 n_8 a)∧Ob ((0:Int)=a.e)∧Ob (l1.length=rows.length∧∀(i:Nat),i < rows.length→(El.fn (Rv.elemOf [.i64,.i64,.i64] l1)).at i=(El.fn (Rv.elemOf [.i64,.i64,.i64] a.A)).at i)∧Ob (n=n)∧Ob (n_1=n_1)∧Ob (n_2=n_2)∧Ob (n_3=n_3)∧Ob (l1.length=rows.length)∧Ob (n_4-n_8=a.t)∧Ob (Value.int .i64 (0:Int)=Value.int .i64 (0:Int))∧Ob (Value.int .i64 (0:Int)=Value.int .i64 (0:Int))∧Ob (Value.int .i64 (0:Int)=Value.int .i64 (0:Int))∧Ob (Value.int .i64 (0:Int)=Value.int .i64 (0:Int))∧Ob (SV.v (Value.slice none 0 0)=SV.v (Value.slice none 0 0))∧Ob (Value.int .i64 (0:Int)=Value.int .i64 (0:Int))∧Ob (PlainE rows.length (El.fn (Rv.elemOf [.i64,.i64,.i64] a.A)))∧True)))∧(¬n_5=((8:Int),(81:FuncId)).fst→False)))))))))∧∀(a:DS),DlOk n n_1 n_2 n_3 rows n_4 n_5 n_6 n_7 n_8 a→∀(_ _ _ _ _ _ _ _ _ _ _ _ _ _ _ _ _ _ _ _ _ _ _ _ _ _ _ _ _ _ _ _ _ _ _ _ _:Value),(¬a.e=(0:Int)→Ob (C_after ([Dat.z n,Dat.z n_1,Dat.z n_2,Dat.z n_3,Dat.l rows,Dat.z n_4]++([Dat.z n_5,Dat.z n_6,Dat.z n_7,Dat.z n_8]++[])))∧Ob (Value.int .i64 (0:Int)=Value.int .i64 (0:Int))∧Ob (Value.int .i64 (0:Int)=Value.int .i64 (0:Int))∧Ob (Value.int .i64 (0:Int)=Value.int .i64 (0:Int))∧Ob (Value.int .i64 (0:Int)=Value.int .i64 (0:Int))∧Ob (SV.v (Value.slice none 0 0)=SV.v (Value.slice none 0 0))∧Ob (Value.int .i64 (0:Int)=Value.int .i64 (0:Int))∧Ob (a.e=afE n n_1 n_2 n_3 rows n_4 n_5 n_6 n_7 n_8)∧True)∧(¬¬a.e=(0:Int)→∃(l2:List (List Int)),Ob (rows.length=rows.length∧l2.length=rows.length∧(∀r∈l2,r.length=3)∧∀(i:Nat),i < rows.length→(El.fn (Rv.elemOf [.i64,.i64,.i64] a.A)).at i=Rv.elemOf [.i64,.i64,.i64] l2 i)∧Ob (F_isFull.pre ([Dat.z n,Dat.z n_1,Dat.z n_2,Dat.z n_3,Dat.l l2,Dat.z a.t]++[]))∧(fullC l2 a.t→Ob (C_after ([Dat.z n,Dat.z n_1,Dat.z n_2,Dat.z n_3,Dat.l rows,Dat.z n_4]++([Dat.z n_5,Dat.z n_6,Dat.z n_7,Dat.z n_8]++[])))∧Ob (Value.int .i64 (0:Int)=Value.int .i64 (0:Int))∧Ob (Value.int .i64 (0:Int)=Value.int .i64 (0:Int))∧Ob (Value.int .i64 (0:Int)=Value.int .i64 (0:Int))∧Ob (Value.int .i64 (0:Int)=Value.int .i64 (0:Int))∧Ob (SV.v (Value.slice none 0 0)=SV.v (Value.slice none 0 0))∧Ob (Value.int .i64 (0:Int)=Value.int .i64 (0:Int))∧Ob ((5:Int)=afE n n_1 n_2 n_3 rows n_4 n_5 n_6 n_7 n_8)∧True)∧(¬fullC l2 a.t→Ob ¬C_after ([Dat.z n,Dat.z n_1,Dat.z n_2,Dat.z n_3,Dat.l rows,Dat.z n_4]++([Dat.z n_5,Dat.z n_6,Dat.z n_7,Dat.z n_8]++[]))∧Ob (n=n)∧Ob (n_1=n_1)∧Ob (n_2=n_2)∧Ob (n_3=n_3)∧Ob (rows.length=rows.length)∧Ob (a.t=dT n_4 n_5 n_8)∧Ob ((0:Int)=(0:Int))∧Ob (rows.length=rows.length∧∀(i:Nat),i < rows.length→(El.fn (Rv.elemOf [.i64,.i64,.i64] a.A)).at i=(El.fn (Rv.elemOf [.i64,.i64,.i64] (dA n n_1 n_2 n_3 rows n_4 n_5 n_6 n_7 n_8))).at i)∧Ob (PlainE rows.length (El.fn (Rv.elemOf [.i64,.i64,.i64] (dA n n_1 n_2 n_3 rows n_4 n_5 n_6 n_7 n_8))))∧True)))
set_option linter.unusedSimpArgs false in
set_option maxRecDepth 4000 in
set_option maxHeartbeats 2000000 in
theorem v_after:V_after:=by
 unfold V_after
 intro B fee itr pri cre x A hx hox hrx till dk dm dO dq hpre
 have hpre:coopErr fee itr pri cre A till=0:=hpre
 have hv:=coop_ok hpre
 have hl:=hv.l
 have hlen:A.length≤100:=by omega
 simp only [Ob_iff,eq_self,and_true,true_and,InR,true_implies,not_true_eq_false,false_implies,Classical.not_not]
 refine⟨hx,⟨by omega,by omega⟩,fun h=>?_,fun h=>⟨A,⟨hx,rfl,hrx,fun _ _=>rfl⟩,⟨by omega,by omega⟩,?_,?_⟩⟩
 ·have e:=afE_chk (fee:=fee) (itr:=itr) (pri:=pri) (cre:=cre) (till:=till) h
  exact⟨show afE fee itr pri cre A till dk dm dO dq≠0 by rw [e]; exact h,e.symm⟩
 ·simp only [eq_self,true_and,and_true]
  obtain⟨hk,hm,hq,ho⟩:=dchk_ok (by omega) h
  have hm1:dm.toNat < A.length:=by omega
  have am:=hv.a dm.toNat hm1
  unfold accAt mny at am
  have ht:=hv.t
  unfold mny at ht
  have hrt:=hv.r
  unfold mny at hrt
  have pf:=prt_in (q:=dq) (p:=fee) (by omega) hrt.1
  have pi:=prt_in (q:=dq) (p:=itr) (by omega) hrt.2.1
  have hqp:0≤dq*pri∧dq*pri≤1000000000000:=by
   have h3:0≤dq*pri:=Int.mul_nonneg (by omega) hrt.2.2.1.1
   have h4:dq*pri≤dq*1000:=Int.mul_le_mul_of_nonneg_left hrt.2.2.1.2 (by omega)
   omega
  refine⟨fun h1=>?_,fun g1=>⟨fun h1=>?_,fun g2=>⟨fun h1=>?_,fun g3=>⟨fun h1=>?_,fun g4=>⟨fun h1=>?_,fun g5=>⟨fun h1=>?_,fun g6=>⟨fun h1=>?_,fun g7=>⟨fun h1=>?_,fun g8=>?_⟩⟩⟩⟩⟩⟩⟩⟩
  ·have h1:dk=1:=h1
   subst h1
   refine⟨⟨hm.1,hm1⟩,hm1,⟨by omega,by omega⟩,by omega,by omega,⟨hm1,rfl⟩,hm1,by omega,⟨hm1,by simp [updL,El.at,el3]⟩,by omega,⟨0,_,_⟩,DlOk.fin rfl,rfl,fun i hi=>?_,rfl,plain_elemOf _ _ _⟩
   show _=Rv.elemOf _ (dA _ _ _ _ _ _ _ _ _ _) i
   rw [dA_at _ _ _ _ _ _ _ _ _ _ hi]
   by_cases e:i=dm.toNat<;>simp [updL,El.at,el3,dB,dD,dS,e]
  ·have h1:dk=2:=h1
   subst h1
   refine⟨by omega,⟨hm.1,hm1⟩,hm1,fun h2=>⟨⟨4,A,till⟩,DlOk.err (by simp [dE,h2]) (by omega) rfl hrx,rfl,fun i hi=>rfl,rfl,plain_elemOf _ _ _⟩,fun h2=>⟨hm1,by omega,⟨hm1,rfl⟩,⟨0,_,_⟩,DlOk.fin (by simp [dE]; omega),rfl,fun i hi=>?_,rfl,plain_elemOf _ _ _⟩⟩
   show _=Rv.elemOf _ (dA _ _ _ _ _ _ _ _ _ _) i
   rw [dA_at _ _ _ _ _ _ _ _ _ _ hi]
   by_cases e:i=dm.toNat<;>simp [updL,El.at,el3,dB,dD,dS,e]
  ·have h1:dk=3:=h1
   subst h1
   refine⟨⟨hm.1,hm1⟩,hm1,⟨by omega,by omega⟩,by omega,by omega,⟨hm1,rfl⟩,hm1,fun h2=>⟨⟨12,rows3 (fun i=>cell A i 0) (dD itr A 3 dm dq) (fun i=>cell A i 2) A.length,till⟩,DlOk.err (by simp [dE,h2]) (by omega) (rows3_len _ _ _ _) (rows3_row _ _ _ _),rfl,fun i hi=>?_,rfl,plain_elemOf _ _ _⟩,fun h2=>⟨hm1,by omega,⟨hm1,by simp [updL,El.at,el3]⟩,⟨0,_,_⟩,DlOk.fin (by simp [dE]; omega),rfl,fun i hi=>?_,rfl,plain_elemOf _ _ _⟩⟩
   ·show _=Rv.elemOf _ (rows3 _ _ _ _) i
    rw [rows3_at _ _ _ hi]
    by_cases e:i=dm.toNat<;>simp [updL,El.at,el3,dD,e]
   ·show _=Rv.elemOf _ (dA _ _ _ _ _ _ _ _ _ _) i
    rw [dA_at _ _ _ _ _ _ _ _ _ _ hi]
    by_cases e:i=dm.toNat<;>simp [updL,El.at,el3,dB,dD,dS,e]
  ·have h1:dk=4:=h1
   subst h1
   refine⟨⟨hm.1,hm1⟩,hm1,fun h2=>⟨⟨12,A,till⟩,DlOk.err (by simp [dE,h2]) (by omega) rfl hrx,rfl,fun i hi=>rfl,rfl,plain_elemOf _ _ _⟩,fun h2=>⟨hm1,by omega,⟨hm1,rfl⟩,⟨hm.1,hm1⟩,hm1,fun h3=>⟨⟨4,rows3 (fun i=>cell A i 0) (dD itr A 4 dm dq) (fun i=>cell A i 2) A.length,till⟩,DlOk.err (by simp [dE,h2,h3]) (by omega) (rows3_len _ _ _ _) (rows3_row _ _ _ _),rfl,fun i hi=>?_,rfl,plain_elemOf _ _ _⟩,fun h3=>⟨hm1,by omega,⟨hm1,by simp [updL,El.at,el3]⟩,⟨0,_,_⟩,DlOk.fin (by simp [dE]; omega),rfl,fun i hi=>?_,rfl,plain_elemOf _ _ _⟩⟩⟩
   ·show _=Rv.elemOf _ (rows3 _ _ _ _) i
    rw [rows3_at _ _ _ hi]
    by_cases e:i=dm.toNat<;>simp [updL,El.at,el3,dD,e]
   ·show _=Rv.elemOf _ (dA _ _ _ _ _ _ _ _ _ _) i
    rw [dA_at _ _ _ _ _ _ _ _ _ _ hi]
    by_cases e:i=dm.toNat<;>simp [updL,El.at,el3,dB,dD,dS,e]
  ·have h1:dk=5:=h1
   subst h1
   refine⟨fun h2=>⟨⟨4,A,till⟩,DlOk.err (by simp [dE,h2]) (by omega) rfl hrx,rfl,fun i hi=>rfl,rfl,plain_elemOf _ _ _⟩,fun h2=>⟨by omega,⟨hm.1,hm1⟩,hm1,fun h3=>⟨⟨4,A,till-dq⟩,DlOk.err (by simp [dE,h2,h3]) (by omega) rfl hrx,rfl,fun i hi=>rfl,rfl,plain_elemOf _ _ _⟩,fun h3=>⟨hm1,by omega,⟨hm1,rfl⟩,⟨0,_,_⟩,DlOk.fin (by simp [dE]; omega),rfl,fun i hi=>?_,rfl,plain_elemOf _ _ _⟩⟩⟩
   show _=Rv.elemOf _ (dA _ _ _ _ _ _ _ _ _ _) i
   rw [dA_at _ _ _ _ _ _ _ _ _ _ hi]
   by_cases e:i=dm.toNat<;>simp [updL,El.at,el3,dB,dD,dS,e]
  ·have h1:dk=6:=h1
   subst h1
   obtain⟨ho1,ho2⟩:=ho rfl
   have ho3:dO.toNat < A.length:=by omega
   have ne:¬ dm.toNat=dO.toNat:=by omega
   have ao:=hv.a dO.toNat ho3
   unfold accAt mny at ao
   simp only [ne,false_implies,true_and,not_false_eq_true,true_implies]
   refine⟨⟨ho1.1,ho3⟩,ho3,by omega,⟨ho1.1,ho3⟩,⟨ho3,rfl⟩,⟨hm.1,hm1⟩,hm1,fun h3=>⟨⟨4,rows3 (fun i=>if i=dO.toNat then cell A i 0+dq else cell A i 0) (fun i=>cell A i 1) (fun i=>cell A i 2) A.length,till⟩,DlOk.err (by simp [dE,h3]) (by omega) (rows3_len _ _ _ _) (rows3_row _ _ _ _),rfl,fun i hi=>?_,rfl,plain_elemOf _ _ _⟩,fun h3=>⟨hm1,by omega,⟨hm1,by simp [updL,El.at,el3,ne]⟩,⟨0,_,_⟩,DlOk.fin (by simp [dE]; omega),rfl,fun i hi=>?_,rfl,plain_elemOf _ _ _⟩⟩
   ·show _=Rv.elemOf _ (rows3 _ _ _ _) i
    rw [rows3_at _ _ _ hi]
    by_cases e:i=dO.toNat<;>simp [updL,El.at,el3,e]
   ·show _=Rv.elemOf _ (dA _ _ _ _ _ _ _ _ _ _) i
    rw [dA_at _ _ _ _ _ _ _ _ _ _ hi]
    by_cases e:i=dm.toNat
    ·subst e
     simp [updL,El.at,el3,dB,dD,dS,ne]
    ·have e3:¬ dO.toNat=dm.toNat:=fun h=>ne h.symm
     by_cases e2:i=dO.toNat
     ·simp [updL,El.at,el3,dB,dD,dS,e2,e3]
     ·simp [updL,El.at,el3,dB,dD,dS,e,e2]
  ·have h1:dk=7:=h1
   subst h1
   refine⟨A,⟨rfl,hrx,fun i hi=>rfl⟩,hv.small,fun h2=>⟨⟨12,A,till⟩,DlOk.err (by simp [dE,h2]) (by omega) rfl hrx,rfl,fun i hi=>rfl,rfl,plain_elemOf _ _ _⟩,fun h2=>⟨A,⟨rfl,hrx,fun i hi=>rfl⟩,⟨hpre,by unfold mny; omega⟩,fun h3=>?_,fun h3=>?_⟩⟩
   ·have h3:idl A:=h3
    exact⟨⟨6,A,till⟩,DlOk.err (by simp [dE,h2,h3]) (by omega) rfl hrx,rfl,fun i hi=>rfl,rfl,plain_elemOf _ _ _⟩
   ·have h3:¬ idl A:=h3
    have sh:=hv.shr (d:=dq) (by unfold mny; omega) h3
    refine⟨plain_fnD _ _,⟨0,Nat.zero_le _,rfl,rfl,rfl,⟨rfl,fun i hi=>rfl⟩,fun i hi=>?_,plain_fnD _ _,plain_elemOf _ _ _⟩,?_⟩
    ·show _=Rv.elemOf _ (rows3 _ _ _ _) i
     rw [rows3_at _ _ _ hi]
     simp [el3,El.at]
    intro k hk
    intros
    refine⟨fun h4=>?_,fun h4=>?_⟩
    ·have hk:k < A.length:=by omega
     have ak:=hv.a k hk
     unfold accAt mny at ak
     have sk:=cS_in sh hk
     rw [bonK_0 hk,if_neg (Nat.lt_irrefl _)]
     refine⟨⟨by omega,hk⟩,hk,⟨by omega,hk⟩,hk,by omega,⟨by omega,hk⟩,⟨hk,rfl⟩,⟨by omega,hk⟩,⟨hk,by simp [updL,El.at,el3]⟩,by omega,k+1,⟨hk,by omega⟩,by omega,fun i hi=>trivial,fun i hi=>?_,plain_fnD _ _,plain_elemOf _ _ _⟩
     show _=Rv.elemOf _ (rows3 _ _ _ _) i
     rw [rows3_at _ _ _ hi]
     have e1:Rv.elemOf [.i64,.i64,.i64] (bonK A dq k) i=_:=rows3_at _ _ _ hi
     by_cases e:i=k
     ·subst e
      simp [updL,El.at,e1]
     ·have e2:(i < k+1)=(i < k):=by apply propext; omega
      simp [updL,El.at,e1,e,e2]
    ·have ek:k=A.length:=by omega
     subst ek
     refine⟨⟨0,_,_⟩,DlOk.fin (by simp [dE,h2,h3]),rfl,fun i hi=>?_,rfl,plain_elemOf _ _ _⟩
     show _=Rv.elemOf _ (dA _ _ _ _ _ _ _ _ _ _) i
     rw [dA_at _ _ _ _ _ _ _ _ _ _ hi]
     have e1:Rv.elemOf [.i64,.i64,.i64] (bonK A dq A.length) i=_:=rows3_at _ _ _ hi
     simp [El.at,e1,hi,dB,dD,dS]
  ·have h1:dk=8:=h1
   subst h1
   refine⟨fun h2=>⟨⟨4,A,till⟩,DlOk.err (by simp [dE,h2]) (by omega) rfl hrx,rfl,fun i hi=>rfl,rfl,plain_elemOf _ _ _⟩,fun h2=>⟨A,⟨rfl,hrx,fun i hi=>rfl⟩,hv.small,fun h3=>⟨⟨12,A,till⟩,DlOk.err (by simp [dE,h2,h3]) (by omega) rfl hrx,rfl,fun i hi=>rfl,rfl,plain_elemOf _ _ _⟩,fun h3=>⟨by omega,⟨0,_,_⟩,DlOk.fin (by simp [dE]; omega),rfl,fun i hi=>?_,rfl,plain_elemOf _ _ _⟩⟩⟩
   show _=Rv.elemOf _ (dA _ _ _ _ _ _ _ _ _ _) i
   rw [dA_at _ _ _ _ _ _ _ _ _ _ hi]
   simp [El.at,el3,dB,dD,dS]
  ·have g1:¬ dk=1:=g1
   have g2:¬ dk=2:=g2
   have g3:¬ dk=3:=g3
   have g4:¬ dk=4:=g4
   have g5:¬ dk=5:=g5
   have g6:¬ dk=6:=g6
   have g7:¬ dk=7:=g7
   have g8:¬ dk=8:=g8
   omega
 ·intro v hvv
  intros
  refine⟨fun h2=>?_,fun h2=>⟨v.A,⟨hvv.l,hvv.r,fun i hi=>rfl⟩,⟨by rw [hvv.l]; omega,by rw [hvv.l]; omega⟩,fun h3=>?_,fun h3=>?_⟩⟩
  ·have e:=afE_do h (hvv.e ▸ h2)
   exact⟨show afE fee itr pri cre A till dk dm dO dq≠0 by rw [e]; exact hvv.e ▸ h2,by rw [e]; exact hvv.e⟩
  ·obtain⟨d1,d2⟩:=hvv.d h2
   rw [d1,d2]at h3
   have e:=afE_ful h (hvv.e ▸ h2)
   rw [if_pos h3]at e
   exact⟨show afE fee itr pri cre A till dk dm dO dq≠0 by rw [e]; omega,e.symm⟩
  ·obtain⟨d1,d2⟩:=hvv.d h2
   have h3':=h3
   rw [d1,d2]at h3
   have e:=afE_ful h (hvv.e ▸ h2)
   rw [if_neg h3]at e
   exact⟨fun hh=>absurd e (show afE fee itr pri cre A till dk dm dO dq≠0 from hh),d2,fun i hi=>by rw [d1],plain_elemOf _ _ _⟩
theorem e_after:V_after=needEI P [F_checkDeal,F_partUp] [F_cloneA,F_deeds,F_surplus,F_sharesC,F_isFull] I_after A_after F_after:=by kernel_rfl
theorem n_after:Ob (needEI P [F_checkDeal,F_partUp] [F_cloneA,F_deeds,F_surplus,F_sharesC,F_isFull] I_after A_after F_after):=by
 rw [← e_after]
 exact⟨v_after⟩
theorem b_after:((P.funcs[37]?).any fun fn=>fn.body.isSome)=true:=by kernel_rfl
theorem after_ok:FnE.Ok P F_after:=FnE.okI named (l:=[F_checkDeal,F_partUp]) (es:=[F_cloneA,F_deeds,F_surplus,F_sharesC,F_isFull]) (I:=I_after) (A:=A_after) (by rfl) (by rfl) (by rfl) (by
 intro F h
 simp only [List.mem_cons,List.not_mem_nil,or_false]at h
 rcases h with rfl | rfl
 ·exact checkDeal_ok
 ·exact partUp_ok
) (by
 intro F h
 simp only [List.mem_cons,List.not_mem_nil,or_false]at h
 rcases h with rfl | rfl | rfl | rfl | rfl
 ·exact cloneA_ok
 ·exact deeds_ok
 ·exact surplus_ok
 ·exact sharesC_ok
 ·exact isFull_ok
) b_after (by
 intro ds h o ho n sz e k z he
 subst he
 simp only [F_after]at ho
 split at ho
 ·simp only [List.mem_cons,List.not_mem_nil,or_false,SObj.gr.injEq]at ho
  obtain⟨rfl,rfl,rfl,rfl,rfl⟩:=ho
  exact plain_elemOf _ _ _
 ·simp at ho) n_after (by
 intro a ha ds h hc o ho
 simp only [F_after,Option.some.injEq]at ha
 subst ha
 simp only at ho
 split at ho<;>simp at ho)
end Go.Proofs.Ytfebjikidfcbcaa.Sy
