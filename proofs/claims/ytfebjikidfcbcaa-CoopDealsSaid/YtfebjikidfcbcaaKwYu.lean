import Derived.Test.YtfebjikidfcbcaaSyP2
import Derived.Test.YtfebjikidfcbcaaGrM
import Derived.Test.YtfebjikidfcbcaaStM
import Derived.Test.YtfebjikidfcbcaaLrM
import Derived.Test.YtfebjikidfcbcaaDhM
import Derived.Test.YtfebjikidfcbcaaKtT
import Derived.Test.YtfebjikidfcbcaaKtA
import Derived.Test.YtfebjikidfcbcaaKtB
import Derived.Test.YtfebjikidfcbcaaKwA
import Derived.Test.YtfebjikidfcbcaaKwB
import Derived.Test.YtfebjikidfcbcaaKwC
import Derived.Test.YtfebjikidfcbcaaKwD
import Derived.Test.YtfebjikidfcbcaaKwE
import Derived.Test.YtfebjikidfcbcaaKwF
import Derived.Test.YtfebjikidfcbcaaKwI
import Derived.Test.YtfebjikidfcbcaaKwJ
import Derived.Test.YtfebjikidfcbcaaKwK
import Derived.Test.YtfebjikidfcbcaaKwM
import Derived.Test.YtfebjikidfcbcaaKwN
import Derived.Test.YtfebjikidfcbcaaKwX
import Derived.Test.YtfebjikidfcbcaaKwY
import Derived.Test.YtfebjikidfcbcaaSyP2
import Derived.KernelRfl
import Derived.Test.YtfebjikidfcbcaaProg
namespace Go.Proofs.Ytfebjikidfcbcaa.Sy
open Go Go.Rv
set_option linter.unusedVariables false
def z0 (e x:Int):Int:=if e=0 then x else 0
noncomputable def doX (fee itr pri cre:Int) (A:Rows) (till k m o q:Int):Rows:=if doE fee itr pri cre A till k m o q=0 then dA fee itr pri cre A till k m o q else []
noncomputable def rnX (fee itr pri cre:Int) (A:Rows) (till:Int) (D:Rows):Rows:=if rnErr fee itr pri cre A till D=0 then rnA fee itr pri cre A till D D.length else []
noncomputable def rnL (fee itr pri cre:Int) (A:Rows) (till:Int) (D:Rows):Rows:=if rnErr fee itr pri cre A till D=0 then erL fee itr pri cre A till D D.length else []
theorem z0_no {e x:Int} (h:e≠0):0=z0 e x:=by unfold z0; rw [if_neg h]
theorem z0_yes {e x:Int} (h:e=0):x=z0 e x:=by unfold z0; rw [if_pos h]
theorem doX_no {fee itr pri cre:Int} {A:Rows} {till k m o q:Int} (h:doE fee itr pri cre A till k m o q≠0):(doX fee itr pri cre A till k m o q).length=0:=by unfold doX; rw [if_neg h]; rfl
theorem doX_yes {fee itr pri cre:Int} {A:Rows} {till k m o q:Int} (h:doE fee itr pri cre A till k m o q=0):doX fee itr pri cre A till k m o q=dA fee itr pri cre A till k m o q:=by unfold doX; rw [if_pos h]
theorem dA_len (fee itr pri cre:Int) (A:Rows) (till k m o q:Int):(dA fee itr pri cre A till k m o q).length=A.length:=rows3_len _ _ _ _
theorem doE_len {fee itr pri cre:Int} {A:Rows} {till k m o q:Int} (h:doE fee itr pri cre A till k m o q=0):0 < A.length:=by
 by_cases h1:coopErr fee itr pri cre A till=0
 ·have:=(coop_ok h1).l; omega
 ·rw [doE_bad h1]at h; exact absurd h h1
theorem rnX_no {fee itr pri cre:Int} {A:Rows} {till:Int} {D:Rows} (h:rnErr fee itr pri cre A till D≠0):(rnX fee itr pri cre A till D).length=0∧(rnL fee itr pri cre A till D).length=0:=by unfold rnX rnL; rw [if_neg h,if_neg h]; exact⟨rfl,rfl⟩
theorem rnX_yes {fee itr pri cre:Int} {A:Rows} {till:Int} {D:Rows} (h:rnErr fee itr pri cre A till D=0):rnX fee itr pri cre A till D=rnA fee itr pri cre A till D D.length∧rnL fee itr pri cre A till D=erL fee itr pri cre A till D D.length:=by unfold rnX rnL; rw [if_pos h,if_pos h]; exact⟨rfl,rfl⟩
theorem doX_row (fee itr pri cre:Int) (A:Rows) (till k m o q:Int):∀r∈doX fee itr pri cre A till k m o q,r.length=3:=by
 unfold doX
 split
 ·exact rows3_row _ _ _ _
 ·intro r hr; simp at hr
theorem doX_le {fee itr pri cre:Int} {A:Rows} {till k m o q:Int}:(doX fee itr pri cre A till k m o q).length≤A.length:=by
 unfold doX
 split
 ·rw [dA_len]; omega
 ·exact Nat.zero_le _
theorem rnX_row {fee itr pri cre:Int} {A:Rows} {till:Int} {D:Rows} (hr:∀r∈A,r.length=3):∀r∈rnX fee itr pri cre A till D,r.length=3:=by
 unfold rnX
 split
 ·exact rn_row hr _
 ·intro r hr; simp at hr
theorem rnX_le {fee itr pri cre:Int} {A:Rows} {till:Int} {D:Rows}:(rnX fee itr pri cre A till D).length≤A.length:=by
 unfold rnX
 split
 ·rw [rn_len]; omega
 ·exact Nat.zero_le _
theorem rnL_row {fee itr pri cre:Int} {A:Rows} {till:Int} {D:Rows}:∀r∈rnL fee itr pri cre A till D,r.length=1:=by
 unfold rnL
 split
 ·exact erL_row _
 ·intro r hr; simp at hr
theorem rnL_le {fee itr pri cre:Int} {A:Rows} {till:Int} {D:Rows}:(rnL fee itr pri cre A till D).length≤D.length:=by
 unfold rnL
 split
 ·rw [erL_len]; omega
 ·exact Nat.zero_le _
noncomputable def F_DoU:FnE:=⟨15,none,[.agg [.i .i64,.i .i64,.i .i64,.i .i64,.l [.i64,.i64,.i64],.i .i64],.agg [.i .i64,.i .i64,.i .i64,.i .i64]],fun l=>match l with | [.z fee,.z itr,.z pri,.z cre,.l A,.z till,.z dk,.z dm,.z dO,.z dq]=>A.length≤4000000 | _=>False,fun l=>match l with | [.z fee,.z itr,.z pri,.z cre,.l A,.z till,.z dk,.z dm,.z dO,.z dq]=>[.agg [.i .i64 (z0 (doE fee itr pri cre A till dk dm dO dq) fee),.i .i64 (z0 (doE fee itr pri cre A till dk dm dO dq) itr),.i .i64 (z0 (doE fee itr pri cre A till dk dm dO dq) pri),.i .i64 (z0 (doE fee itr pri cre A till dk dm dO dq) cre),.gsl 0 (doX fee itr pri cre A till dk dm dO dq).length 3 true,.i .i64 (z0 (doE fee itr pri cre A till dk dm dO dq) (dT till dk dq))],.i .i64 (doE fee itr pri cre A till dk dm dO dq)] | _=>[],fun l=>match l with | [.z fee,.z itr,.z pri,.z cre,.l A,.z till,.z dk,.z dm,.z dO,.z dq]=>[.gr (doX fee itr pri cre A till dk dm dO dq).length 3 (.fn (Rv.elemOf [.i64,.i64,.i64] (doX fee itr pri cre A till dk dm dO dq))) .gr true] | _=>[],fun l=>match l with | [.z fee,.z itr,.z pri,.z cre,.l A,.z till,.z dk,.z dm,.z dO,.z dq]=>[] | _=>[],false,none,none⟩
noncomputable def A_DoU:List SV→List Dat→Nat→List SV→Ann:=fun _ _ _ _=>noAnn
def V_DoU:Prop:=
 ∀(B:RW) (b c e d:Int) (m:RV) (h:List (List Int)),IsLst B m h.length 3 (Rv.elemOf I3 h)→oneB m=true→(∀row∈h,row.length=3)→∀(a f i j g:Int),F_DoU.pre ([Dat.z b,Dat.z c,Dat.z e,Dat.z d,Dat.l h,Dat.z a]++([Dat.z f,Dat.z i,Dat.z j,Dat.z g]++[]))→RwB B m h.length 3 I3 h fun l=>Ob (F_CheckC.pre ([Dat.z b,Dat.z c,Dat.z e,Dat.z d,Dat.l l,Dat.z a]++[]))∧(¬coopErr b c e d l a=(0:Int)→Ob ((0:Int)=z0 (doE b c e d h a f i j g) b)∧Ob ((0:Int)=z0 (doE b c e d h a f i j g) c)∧Ob ((0:Int)=z0 (doE b c e d h a f i j g) e)∧Ob ((0:Int)=z0 (doE b c e d h a f i j g) d)∧Ob (List.length (doX b c e d h a f i j g)=(0:Nat))∧Ob ((0:Int)=z0 (doE b c e d h a f i j g) (dT a f g))∧Ob (coopErr b c e d l a=doE b c e d h a f i j g)∧Ob (List.length (doX b c e d h a f i j g)=(0:Nat))∧PlA I3 (doX b c e d h a f i j g)∧True)∧(¬¬coopErr b c e d l a=(0:Int)→RwB B m h.length 3 I3 h fun k=>Ob (F_after.pre ([Dat.z b,Dat.z c,Dat.z e,Dat.z d,Dat.l k,Dat.z a]++([Dat.z f,Dat.z i,Dat.z j,Dat.z g]++[])))∧(C_after ([Dat.z b,Dat.z c,Dat.z e,Dat.z d,Dat.l k,Dat.z a]++([Dat.z f,Dat.z i,Dat.z j,Dat.z g]++[]))→Ob ((0:Int)=z0 (doE b c e d h a f i j g) b)∧Ob ((0:Int)=z0 (doE b c e d h a f i j g) c)∧Ob ((0:Int)=z0 (doE b c e d h a f i j g) e)∧Ob ((0:Int)=z0 (doE b c e d h a f i j g) d)∧Ob (List.length (doX b c e d h a f i j g)=(0:Nat))∧Ob ((0:Int)=z0 (doE b c e d h a f i j g) (dT a f g))∧Ob (afE b c e d k a f i j g=doE b c e d h a f i j g)∧Ob (List.length (doX b c e d h a f i j g)=(0:Nat))∧PlA I3 (doX b c e d h a f i j g)∧True)∧(¬C_after ([Dat.z b,Dat.z c,Dat.z e,Dat.z d,Dat.l k,Dat.z a]++([Dat.z f,Dat.z i,Dat.z j,Dat.z g]++[]))→Ob (b=z0 (doE b c e d h a f i j g) b)∧Ob (c=z0 (doE b c e d h a f i j g) c)∧Ob (e=z0 (doE b c e d h a f i j g) e)∧Ob (d=z0 (doE b c e d h a f i j g) d)∧Ob (k.length=List.length (doX b c e d h a f i j g)∧(0:Nat) < List.length (doX b c e d h a f i j g))∧Ob (dT a f g=z0 (doE b c e d h a f i j g) (dT a f g))∧Ob ((0:Int)=doE b c e d h a f i j g)∧EqA k.length (List.length (doX b c e d h a f i j g)) (El.fn (Rv.elemOf I3 (dA b c e d k a f i j g))) (El.fn (Rv.elemOf I3 (doX b c e d h a f i j g)))∧PlA I3 (doX b c e d h a f i j g)∧True))
set_option linter.unusedSimpArgs false in
set_option maxRecDepth 4000 in
set_option maxHeartbeats 400000 in
theorem v_DoU:V_DoU:=by
 unfold V_DoU EqA I3 PlA RwB
 intro B fee itr pri cre x A hx hox hrx till dk dm dO dq hA
 have hA:A.length≤4000000:=hA
 have er:∀e1:Int,e1=doE fee itr pri cre A till dk dm dO dq→e1≠0→(0=z0 (doE fee itr pri cre A till dk dm dO dq) fee∧0=z0 (doE fee itr pri cre A till dk dm dO dq) itr∧0=z0 (doE fee itr pri cre A till dk dm dO dq) pri∧0=z0 (doE fee itr pri cre A till dk dm dO dq) cre∧(doX fee itr pri cre A till dk dm dO dq).length=0∧0=z0 (doE fee itr pri cre A till dk dm dO dq) (dT till dk dq)∧e1=doE fee itr pri cre A till dk dm dO dq∧(doX fee itr pri cre A till dk dm dO dq).length=0∧PlainE (doX fee itr pri cre A till dk dm dO dq).length (.fn (Rv.elemOf [.i64,.i64,.i64] (doX fee itr pri cre A till dk dm dO dq)))):=fun e1 h1 h2=>by
  have e:doE fee itr pri cre A till dk dm dO dq≠0:=by rw [← h1]; exact h2
  exact⟨z0_no e,z0_no e,z0_no e,z0_no e,doX_no e,z0_no e,h1,doX_no e,plain_elemOf _ _ _⟩
 simp only [Ob_iff,and_true,true_and,Classical.not_not]
 refine⟨A,⟨hx,rfl,hrx,fun _ _=>rfl⟩,hA,fun h1=>er _ (doE_bad h1).symm h1,fun h1=>⟨A,⟨hx,rfl,hrx,fun _ _=>rfl⟩,h1,fun h2=>?_,fun h2=>?_⟩⟩
 ·have h2:afE fee itr pri cre A till dk dm dO dq≠0:=h2
  exact er _ (doE_chk h1).symm h2
 ·have h2:¬ afE fee itr pri cre A till dk dm dO dq≠0:=h2
  have h0:doE fee itr pri cre A till dk dm dO dq=0:=by rw [doE_chk h1]; omega
  have hp:=doE_len h0
  rw [doX_yes h0,dA_len]
  exact⟨z0_yes h0,z0_yes h0,z0_yes h0,z0_yes h0,⟨rfl,hp⟩,z0_yes h0,h0.symm,⟨rfl,fun _ _=>rfl⟩,plain_elemOf _ _ _⟩
theorem e_DoU:V_DoU=needE P [] [F_CheckC,F_after] A_DoU F_DoU:=by kernel_rfl
theorem n_DoU:Ob (needE P [] [F_CheckC,F_after] A_DoU F_DoU):=by
 rw [← e_DoU]
 exact⟨v_DoU⟩
theorem b_DoU:((P.funcs[15]?).any fun fn=>fn.body.isSome)=true:=by kernel_rfl
theorem DoU_ok:FnE.Ok P F_DoU:=FnE.ok named (l:=[]) (es:=[F_CheckC,F_after]) (A:=A_DoU) (by rfl) (by rfl) (by rfl) (by
 intro F h; simp at h) (by
 intro F h
 simp only [List.mem_cons,List.not_mem_nil,or_false]at h
 rcases h with rfl | rfl
 ·exact CheckC_ok
 ·exact after_ok
) b_DoU (by
 intro ds h o ho n sz e k z he
 subst he
 simp only [F_DoU]at ho
 split at ho
 ·simp only [List.mem_cons,List.not_mem_nil,or_false,SObj.gr.injEq]at ho
  obtain⟨rfl,rfl,rfl,rfl,rfl⟩:=ho
  exact plain_elemOf _ _ _
 ·simp at ho) n_DoU
noncomputable def F_DoRU:FnE:=⟨16,none,[.agg [.i .i64,.i .i64,.i .i64,.i .i64,.l [.i64,.i64,.i64],.i .i64],.agg [.i .i64,.i .i64,.i .i64,.i .i64]],fun l=>match l with | [.z fee,.z itr,.z pri,.z cre,.l A,.z till,.z dk,.z dm,.z dO,.z dq]=>A.length≤4000000 | _=>False,fun l=>match l with | [.z fee,.z itr,.z pri,.z cre,.l A,.z till,.z dk,.z dm,.z dO,.z dq]=>[.agg [.i .i64 (z0 (doE fee itr pri cre A till dk dm dO dq) fee),.i .i64 (z0 (doE fee itr pri cre A till dk dm dO dq) itr),.i .i64 (z0 (doE fee itr pri cre A till dk dm dO dq) pri),.i .i64 (z0 (doE fee itr pri cre A till dk dm dO dq) cre),.gsl 0 (doX fee itr pri cre A till dk dm dO dq).length 3 true,.i .i64 (z0 (doE fee itr pri cre A till dk dm dO dq) (dT till dk dq))],.i .i64 (doE fee itr pri cre A till dk dm dO dq)] | _=>[],fun l=>match l with | [.z fee,.z itr,.z pri,.z cre,.l A,.z till,.z dk,.z dm,.z dO,.z dq]=>[.gr (doX fee itr pri cre A till dk dm dO dq).length 3 (.fn (Rv.elemOf [.i64,.i64,.i64] (doX fee itr pri cre A till dk dm dO dq))) .gr true] | _=>[],fun l=>match l with | [.z fee,.z itr,.z pri,.z cre,.l A,.z till,.z dk,.z dm,.z dO,.z dq]=>[] | _=>[],false,none,none⟩
noncomputable def A_DoRU:List SV→List Dat→Nat→List SV→Ann:=fun xs ds n ts=>match xs with
 | [.agg [_,_,_,_,.lst x _ _ _,_],.agg _]=>match ds with
  | [.z fee,.z itr,.z pri,.z cre,.l A,.z till,.z dk,.z dm,.z dO,.z dq]=>match n with
   | 8=>⟨Nat,fun k=>([none,none,some (.ptr 0 0),some (.ptr 1 0),some (.ptr 2 0)]++nN 37),fun k=>[.gr A.length 3 (.fn (Rv.elemOf [.i64,.i64,.i64] A)) .gr false,.dead,.cells [.v (.int .i64 0),.v (.int .i64 0),.v (.int .i64 0),.v (.int .i64 0),.v (.slice none 0 0),.v (.int .i64 0)] .ex,.cells [.i .i64 dk,.i .i64 dm,.i .i64 dO,.i .i64 dq] .ex,.cells [.i .i64 fee,.i .i64 itr,.i .i64 pri,.i .i64 cre,.gsl 4 A.length 3 false,.i .i64 till] .ex],fun k=>True,fun _=>0,1000000⟩
   | 9=>⟨DS,fun v=>([none,none,some (.ptr 0 0),none,some (.ptr 2 0),none,none,none,some (.i .i64 v.e)]++nN 33),fun v=>[.gr A.length 3 (.fn (Rv.elemOf [.i64,.i64,.i64] v.A)) .gr false,.dead,.cells [.v (.int .i64 0),.v (.int .i64 0),.v (.int .i64 0),.v (.int .i64 0),.v (.slice none 0 0),.v (.int .i64 0)] .ex,.dead,.cells [.i .i64 fee,.i .i64 itr,.i .i64 pri,.i .i64 cre,.gsl 4 A.length 3 false,.i .i64 v.t] .ex],fun v=>DlOk fee itr pri cre A till dk dm dO dq v,fun _=>0,1000000⟩
   | _=>noAnn
  | _=>noAnn
 | _=>noAnn
noncomputable def A_DoRU_1:List SV→List Dat→List SV→List SObj→Nat→List SV→Ann:=fun _ _ _ _ _ _=>noAnn
noncomputable def A_DoRU_2:List SV→List Dat→List SV→List SObj→Nat→List SV→Ann:=fun xs ds ar bs n ts=>match xs with
 | [.agg [_,_,_,_,.lst x _ _ _,_],.agg _]=>match ds with
  | [.z fee,.z itr,.z pri,.z cre,.l A,.z till,.z dk,.z dm,.z dO,.z dq]=>match n with
   | 7=>⟨Nat,fun k=>([none,none,some (.ptr 8 0),none,some (.ptr 9 0),none,some (.gsl 10 A.length 1 false),some (.i .i64 k)]++nN 41),fun k=>[.gr A.length 1 (.fn fun i=>[.i .i64 (cS dq A i)]) .ex false,SObj.cells [SV.v (Value.int IntKind.i64 (0:Int)),SV.v (Value.int IntKind.i64 (0:Int)),SV.v (Value.int IntKind.i64 (0:Int)),SV.v (Value.int IntKind.i64 (0:Int)),SV.v (Value.slice none ((0:Nat)) ((0:Nat))),SV.v (Value.int IntKind.i64 (0:Int))] Kd.ex,SObj.cells [SV.i IntKind.i64 fee,SV.i IntKind.i64 itr,SV.i IntKind.i64 pri,SV.i IntKind.i64 cre,SV.gsl ((4:Nat)) A.length ((3:Nat)) false,SV.i IntKind.i64 till] Kd.ex,SObj.cells [SV.v (Value.int IntKind.i64 (0:Int)),SV.v (Value.int IntKind.i64 (0:Int)),SV.v (Value.int IntKind.i64 (0:Int)),SV.v (Value.int IntKind.i64 (0:Int)),SV.v (Value.slice none ((0:Nat)) ((0:Nat))),SV.v (Value.int IntKind.i64 (0:Int))] Kd.ex,.dead,.dead,.gr A.length 3 (.fn (Rv.elemOf [.i64,.i64,.i64] (bonK A dq k))) .gr false,SObj.dead,SObj.cells [SV.v (Value.int IntKind.i64 (0:Int)),SV.v (Value.int IntKind.i64 (0:Int)),SV.v (Value.int IntKind.i64 (0:Int)),SV.v (Value.int IntKind.i64 (0:Int)),SV.v (Value.slice none ((0:Nat)) ((0:Nat))),SV.v (Value.int IntKind.i64 (0:Int))] Kd.ex,SObj.cells [SV.i IntKind.i64 dk,SV.i IntKind.i64 dm,SV.i IntKind.i64 dO,SV.i IntKind.i64 dq] Kd.ex,SObj.cells [SV.i IntKind.i64 fee,SV.i IntKind.i64 itr,SV.i IntKind.i64 pri,SV.i IntKind.i64 cre,SV.gsl ((4:Nat)) A.length ((3:Nat)) false,SV.i IntKind.i64 till] Kd.ex],fun k=>k≤A.length,fun k=>A.length-k,0⟩
   | _=>noAnn
  | _=>noAnn
 | _=>noAnn
noncomputable def I_DoRU:List SV→List Dat→List In:=fun xs ds=>[⟨40,A_DoRU_1 xs ds⟩,⟨61,A_DoRU_2 xs ds⟩]
set_option maxRecDepth 10000 in
def V_DoRU:Prop:=
 ∀(B:RW) (g e f h:Int) (n:RV) (a:List (List Int)),IsLst B n a.length 3 (Rv.elemOf I3 a)→oneB n=true→(∀row∈a,row.length=3)→∀(i j c k b:Int),F_DoRU.pre ([Dat.z g,Dat.z e,Dat.z f,Dat.z h,Dat.l a,Dat.z i]++([Dat.z j,Dat.z c,Dat.z k,Dat.z b]++[]))→RwB B n a.length 3 I3 a fun r=>Ob (r.length≤4000000)∧(¬coopErr g e f h r i=(0:Int)→Ob ((0:Int)=z0 (doE g e f h a i j c k b) g)∧Ob ((0:Int)=z0 (doE g e f h a i j c k b) e)∧Ob ((0:Int)=z0 (doE g e f h a i j c k b) f)∧Ob ((0:Int)=z0 (doE g e f h a i j c k b) h)∧Ob (List.length (doX g e f h a i j c k b)=(0:Nat))∧Ob ((0:Int)=z0 (doE g e f h a i j c k b) (dT i j b))∧Ob (coopErr g e f h r i=doE g e f h a i j c k b)∧Ob (List.length (doX g e f h a i j c k b)=(0:Nat))∧PlA I3 (doX g e f h a i j c k b)∧True)∧(¬¬coopErr g e f h r i=(0:Int)→RwB B n a.length 3 I3 a fun o=>Ob ((1:Nat)≤o.length∧o.length≤4000000)∧(¬dchk (↑o.length:Int) j c k b=(0:Int)→Ob ((0:Int)=z0 (doE g e f h a i j c k b) g)∧Ob ((0:Int)=z0 (doE g e f h a i j c k b) e)∧Ob ((0:Int)=z0 (doE g e f h a i j c k b) f)∧Ob ((0:Int)=z0 (doE g e f h a i j c k b) h)∧Ob (List.length (doX g e f h a i j c k b)=(0:Nat))∧Ob ((0:Int)=z0 (doE g e f h a i j c k b) (dT i j b))∧Ob (dchk (↑o.length:Int) j c k b=doE g e f h a i j c k b)∧Ob (List.length (doX g e f h a i j c k b)=(0:Nat))∧PlA I3 (doX g e f h a i j c k b)∧True)∧(¬¬dchk (↑o.length:Int) j c k b=(0:Int)→(LsA B n I3 a∧(a.length=(0:Nat)→∃(u:Nat),Ob True∧False)∧(¬a.length=(0:Nat)→Ob (((0:Nat)+a.length)*(2:Nat)*(25:Nat)≤1099511627776)∧Ob ((0:Nat) < 0+((0:Nat)+a.length)*(3:Nat))∧∃(u:Nat),Ob True∧EqA ((0:Nat)+a.length) a.length (behind 0 (litEl (symL (replS 0 (List.map SV.v (Value.agg #[Value.int .i64 (0:Int),Value.int .i64 (0:Int),Value.int .i64 (0:Int)]).cells.toList))) 3 0) a.length (El.fn (Rv.elemOf I3 a))) (El.fn (Rv.elemOf I3 a))∧Ob (Value.int .i64 (0:Int)=Value.int .i64 (0:Int))∧Ob (Value.int .i64 (0:Int)=Value.int .i64 (0:Int))∧Ob (Value.int .i64 (0:Int)=Value.int .i64 (0:Int))∧Ob (Value.int .i64 (0:Int)=Value.int .i64 (0:Int))∧Ob (SV.v (Value.slice none 0 0)=SV.v (Value.slice none 0 0))∧Ob (Value.int .i64 (0:Int)=Value.int .i64 (0:Int))∧Ob (j=j)∧Ob (c=c)∧Ob (k=k)∧Ob (b=b)∧Ob (g=g)∧Ob (e=e)∧Ob (f=f)∧Ob (h=h)∧Ob ((0:Nat)+a.length=a.length)∧Ob (i=i)∧PlA I3 a∧True))∧∀(u:Nat),True→∀(_ _ _ _ _ _ _ _ _ _ _ _ _ _ _ _ _ _ _ _ _ _ _ _ _ _ _ _ _ _ _ _ _ _ _ _ _ _ _:Value),(Ob ((0:Int)≤c∧c.toNat < a.length)∧(j=(1:Int)→Ob (InR .i64 (i+b))∧Ob (c.toNat < a.length)∧Ob (InR .i64 (cell a c.toNat 2+b))∧Ob (c.toNat < a.length)∧Ob (InR .i64 (cell a c.toNat 0+b))∧Ob (((0:Int)≤b∧b≤(1000000000:Int))∧(0:Int)≤g∧g≤(1000000:Int))∧Ob (InR .i64 (cell a c.toNat 0+b-prt b g))∧Ob (c.toNat < a.length∧((El.fn (Rv.elemOf I3 a)).at c.toNat).length=(3:Nat))∧Ob (PlainE a.length (updL (El.fn (Rv.elemOf I3 a)) c.toNat 2 [SV.i .i64 (cell a c.toNat 2+b)]))∧Ob (c.toNat < a.length∧((updL (El.fn (Rv.elemOf I3 a)) c.toNat 2 [SV.i .i64 (cell a c.toNat 2+b)]).at c.toNat).length=(3:Nat))∧∃(d:DS),Ob (DlOk g e f h a i j c k b d)∧Ob ((0:Int)=d.e)∧EqA a.length a.length (updL (updL (El.fn (Rv.elemOf I3 a)) c.toNat 2 [SV.i .i64 (cell a c.toNat 2+b)]) c.toNat 0 [SV.i .i64 (cell a c.toNat 0+b-prt b g)]) (El.fn (Rv.elemOf I3 d.A))∧Ob (Value.int .i64 (0:Int)=Value.int .i64 (0:Int))∧Ob (Value.int .i64 (0:Int)=Value.int .i64 (0:Int))∧Ob (Value.int .i64 (0:Int)=Value.int .i64 (0:Int))∧Ob (Value.int .i64 (0:Int)=Value.int .i64 (0:Int))∧Ob (SV.v (Value.slice none 0 0)=SV.v (Value.slice none 0 0))∧Ob (Value.int .i64 (0:Int)=Value.int .i64 (0:Int))∧Ob (g=g)∧Ob (e=e)∧Ob (f=f)∧Ob (h=h)∧Ob (a.length=a.length)∧Ob (i+b=d.t)∧Ob (PlainE a.length (El.fn (Rv.elemOf I3 d.A)))∧True)∧(¬j=(1:Int)→(j=(2:Int)→Ob (InR .i64 (b*f))∧Ob (c.toNat < a.length)∧(cell a c.toNat 0 < b*f→∃(d:DS),Ob (DlOk g e f h a i j c k b d)∧Ob ((4:Int)=d.e)∧EqA a.length a.length (El.fn (Rv.elemOf I3 a)) (El.fn (Rv.elemOf I3 d.A))∧Ob (Value.int .i64 (0:Int)=Value.int .i64 (0:Int))∧Ob (Value.int .i64 (0:Int)=Value.int .i64 (0:Int))∧Ob (Value.int .i64 (0:Int)=Value.int .i64 (0:Int))∧Ob (Value.int .i64 (0:Int)=Value.int .i64 (0:Int))∧Ob (SV.v (Value.slice none 0 0)=SV.v (Value.slice none 0 0))∧Ob (Value.int .i64 (0:Int)=Value.int .i64 (0:Int))∧Ob (g=g)∧Ob (e=e)∧Ob (f=f)∧Ob (h=h)∧Ob (a.length=a.length)∧Ob (i=d.t)∧Ob (PlainE a.length (El.fn (Rv.elemOf I3 d.A)))∧True)∧(¬cell a c.toNat 0 < b*f→Ob (c.toNat < a.length)∧Ob (InR .i64 (b*f))∧Ob (InR .i64 (cell a c.toNat 0-b*f))∧Ob (c.toNat < a.length∧((El.fn (Rv.elemOf I3 a)).at c.toNat).length=(3:Nat))∧∃(d:DS),Ob (DlOk g e f h a i j c k b d)∧Ob ((0:Int)=d.e)∧EqA a.length a.length (updL (El.fn (Rv.elemOf I3 a)) c.toNat 0 [SV.i .i64 (cell a c.toNat 0-b*f)]) (El.fn (Rv.elemOf I3 d.A))∧Ob (Value.int .i64 (0:Int)=Value.int .i64 (0:Int))∧Ob (Value.int .i64 (0:Int)=Value.int .i64 (0:Int))∧Ob (Value.int .i64 (0:Int)=Value.int .i64 (0:Int))∧Ob (Value.int .i64 (0:Int)=Value.int .i64 (0:Int))∧Ob (SV.v (Value.slice none 0 0)=SV.v (Value.slice none 0 0))∧Ob (Value.int .i64 (0:Int)=Value.int .i64 (0:Int))∧Ob (g=g)∧Ob (e=e)∧Ob (f=f)∧Ob (h=h)∧Ob (a.length=a.length)∧Ob (i=d.t)∧Ob (PlainE a.length (El.fn (Rv.elemOf I3 d.A)))∧True))∧(¬j=(2:Int)→(j=(3:Int)→Ob (c.toNat < a.length)∧Ob (InR .i64 (cell a c.toNat 1+b))∧Ob (((0:Int)≤b∧b≤(1000000000:Int))∧(0:Int)≤e∧e≤(1000000:Int))∧Ob (InR .i64 (cell a c.toNat 1+b+prt b e))∧(h < cell a c.toNat 1+b+prt b e→∃(d:DS),Ob (DlOk g e f h a i j c k b d)∧Ob ((12:Int)=d.e)∧EqA a.length a.length (El.fn (Rv.elemOf I3 a)) (El.fn (Rv.elemOf I3 d.A))∧Ob (Value.int .i64 (0:Int)=Value.int .i64 (0:Int))∧Ob (Value.int .i64 (0:Int)=Value.int .i64 (0:Int))∧Ob (Value.int .i64 (0:Int)=Value.int .i64 (0:Int))∧Ob (Value.int .i64 (0:Int)=Value.int .i64 (0:Int))∧Ob (SV.v (Value.slice none 0 0)=SV.v (Value.slice none 0 0))∧Ob (Value.int .i64 (0:Int)=Value.int .i64 (0:Int))∧Ob (g=g)∧Ob (e=e)∧Ob (f=f)∧Ob (h=h)∧Ob (a.length=a.length)∧Ob (i=d.t)∧Ob (PlainE a.length (El.fn (Rv.elemOf I3 d.A)))∧True)∧(¬h < cell a c.toNat 1+b+prt b e→Ob (c.toNat < a.length)∧Ob (InR .i64 (cell a c.toNat 1+b))∧Ob (((0:Int)≤b∧b≤(1000000000:Int))∧(0:Int)≤e∧e≤(1000000:Int))∧Ob (InR .i64 (cell a c.toNat 1+b+prt b e))∧Ob (c.toNat < a.length)∧Ob (InR .i64 (cell a c.toNat 0+b))∧Ob (c.toNat < a.length∧((El.fn (Rv.elemOf I3 a)).at c.toNat).length=(3:Nat))∧Ob (PlainE a.length (updL (El.fn (Rv.elemOf I3 a)) c.toNat 1 [SV.i .i64 (cell a c.toNat 1+b+prt b e)]))∧Ob (c.toNat < a.length∧((updL (El.fn (Rv.elemOf I3 a)) c.toNat 1 [SV.i .i64 (cell a c.toNat 1+b+prt b e)]).at c.toNat).length=(3:Nat))∧∃(d:DS),Ob (DlOk g e f h a i j c k b d)∧Ob ((0:Int)=d.e)∧EqA a.length a.length (updL (updL (El.fn (Rv.elemOf I3 a)) c.toNat 1 [SV.i .i64 (cell a c.toNat 1+b+prt b e)]) c.toNat 0 [SV.i .i64 (cell a c.toNat 0+b)]) (El.fn (Rv.elemOf I3 d.A))∧Ob (Value.int .i64 (0:Int)=Value.int .i64 (0:Int))∧Ob (Value.int .i64 (0:Int)=Value.int .i64 (0:Int))∧Ob (Value.int .i64 (0:Int)=Value.int .i64 (0:Int))∧Ob (Value.int .i64 (0:Int)=Value.int .i64 (0:Int))∧Ob (SV.v (Value.slice none 0 0)=SV.v (Value.slice none 0 0))∧Ob (Value.int .i64 (0:Int)=Value.int .i64 (0:Int))∧Ob (g=g)∧Ob (e=e)∧Ob (f=f)∧Ob (h=h)∧Ob (a.length=a.length)∧Ob (i=d.t)∧Ob (PlainE a.length (El.fn (Rv.elemOf I3 d.A)))∧True))∧(¬j=(3:Int)→(j=(4:Int)→Ob (c.toNat < a.length)∧(cell a c.toNat 1 < b→∃(d:DS),Ob (DlOk g e f h a i j c k b d)∧Ob ((12:Int)=d.e)∧EqA a.length a.length (El.fn (Rv.elemOf I3 a)) (El.fn (Rv.elemOf I3 d.A))∧Ob (Value.int .i64 (0:Int)=Value.int .i64 (0:Int))∧Ob (Value.int .i64 (0:Int)=Value.int .i64 (0:Int))∧Ob (Value.int .i64 (0:Int)=Value.int .i64 (0:Int))∧Ob (Value.int .i64 (0:Int)=Value.int .i64 (0:Int))∧Ob (SV.v (Value.slice none 0 0)=SV.v (Value.slice none 0 0))∧Ob (Value.int .i64 (0:Int)=Value.int .i64 (0:Int))∧Ob (g=g)∧Ob (e=e)∧Ob (f=f)∧Ob (h=h)∧Ob (a.length=a.length)∧Ob (i=d.t)∧Ob (PlainE a.length (El.fn (Rv.elemOf I3 d.A)))∧True)∧(¬cell a c.toNat 1 < b→Ob (c.toNat < a.length)∧(cell a c.toNat 0 < b→∃(d:DS),Ob (DlOk g e f h a i j c k b d)∧Ob ((4:Int)=d.e)∧EqA a.length a.length (El.fn (Rv.elemOf I3 a)) (El.fn (Rv.elemOf I3 d.A))∧Ob (Value.int .i64 (0:Int)=Value.int .i64 (0:Int))∧Ob (Value.int .i64 (0:Int)=Value.int .i64 (0:Int))∧Ob (Value.int .i64 (0:Int)=Value.int .i64 (0:Int))∧Ob (Value.int .i64 (0:Int)=Value.int .i64 (0:Int))∧Ob (SV.v (Value.slice none 0 0)=SV.v (Value.slice none 0 0))∧Ob (Value.int .i64 (0:Int)=Value.int .i64 (0:Int))∧Ob (g=g)∧Ob (e=e)∧Ob (f=f)∧Ob (h=h)∧Ob (a.length=a.length)∧Ob (i=d.t)∧Ob (PlainE a.length (El.fn (Rv.elemOf I3 d.A)))∧True)∧(¬cell a c.toNat 0 < b→Ob (c.toNat < a.length)∧Ob (InR .i64 (cell a c.toNat 1-b))∧Ob (c.toNat < a.length)∧Ob (InR .i64 (cell a c.toNat 0-b))∧Ob (c.toNat < a.length∧((El.fn (Rv.elemOf I3 a)).at c.toNat).length=(3:Nat))∧Ob (PlainE a.length (updL (El.fn (Rv.elemOf I3 a)) c.toNat 1 [SV.i .i64 (cell a c.toNat 1-b)]))∧Ob (c.toNat < a.length∧((updL (El.fn (Rv.elemOf I3 a)) c.toNat 1 [SV.i .i64 (cell a c.toNat 1-b)]).at c.toNat).length=(3:Nat))∧∃(d:DS),Ob (DlOk g e f h a i j c k b d)∧Ob ((0:Int)=d.e)∧EqA a.length a.length (updL (updL (El.fn (Rv.elemOf I3 a)) c.toNat 1 [SV.i .i64 (cell a c.toNat 1-b)]) c.toNat 0 [SV.i .i64 (cell a c.toNat 0-b)]) (El.fn (Rv.elemOf I3 d.A))∧Ob (Value.int .i64 (0:Int)=Value.int .i64 (0:Int))∧Ob (Value.int .i64 (0:Int)=Value.int .i64 (0:Int))∧Ob (Value.int .i64 (0:Int)=Value.int .i64 (0:Int))∧Ob (Value.int .i64 (0:Int)=Value.int .i64 (0:Int))∧Ob (SV.v (Value.slice none 0 0)=SV.v (Value.slice none 0 0))∧Ob (Value.int .i64 (0:Int)=Value.int .i64 (0:Int))∧Ob (g=g)∧Ob (e=e)∧Ob (f=f)∧Ob (h=h)∧Ob (a.length=a.length)∧Ob (i=d.t)∧Ob (PlainE a.length (El.fn (Rv.elemOf I3 d.A)))∧True)))∧(¬j=(4:Int)→(j=(5:Int)→Ob (c.toNat < a.length)∧(¬cell a c.toNat 0 < b→(i < b→∃(d:DS),Ob (DlOk g e f h a i j c k b d)∧Ob ((4:Int)=d.e)∧EqA a.length a.length (El.fn (Rv.elemOf I3 a)) (El.fn (Rv.elemOf I3 d.A))∧Ob (Value.int .i64 (0:Int)=Value.int .i64 (0:Int))∧Ob (Value.int .i64 (0:Int)=Value.int .i64 (0:Int))∧Ob (Value.int .i64 (0:Int)=Value.int .i64 (0:Int))∧Ob (Value.int .i64 (0:Int)=Value.int .i64 (0:Int))∧Ob (SV.v (Value.slice none 0 0)=SV.v (Value.slice none 0 0))∧Ob (Value.int .i64 (0:Int)=Value.int .i64 (0:Int))∧Ob (g=g)∧Ob (e=e)∧Ob (f=f)∧Ob (h=h)∧Ob (a.length=a.length)∧Ob (i=d.t)∧Ob (PlainE a.length (El.fn (Rv.elemOf I3 d.A)))∧True)∧(¬i < b→Ob (InR .i64 (i-b))∧Ob (c.toNat < a.length)∧Ob (InR .i64 (cell a c.toNat 0-b))∧Ob (c.toNat < a.length∧((El.fn (Rv.elemOf I3 a)).at c.toNat).length=(3:Nat))∧∃(d:DS),Ob (DlOk g e f h a i j c k b d)∧Ob ((0:Int)=d.e)∧EqA a.length a.length (updL (El.fn (Rv.elemOf I3 a)) c.toNat 0 [SV.i .i64 (cell a c.toNat 0-b)]) (El.fn (Rv.elemOf I3 d.A))∧Ob (Value.int .i64 (0:Int)=Value.int .i64 (0:Int))∧Ob (Value.int .i64 (0:Int)=Value.int .i64 (0:Int))∧Ob (Value.int .i64 (0:Int)=Value.int .i64 (0:Int))∧Ob (Value.int .i64 (0:Int)=Value.int .i64 (0:Int))∧Ob (SV.v (Value.slice none 0 0)=SV.v (Value.slice none 0 0))∧Ob (Value.int .i64 (0:Int)=Value.int .i64 (0:Int))∧Ob (g=g)∧Ob (e=e)∧Ob (f=f)∧Ob (h=h)∧Ob (a.length=a.length)∧Ob (i-b=d.t)∧Ob (PlainE a.length (El.fn (Rv.elemOf I3 d.A)))∧True))∧(cell a c.toNat 0 < b→∃(d:DS),Ob (DlOk g e f h a i j c k b d)∧Ob ((4:Int)=d.e)∧EqA a.length a.length (El.fn (Rv.elemOf I3 a)) (El.fn (Rv.elemOf I3 d.A))∧Ob (Value.int .i64 (0:Int)=Value.int .i64 (0:Int))∧Ob (Value.int .i64 (0:Int)=Value.int .i64 (0:Int))∧Ob (Value.int .i64 (0:Int)=Value.int .i64 (0:Int))∧Ob (Value.int .i64 (0:Int)=Value.int .i64 (0:Int))∧Ob (SV.v (Value.slice none 0 0)=SV.v (Value.slice none 0 0))∧Ob (Value.int .i64 (0:Int)=Value.int .i64 (0:Int))∧Ob (g=g)∧Ob (e=e)∧Ob (f=f)∧Ob (h=h)∧Ob (a.length=a.length)∧Ob (i=d.t)∧Ob (PlainE a.length (El.fn (Rv.elemOf I3 d.A)))∧True))∧(¬j=(5:Int)→(j=(6:Int)→Ob (c.toNat < a.length)∧(cell a c.toNat 0 < b→∃(d:DS),Ob (DlOk g e f h a i j c k b d)∧Ob ((4:Int)=d.e)∧EqA a.length a.length (El.fn (Rv.elemOf I3 a)) (El.fn (Rv.elemOf I3 d.A))∧Ob (Value.int .i64 (0:Int)=Value.int .i64 (0:Int))∧Ob (Value.int .i64 (0:Int)=Value.int .i64 (0:Int))∧Ob (Value.int .i64 (0:Int)=Value.int .i64 (0:Int))∧Ob (Value.int .i64 (0:Int)=Value.int .i64 (0:Int))∧Ob (SV.v (Value.slice none 0 0)=SV.v (Value.slice none 0 0))∧Ob (Value.int .i64 (0:Int)=Value.int .i64 (0:Int))∧Ob (g=g)∧Ob (e=e)∧Ob (f=f)∧Ob (h=h)∧Ob (a.length=a.length)∧Ob (i=d.t)∧Ob (PlainE a.length (El.fn (Rv.elemOf I3 d.A)))∧True)∧(¬cell a c.toNat 0 < b→Ob (c.toNat < a.length)∧Ob (InR .i64 (cell a c.toNat 0-b))∧Ob (c.toNat < a.length∧((El.fn (Rv.elemOf I3 a)).at c.toNat).length=(3:Nat))∧Ob ((0:Int)≤k∧k.toNat < a.length)∧Ob (k.toNat < a.length)∧(k.toNat=c.toNat→Ob (InR .i64 (cell a c.toNat 0-b+b))∧Ob ((0:Int)≤k∧k.toNat < a.length)∧Ob (k.toNat < a.length∧((updL (El.fn (Rv.elemOf I3 a)) c.toNat 0 [SV.i .i64 (cell a c.toNat 0-b)]).at k.toNat).length=(3:Nat))∧∃(d:DS),Ob (DlOk g e f h a i j c k b d)∧Ob ((0:Int)=d.e)∧EqA a.length a.length (updL (updL (El.fn (Rv.elemOf I3 a)) c.toNat 0 [SV.i .i64 (cell a c.toNat 0-b)]) k.toNat 0 [SV.i .i64 (cell a c.toNat 0-b+b)]) (El.fn (Rv.elemOf I3 d.A))∧Ob (Value.int .i64 (0:Int)=Value.int .i64 (0:Int))∧Ob (Value.int .i64 (0:Int)=Value.int .i64 (0:Int))∧Ob (Value.int .i64 (0:Int)=Value.int .i64 (0:Int))∧Ob (Value.int .i64 (0:Int)=Value.int .i64 (0:Int))∧Ob (SV.v (Value.slice none 0 0)=SV.v (Value.slice none 0 0))∧Ob (Value.int .i64 (0:Int)=Value.int .i64 (0:Int))∧Ob (g=g)∧Ob (e=e)∧Ob (f=f)∧Ob (h=h)∧Ob (a.length=a.length)∧Ob (i=d.t)∧Ob (PlainE a.length (El.fn (Rv.elemOf I3 d.A)))∧True)∧(¬k.toNat=c.toNat→Ob (InR .i64 (cell a k.toNat 0+b))∧Ob ((0:Int)≤k∧k.toNat < a.length)∧Ob (k.toNat < a.length∧((updL (El.fn (Rv.elemOf I3 a)) c.toNat 0 [SV.i .i64 (cell a c.toNat 0-b)]).at k.toNat).length=(3:Nat))∧∃(d:DS),Ob (DlOk g e f h a i j c k b d)∧Ob ((0:Int)=d.e)∧EqA a.length a.length (updL (updL (El.fn (Rv.elemOf I3 a)) c.toNat 0 [SV.i .i64 (cell a c.toNat 0-b)]) k.toNat 0 [SV.i .i64 (cell a k.toNat 0+b)]) (El.fn (Rv.elemOf I3 d.A))∧Ob (Value.int .i64 (0:Int)=Value.int .i64 (0:Int))∧Ob (Value.int .i64 (0:Int)=Value.int .i64 (0:Int))∧Ob (Value.int .i64 (0:Int)=Value.int .i64 (0:Int))∧Ob (Value.int .i64 (0:Int)=Value.int .i64 (0:Int))∧Ob (SV.v (Value.slice none 0 0)=SV.v (Value.slice none 0 0))∧Ob (Value.int .i64 (0:Int)=Value.int .i64 (0:Int))∧Ob (g=g)∧Ob (e=e)∧Ob (f=f)∧Ob (h=h)∧Ob (a.length=a.length)∧Ob (i=d.t)∧Ob (PlainE a.length (El.fn (Rv.elemOf I3 d.A)))∧True)))∧(¬j=(6:Int)→(j=(7:Int)→RwE 3 I3 a fun l=>Ob (Small l i)∧(surp l i < b→∃(d:DS),Ob (DlOk g e f h a i j c k b d)∧Ob ((12:Int)=d.e)∧EqA a.length a.length (El.fn (Rv.elemOf I3 a)) (El.fn (Rv.elemOf I3 d.A))∧Ob (Value.int .i64 (0:Int)=Value.int .i64 (0:Int))∧Ob (Value.int .i64 (0:Int)=Value.int .i64 (0:Int))∧Ob (Value.int .i64 (0:Int)=Value.int .i64 (0:Int))∧Ob (Value.int .i64 (0:Int)=Value.int .i64 (0:Int))∧Ob (SV.v (Value.slice none 0 0)=SV.v (Value.slice none 0 0))∧Ob (Value.int .i64 (0:Int)=Value.int .i64 (0:Int))∧Ob (g=g)∧Ob (e=e)∧Ob (f=f)∧Ob (h=h)∧Ob (a.length=a.length)∧Ob (i=d.t)∧Ob (PlainE a.length (El.fn (Rv.elemOf I3 d.A)))∧True)∧(¬surp l i < b→RwE 3 I3 a fun t=>Ob (t.length≤4000000)∧(idl t→∃(d:DS),Ob (DlOk g e f h a i j c k b d)∧Ob ((6:Int)=d.e)∧EqA a.length a.length (El.fn (Rv.elemOf I3 a)) (El.fn (Rv.elemOf I3 d.A))∧Ob (Value.int .i64 (0:Int)=Value.int .i64 (0:Int))∧Ob (Value.int .i64 (0:Int)=Value.int .i64 (0:Int))∧Ob (Value.int .i64 (0:Int)=Value.int .i64 (0:Int))∧Ob (Value.int .i64 (0:Int)=Value.int .i64 (0:Int))∧Ob (SV.v (Value.slice none 0 0)=SV.v (Value.slice none 0 0))∧Ob (Value.int .i64 (0:Int)=Value.int .i64 (0:Int))∧Ob (g=g)∧Ob (e=e)∧Ob (f=f)∧Ob (h=h)∧Ob (a.length=a.length)∧Ob (i=d.t)∧Ob (PlainE a.length (El.fn (Rv.elemOf I3 d.A)))∧True)∧(¬idl t→RwE 3 I3 a fun s=>Ob (F_sharesR.pre [Dat.l s,Dat.z b])∧(∃(d:Nat),Ob (d≤a.length)∧Ob (s.length=a.length)∧Ob ((0:Int)=(↑d:Int))∧EqA s.length a.length (El.fn fun(m:Nat)↦[SV.i .i64 (cS b s m)]) (El.fn fun(m:Nat)↦[SV.i .i64 (cS b a m)])∧Ob (Value.int .i64 (0:Int)=Value.int .i64 (0:Int))∧Ob (Value.int .i64 (0:Int)=Value.int .i64 (0:Int))∧Ob (Value.int .i64 (0:Int)=Value.int .i64 (0:Int))∧Ob (Value.int .i64 (0:Int)=Value.int .i64 (0:Int))∧Ob (SV.v (Value.slice none 0 0)=SV.v (Value.slice none 0 0))∧Ob (Value.int .i64 (0:Int)=Value.int .i64 (0:Int))∧Ob (g=g)∧Ob (e=e)∧Ob (f=f)∧Ob (h=h)∧Ob (a.length=a.length)∧Ob (i=i)∧Ob (Value.int .i64 (0:Int)=Value.int .i64 (0:Int))∧Ob (Value.int .i64 (0:Int)=Value.int .i64 (0:Int))∧Ob (Value.int .i64 (0:Int)=Value.int .i64 (0:Int))∧Ob (Value.int .i64 (0:Int)=Value.int .i64 (0:Int))∧Ob (SV.v (Value.slice none 0 0)=SV.v (Value.slice none 0 0))∧Ob (Value.int .i64 (0:Int)=Value.int .i64 (0:Int))∧EqA a.length a.length (El.fn (Rv.elemOf I3 a)) (El.fn (Rv.elemOf I3 (bonK a b d)))∧Ob (Value.int .i64 (0:Int)=Value.int .i64 (0:Int))∧Ob (Value.int .i64 (0:Int)=Value.int .i64 (0:Int))∧Ob (Value.int .i64 (0:Int)=Value.int .i64 (0:Int))∧Ob (Value.int .i64 (0:Int)=Value.int .i64 (0:Int))∧Ob (SV.v (Value.slice none 0 0)=SV.v (Value.slice none 0 0))∧Ob (Value.int .i64 (0:Int)=Value.int .i64 (0:Int))∧Ob (j=j)∧Ob (c=c)∧Ob (k=k)∧Ob (b=b)∧Ob (g=g)∧Ob (e=e)∧Ob (f=f)∧Ob (h=h)∧Ob (a.length=a.length)∧Ob (i=i)∧Ob (PlainE a.length (El.fn fun(m:Nat)↦[SV.i .i64 (cS b a m)]))∧Ob (PlainE a.length (El.fn (Rv.elemOf I3 (bonK a b d))))∧True)∧∀(d:Nat),d≤a.length→∀(_ _ _ _ _ _ _ _ _ _ _ _ _ _ _ _ _ _ _ _ _ _ _ _ _ _ _ _ _ _ _ _ _ _ _ _ _ _ _ _ _ _ _ _ _:Value),((↑d:Int) < (↑a.length:Int)→Ob ((0:Int)≤(↑d:Int)∧d < a.length)∧Ob (d < a.length)∧Ob ((0:Int)≤(↑d:Int)∧d < a.length)∧Ob (d < a.length)∧Ob (InR .i64 (cell (bonK a b d) d 0+cS b a d))∧Ob ((0:Int)≤(↑d:Int)∧d < a.length)∧Ob (d < a.length∧((El.fn (Rv.elemOf I3 (bonK a b d))).at d).length=(3:Nat))∧Ob (PlainE a.length (updL (El.fn (Rv.elemOf I3 (bonK a b d))) d 0 [SV.i .i64 (cell (bonK a b d) d 0+cS b a d)]))∧Ob ((0:Int)≤(↑d:Int)∧d < a.length)∧Ob (d < a.length∧((updL (El.fn (Rv.elemOf I3 (bonK a b d))) d 0 [SV.i .i64 (cell (bonK a b d) d 0+cS b a d)]).at d).length=(3:Nat))∧Ob (InR .i64 ((↑d:Int)+(1:Int)))∧∃(p:Nat),Ob (p≤a.length∧a.length-p < a.length-d)∧Ob (a.length=a.length)∧Ob ((↑d:Int)+(1:Int)=(↑p:Int))∧EqA a.length a.length (El.fn fun(m:Nat)↦[SV.i .i64 (cS b a m)]) (El.fn fun(m:Nat)↦[SV.i .i64 (cS b a m)])∧Ob (Value.int .i64 (0:Int)=Value.int .i64 (0:Int))∧Ob (Value.int .i64 (0:Int)=Value.int .i64 (0:Int))∧Ob (Value.int .i64 (0:Int)=Value.int .i64 (0:Int))∧Ob (Value.int .i64 (0:Int)=Value.int .i64 (0:Int))∧Ob (SV.v (Value.slice none 0 0)=SV.v (Value.slice none 0 0))∧Ob (Value.int .i64 (0:Int)=Value.int .i64 (0:Int))∧Ob (g=g)∧Ob (e=e)∧Ob (f=f)∧Ob (h=h)∧Ob (a.length=a.length)∧Ob (i=i)∧Ob (Value.int .i64 (0:Int)=Value.int .i64 (0:Int))∧Ob (Value.int .i64 (0:Int)=Value.int .i64 (0:Int))∧Ob (Value.int .i64 (0:Int)=Value.int .i64 (0:Int))∧Ob (Value.int .i64 (0:Int)=Value.int .i64 (0:Int))∧Ob (SV.v (Value.slice none 0 0)=SV.v (Value.slice none 0 0))∧Ob (Value.int .i64 (0:Int)=Value.int .i64 (0:Int))∧EqA a.length a.length (updL (updL (El.fn (Rv.elemOf I3 (bonK a b d))) d 0 [SV.i .i64 (cell (bonK a b d) d 0+cS b a d)]) d 2 [SV.i .i64 (0:Int)]) (El.fn (Rv.elemOf I3 (bonK a b p)))∧Ob (Value.int .i64 (0:Int)=Value.int .i64 (0:Int))∧Ob (Value.int .i64 (0:Int)=Value.int .i64 (0:Int))∧Ob (Value.int .i64 (0:Int)=Value.int .i64 (0:Int))∧Ob (Value.int .i64 (0:Int)=Value.int .i64 (0:Int))∧Ob (SV.v (Value.slice none 0 0)=SV.v (Value.slice none 0 0))∧Ob (Value.int .i64 (0:Int)=Value.int .i64 (0:Int))∧Ob (j=j)∧Ob (c=c)∧Ob (k=k)∧Ob (b=b)∧Ob (g=g)∧Ob (e=e)∧Ob (f=f)∧Ob (h=h)∧Ob (a.length=a.length)∧Ob (i=i)∧Ob (PlainE a.length (El.fn fun(m:Nat)↦[SV.i .i64 (cS b a m)]))∧Ob (PlainE a.length (El.fn (Rv.elemOf I3 (bonK a b p))))∧True)∧(¬(↑d:Int) < (↑a.length:Int)→∃(q:DS),Ob (DlOk g e f h a i j c k b q)∧Ob ((0:Int)=q.e)∧EqA a.length a.length (El.fn (Rv.elemOf I3 (bonK a b d))) (El.fn (Rv.elemOf I3 q.A))∧Ob (Value.int .i64 (0:Int)=Value.int .i64 (0:Int))∧Ob (Value.int .i64 (0:Int)=Value.int .i64 (0:Int))∧Ob (Value.int .i64 (0:Int)=Value.int .i64 (0:Int))∧Ob (Value.int .i64 (0:Int)=Value.int .i64 (0:Int))∧Ob (SV.v (Value.slice none 0 0)=SV.v (Value.slice none 0 0))∧Ob (Value.int .i64 (0:Int)=Value.int .i64 (0:Int))∧Ob (g=g)∧Ob (e=e)∧Ob (f=f)∧Ob (h=h)∧Ob (a.length=a.length)∧Ob (i=q.t)∧Ob (PlainE a.length (El.fn (Rv.elemOf I3 q.A)))∧True))))∧(¬j=(7:Int)→(j=(8:Int)→(i < b→∃(d:DS),Ob (DlOk g e f h a i j c k b d)∧Ob ((4:Int)=d.e)∧EqA a.length a.length (El.fn (Rv.elemOf I3 a)) (El.fn (Rv.elemOf I3 d.A))∧Ob (Value.int .i64 (0:Int)=Value.int .i64 (0:Int))∧Ob (Value.int .i64 (0:Int)=Value.int .i64 (0:Int))∧Ob (Value.int .i64 (0:Int)=Value.int .i64 (0:Int))∧Ob (Value.int .i64 (0:Int)=Value.int .i64 (0:Int))∧Ob (SV.v (Value.slice none 0 0)=SV.v (Value.slice none 0 0))∧Ob (Value.int .i64 (0:Int)=Value.int .i64 (0:Int))∧Ob (g=g)∧Ob (e=e)∧Ob (f=f)∧Ob (h=h)∧Ob (a.length=a.length)∧Ob (i=d.t)∧Ob (PlainE a.length (El.fn (Rv.elemOf I3 d.A)))∧True)∧(¬i < b→RwE 3 I3 a fun l=>Ob (Small l i)∧(surp l i < b→∃(d:DS),Ob (DlOk g e f h a i j c k b d)∧Ob ((12:Int)=d.e)∧EqA a.length a.length (El.fn (Rv.elemOf I3 a)) (El.fn (Rv.elemOf I3 d.A))∧Ob (Value.int .i64 (0:Int)=Value.int .i64 (0:Int))∧Ob (Value.int .i64 (0:Int)=Value.int .i64 (0:Int))∧Ob (Value.int .i64 (0:Int)=Value.int .i64 (0:Int))∧Ob (Value.int .i64 (0:Int)=Value.int .i64 (0:Int))∧Ob (SV.v (Value.slice none 0 0)=SV.v (Value.slice none 0 0))∧Ob (Value.int .i64 (0:Int)=Value.int .i64 (0:Int))∧Ob (g=g)∧Ob (e=e)∧Ob (f=f)∧Ob (h=h)∧Ob (a.length=a.length)∧Ob (i=d.t)∧Ob (PlainE a.length (El.fn (Rv.elemOf I3 d.A)))∧True)∧(¬surp l i < b→Ob (InR .i64 (i-b))∧∃(d:DS),Ob (DlOk g e f h a i j c k b d)∧Ob ((0:Int)=d.e)∧EqA a.length a.length (El.fn (Rv.elemOf I3 a)) (El.fn (Rv.elemOf I3 d.A))∧Ob (Value.int .i64 (0:Int)=Value.int .i64 (0:Int))∧Ob (Value.int .i64 (0:Int)=Value.int .i64 (0:Int))∧Ob (Value.int .i64 (0:Int)=Value.int .i64 (0:Int))∧Ob (Value.int .i64 (0:Int)=Value.int .i64 (0:Int))∧Ob (SV.v (Value.slice none 0 0)=SV.v (Value.slice none 0 0))∧Ob (Value.int .i64 (0:Int)=Value.int .i64 (0:Int))∧Ob (g=g)∧Ob (e=e)∧Ob (f=f)∧Ob (h=h)∧Ob (a.length=a.length)∧Ob (i-b=d.t)∧Ob (PlainE a.length (El.fn (Rv.elemOf I3 d.A)))∧True)))∧(¬j=(8:Int)→∃(d:DS),Ob (DlOk g e f h a i j c k b d)∧Ob ((0:Int)=d.e)∧EqA a.length a.length (El.fn (Rv.elemOf I3 a)) (El.fn (Rv.elemOf I3 d.A))∧Ob (Value.int .i64 (0:Int)=Value.int .i64 (0:Int))∧Ob (Value.int .i64 (0:Int)=Value.int .i64 (0:Int))∧Ob (Value.int .i64 (0:Int)=Value.int .i64 (0:Int))∧Ob (Value.int .i64 (0:Int)=Value.int .i64 (0:Int))∧Ob (SV.v (Value.slice none 0 0)=SV.v (Value.slice none 0 0))∧Ob (Value.int .i64 (0:Int)=Value.int .i64 (0:Int))∧Ob (g=g)∧Ob (e=e)∧Ob (f=f)∧Ob (h=h)∧Ob (a.length=a.length)∧Ob (i=d.t)∧Ob (PlainE a.length (El.fn (Rv.elemOf I3 d.A)))∧True)))))))))∧∀(d:DS),DlOk g e f h a i j c k b d→∀(_ _ _ _ _ _ _ _ _ _ _ _ _ _ _ _ _ _ _ _ _ _ _ _ _ _ _ _ _ _ _ _ _ _ _ _ _ _ _:Value),(¬d.e=(0:Int)→Ob ((0:Int)=z0 (doE g e f h a i j c k b) g)∧Ob ((0:Int)=z0 (doE g e f h a i j c k b) e)∧Ob ((0:Int)=z0 (doE g e f h a i j c k b) f)∧Ob ((0:Int)=z0 (doE g e f h a i j c k b) h)∧Ob (List.length (doX g e f h a i j c k b)=(0:Nat))∧Ob ((0:Int)=z0 (doE g e f h a i j c k b) (dT i j b))∧Ob (d.e=doE g e f h a i j c k b)∧Ob (List.length (doX g e f h a i j c k b)=(0:Nat))∧PlA I3 (doX g e f h a i j c k b)∧True)∧(¬¬d.e=(0:Int)→RwA a.length a.length 3 I3 ((El.fn (Rv.elemOf I3 d.A)).at) fun l=>Ob (l.length≤4000000)∧(¬coopErr g e f h l d.t=(0:Int)→Ob ((0:Int)=z0 (doE g e f h a i j c k b) g)∧Ob ((0:Int)=z0 (doE g e f h a i j c k b) e)∧Ob ((0:Int)=z0 (doE g e f h a i j c k b) f)∧Ob ((0:Int)=z0 (doE g e f h a i j c k b) h)∧Ob (List.length (doX g e f h a i j c k b)=(0:Nat))∧Ob ((0:Int)=z0 (doE g e f h a i j c k b) (dT i j b))∧Ob ((5:Int)=doE g e f h a i j c k b)∧Ob (List.length (doX g e f h a i j c k b)=(0:Nat))∧PlA I3 (doX g e f h a i j c k b)∧True)∧(¬¬coopErr g e f h l d.t=(0:Int)→Ob (g=z0 (doE g e f h a i j c k b) g)∧Ob (e=z0 (doE g e f h a i j c k b) e)∧Ob (f=z0 (doE g e f h a i j c k b) f)∧Ob (h=z0 (doE g e f h a i j c k b) h)∧Ob (a.length=List.length (doX g e f h a i j c k b)∧(0:Nat) < List.length (doX g e f h a i j c k b))∧Ob (d.t=z0 (doE g e f h a i j c k b) (dT i j b))∧Ob ((0:Int)=doE g e f h a i j c k b)∧EqA a.length (List.length (doX g e f h a i j c k b)) (El.fn (Rv.elemOf I3 d.A)) (El.fn (Rv.elemOf I3 (doX g e f h a i j c k b)))∧PlA I3 (doX g e f h a i j c k b)∧True))))
set_option linter.unusedSimpArgs false in
set_option maxRecDepth 4000 in
set_option maxHeartbeats 2000000 in
theorem v_DoRU:V_DoRU:=by
 unfold V_DoRU EqA I3 LsA PlA RwA RwB RwE
 intro B fee itr pri cre x A hx hox hrx till dk dm dO dq hA
 have hA:A.length≤4000000:=hA
 have er:∀e1:Int,e1=doE fee itr pri cre A till dk dm dO dq→e1≠0→(0=z0 (doE fee itr pri cre A till dk dm dO dq) fee∧0=z0 (doE fee itr pri cre A till dk dm dO dq) itr∧0=z0 (doE fee itr pri cre A till dk dm dO dq) pri∧0=z0 (doE fee itr pri cre A till dk dm dO dq) cre∧(doX fee itr pri cre A till dk dm dO dq).length=0∧0=z0 (doE fee itr pri cre A till dk dm dO dq) (dT till dk dq)∧e1=doE fee itr pri cre A till dk dm dO dq∧(doX fee itr pri cre A till dk dm dO dq).length=0∧PlainE (doX fee itr pri cre A till dk dm dO dq).length (.fn (Rv.elemOf [.i64,.i64,.i64] (doX fee itr pri cre A till dk dm dO dq)))):=fun e1 h1 h2=>by
  have e:doE fee itr pri cre A till dk dm dO dq≠0:=by rw [← h1]; exact h2
  exact⟨z0_no e,z0_no e,z0_no e,z0_no e,doX_no e,z0_no e,h1,doX_no e,plain_elemOf _ _ _⟩
 simp only [Ob_iff,and_true,true_and,Classical.not_not]
 refine⟨A,⟨hx,rfl,hrx,fun _ _=>rfl⟩,hA,fun h=>?_,fun hpre=>⟨A,⟨hx,rfl,hrx,fun _ _=>rfl⟩,?_,?_,?_⟩⟩
 ·exact er _ (doE_bad h).symm h
 ·have hl:=(coop_ok hpre).l
  omega
 ·intro h
  exact er _ (by rw [doE_chk hpre,afE_chk h]) h
 intro h
 have hv:=coop_ok hpre
 have hl:=hv.l
 have hlen:A.length≤100:=by omega
 have e0:doE fee itr pri cre A till dk dm dO dq=afE fee itr pri cre A till dk dm dO dq:=doE_chk hpre
 refine⟨⟨hx,fun h0=>absurd h0 (by omega),fun h0=>⟨by omega,by omega,0,⟨by omega,fun i _=>behind_at _ _ _ _⟩,by omega,plain_elemOf _ _ _⟩⟩,?_⟩
 intro _ _
 intros
 simp only [InR]
 refine⟨?_,?_⟩
 ·obtain⟨hk,hm,hq,ho⟩:=dchk_ok (by omega) h
  have hm1:dm.toNat < A.length:=by omega
  have am:=hv.a dm.toNat hm1
  unfold accAt mny at am
  have ht:=hv.t
  unfold mny at ht
  have hrt:=hv.r
  unfold mny at hrt
  have pf:=prt_in (q:=dq) (p:=fee) (by omega) hrt.1
  have pi:=prt_in (q:=dq) (p:=itr) (by omega) hrt.2.1
  have hqp:0≤dq*pri∧dq*pri≤1000000000000:=by
   have h3:0≤dq*pri:=Int.mul_nonneg (by omega) hrt.2.2.1.1
   have h4:dq*pri≤dq*1000:=Int.mul_le_mul_of_nonneg_left hrt.2.2.1.2 (by omega)
   omega
  refine⟨⟨hm.1,hm1⟩,fun h1=>?_,fun g1=>⟨fun h1=>?_,fun g2=>⟨fun h1=>?_,fun g3=>⟨fun h1=>?_,fun g4=>⟨fun h1=>?_,fun g5=>⟨fun h1=>?_,fun g6=>⟨fun h1=>?_,fun g7=>⟨fun h1=>?_,fun g8=>?_⟩⟩⟩⟩⟩⟩⟩⟩
  ·subst h1
   refine⟨by omega,hm1,by omega,hm1,by omega,⟨by omega,hrt.1⟩,by omega,⟨hm1,rfl⟩,plain_upd (plain_elemOf _ _ _),⟨hm1,by simp [updL,El.at,el3]⟩,⟨0,_,_⟩,DlOk.fin rfl,rfl,fun i hi=>?_,rfl,plain_elemOf _ _ _⟩
   show _=Rv.elemOf _ (dA _ _ _ _ _ _ _ _ _ _) i
   rw [dA_at _ _ _ _ _ _ _ _ _ _ hi]
   by_cases e:i=dm.toNat<;>simp [updL,El.at,el3,dB,dD,dS,e]<;>omega
  ·subst h1
   refine⟨by omega,hm1,fun h2=>⟨⟨4,A,till⟩,DlOk.err (by simp [dE,h2]) (by omega) rfl hrx,rfl,fun i hi=>rfl,rfl,plain_elemOf _ _ _⟩,fun h2=>⟨hm1,by omega,by omega,⟨hm1,rfl⟩,⟨0,_,_⟩,DlOk.fin (by simp [dE]; omega),rfl,fun i hi=>?_,rfl,plain_elemOf _ _ _⟩⟩
   show _=Rv.elemOf _ (dA _ _ _ _ _ _ _ _ _ _) i
   rw [dA_at _ _ _ _ _ _ _ _ _ _ hi]
   by_cases e:i=dm.toNat<;>simp [updL,El.at,el3,dB,dD,dS,e]
  ·subst h1
   refine⟨hm1,by omega,⟨by omega,hrt.2.1⟩,by omega,fun h2=>⟨⟨12,A,till⟩,DlOk.err (by simp [dE]; omega) (by omega) rfl hrx,rfl,fun i hi=>rfl,rfl,plain_elemOf _ _ _⟩,fun h2=>⟨hm1,by omega,⟨by omega,hrt.2.1⟩,by omega,hm1,by omega,⟨hm1,rfl⟩,plain_upd (plain_elemOf _ _ _),⟨hm1,by simp [updL,El.at,el3]⟩,⟨0,_,_⟩,DlOk.fin (by simp [dE]; omega),rfl,fun i hi=>?_,rfl,plain_elemOf _ _ _⟩⟩
   show _=Rv.elemOf _ (dA _ _ _ _ _ _ _ _ _ _) i
   rw [dA_at _ _ _ _ _ _ _ _ _ _ hi]
   by_cases e:i=dm.toNat<;>simp [updL,El.at,el3,dB,dD,dS,e]<;>omega
  ·subst h1
   refine⟨hm1,fun h2=>⟨⟨12,A,till⟩,DlOk.err (by simp [dE,h2]) (by omega) rfl hrx,rfl,fun i hi=>rfl,rfl,plain_elemOf _ _ _⟩,fun h2=>⟨hm1,fun h3=>⟨⟨4,A,till⟩,DlOk.err (by simp [dE,h2,h3]) (by omega) rfl hrx,rfl,fun i hi=>rfl,rfl,plain_elemOf _ _ _⟩,fun h3=>⟨hm1,by omega,hm1,by omega,⟨hm1,rfl⟩,plain_upd (plain_elemOf _ _ _),⟨hm1,by simp [updL,El.at,el3]⟩,⟨0,_,_⟩,DlOk.fin (by simp [dE]; omega),rfl,fun i hi=>?_,rfl,plain_elemOf _ _ _⟩⟩⟩
   show _=Rv.elemOf _ (dA _ _ _ _ _ _ _ _ _ _) i
   rw [dA_at _ _ _ _ _ _ _ _ _ _ hi]
   by_cases e:i=dm.toNat<;>simp [updL,El.at,el3,dB,dD,dS,e]
  ·subst h1
   refine⟨hm1,fun h2=>⟨fun h3=>⟨⟨4,A,till⟩,DlOk.err (by simp [dE,h3]) (by omega) rfl hrx,rfl,fun i hi=>rfl,rfl,plain_elemOf _ _ _⟩,fun h3=>⟨by omega,hm1,by omega,⟨hm1,rfl⟩,⟨0,_,_⟩,DlOk.fin (by simp [dE]; omega),rfl,fun i hi=>?_,rfl,plain_elemOf _ _ _⟩⟩,fun h2=>⟨⟨4,A,till⟩,DlOk.err (by simp [dE,h2]) (by omega) rfl hrx,rfl,fun i hi=>rfl,rfl,plain_elemOf _ _ _⟩⟩
   show _=Rv.elemOf _ (dA _ _ _ _ _ _ _ _ _ _) i
   rw [dA_at _ _ _ _ _ _ _ _ _ _ hi]
   by_cases e:i=dm.toNat<;>simp [updL,El.at,el3,dB,dD,dS,e]
  ·subst h1
   obtain⟨ho1,ho2⟩:=ho rfl
   have ho3:dO.toNat < A.length:=by omega
   have ne:¬ dO.toNat=dm.toNat:=by omega
   have ao:=hv.a dO.toNat ho3
   unfold accAt mny at ao
   refine⟨hm1,fun h3=>⟨⟨4,A,till⟩,DlOk.err (by simp [dE,h3]) (by omega) rfl hrx,rfl,fun i hi=>rfl,rfl,plain_elemOf _ _ _⟩,fun h3=>⟨hm1,by omega,⟨hm1,rfl⟩,⟨ho1.1,ho3⟩,ho3,fun h4=>absurd h4 ne,fun _=>⟨by omega,⟨ho1.1,ho3⟩,⟨ho3,by simp [updL,El.at,el3,ne]⟩,⟨0,_,_⟩,DlOk.fin (by simp [dE]; omega),rfl,fun i hi=>?_,rfl,plain_elemOf _ _ _⟩⟩⟩
   show _=Rv.elemOf _ (dA _ _ _ _ _ _ _ _ _ _) i
   rw [dA_at _ _ _ _ _ _ _ _ _ _ hi]
   by_cases e:i=dm.toNat
   ·subst e
    have e3:¬ dm.toNat=dO.toNat:=fun h=>ne h.symm
    simp [updL,El.at,el3,dB,dD,dS,e3]
   ·by_cases e2:i=dO.toNat
    ·simp [updL,El.at,el3,dB,dD,dS,e2,ne]
    ·simp [updL,El.at,el3,dB,dD,dS,e,e2]
  ·subst h1
   refine⟨A,⟨rfl,hrx,fun i hi=>rfl⟩,hv.small,fun h2=>⟨⟨12,A,till⟩,DlOk.err (by simp [dE,h2]) (by omega) rfl hrx,rfl,fun i hi=>rfl,rfl,plain_elemOf _ _ _⟩,fun h2=>⟨A,⟨rfl,hrx,fun i hi=>rfl⟩,by omega,fun h3=>?_,fun h3=>?_⟩⟩
   ·have h3:idl A:=h3
    exact⟨⟨6,A,till⟩,DlOk.err (by simp [dE,h2,h3]) (by omega) rfl hrx,rfl,fun i hi=>rfl,rfl,plain_elemOf _ _ _⟩
   ·have h3:¬ idl A:=h3
    have sh:=hv.shr (d:=dq) (by unfold mny; omega) h3
    refine⟨A,⟨rfl,hrx,fun i hi=>rfl⟩,sh,⟨0,Nat.zero_le _,rfl,rfl,⟨rfl,fun i hi=>rfl⟩,fun i hi=>?_,plain_fnD _ _,plain_elemOf _ _ _⟩,?_⟩
    ·show _=Rv.elemOf _ (rows3 _ _ _ _) i
     rw [rows3_at _ _ _ hi]
     simp [el3,El.at]
    intro k hk
    intros
    refine⟨fun h4=>?_,fun h4=>?_⟩
    ·have hk:k < A.length:=by omega
     have ak:=hv.a k hk
     unfold accAt mny at ak
     have sk:=cS_in sh hk
     rw [bonK_0 hk,if_neg (Nat.lt_irrefl _)]
     refine⟨⟨by omega,hk⟩,hk,⟨by omega,hk⟩,hk,by omega,⟨by omega,hk⟩,⟨hk,rfl⟩,plain_upd (plain_elemOf _ _ _),⟨by omega,hk⟩,⟨hk,by simp [updL,El.at,el3]⟩,by omega,k+1,⟨hk,by omega⟩,by omega,fun i hi=>trivial,fun i hi=>?_,plain_fnD _ _,plain_elemOf _ _ _⟩
     show _=Rv.elemOf _ (rows3 _ _ _ _) i
     rw [rows3_at _ _ _ hi]
     have e1:Rv.elemOf [.i64,.i64,.i64] (bonK A dq k) i=_:=rows3_at _ _ _ hi
     by_cases e:i=k
     ·subst e
      simp [updL,El.at,e1]
     ·have e2:(i < k+1)=(i < k):=by apply propext; omega
      simp [updL,El.at,e1,e,e2]
    ·have ek:k=A.length:=by omega
     subst ek
     refine⟨⟨0,_,_⟩,DlOk.fin (by simp [dE,h2,h3]),rfl,fun i hi=>?_,rfl,plain_elemOf _ _ _⟩
     show _=Rv.elemOf _ (dA _ _ _ _ _ _ _ _ _ _) i
     rw [dA_at _ _ _ _ _ _ _ _ _ _ hi]
     have e1:Rv.elemOf [.i64,.i64,.i64] (bonK A dq A.length) i=_:=rows3_at _ _ _ hi
     simp [El.at,e1,hi,dB,dD,dS]
  ·subst h1
   refine⟨fun h2=>⟨⟨4,A,till⟩,DlOk.err (by simp [dE,h2]) (by omega) rfl hrx,rfl,fun i hi=>rfl,rfl,plain_elemOf _ _ _⟩,fun h2=>⟨A,⟨rfl,hrx,fun i hi=>rfl⟩,hv.small,fun h3=>⟨⟨12,A,till⟩,DlOk.err (by simp [dE,h2,h3]) (by omega) rfl hrx,rfl,fun i hi=>rfl,rfl,plain_elemOf _ _ _⟩,fun h3=>⟨by omega,⟨0,_,_⟩,DlOk.fin (by simp [dE,h2,h3]),rfl,fun i hi=>?_,rfl,plain_elemOf _ _ _⟩⟩⟩
   show _=Rv.elemOf _ (dA _ _ _ _ _ _ _ _ _ _) i
   rw [dA_at _ _ _ _ _ _ _ _ _ _ hi]
   simp [El.at,el3,dB,dD,dS]
  ·omega
 ·intro v hd
  intros
  have le:v.A.length=A.length:=hd.l
  refine⟨fun h1=>?_,fun h1=>?_⟩
  ·exact er _ (by rw [e0,afE_do h (by rw [← hd.e]; exact h1),hd.e]) h1
  ·obtain⟨d1,d2⟩:=hd.d h1
   have z:dE fee itr pri cre A till dk dm dO dq=0:=by rw [← hd.e]; exact h1
   refine⟨v.A,⟨le,hd.r,fun i hi=>rfl⟩,by omega,fun h2=>?_,fun h2=>?_⟩
   ·have ef:fullC (dA fee itr pri cre A till dk dm dO dq) (dT till dk dq):=Classical.byContradiction fun hn=>h2 (by rw [d1,d2]; exact coop_zero (step_ok hv h z hn))
    exact er _ (by rw [e0,afE_ful h z,if_pos ef]) (by omega)
   ·have nf:¬ fullC (dA fee itr pri cre A till dk dm dO dq) (dT till dk dq):=fun hf=>by
     have:=full_bad (fee:=fee) (itr:=itr) (pri:=pri) (cre:=cre) hf
     rw [← d1,← d2]at this
     exact this h2
    have h0:doE fee itr pri cre A till dk dm dO dq=0:=by rw [e0,afE_ful h z,if_neg nf]
    have hp:=doE_len h0
    rw [doX_yes h0,dA_len,d2,d1]
    exact⟨z0_yes h0,z0_yes h0,z0_yes h0,z0_yes h0,⟨rfl,hp⟩,z0_yes h0,h0.symm,⟨rfl,fun _ _=>rfl⟩,plain_elemOf _ _ _⟩
theorem e_DoRU:V_DoRU=needEI P [F_CheckR,F_checkDealR,F_PartR,F_surplusR,F_idleR] [F_sharesR] I_DoRU A_DoRU F_DoRU:=by kernel_rfl
theorem n_DoRU:Ob (needEI P [F_CheckR,F_checkDealR,F_PartR,F_surplusR,F_idleR] [F_sharesR] I_DoRU A_DoRU F_DoRU):=by
 rw [← e_DoRU]
 exact⟨v_DoRU⟩
theorem b_DoRU:((P.funcs[16]?).any fun fn=>fn.body.isSome)=true:=by kernel_rfl
theorem DoRU_ok:FnE.Ok P F_DoRU:=FnE.okI named (l:=[F_CheckR,F_checkDealR,F_PartR,F_surplusR,F_idleR]) (es:=[F_sharesR]) (I:=I_DoRU) (A:=A_DoRU) (by rfl) (by rfl) (by rfl) (by
 intro F h
 simp only [List.mem_cons,List.not_mem_nil,or_false]at h
 rcases h with rfl | rfl | rfl | rfl | rfl
 ·exact CheckR_ok
 ·exact checkDealR_ok
 ·exact PartR_ok
 ·exact surplusR_ok
 ·exact idleR_ok
) (by
 intro F h
 simp only [List.mem_cons,List.not_mem_nil,or_false]at h
 rcases h with rfl
 ·exact sharesR_ok
) b_DoRU (by
 intro ds h o ho n sz e k z he
 subst he
 simp only [F_DoRU]at ho
 split at ho
 ·simp only [List.mem_cons,List.not_mem_nil,or_false,SObj.gr.injEq]at ho
  obtain⟨rfl,rfl,rfl,rfl,rfl⟩:=ho
  exact plain_elemOf _ _ _
 ·simp at ho) n_DoRU
noncomputable def F_RunU:FnE:=⟨17,none,[.agg [.i .i64,.i .i64,.i .i64,.i .i64,.l [.i64,.i64,.i64],.i .i64],.one (.l [.i64,.i64,.i64,.i64])],fun l=>match l with | [.z fee,.z itr,.z pri,.z cre,.l A,.z till,.l D]=>A.length≤4000000∧D.length≤4000000 | _=>False,fun l=>match l with | [.z fee,.z itr,.z pri,.z cre,.l A,.z till,.l D]=>[.agg [.i .i64 (z0 (rnErr fee itr pri cre A till D) fee),.i .i64 (z0 (rnErr fee itr pri cre A till D) itr),.i .i64 (z0 (rnErr fee itr pri cre A till D) pri),.i .i64 (z0 (rnErr fee itr pri cre A till D) cre),.gsl 0 (rnX fee itr pri cre A till D).length 3 true,.i .i64 (z0 (rnErr fee itr pri cre A till D) (rnT fee itr pri cre A till D D.length))],.gsl 1 (rnL fee itr pri cre A till D).length 1 true,.i .i64 (rnErr fee itr pri cre A till D)] | _=>[],fun l=>match l with | [.z fee,.z itr,.z pri,.z cre,.l A,.z till,.l D]=>[.gr (rnL fee itr pri cre A till D).length 1 (.fn (Rv.elemOf [.i64] (rnL fee itr pri cre A till D))) .gr true,.gr (rnX fee itr pri cre A till D).length 3 (.fn (Rv.elemOf [.i64,.i64,.i64] (rnX fee itr pri cre A till D))) .gr true] | _=>[],fun l=>match l with | [.z fee,.z itr,.z pri,.z cre,.l A,.z till,.l D]=>[] | _=>[],false,none,none⟩
noncomputable def A_RunU:List SV→List Dat→Nat→List SV→Ann:=fun xs ds n ts=>match xs with
 | [.agg [_,_,_,_,.lst x _ _ _,_],.lst y _ _ _]=>match ds with
  | [.z fee,.z itr,.z pri,.z cre,.l A,.z till,.l D]=>match n with
   | 9=>⟨Nat,fun k=>([none,none,none,none,some (SV.ptr ((1:Nat)) ((0:Nat))),some (SV.v (Value.slice none ((0:Nat)) ((0:Nat)))),some (SV.v (Value.int IntKind.i64 (0:Int))),none,some (.ptr 5 0),some (.gsl 6 k 1 true)]++nN 19++[some (SV.lst y D.length ((4:Nat)) (Rv.elemOf [IntKind.i64,IntKind.i64,IntKind.i64,IntKind.i64] D)),some (SV.i IntKind.i64 (↑D.length:Int)),some (.i .i64 k)]++nN 19),fun k=>[.gr k 1 (.fn (Rv.elemOf [.i64] (erL fee itr pri cre A till D k))) .gr true,.cells [.i .i64 fee,.i .i64 itr,.i .i64 pri,.i .i64 cre,.gsl 3 A.length 3 false,.i .i64 (rnT fee itr pri cre A till D k)] .ex,.dead,.gr A.length 3 (.fn (Rv.elemOf [.i64,.i64,.i64] (rnA fee itr pri cre A till D k))) .gr false,.dead,SObj.cells [SV.v (Value.int IntKind.i64 (0:Int)),SV.v (Value.int IntKind.i64 (0:Int)),SV.v (Value.int IntKind.i64 (0:Int)),SV.v (Value.int IntKind.i64 (0:Int)),SV.v (Value.slice none ((0:Nat)) ((0:Nat))),SV.v (Value.int IntKind.i64 (0:Int))] Kd.ex,SObj.cells [SV.i IntKind.i64 fee,SV.i IntKind.i64 itr,SV.i IntKind.i64 pri,SV.i IntKind.i64 cre,SV.lst x A.length ((3:Nat)) (Rv.elemOf [IntKind.i64,IntKind.i64,IntKind.i64] A),SV.i IntKind.i64 till] Kd.ex],fun k=>k≤D.length,fun k=>D.length-k,0⟩
   | _=>noAnn
  | _=>noAnn
 | _=>noAnn
noncomputable def A_RunU_1:List SV→List Dat→List SV→List SObj→Nat→List SV→Ann:=fun _ _ _ _ _ _=>noAnn
noncomputable def I_RunU:List SV→List Dat→List In:=fun xs ds=>[⟨41,A_RunU_1 xs ds⟩]
def V_RunU:Prop:=
 ∀(B:RW) (d e g f:Int) (k:RV) (b:List (List Int)),IsLst B k b.length 3 (Rv.elemOf I3 b)→oneB k=true→(∀row∈b,row.length=3)→∀(h:Int) (j:RV) (a:List (List Int)),IsLst B j a.length 4 (Rv.elemOf I4 a)→oneB j=true→(∀row∈a,row.length=4)→F_RunU.pre ([Dat.z d,Dat.z e,Dat.z g,Dat.z f,Dat.l b,Dat.z h]++([Dat.l a]++[]))→RwB B k b.length 3 I3 b fun o=>Ob (F_CheckC.pre ([Dat.z d,Dat.z e,Dat.z g,Dat.z f,Dat.l o,Dat.z h]++[]))∧(¬coopErr d e g f o h=(0:Int)→Ob ((0:Int)=z0 (rnErr d e g f b h a) d)∧Ob ((0:Int)=z0 (rnErr d e g f b h a) e)∧Ob ((0:Int)=z0 (rnErr d e g f b h a) g)∧Ob ((0:Int)=z0 (rnErr d e g f b h a) f)∧Ob (List.length (rnX d e g f b h a)=(0:Nat))∧Ob ((0:Int)=z0 (rnErr d e g f b h a) (rnT d e g f b h a a.length))∧Ob (List.length (rnL d e g f b h a)=(0:Nat))∧Ob (coopErr d e g f o h=rnErr d e g f b h a)∧Ob (List.length (rnL d e g f b h a)=(0:Nat))∧Ob (List.length (rnX d e g f b h a)=(0:Nat))∧PlA [.i64] (rnL d e g f b h a)∧PlA I3 (rnX d e g f b h a)∧True)∧(¬¬coopErr d e g f o h=(0:Int)→LsA B j I4 a∧((200:Int) < (↑a.length:Int)→Ob ((0:Int)=z0 (rnErr d e g f b h a) d)∧Ob ((0:Int)=z0 (rnErr d e g f b h a) e)∧Ob ((0:Int)=z0 (rnErr d e g f b h a) g)∧Ob ((0:Int)=z0 (rnErr d e g f b h a) f)∧Ob (List.length (rnX d e g f b h a)=(0:Nat))∧Ob ((0:Int)=z0 (rnErr d e g f b h a) (rnT d e g f b h a a.length))∧Ob (List.length (rnL d e g f b h a)=(0:Nat))∧Ob ((5:Int)=rnErr d e g f b h a)∧Ob (List.length (rnL d e g f b h a)=(0:Nat))∧Ob (List.length (rnX d e g f b h a)=(0:Nat))∧PlA [.i64] (rnL d e g f b h a)∧PlA I3 (rnX d e g f b h a)∧True)∧(¬(200:Int) < (↑a.length:Int)→RwB B k b.length 3 I3 b fun n=>Ob (F_cloneA.pre [Dat.l n])∧LsA B j I4 a∧(∃(c:Nat),Ob (c≤a.length)∧Ob (SV.v (Value.slice none 0 0)=SV.v (Value.slice none 0 0))∧Ob (Value.int .i64 (0:Int)=Value.int .i64 (0:Int))∧Ob (c=(0:Nat))∧Ob (SV.lst j a.length 4 (Rv.elemOf I4 a)=SV.lst j a.length 4 (Rv.elemOf I4 a))∧Ob ((↑a.length:Int)=(↑a.length:Int))∧Ob ((0:Int)=(↑c:Int))∧Ob (c=(0:Nat))∧Ob (d=d)∧Ob (e=e)∧Ob (g=g)∧Ob (f=f)∧Ob (n.length=b.length)∧Ob (h=rnT d e g f b h a c)∧EqA n.length b.length (El.fn (Rv.elemOf I3 n)) (El.fn (Rv.elemOf I3 (rnA d e g f b h a c)))∧Ob (Value.int .i64 (0:Int)=Value.int .i64 (0:Int))∧Ob (Value.int .i64 (0:Int)=Value.int .i64 (0:Int))∧Ob (Value.int .i64 (0:Int)=Value.int .i64 (0:Int))∧Ob (Value.int .i64 (0:Int)=Value.int .i64 (0:Int))∧Ob (SV.v (Value.slice none 0 0)=SV.v (Value.slice none 0 0))∧Ob (Value.int .i64 (0:Int)=Value.int .i64 (0:Int))∧Ob (d=d)∧Ob (e=e)∧Ob (g=g)∧Ob (f=f)∧Ob (SV.lst k b.length 3 (Rv.elemOf I3 b)=SV.lst k b.length 3 (Rv.elemOf I3 b))∧Ob (h=h)∧LsA B j I4 a∧Ob (PlainE c (El.fn (Rv.elemOf [.i64] (erL d e g f b h a c))))∧Ob (PlainE b.length (El.fn (Rv.elemOf I3 (rnA d e g f b h a c))))∧LsA B k I3 b∧True)∧∀(c:Nat),c≤a.length→∀(_ _ _ _ _ _ _ _ _ _ _ _ _ _ _ _ _ _ _ _ _ _ _ _ _ _ _ _ _ _ _ _ _ _ _ _ _ _ _ _ _ _ _:Value),((↑c:Int) < (↑a.length:Int)→Ob ((0:Int)≤(↑c:Int)∧c < a.length∧IsLst B j a.length 4 (Rv.elemOf I4 a))∧Ob (IsLst B j a.length 4 (Rv.elemOf I4 a)∧c < a.length)∧RwA b.length b.length 3 I3 ((El.fn (Rv.elemOf I3 (rnA d e g f b h a c))).at) fun m=>Ob (F_after.pre ([Dat.z d,Dat.z e,Dat.z g,Dat.z f,Dat.l m,Dat.z (rnT d e g f b h a c)]++([Dat.z (cell a c 0),Dat.z (cell a c 1),Dat.z (cell a c 2),Dat.z (cell a c 3)]++[])))∧(C_after ([Dat.z d,Dat.z e,Dat.z g,Dat.z f,Dat.l m,Dat.z (rnT d e g f b h a c)]++([Dat.z (cell a c 0),Dat.z (cell a c 1),Dat.z (cell a c 2),Dat.z (cell a c 3)]++[]))→(afE d e g f m (rnT d e g f b h a c) (cell a c 0) (cell a c 1) (cell a c 2) (cell a c 3)=(0:Int)→Ob (c=c∧∀(l:Nat),l < c→((El.fn (Rv.elemOf [.i64] (erL d e g f b h a c))).at l).length=(1:Nat))∧Ob ((c+(1:Nat))*(2:Nat)*(9:Nat)≤1099511627776)∧Ob (c=c)∧Ob (InR .i64 ((↑c:Int)+(1:Int)))∧∃(i:Nat),Ob (i≤a.length∧a.length-i < a.length-c)∧Ob (SV.v (Value.slice none 0 0)=SV.v (Value.slice none 0 0))∧Ob (Value.int .i64 (0:Int)=Value.int .i64 (0:Int))∧Ob (c+(1:Nat)=i)∧Ob (SV.lst j a.length 4 (Rv.elemOf I4 a)=SV.lst j a.length 4 (Rv.elemOf I4 a))∧Ob ((↑a.length:Int)=(↑a.length:Int))∧Ob ((↑c:Int)+(1:Int)=(↑i:Int))∧EqA (c+(1:Nat)) i (behind c (El.fn (Rv.elemOf [.i64] (erL d e g f b h a c))) 1 (litEl (symL [SV.i .i64 (afE d e g f m (rnT d e g f b h a c) (cell a c 0) (cell a c 1) (cell a c 2) (cell a c 3))]) 1 1)) (El.fn (Rv.elemOf [.i64] (erL d e g f b h a i)))∧Ob ((0:Int)=d)∧Ob ((0:Int)=e)∧Ob ((0:Int)=g)∧Ob ((0:Int)=f)∧False)∧(¬afE d e g f m (rnT d e g f b h a c) (cell a c 0) (cell a c 1) (cell a c 2) (cell a c 3)=(0:Int)→Ob (c=c∧∀(l:Nat),l < c→((El.fn (Rv.elemOf [.i64] (erL d e g f b h a c))).at l).length=(1:Nat))∧Ob ((c+(1:Nat))*(2:Nat)*(9:Nat)≤1099511627776)∧Ob (c=c)∧Ob (InR .i64 ((↑c:Int)+(1:Int)))∧∃(i:Nat),Ob (i≤a.length∧a.length-i < a.length-c)∧Ob (SV.v (Value.slice none 0 0)=SV.v (Value.slice none 0 0))∧Ob (Value.int .i64 (0:Int)=Value.int .i64 (0:Int))∧Ob (c+(1:Nat)=i)∧Ob (SV.lst j a.length 4 (Rv.elemOf I4 a)=SV.lst j a.length 4 (Rv.elemOf I4 a))∧Ob ((↑a.length:Int)=(↑a.length:Int))∧Ob ((↑c:Int)+(1:Int)=(↑i:Int))∧EqA (c+(1:Nat)) i (behind c (El.fn (Rv.elemOf [.i64] (erL d e g f b h a c))) 1 (litEl (symL [SV.i .i64 (afE d e g f m (rnT d e g f b h a c) (cell a c 0) (cell a c 1) (cell a c 2) (cell a c 3))]) 1 1)) (El.fn (Rv.elemOf [.i64] (erL d e g f b h a i)))∧Ob (d=d)∧Ob (e=e)∧Ob (g=g)∧Ob (f=f)∧Ob (b.length=b.length)∧Ob (rnT d e g f b h a c=rnT d e g f b h a i)∧EqA b.length b.length (El.fn (Rv.elemOf I3 (rnA d e g f b h a c))) (El.fn (Rv.elemOf I3 (rnA d e g f b h a i)))∧Ob (Value.int .i64 (0:Int)=Value.int .i64 (0:Int))∧Ob (Value.int .i64 (0:Int)=Value.int .i64 (0:Int))∧Ob (Value.int .i64 (0:Int)=Value.int .i64 (0:Int))∧Ob (Value.int .i64 (0:Int)=Value.int .i64 (0:Int))∧Ob (SV.v (Value.slice none 0 0)=SV.v (Value.slice none 0 0))∧Ob (Value.int .i64 (0:Int)=Value.int .i64 (0:Int))∧Ob (d=d)∧Ob (e=e)∧Ob (g=g)∧Ob (f=f)∧Ob (SV.lst k b.length 3 (Rv.elemOf I3 b)=SV.lst k b.length 3 (Rv.elemOf I3 b))∧Ob (h=h)∧LsA B j I4 a∧Ob (PlainE i (El.fn (Rv.elemOf [.i64] (erL d e g f b h a i))))∧Ob (PlainE b.length (El.fn (Rv.elemOf I3 (rnA d e g f b h a i))))∧LsA B k I3 b∧True))∧(¬C_after ([Dat.z d,Dat.z e,Dat.z g,Dat.z f,Dat.l m,Dat.z (rnT d e g f b h a c)]++([Dat.z (cell a c 0),Dat.z (cell a c 1),Dat.z (cell a c 2),Dat.z (cell a c 3)]++[]))→((0:Int)=(0:Int)→Ob (c=c∧∀(l:Nat),l < c→((El.fn (Rv.elemOf [.i64] (erL d e g f b h a c))).at l).length=(1:Nat))∧Ob ((c+(1:Nat))*(2:Nat)*(9:Nat)≤1099511627776)∧Ob (c=c)∧Ob (InR .i64 ((↑c:Int)+(1:Int)))∧∃(i:Nat),Ob (i≤a.length∧a.length-i < a.length-c)∧Ob (SV.v (Value.slice none 0 0)=SV.v (Value.slice none 0 0))∧Ob (Value.int .i64 (0:Int)=Value.int .i64 (0:Int))∧Ob (c+(1:Nat)=i)∧Ob (SV.lst j a.length 4 (Rv.elemOf I4 a)=SV.lst j a.length 4 (Rv.elemOf I4 a))∧Ob ((↑a.length:Int)=(↑a.length:Int))∧Ob ((↑c:Int)+(1:Int)=(↑i:Int))∧EqA (c+(1:Nat)) i (behind c (El.fn (Rv.elemOf [.i64] (erL d e g f b h a c))) 1 (litEl (symL [SV.i .i64 (0:Int)]) 1 1)) (El.fn (Rv.elemOf [.i64] (erL d e g f b h a i)))∧Ob (d=d)∧Ob (e=e)∧Ob (g=g)∧Ob (f=f)∧Ob (m.length=b.length)∧Ob (dT (rnT d e g f b h a c) (cell a c 0) (cell a c 3)=rnT d e g f b h a i)∧EqA m.length b.length (El.fn (Rv.elemOf I3 (dA d e g f m (rnT d e g f b h a c) (cell a c 0) (cell a c 1) (cell a c 2) (cell a c 3)))) (El.fn (Rv.elemOf I3 (rnA d e g f b h a i)))∧Ob (Value.int .i64 (0:Int)=Value.int .i64 (0:Int))∧Ob (Value.int .i64 (0:Int)=Value.int .i64 (0:Int))∧Ob (Value.int .i64 (0:Int)=Value.int .i64 (0:Int))∧Ob (Value.int .i64 (0:Int)=Value.int .i64 (0:Int))∧Ob (SV.v (Value.slice none 0 0)=SV.v (Value.slice none 0 0))∧Ob (Value.int .i64 (0:Int)=Value.int .i64 (0:Int))∧Ob (d=d)∧Ob (e=e)∧Ob (g=g)∧Ob (f=f)∧Ob (SV.lst k b.length 3 (Rv.elemOf I3 b)=SV.lst k b.length 3 (Rv.elemOf I3 b))∧Ob (h=h)∧LsA B j I4 a∧Ob (PlainE i (El.fn (Rv.elemOf [.i64] (erL d e g f b h a i))))∧Ob (PlainE b.length (El.fn (Rv.elemOf I3 (rnA d e g f b h a i))))∧LsA B k I3 b∧True)∧(¬(0:Int)=(0:Int)→Ob (c=c∧∀(l:Nat),l < c→((El.fn (Rv.elemOf [.i64] (erL d e g f b h a c))).at l).length=(1:Nat))∧Ob ((c+(1:Nat))*(2:Nat)*(9:Nat)≤1099511627776)∧Ob (c=c)∧Ob (InR .i64 ((↑c:Int)+(1:Int)))∧∃(i:Nat),Ob (i≤a.length∧a.length-i < a.length-c)∧Ob (SV.v (Value.slice none 0 0)=SV.v (Value.slice none 0 0))∧Ob (Value.int .i64 (0:Int)=Value.int .i64 (0:Int))∧Ob (c+(1:Nat)=i)∧Ob (SV.lst j a.length 4 (Rv.elemOf I4 a)=SV.lst j a.length 4 (Rv.elemOf I4 a))∧Ob ((↑a.length:Int)=(↑a.length:Int))∧Ob ((↑c:Int)+(1:Int)=(↑i:Int))∧EqA (c+(1:Nat)) i (behind c (El.fn (Rv.elemOf [.i64] (erL d e g f b h a c))) 1 (litEl (symL [SV.i .i64 (0:Int)]) 1 1)) (El.fn (Rv.elemOf [.i64] (erL d e g f b h a i)))∧Ob (d=d)∧Ob (e=e)∧Ob (g=g)∧Ob (f=f)∧Ob (b.length=b.length)∧Ob (rnT d e g f b h a c=rnT d e g f b h a i)∧EqA b.length b.length (El.fn (Rv.elemOf I3 (rnA d e g f b h a c))) (El.fn (Rv.elemOf I3 (rnA d e g f b h a i)))∧Ob (Value.int .i64 (0:Int)=Value.int .i64 (0:Int))∧Ob (Value.int .i64 (0:Int)=Value.int .i64 (0:Int))∧Ob (Value.int .i64 (0:Int)=Value.int .i64 (0:Int))∧Ob (Value.int .i64 (0:Int)=Value.int .i64 (0:Int))∧Ob (SV.v (Value.slice none 0 0)=SV.v (Value.slice none 0 0))∧Ob (Value.int .i64 (0:Int)=Value.int .i64 (0:Int))∧Ob (d=d)∧Ob (e=e)∧Ob (g=g)∧Ob (f=f)∧Ob (SV.lst k b.length 3 (Rv.elemOf I3 b)=SV.lst k b.length 3 (Rv.elemOf I3 b))∧Ob (h=h)∧LsA B j I4 a∧Ob (PlainE i (El.fn (Rv.elemOf [.i64] (erL d e g f b h a i))))∧Ob (PlainE b.length (El.fn (Rv.elemOf I3 (rnA d e g f b h a i))))∧LsA B k I3 b∧True)))∧(¬(↑c:Int) < (↑a.length:Int)→Ob (d=z0 (rnErr d e g f b h a) d)∧Ob (e=z0 (rnErr d e g f b h a) e)∧Ob (g=z0 (rnErr d e g f b h a) g)∧Ob (f=z0 (rnErr d e g f b h a) f)∧Ob (b.length=List.length (rnX d e g f b h a)∧(0:Nat) < List.length (rnX d e g f b h a))∧Ob (rnT d e g f b h a c=z0 (rnErr d e g f b h a) (rnT d e g f b h a a.length))∧Ob (c=List.length (rnL d e g f b h a))∧Ob ((0:Int)=rnErr d e g f b h a)∧EqA c (List.length (rnL d e g f b h a)) (El.fn (Rv.elemOf [.i64] (erL d e g f b h a c))) (El.fn (Rv.elemOf [.i64] (rnL d e g f b h a)))∧EqA b.length (List.length (rnX d e g f b h a)) (El.fn (Rv.elemOf I3 (rnA d e g f b h a c))) (El.fn (Rv.elemOf I3 (rnX d e g f b h a)))∧PlA [.i64] (rnL d e g f b h a)∧PlA I3 (rnX d e g f b h a)∧True)))
set_option linter.unusedSimpArgs false in
set_option maxRecDepth 4000 in
set_option maxHeartbeats 2000000 in
theorem v_RunU:V_RunU:=by
 unfold V_RunU EqA I3 I4 LsA PlA RwA RwB
 intro B fee itr pri cre x A hx hox hrx till y D hy hoy hry hpre
 obtain⟨hA,hD⟩:A.length≤4000000∧D.length≤4000000:=hpre
 have er:∀e1:Int,e1=rnErr fee itr pri cre A till D→e1≠0→(0=z0 (rnErr fee itr pri cre A till D) fee∧0=z0 (rnErr fee itr pri cre A till D) itr∧0=z0 (rnErr fee itr pri cre A till D) pri∧0=z0 (rnErr fee itr pri cre A till D) cre∧(rnX fee itr pri cre A till D).length=0∧0=z0 (rnErr fee itr pri cre A till D) (rnT fee itr pri cre A till D D.length)∧(rnL fee itr pri cre A till D).length=0∧e1=rnErr fee itr pri cre A till D∧(rnL fee itr pri cre A till D).length=0∧(rnX fee itr pri cre A till D).length=0∧PlainE (rnL fee itr pri cre A till D).length (.fn (Rv.elemOf [.i64] (rnL fee itr pri cre A till D)))∧PlainE (rnX fee itr pri cre A till D).length (.fn (Rv.elemOf [.i64,.i64,.i64] (rnX fee itr pri cre A till D)))):=fun e1 h1 h2=>by
  have e:rnErr fee itr pri cre A till D≠0:=by rw [← h1]; exact h2
  exact⟨z0_no e,z0_no e,z0_no e,z0_no e,(rnX_no e).1,z0_no e,(rnX_no e).2,h1,(rnX_no e).2,(rnX_no e).1,plain_elemOf _ _ _,plain_elemOf _ _ _⟩
 have n1:coopErr fee itr pri cre A till≠0→rnErr fee itr pri cre A till D=coopErr fee itr pri cre A till:=fun h=>by unfold rnErr; rw [if_pos h]
 have n2:coopErr fee itr pri cre A till=0→200 < D.length→rnErr fee itr pri cre A till D=5:=fun h h2=>by unfold rnErr; rw [if_neg (fun hh=>hh h),if_pos h2]
 have n3:coopErr fee itr pri cre A till=0→¬ 200 < D.length→rnErr fee itr pri cre A till D=0:=fun h h2=>by unfold rnErr; rw [if_neg (fun hh=>hh h),if_neg h2]
 simp only [Ob_iff,and_true,true_and,Classical.not_not,InR]
 refine⟨A,⟨hx,rfl,hrx,fun _ _=>rfl⟩,hA,fun h1=>er _ (n1 h1).symm h1,fun h1=>⟨hy,fun h2=>?_,fun h2=>?_⟩⟩
 ·have e:=n2 h1 (by omega)
  exact er _ e.symm (by omega)
 have hD2:¬ 200 < D.length:=by omega
 have hv:=coop_ok h1
 have hl:=hv.l
 refine⟨A,⟨hx,rfl,hrx,fun _ _=>rfl⟩,⟨by omega,by omega⟩,hy,⟨0,Nat.zero_le _,rfl,rfl,rfl,rfl,rfl,⟨rfl,fun i hi=>rfl⟩,?_⟩,?_⟩
 ·repeat' (first | exact plain_elemOf _ _ _ | exact hx | exact hy | apply And.intro)
 intro k hk
 intros
 have ek:=rn_ok hv (D:=D) k
 have lk:(rnA fee itr pri cre A till D k).length=A.length:=rn_len k
 have rk:=rn_row (fee:=fee) (itr:=itr) (pri:=pri) (cre:=cre) (till:=till) (D:=D) hrx k
 refine⟨fun h3=>?_,fun h3=>?_⟩
 ·have hk':k < D.length:=by omega
  refine⟨⟨by omega,hk',hy⟩,⟨hy,hk'⟩,rnA fee itr pri cre A till D k,⟨lk,rk,fun i hi=>rfl⟩,coop_zero ek,fun h4=>?_,fun h4=>?_⟩
  ·have h4:rnE fee itr pri cre A till D k≠0:=h4
   obtain⟨e1,e2⟩:=rn_no h4
   refine⟨fun h5=>absurd h5 h4,fun _=>⟨fun i hi=>rfl,by omega,by omega,k+1,⟨hk',by omega⟩,rfl,by omega,⟨rfl,erL_at rfl⟩,e2.symm,fun i hi=>by rw [e1],?_⟩⟩
   repeat' (first | exact plain_elemOf _ _ _ | exact hx | exact hy | apply And.intro)
  ·have h4:¬ rnE fee itr pri cre A till D k≠0:=h4
   have h4:rnE fee itr pri cre A till D k=0:=by omega
   obtain⟨e1,e2⟩:=rn_yes h4
   refine⟨fun _=>⟨fun i hi=>rfl,by omega,by omega,k+1,⟨hk',by omega⟩,rfl,by omega,⟨rfl,erL_at h4.symm⟩,lk,e2.symm,⟨lk,fun i hi=>by rw [e1]⟩,?_⟩,fun h5=>absurd trivial h5⟩
   repeat' (first | exact plain_elemOf _ _ _ | exact hx | exact hy | apply And.intro)
 ·have e:k=D.length:=by omega
  subst e
  have h0:=n3 h1 hD2
  have lN:(rnA fee itr pri cre A till D D.length).length=A.length:=rn_len _
  have eL:(erL fee itr pri cre A till D D.length).length=D.length:=erL_len _
  rw [(rnX_yes h0).1,(rnX_yes h0).2,lN,eL]
  repeat' (with_reducible apply And.intro)
  all_goals first | exact z0_yes h0 | exact h0.symm | exact plain_elemOf _ _ _ | exact fun _ _=>rfl | omega
theorem e_RunU:V_RunU=needEI P [] [F_CheckC,F_after,F_cloneA] I_RunU A_RunU F_RunU:=by kernel_rfl
theorem n_RunU:Ob (needEI P [] [F_CheckC,F_after,F_cloneA] I_RunU A_RunU F_RunU):=by
 rw [← e_RunU]
 exact⟨v_RunU⟩
theorem b_RunU:((P.funcs[17]?).any fun fn=>fn.body.isSome)=true:=by kernel_rfl
theorem RunU_ok:FnE.Ok P F_RunU:=FnE.okI named (l:=[]) (es:=[F_CheckC,F_after,F_cloneA]) (I:=I_RunU) (A:=A_RunU) (by rfl) (by rfl) (by rfl) (by
 intro F h; simp at h) (by
 intro F h
 simp only [List.mem_cons,List.not_mem_nil,or_false]at h
 rcases h with rfl | rfl | rfl
 ·exact CheckC_ok
 ·exact after_ok
 ·exact cloneA_ok
) b_RunU (by
 intro ds h o ho n sz e k z he
 subst he
 simp only [F_RunU]at ho
 split at ho
 ·simp only [List.mem_cons,List.not_mem_nil,or_false,SObj.gr.injEq]at ho
  rcases ho with ⟨rfl,rfl,rfl,rfl,rfl⟩ | ⟨rfl,rfl,rfl,rfl,rfl⟩
  ·exact plain_elemOf _ _ _
  ·exact plain_elemOf _ _ _
 ·simp at ho) n_RunU
noncomputable def F_RunRU:FnE:=⟨18,none,[.agg [.i .i64,.i .i64,.i .i64,.i .i64,.l [.i64,.i64,.i64],.i .i64],.one (.l [.i64,.i64,.i64,.i64])],fun l=>match l with | [.z fee,.z itr,.z pri,.z cre,.l A,.z till,.l D]=>A.length≤4000000∧D.length≤4000000 | _=>False,fun l=>match l with | [.z fee,.z itr,.z pri,.z cre,.l A,.z till,.l D]=>[.agg [.i .i64 (z0 (rnErr fee itr pri cre A till D) fee),.i .i64 (z0 (rnErr fee itr pri cre A till D) itr),.i .i64 (z0 (rnErr fee itr pri cre A till D) pri),.i .i64 (z0 (rnErr fee itr pri cre A till D) cre),.gsl 0 (rnX fee itr pri cre A till D).length 3 true,.i .i64 (z0 (rnErr fee itr pri cre A till D) (rnT fee itr pri cre A till D D.length))],.gsl 1 (rnL fee itr pri cre A till D).length 1 true,.i .i64 (rnErr fee itr pri cre A till D)] | _=>[],fun l=>match l with | [.z fee,.z itr,.z pri,.z cre,.l A,.z till,.l D]=>[.gr (rnL fee itr pri cre A till D).length 1 (.fn (Rv.elemOf [.i64] (rnL fee itr pri cre A till D))) .gr true,.gr (rnX fee itr pri cre A till D).length 3 (.fn (Rv.elemOf [.i64,.i64,.i64] (rnX fee itr pri cre A till D))) .gr true] | _=>[],fun l=>match l with | [.z fee,.z itr,.z pri,.z cre,.l A,.z till,.l D]=>[] | _=>[],false,none,none⟩
noncomputable def A_RunRU:List SV→List Dat→Nat→List SV→Ann:=fun xs ds n ts=>match xs with
 | [.agg [_,_,_,_,.lst x _ _ _,_],.lst y _ _ _]=>match ds with
  | [.z fee,.z itr,.z pri,.z cre,.l A,.z till,.l D]=>match n with
   | 7=>⟨Nat,fun k=>([none,some (.lst y D.length 4 (Rv.elemOf [.i64,.i64,.i64,.i64] D)),some (.ptr 0 0),none,some (.ptr 1 0)]++nN 46),fun k=>[.gr A.length 3 (.fn (Rv.elemOf [.i64,.i64,.i64] A)) .gr false,.dead,.cells [.v (.int .i64 0),.v (.int .i64 0),.v (.int .i64 0),.v (.int .i64 0),.v (.slice none 0 0),.v (.int .i64 0)] .ex,.cells [.i .i64 fee,.i .i64 itr,.i .i64 pri,.i .i64 cre,.gsl 3 A.length 3 false,.i .i64 till] .ex],fun k=>True,fun _=>0,1000000⟩
   | 9=>⟨Nat,fun k=>([none,some (SV.lst y D.length ((4:Nat)) (Rv.elemOf [IntKind.i64,IntKind.i64,IntKind.i64,IntKind.i64] D)),some (.ptr 0 0),none,some (.ptr 1 0),none,none,none,some (.gsl 4 k 1 true),some (.i .i64 k)]++nN 41),fun k=>[.gr k 1 (.fn (Rv.elemOf [.i64] (erL fee itr pri cre A till D k))) .gr true,.gr A.length 3 (.fn (Rv.elemOf [.i64,.i64,.i64] (rnA fee itr pri cre A till D k))) .gr false,.dead,.cells [.v (.int .i64 0),.v (.int .i64 0),.v (.int .i64 0),.v (.int .i64 0),.v (.slice none 0 0),.v (.int .i64 0)] .ex,.cells [.i .i64 fee,.i .i64 itr,.i .i64 pri,.i .i64 cre,.gsl 3 A.length 3 false,.i .i64 (rnT fee itr pri cre A till D k)] .ex],fun k=>k≤D.length,fun k=>D.length-k,0⟩
   | _=>noAnn
  | _=>noAnn
 | _=>noAnn
def V_RunRU:Prop:=
 ∀(B:RW) (f g e d:Int) (n:RV) (b:List (List Int)),IsLst B n b.length 3 (Rv.elemOf I3 b)→oneB n=true→(∀row∈b,row.length=3)→∀(h:Int) (j:RV) (a:List (List Int)),IsLst B j a.length 4 (Rv.elemOf I4 a)→oneB j=true→(∀row∈a,row.length=4)→F_RunRU.pre ([Dat.z f,Dat.z g,Dat.z e,Dat.z d,Dat.l b,Dat.z h]++([Dat.l a]++[]))→RwB B n b.length 3 I3 b fun o=>Ob (o.length≤4000000)∧(¬coopErr f g e d o h=(0:Int)→Ob ((0:Int)=z0 (rnErr f g e d b h a) f)∧Ob ((0:Int)=z0 (rnErr f g e d b h a) g)∧Ob ((0:Int)=z0 (rnErr f g e d b h a) e)∧Ob ((0:Int)=z0 (rnErr f g e d b h a) d)∧Ob (List.length (rnX f g e d b h a)=(0:Nat))∧Ob ((0:Int)=z0 (rnErr f g e d b h a) (rnT f g e d b h a a.length))∧Ob (List.length (rnL f g e d b h a)=(0:Nat))∧Ob (coopErr f g e d o h=rnErr f g e d b h a)∧Ob (List.length (rnL f g e d b h a)=(0:Nat))∧Ob (List.length (rnX f g e d b h a)=(0:Nat))∧PlA [.i64] (rnL f g e d b h a)∧PlA I3 (rnX f g e d b h a)∧True)∧(¬¬coopErr f g e d o h=(0:Int)→LsA B j I4 a∧((200:Int) < (↑a.length:Int)→Ob ((0:Int)=z0 (rnErr f g e d b h a) f)∧Ob ((0:Int)=z0 (rnErr f g e d b h a) g)∧Ob ((0:Int)=z0 (rnErr f g e d b h a) e)∧Ob ((0:Int)=z0 (rnErr f g e d b h a) d)∧Ob (List.length (rnX f g e d b h a)=(0:Nat))∧Ob ((0:Int)=z0 (rnErr f g e d b h a) (rnT f g e d b h a a.length))∧Ob (List.length (rnL f g e d b h a)=(0:Nat))∧Ob ((5:Int)=rnErr f g e d b h a)∧Ob (List.length (rnL f g e d b h a)=(0:Nat))∧Ob (List.length (rnX f g e d b h a)=(0:Nat))∧PlA [.i64] (rnL f g e d b h a)∧PlA I3 (rnX f g e d b h a)∧True)∧(¬(200:Int) < (↑a.length:Int)→(LsA B n I3 b∧(b.length=(0:Nat)→∃(t:Nat),Ob True∧False)∧(¬b.length=(0:Nat)→Ob (((0:Nat)+b.length)*(2:Nat)*(25:Nat)≤1099511627776)∧Ob ((0:Nat) < 0+((0:Nat)+b.length)*(3:Nat))∧∃(t:Nat),Ob True∧Ob (SV.lst j a.length 4 (Rv.elemOf I4 a)=SV.lst j a.length 4 (Rv.elemOf I4 a))∧EqA ((0:Nat)+b.length) b.length (behind 0 (litEl (symL (replS 0 (List.map SV.v (Value.agg #[Value.int .i64 (0:Int),Value.int .i64 (0:Int),Value.int .i64 (0:Int)]).cells.toList))) 3 0) b.length (El.fn (Rv.elemOf I3 b))) (El.fn (Rv.elemOf I3 b))∧Ob (Value.int .i64 (0:Int)=Value.int .i64 (0:Int))∧Ob (Value.int .i64 (0:Int)=Value.int .i64 (0:Int))∧Ob (Value.int .i64 (0:Int)=Value.int .i64 (0:Int))∧Ob (Value.int .i64 (0:Int)=Value.int .i64 (0:Int))∧Ob (SV.v (Value.slice none 0 0)=SV.v (Value.slice none 0 0))∧Ob (Value.int .i64 (0:Int)=Value.int .i64 (0:Int))∧Ob (f=f)∧Ob (g=g)∧Ob (e=e)∧Ob (d=d)∧Ob ((0:Nat)+b.length=b.length)∧Ob (h=h)∧LsA B j I4 a∧PlA I3 b∧True))∧∀(t:Nat),True→∀(_ _ _ _ _ _ _ _ _ _ _ _ _ _ _ _ _ _ _ _ _ _ _ _ _ _ _ _ _ _ _ _ _ _ _ _ _ _ _ _ _ _ _ _ _ _ _ _:Value),(∃(c:Nat),Ob (c≤a.length)∧Ob (SV.lst j a.length 4 (Rv.elemOf I4 a)=SV.lst j a.length 4 (Rv.elemOf I4 a))∧Ob (c=(0:Nat))∧Ob ((0:Int)=(↑c:Int))∧Ob (c=(0:Nat))∧EqA b.length b.length (El.fn (Rv.elemOf I3 b)) (El.fn (Rv.elemOf I3 (rnA f g e d b h a c)))∧Ob (Value.int .i64 (0:Int)=Value.int .i64 (0:Int))∧Ob (Value.int .i64 (0:Int)=Value.int .i64 (0:Int))∧Ob (Value.int .i64 (0:Int)=Value.int .i64 (0:Int))∧Ob (Value.int .i64 (0:Int)=Value.int .i64 (0:Int))∧Ob (SV.v (Value.slice none 0 0)=SV.v (Value.slice none 0 0))∧Ob (Value.int .i64 (0:Int)=Value.int .i64 (0:Int))∧Ob (f=f)∧Ob (g=g)∧Ob (e=e)∧Ob (d=d)∧Ob (b.length=b.length)∧Ob (h=rnT f g e d b h a c)∧LsA B j I4 a∧Ob (PlainE c (El.fn (Rv.elemOf [.i64] (erL f g e d b h a c))))∧Ob (PlainE b.length (El.fn (Rv.elemOf I3 (rnA f g e d b h a c))))∧True)∧∀(c:Nat),c≤a.length→∀(_ _ _ _ _ _ _ _ _ _ _ _ _ _ _ _ _ _ _ _ _ _ _ _ _ _ _ _ _ _ _ _ _ _ _ _ _ _ _ _ _ _ _ _ _ _:Value),LsA B j I4 a∧((↑c:Int) < (↑a.length:Int)→LsA B j I4 a∧Ob ((0:Int)≤(↑c:Int)∧c < a.length∧IsLst B j a.length 4 (Rv.elemOf I4 a))∧Ob (IsLst B j a.length 4 (Rv.elemOf I4 a)∧c < a.length)∧Ob (IsLst B j a.length 4 (Rv.elemOf I4 a)∧c < a.length)∧RwA b.length b.length 3 I3 ((El.fn (Rv.elemOf I3 (rnA f g e d b h a c))).at) fun k=>Ob (F_DoRU.named.pre ([Dat.z f,Dat.z g,Dat.z e,Dat.z d,Dat.l k,Dat.z (rnT f g e d b h a c)]++([Dat.z (cell a c 0),Dat.z (cell a c 1),Dat.z (cell a c 2),Dat.z (cell a c 3)]++[])))∧∀(q:Int),q=z0 (doE f g e d k (rnT f g e d b h a c) (cell a c 0) (cell a c 1) (cell a c 2) (cell a c 3)) f→∀(p:Int),p=z0 (doE f g e d k (rnT f g e d b h a c) (cell a c 0) (cell a c 1) (cell a c 2) (cell a c 3)) g→∀(s:Int),s=z0 (doE f g e d k (rnT f g e d b h a c) (cell a c 0) (cell a c 1) (cell a c 2) (cell a c 3)) e→∀(r:Int),r=z0 (doE f g e d k (rnT f g e d b h a c) (cell a c 0) (cell a c 1) (cell a c 2) (cell a c 3)) d→∀(u:Int),u=z0 (doE f g e d k (rnT f g e d b h a c) (cell a c 0) (cell a c 1) (cell a c 2) (cell a c 3)) (dT (rnT f g e d b h a c) (cell a c 0) (cell a c 3))→∀(m:Int),m=doE f g e d k (rnT f g e d b h a c) (cell a c 0) (cell a c 1) (cell a c 2) (cell a c 3)→PlA I3 (doX f g e d k (rnT f g e d b h a c) (cell a c 0) (cell a c 1) (cell a c 2) (cell a c 3))∧(m=(0:Int)→Ob (c=c∧∀(l:Nat),l < c→((El.fn (Rv.elemOf [.i64] (erL f g e d b h a c))).at l).length=(1:Nat))∧Ob ((c+(1:Nat))*(2:Nat)*(9:Nat)≤1099511627776)∧Ob (c=c)∧Ob (InR .i64 ((↑c:Int)+(1:Int)))∧∃(i:Nat),Ob (i≤a.length∧a.length-i < a.length-c)∧Ob (SV.lst j a.length 4 (Rv.elemOf I4 a)=SV.lst j a.length 4 (Rv.elemOf I4 a))∧Ob (c+(1:Nat)=i)∧Ob ((↑c:Int)+(1:Int)=(↑i:Int))∧EqA (c+(1:Nat)) i (behind c (El.fn (Rv.elemOf [.i64] (erL f g e d b h a c))) 1 (litEl (symL [SV.i .i64 m]) 1 1)) (El.fn (Rv.elemOf [.i64] (erL f g e d b h a i)))∧Ob (List.length (doX f g e d k (rnT f g e d b h a c) (cell a c 0) (cell a c 1) (cell a c 2) (cell a c 3))=b.length∧(0:Nat) < b.length∧∀(l:Nat),l < b.length→(El.fn (Rv.elemOf I3 (doX f g e d k (rnT f g e d b h a c) (cell a c 0) (cell a c 1) (cell a c 2) (cell a c 3)))).at l=(El.fn (Rv.elemOf I3 (rnA f g e d b h a i))).at l)∧Ob (Value.int .i64 (0:Int)=Value.int .i64 (0:Int))∧Ob (Value.int .i64 (0:Int)=Value.int .i64 (0:Int))∧Ob (Value.int .i64 (0:Int)=Value.int .i64 (0:Int))∧Ob (Value.int .i64 (0:Int)=Value.int .i64 (0:Int))∧Ob (SV.v (Value.slice none 0 0)=SV.v (Value.slice none 0 0))∧Ob (Value.int .i64 (0:Int)=Value.int .i64 (0:Int))∧Ob (q=f)∧Ob (p=g)∧Ob (s=e)∧Ob (r=d)∧Ob (List.length (doX f g e d k (rnT f g e d b h a c) (cell a c 0) (cell a c 1) (cell a c 2) (cell a c 3))=b.length∧(0:Nat) < b.length)∧Ob (u=rnT f g e d b h a i)∧LsA B j I4 a∧Ob (PlainE i (El.fn (Rv.elemOf [.i64] (erL f g e d b h a i))))∧Ob (PlainE b.length (El.fn (Rv.elemOf I3 (rnA f g e d b h a i))))∧True)∧(¬m=(0:Int)→Ob (c=c∧∀(l:Nat),l < c→((El.fn (Rv.elemOf [.i64] (erL f g e d b h a c))).at l).length=(1:Nat))∧Ob ((c+(1:Nat))*(2:Nat)*(9:Nat)≤1099511627776)∧Ob (c=c)∧Ob (InR .i64 ((↑c:Int)+(1:Int)))∧∃(i:Nat),Ob (i≤a.length∧a.length-i < a.length-c)∧Ob (SV.lst j a.length 4 (Rv.elemOf I4 a)=SV.lst j a.length 4 (Rv.elemOf I4 a))∧Ob (c+(1:Nat)=i)∧Ob ((↑c:Int)+(1:Int)=(↑i:Int))∧EqA (c+(1:Nat)) i (behind c (El.fn (Rv.elemOf [.i64] (erL f g e d b h a c))) 1 (litEl (symL [SV.i .i64 m]) 1 1)) (El.fn (Rv.elemOf [.i64] (erL f g e d b h a i)))∧EqA b.length b.length (El.fn (Rv.elemOf I3 (rnA f g e d b h a c))) (El.fn (Rv.elemOf I3 (rnA f g e d b h a i)))∧Ob (Value.int .i64 (0:Int)=Value.int .i64 (0:Int))∧Ob (Value.int .i64 (0:Int)=Value.int .i64 (0:Int))∧Ob (Value.int .i64 (0:Int)=Value.int .i64 (0:Int))∧Ob (Value.int .i64 (0:Int)=Value.int .i64 (0:Int))∧Ob (SV.v (Value.slice none 0 0)=SV.v (Value.slice none 0 0))∧Ob (Value.int .i64 (0:Int)=Value.int .i64 (0:Int))∧Ob (f=f)∧Ob (g=g)∧Ob (e=e)∧Ob (d=d)∧Ob (b.length=b.length)∧Ob (rnT f g e d b h a c=rnT f g e d b h a i)∧LsA B j I4 a∧Ob (PlainE i (El.fn (Rv.elemOf [.i64] (erL f g e d b h a i))))∧Ob (PlainE b.length (El.fn (Rv.elemOf I3 (rnA f g e d b h a i))))∧True))∧(¬(↑c:Int) < (↑a.length:Int)→Ob (f=z0 (rnErr f g e d b h a) f)∧Ob (g=z0 (rnErr f g e d b h a) g)∧Ob (e=z0 (rnErr f g e d b h a) e)∧Ob (d=z0 (rnErr f g e d b h a) d)∧Ob (b.length=List.length (rnX f g e d b h a)∧(0:Nat) < List.length (rnX f g e d b h a))∧Ob (rnT f g e d b h a c=z0 (rnErr f g e d b h a) (rnT f g e d b h a a.length))∧Ob (c=List.length (rnL f g e d b h a))∧Ob ((0:Int)=rnErr f g e d b h a)∧EqA c (List.length (rnL f g e d b h a)) (El.fn (Rv.elemOf [.i64] (erL f g e d b h a c))) (El.fn (Rv.elemOf [.i64] (rnL f g e d b h a)))∧EqA b.length (List.length (rnX f g e d b h a)) (El.fn (Rv.elemOf I3 (rnA f g e d b h a c))) (El.fn (Rv.elemOf I3 (rnX f g e d b h a)))∧PlA [.i64] (rnL f g e d b h a)∧PlA I3 (rnX f g e d b h a)∧True)))
set_option linter.unusedSimpArgs false in
set_option maxRecDepth 4000 in
set_option maxHeartbeats 2000000 in
theorem v_RunRU:V_RunRU:=by
 unfold V_RunRU EqA I3 I4 LsA PlA RwA RwB
 intro B fee itr pri cre x A hx hox hrx till y D hy hoy hry hpre
 obtain⟨hA,hD⟩:A.length≤4000000∧D.length≤4000000:=hpre
 have er:∀e1:Int,e1=rnErr fee itr pri cre A till D→e1≠0→(0=z0 (rnErr fee itr pri cre A till D) fee∧0=z0 (rnErr fee itr pri cre A till D) itr∧0=z0 (rnErr fee itr pri cre A till D) pri∧0=z0 (rnErr fee itr pri cre A till D) cre∧(rnX fee itr pri cre A till D).length=0∧0=z0 (rnErr fee itr pri cre A till D) (rnT fee itr pri cre A till D D.length)∧(rnL fee itr pri cre A till D).length=0∧e1=rnErr fee itr pri cre A till D∧(rnL fee itr pri cre A till D).length=0∧(rnX fee itr pri cre A till D).length=0∧PlainE (rnL fee itr pri cre A till D).length (.fn (Rv.elemOf [.i64] (rnL fee itr pri cre A till D)))∧PlainE (rnX fee itr pri cre A till D).length (.fn (Rv.elemOf [.i64,.i64,.i64] (rnX fee itr pri cre A till D)))):=fun e1 h1 h2=>by
  have e:rnErr fee itr pri cre A till D≠0:=by rw [← h1]; exact h2
  exact⟨z0_no e,z0_no e,z0_no e,z0_no e,(rnX_no e).1,z0_no e,(rnX_no e).2,h1,(rnX_no e).2,(rnX_no e).1,plain_elemOf _ _ _,plain_elemOf _ _ _⟩
 have n1:coopErr fee itr pri cre A till≠0→rnErr fee itr pri cre A till D=coopErr fee itr pri cre A till:=fun h=>by unfold rnErr; rw [if_pos h]
 have n2:coopErr fee itr pri cre A till=0→200 < D.length→rnErr fee itr pri cre A till D=5:=fun h h2=>by unfold rnErr; rw [if_neg (fun hh=>hh h),if_pos h2]
 have n3:coopErr fee itr pri cre A till=0→¬ 200 < D.length→rnErr fee itr pri cre A till D=0:=fun h h2=>by unfold rnErr; rw [if_neg (fun hh=>hh h),if_neg h2]
 simp only [Ob_iff,and_true,true_and,Classical.not_not,InR]
 refine⟨A,⟨hx,rfl,hrx,fun _ _=>rfl⟩,hA,fun h1=>er _ (n1 h1).symm h1,fun h1=>⟨hy,fun h2=>?_,fun h2=>?_⟩⟩
 ·have e:=n2 h1 (by omega)
  exact er _ e.symm (by omega)
 have hD2:¬ 200 < D.length:=by omega
 have hv:=coop_ok h1
 have hl:=hv.l
 refine⟨⟨hx,fun h0=>absurd h0 (by omega),fun h0=>⟨by omega,by omega,0,⟨by omega,fun i _=>behind_at _ _ _ _⟩,by omega,hy,plain_elemOf _ _ _⟩⟩,?_⟩
 intro _
 intros
 refine⟨⟨0,Nat.zero_le _,rfl,rfl,rfl,fun i hi=>rfl,rfl,hy,plain_elemOf _ _ _,plain_elemOf _ _ _⟩,?_⟩
 intro k hk
 intros
 have ek:=rn_ok hv (D:=D) k
 have lk:(rnA fee itr pri cre A till D k).length=A.length:=rn_len k
 have rk:=rn_row (fee:=fee) (itr:=itr) (pri:=pri) (cre:=cre) (till:=till) (D:=D) hrx k
 have ed:doE fee itr pri cre (rnA fee itr pri cre A till D k) (rnT fee itr pri cre A till D k) (cell D k 0) (cell D k 1) (cell D k 2) (cell D k 3)=rnE fee itr pri cre A till D k:=doE_chk (coop_zero ek)
 refine⟨hy,fun h3=>?_,fun h3=>?_⟩
 ·have hk':k < D.length:=by omega
  refine⟨hy,⟨by omega,hk',hy⟩,⟨hy,hk'⟩,⟨hy,hk'⟩,rnA fee itr pri cre A till D k,⟨lk,rk,fun i hi=>rfl⟩,(by show _≤4000000; omega),?_⟩
  intro w1 g1 w2 g2 w3 g3 w4 g4 w5 g5 w6 g6
  rw [ed]at g1 g2 g3 g4 g5 g6
  refine⟨plain_elemOf _ _ _,fun h4=>?_,fun h4=>?_⟩
  ·have h5:rnE fee itr pri cre A till D k=0:=g6.symm.trans h4
   obtain⟨e1,e2⟩:=rn_yes h5
   have ex:=doX_yes (ed.trans h5)
   rw [← z0_yes h5]at g1 g2 g3 g4 g5
   have lx:(doX fee itr pri cre (rnA fee itr pri cre A till D k) (rnT fee itr pri cre A till D k) (cell D k 0) (cell D k 1) (cell D k 2) (cell D k 3)).length=A.length:=by rw [ex,dA_len,lk]
   exact⟨fun i hi=>rfl,by omega,by omega,k+1,⟨hk',by omega⟩,rfl,by omega,⟨rfl,erL_at g6⟩,⟨lx,by omega,fun i hi=>by rw [ex,e1]⟩,g1,g2,g3,g4,⟨lx,by omega⟩,g5.trans e2.symm,hy,plain_elemOf _ _ _,plain_elemOf _ _ _⟩
  ·have h5:rnE fee itr pri cre A till D k≠0:=fun h=>h4 (g6.trans h)
   obtain⟨e1,e2⟩:=rn_no h5
   exact⟨fun i hi=>rfl,by omega,by omega,k+1,⟨hk',by omega⟩,rfl,by omega,⟨rfl,erL_at g6⟩,fun i hi=>by rw [e1],e2.symm,hy,plain_elemOf _ _ _,plain_elemOf _ _ _⟩
 ·have e:k=D.length:=by omega
  subst e
  have h0:=n3 h1 hD2
  have lN:(rnA fee itr pri cre A till D D.length).length=A.length:=rn_len _
  have eL:(erL fee itr pri cre A till D D.length).length=D.length:=erL_len _
  rw [(rnX_yes h0).1,(rnX_yes h0).2,lN,eL]
  repeat' (with_reducible apply And.intro)
  all_goals first | exact z0_yes h0 | exact h0.symm | exact plain_elemOf _ _ _ | exact fun _ _=>rfl | omega
theorem e_RunRU:V_RunRU=needE P [F_CheckR] [F_DoRU.named] A_RunRU F_RunRU:=by kernel_rfl
theorem n_RunRU:Ob (needE P [F_CheckR] [F_DoRU.named] A_RunRU F_RunRU):=by
 rw [← e_RunRU]
 exact⟨v_RunRU⟩
theorem b_RunRU:((P.funcs[18]?).any fun fn=>fn.body.isSome)=true:=by kernel_rfl
theorem RunRU_ok:FnE.Ok P F_RunRU:=FnE.ok named (l:=[F_CheckR]) (es:=[F_DoRU.named]) (A:=A_RunRU) (by rfl) (by rfl) (by rfl) (by
 intro F h
 simp only [List.mem_cons,List.not_mem_nil,or_false]at h
 rcases h with rfl
 ·exact CheckR_ok
) (by
 intro F h
 simp only [List.mem_cons,List.not_mem_nil,or_false]at h
 rcases h with rfl
 ·exact DoRU_ok.named
) b_RunRU (by
 intro ds h o ho n sz e k z he
 subst he
 simp only [F_RunRU]at ho
 split at ho
 ·simp only [List.mem_cons,List.not_mem_nil,or_false,SObj.gr.injEq]at ho
  rcases ho with ⟨rfl,rfl,rfl,rfl,rfl⟩ | ⟨rfl,rfl,rfl,rfl,rfl⟩
  ·exact plain_elemOf _ _ _
  ·exact plain_elemOf _ _ _
 ·simp at ho) n_RunRU
end Go.Proofs.Ytfebjikidfcbcaa.Sy
