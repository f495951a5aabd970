import Derived.Test.YtdnphbnnhfpphaaSyP2
import Derived.Test.YtdnphbnnhfpphaaGrM
import Derived.Test.YtdnphbnnhfpphaaKtT
import Derived.Test.YtdnphbnnhfpphaaTrA
import Derived.Test.YtdnphbnnhfpphaaTrN
import Derived.Test.YtdnphbnnhfpphaaSyP2
import Derived.KernelRfl
import Derived.Test.YtdnphbnnhfpphaaProg
namespace Go.Proofs.Ytdnphbnnhfpphaa.Sy
open Go Go.Rv
set_option linter.unusedVariables false
structure MkOk (R:Rows):Prop where
 l:1≤R.length∧R.length≤4
 w:∀r∈R,r.length=6
 c:∀r∈R,canR [.u16,.i64,.i64,.i8,.i8,.i64] r
 n:∀i,i < R.length→cell R i 0=codeOf (gnm i)
 v:∀i,i < R.length→(1≤cell R i 1∧cell R i 1≤cell R i 2∧cell R i 2≤20000)∧0≤cell R i 5∧cell R i 5≤100000
theorem can_cell {R:Rows} (hw:∀r∈R,r.length=6) (hc:∀r∈R,canR [.u16,.i64,.i64,.i8,.i8,.i64] r) {i:Nat} (hi:i < R.length):codeOf (strOf (cell R i 0))=cell R i 0:=by
 have hm:R.getD i []∈R:=by
  rw [List.getD_eq_getElem?_getD,List.getElem?_eq_getElem hi]
  exact List.getElem_mem hi
 have h1:=hw _ hm
 have h2:=hc _ hm
 unfold cell
 revert h1 h2
 generalize R.getD i []=r
 intro h1 h2
 match r,h1,h2 with
 | z :: r,_,h2=>exact h2.1
theorem gnm_ne {i j:Nat} (hi:i < 4) (hj:j < 4) (h:i≠j):codeOf (gnm i)≠codeOf (gnm j):=by
 intro e
 have e:=congrArg ByteArray.size (codeOf_inj e)
 have e2:=codeOf_inj ‹codeOf (gnm i)=codeOf (gnm j)›
 have h4:i=0∨i=1∨i=2∨i=3:=by omega
 have h5:j=0∨j=1∨j=2∨j=3:=by omega
 rcases h4 with rfl | rfl | rfl | rfl<;>rcases h5 with rfl | rfl | rfl | rfl<;>first | exact h rfl | exact absurd e (by decide) | exact absurd (congrArg (fun s=>s.data.toList) e2) (by decide)
noncomputable def F_within:Fn0:=⟨32,[.one (.i .i64),.one (.i .i64),.one (.i .i64)],fun _=>True,fun l=>match l with | [.z n,.z lo,.z hi]=>.p (inB n lo hi) | _=>.v undef⟩
noncomputable def A_within:List SV→List Dat→Nat→List SV→Ann:=fun _ _ _ _=>noAnn
def V_within:Prop:=
 ∀(B:RW) (a b c:Int),True→(b≤a→Ob (a≤c↔inB a b c)∧True)∧(¬b≤a→Ob (false=true↔inB a b c)∧True)
set_option linter.unusedSimpArgs false in
set_option maxRecDepth 4000 in
set_option maxHeartbeats 400000 in
theorem v_within:V_within:=by
 unfold V_within
 intros
 simp only [F_within,F_within,Ob_iff,and_true,true_and,inB]at *
 repeat' (first | apply And.intro | intro _)
 all_goals first | trivial | (simp only [InR]; omega) | omega | grind
theorem e_within:V_within=needF P [] A_within F_within:=by kernel_rfl
theorem n_within:Ob (needF P [] A_within F_within):=by
 rw [← e_within]
 exact⟨v_within⟩
theorem b_within:((P.funcs[32]?).any fun fn=>fn.body.isSome)=true:=by kernel_rfl
theorem within_ok:Fn0.Ok P F_within:=Fn0.ok named (l:=[]) (A:=A_within) (by rfl) (by
 intro F h; simp at h) b_within (by
 intro ds N
 simp only [F_within]
 split<;>rfl) n_within
noncomputable def F_isWeight:Fn0:=⟨46,[.one (.i .i64)],fun _=>True,fun l=>match l with | [.z n]=>.p (inB n 1 20000) | _=>.v undef⟩
noncomputable def A_isWeight:List SV→List Dat→Nat→List SV→Ann:=fun _ _ _ _=>noAnn
def V_isWeight:Prop:=
 ∀(B:RW) (a:Int),True→Ob True∧Ob (inB a (1:Int) (20000:Int)↔inB a (1:Int) (20000:Int))∧True
set_option linter.unusedSimpArgs false in
set_option maxRecDepth 4000 in
set_option maxHeartbeats 400000 in
theorem v_isWeight:V_isWeight:=by
 unfold V_isWeight
 intros
 simp only [F_within,F_within,Ob_iff,and_true,true_and,inB]at *
 repeat' (first | apply And.intro | intro _)
 all_goals first | trivial | (simp only [InR]; omega) | omega | grind
theorem e_isWeight:V_isWeight=needF P [F_within] A_isWeight F_isWeight:=by kernel_rfl
theorem n_isWeight:Ob (needF P [F_within] A_isWeight F_isWeight):=by
 rw [← e_isWeight]
 exact⟨v_isWeight⟩
theorem b_isWeight:((P.funcs[46]?).any fun fn=>fn.body.isSome)=true:=by kernel_rfl
theorem isWeight_ok:Fn0.Ok P F_isWeight:=Fn0.ok named (l:=[F_within]) (A:=A_isWeight) (by rfl) (by
 intro F h
 simp only [List.mem_cons,List.not_mem_nil,or_false]at h
 rcases h with rfl
 ·exact within_ok
) b_isWeight (by
 intro ds N
 simp only [F_isWeight]
 split<;>rfl) n_isWeight
noncomputable def F_isWare:Fn0:=⟨36,[.one (.i .i64)],fun _=>True,fun l=>match l with | [.z n]=>.p (inB n 0 1000000) | _=>.v undef⟩
noncomputable def A_isWare:List SV→List Dat→Nat→List SV→Ann:=fun _ _ _ _=>noAnn
def V_isWare:Prop:=
 ∀(B:RW) (a:Int),True→Ob True∧Ob (inB a (0:Int) (1000000:Int)↔inB a (0:Int) (1000000:Int))∧True
set_option linter.unusedSimpArgs false in
set_option maxRecDepth 4000 in
set_option maxHeartbeats 400000 in
theorem v_isWare:V_isWare:=by
 unfold V_isWare
 intros
 simp only [F_within,F_within,Ob_iff,and_true,true_and,inB]at *
 repeat' (first | apply And.intro | intro _)
 all_goals first | trivial | (simp only [InR]; omega) | omega | grind
theorem e_isWare:V_isWare=needF P [F_within] A_isWare F_isWare:=by kernel_rfl
theorem n_isWare:Ob (needF P [F_within] A_isWare F_isWare):=by
 rw [← e_isWare]
 exact⟨v_isWare⟩
theorem b_isWare:((P.funcs[36]?).any fun fn=>fn.body.isSome)=true:=by kernel_rfl
theorem isWare_ok:Fn0.Ok P F_isWare:=Fn0.ok named (l:=[F_within]) (A:=A_isWare) (by rfl) (by
 intro F h
 simp only [List.mem_cons,List.not_mem_nil,or_false]at h
 rcases h with rfl
 ·exact within_ok
) b_isWare (by
 intro ds N
 simp only [F_isWare]
 split<;>rfl) n_isWare
noncomputable def F_isIndex:Fn0:=⟨35,[.one (.i .i64),.one (.i .i64)],fun l=>match l with | [.z n,.z m]=>0≤m∧m≤1000 | _=>False,fun l=>match l with | [.z n,.z m]=>.p (inB n 0 (m-1)) | _=>.v undef⟩
noncomputable def A_isIndex:List SV→List Dat→Nat→List SV→Ann:=fun _ _ _ _=>noAnn
def V_isIndex:Prop:=
 ∀(B:RW) (b a:Int),(0:Int)≤a∧a≤(1000:Int)→Ob (InR .i64 (a-(1:Int)))∧Ob True∧Ob (inB b (0:Int) (a-(1:Int))↔inB b (0:Int) (a-(1:Int)))∧True
set_option linter.unusedSimpArgs false in
set_option maxRecDepth 4000 in
set_option maxHeartbeats 400000 in
theorem v_isIndex:V_isIndex:=by
 unfold V_isIndex
 intro B n m h
 simp only [Ob_iff,and_true,true_and,InR]
 have h:0≤m∧m≤1000:=h
 repeat' (with_reducible apply And.intro)
 all_goals first | omega | exact Iff.rfl | trivial
theorem e_isIndex:V_isIndex=needF P [F_within] A_isIndex F_isIndex:=by kernel_rfl
theorem n_isIndex:Ob (needF P [F_within] A_isIndex F_isIndex):=by
 rw [← e_isIndex]
 exact⟨v_isIndex⟩
theorem b_isIndex:((P.funcs[35]?).any fun fn=>fn.body.isSome)=true:=by kernel_rfl
theorem isIndex_ok:Fn0.Ok P F_isIndex:=Fn0.ok named (l:=[F_within]) (A:=A_isIndex) (by rfl) (by
 intro F h
 simp only [List.mem_cons,List.not_mem_nil,or_false]at h
 rcases h with rfl
 ·exact within_ok
) b_isIndex (by
 intro ds N
 simp only [F_isIndex]
 split<;>rfl) n_isIndex
noncomputable def F_gradeNamed:FnE:=⟨45,none,[.one (.l [.u16,.i64,.i64,.i8,.i8,.i64]),.one .tx],fun l=>match l with | [.l R,.z s]=>R.length≤100∧∀i,i < R.length→¬ cell R i 0=s | _=>False,fun l=>match l with | [.l R,.z s]=>[.v (.int .i64 (-1))] | _=>[],fun l=>match l with | [.l R,.z s]=>[] | _=>[],fun l=>match l with | [.l R,.z s]=>[] | _=>[],false,none,none⟩
noncomputable def A_gradeNamed:List SV→List Dat→Nat→List SV→Ann:=fun _ _ _ _=>noAnn
noncomputable def A_gradeNamed_1:List SV→List Dat→List SV→List SObj→Nat→List SV→Ann:=fun xs ds ar bs n ts=>match xs with
 | [.lst x _ _ _,.v (.string u)]=>match ds with
  | [.l R,.z s]=>match n with
   | 2=>⟨Nat,fun k=>([some (SV.lst x R.length ((6:Nat)) (Rv.elemOf [IntKind.u16,IntKind.i64,IntKind.i64,IntKind.i8,IntKind.i8,IntKind.i64] R)),some (SV.fv ((51:Nat)) [(0:Nat)]),none,none,none,none,none,some (SV.i IntKind.i64 (↑R.length:Int)),some (.i .i64 k)]++nN 10),fun k=>[SObj.cells [SV.v (Value.string u)] Kd.ex],fun k=>k≤R.length,fun k=>R.length-k,0⟩
   | _=>noAnn
  | _=>noAnn
 | _=>noAnn
noncomputable def A_gradeNamed_2:List SV→List Dat→List SV→List SObj→Nat→List SV→Ann:=fun _ _ _ _ _ _=>noAnn
noncomputable def I_gradeNamed:List SV→List Dat→List In:=fun xs ds=>[⟨50,A_gradeNamed_1 xs ds⟩,⟨51,A_gradeNamed_2 xs ds⟩]
def V_gradeNamed:Prop:=
 ∀(B:RW) (c:RV) (a:List (List Int)),IsLst B c a.length 6 (Rv.elemOf [IntKind.u16,.i64,.i64,IntKind.i8,IntKind.i8,.i64] a)→oneB c=true→(∀row∈a,row.length=6)→(∀(e:List Int),e∈a→canR [IntKind.u16,.i64,.i64,IntKind.i8,IntKind.i8,.i64] e)→∀(u:ByteArray),F_gradeNamed.pre ([Dat.l a]++([Dat.z (codeOf u)]++[]))→Ob (IsLst B c a.length 6 (Rv.elemOf [IntKind.u16,.i64,.i64,IntKind.i8,IntKind.i8,.i64] a))∧(∃(b:Nat),Ob (b≤a.length)∧Ob (SV.lst c a.length 6 (Rv.elemOf [IntKind.u16,.i64,.i64,IntKind.i8,IntKind.i8,.i64] a)=SV.lst c a.length 6 (Rv.elemOf [IntKind.u16,.i64,.i64,IntKind.i8,IntKind.i8,.i64] a))∧Ob ((↑a.length:Int)=(↑a.length:Int))∧Ob ((0:Int)=(↑b:Int))∧Ob (SV.v (Value.string u)=SV.v (Value.string u))∧Ob (IsLst B c a.length 6 (Rv.elemOf [IntKind.u16,.i64,.i64,IntKind.i8,IntKind.i8,.i64] a))∧True)∧∀(b:Nat),b≤a.length→∀(z z_1 z_2 z_3 z_4 z_5 z_6 z_7 z_8 z_9 z_10 z_11 z_12 z_13 z_14:Value),((↑b:Int) < (↑a.length:Int)→Ob ((0:Int)≤(↑b:Int)∧b < a.length∧IsLst B c a.length 6 (Rv.elemOf [IntKind.u16,.i64,.i64,IntKind.i8,IntKind.i8,.i64] a))∧Ob (IsLst B c a.length 6 (Rv.elemOf [IntKind.u16,.i64,.i64,IntKind.i8,IntKind.i8,.i64] a)∧b < a.length)∧(strOf (cell a b 0)=u→Ob ((↑b:Int)=(-1:Int))∧True)∧(¬strOf (cell a b 0)=u→Ob (InR .i64 ((↑b:Int)+(1:Int)))∧∃(d:Nat),Ob (d≤a.length∧a.length-d < a.length-b)∧Ob (SV.lst c a.length 6 (Rv.elemOf [IntKind.u16,.i64,.i64,IntKind.i8,IntKind.i8,.i64] a)=SV.lst c a.length 6 (Rv.elemOf [IntKind.u16,.i64,.i64,IntKind.i8,IntKind.i8,.i64] a))∧Ob ((↑a.length:Int)=(↑a.length:Int))∧Ob ((↑b:Int)+(1:Int)=(↑d:Int))∧Ob (SV.v (Value.string u)=SV.v (Value.string u))∧Ob (IsLst B c a.length 6 (Rv.elemOf [IntKind.u16,.i64,.i64,IntKind.i8,IntKind.i8,.i64] a))∧True))∧(¬(↑b:Int) < (↑a.length:Int)→Ob (Value.int .i64 (-1:Int)=Value.int .i64 (-1:Int))∧True)
set_option linter.unusedSimpArgs false in
set_option maxRecDepth 4000 in
set_option maxHeartbeats 400000 in
theorem v_gradeNamed:V_gradeNamed:=by
 unfold V_gradeNamed
 intro B x R hx hox hrx hcan u hpre
 obtain⟨hl,hne⟩:R.length≤100∧∀i,i < R.length→¬ cell R i 0=codeOf u:=hpre
 simp only [Ob_iff,and_true,true_and]
 refine⟨hx,⟨0,?_⟩,?_⟩
 ·repeat' (with_reducible apply And.intro)
  all_goals first | exact hx | omega | rfl
 intro k hk
 intros
 refine⟨fun h1=>?_,fun _=>trivial⟩
 have hk':k < R.length:=by omega
 refine⟨⟨by omega,hk',hx⟩,⟨hx,hk'⟩,fun e=>absurd ?_ (hne k hk'),fun _=>⟨by simp only [InR]; omega,k+1,?_⟩⟩
 ·rw [← can_cell hrx hcan hk',e]
 ·repeat' (with_reducible apply And.intro)
  all_goals first | exact hx | omega | rfl
theorem e_gradeNamed:V_gradeNamed=needEI P [] [] I_gradeNamed A_gradeNamed F_gradeNamed:=by kernel_rfl
theorem n_gradeNamed:Ob (needEI P [] [] I_gradeNamed A_gradeNamed F_gradeNamed):=by
 rw [← e_gradeNamed]
 exact⟨v_gradeNamed⟩
theorem b_gradeNamed:((P.funcs[45]?).any fun fn=>fn.body.isSome)=true:=by kernel_rfl
theorem gradeNamed_ok:FnE.Ok P F_gradeNamed:=FnE.okI named (l:=[]) (es:=[]) (I:=I_gradeNamed) (A:=A_gradeNamed) (by rfl) (by rfl) (by rfl) (by
 intro F h; simp at h) (by
 intro F h; simp at h) b_gradeNamed (by
 rintro ds h o ho n sz e k z rfl
 simp only [F_gradeNamed]at ho
 split at ho<;>simp at ho) n_gradeNamed
noncomputable def F_checkGrade:FnE:=⟨34,none,[.agg [.tx,.i .i64,.i .i64,.b,.b,.i .i64],.one (.l [.u16,.i64,.i64,.i8,.i8,.i64])],fun l=>match l with | [.z s,.z lo,.z hi,.p so,.p we,.z pr,.l R]=>(R.length < 4∧s=codeOf (gnm R.length)∧∀i,i < R.length→cell R i 0=codeOf (gnm i))∧(1≤lo∧lo≤hi∧hi≤20000)∧0≤pr∧pr≤100000 | _=>False,fun l=>match l with | [.z s,.z lo,.z hi,.p so,.p we,.z pr,.l R]=>[.v (.int .i64 0)] | _=>[],fun l=>match l with | [.z s,.z lo,.z hi,.p so,.p we,.z pr,.l R]=>[] | _=>[],fun l=>match l with | [.z s,.z lo,.z hi,.p so,.p we,.z pr,.l R]=>[] | _=>[],false,none,none⟩
noncomputable def A_checkGrade:List SV→List Dat→Nat→List SV→Ann:=fun _ _ _ _=>noAnn
def V_checkGrade:Prop:=
 ∀(B:RW) (u:ByteArray) (e d:Int) (c c_1:Prop) (h:Int) (g:RV) (a:List (List Int)),IsLst B g a.length 6 (Rv.elemOf [IntKind.u16,.i64,.i64,IntKind.i8,IntKind.i8,.i64] a)→oneB g=true→(∀row∈a,row.length=6)→(∀(b:List Int),b∈a→canR [IntKind.u16,.i64,.i64,IntKind.i8,IntKind.i8,.i64] b)→F_checkGrade.pre ([Dat.z (codeOf u),Dat.z e,Dat.z d,Dat.p c,Dat.p c_1,Dat.z h]++([Dat.l a]++[]))→Ob (∃(j:Nat),j < 4∧codeOf u=codeOf (gnm j))∧(¬True→Ob (Value.int .i64 (2:Int)=Value.int .i64 (0:Int))∧True)∧(¬¬True→∃(f:List (List Int)),Ob (IsLst B g a.length 6 (Rv.elemOf [IntKind.u16,.i64,.i64,IntKind.i8,IntKind.i8,.i64] a)∧f.length=a.length∧(∀b∈f,b.length=6)∧∀(i:Nat),i < a.length→Rv.elemOf [IntKind.u16,.i64,.i64,IntKind.i8,IntKind.i8,.i64] a i=Rv.elemOf [IntKind.u16,.i64,.i64,IntKind.i8,IntKind.i8,.i64] f i)∧Ob (∀(b:List Int),b∈f→canR [IntKind.u16,.i64,.i64,IntKind.i8,IntKind.i8,.i64] b)∧Ob (F_gradeNamed.pre [Dat.l f,Dat.z (codeOf u)])∧Ob True∧(¬¬inB e (1:Int) (20000:Int)→Ob True∧(¬¬inB d (1:Int) (20000:Int)→Ob True∧(¬inB h (0:Int) (100000:Int)→Ob (Value.int .i64 (1:Int)=Value.int .i64 (0:Int))∧True)∧(¬¬inB h (0:Int) (100000:Int)→(d < e→Ob (Value.int .i64 (8:Int)=Value.int .i64 (0:Int))∧True)∧(¬d < e→Ob (Value.int .i64 (0:Int)=Value.int .i64 (0:Int))∧True)))∧(¬inB d (1:Int) (20000:Int)→Ob (Value.int .i64 (1:Int)=Value.int .i64 (0:Int))∧True))∧(¬inB e (1:Int) (20000:Int)→Ob (Value.int .i64 (1:Int)=Value.int .i64 (0:Int))∧True))
set_option linter.unusedSimpArgs false in
set_option maxRecDepth 4000 in
set_option maxHeartbeats 400000 in
theorem v_checkGrade:V_checkGrade:=by
 unfold V_checkGrade
 intro B u lo hi so we pr x R hx hox hrx hcan hpre
 obtain⟨⟨h4,hs,hn⟩,⟨v1,v2,v3⟩,v4,v5⟩:(R.length < 4∧codeOf u=codeOf (gnm R.length)∧∀i,i < R.length→cell R i 0=codeOf (gnm i))∧(1≤lo∧lo≤hi∧hi≤20000)∧0≤pr∧pr≤100000:=hpre
 simp only [Ob_iff,and_true,true_and,inB]
 refine⟨⟨R.length,h4,hs⟩,fun h=>(h trivial).elim,fun _=>⟨R,⟨hx,rfl,hrx,fun _ _=>rfl⟩,hcan,⟨by omega,fun i hi=>?_⟩,?_⟩⟩
 ·rw [hn i hi,hs]
  exact gnm_ne (by omega) h4 (by omega)
 ·clear hx hrx hcan hn hs
  repeat' (first | apply And.intro | intro _)
  all_goals first | rfl | trivial | (exfalso; omega)
theorem e_checkGrade:V_checkGrade=needE P [F_isName,F_isWeight,F_within] [F_gradeNamed] A_checkGrade F_checkGrade:=by kernel_rfl
theorem n_checkGrade:Ob (needE P [F_isName,F_isWeight,F_within] [F_gradeNamed] A_checkGrade F_checkGrade):=by
 rw [← e_checkGrade]
 exact⟨v_checkGrade⟩
theorem b_checkGrade:((P.funcs[34]?).any fun fn=>fn.body.isSome)=true:=by kernel_rfl
theorem checkGrade_ok:FnE.Ok P F_checkGrade:=FnE.ok named (l:=[F_isName,F_isWeight,F_within]) (es:=[F_gradeNamed]) (A:=A_checkGrade) (by rfl) (by rfl) (by rfl) (by
 intro F h
 simp only [List.mem_cons,List.not_mem_nil,or_false]at h
 rcases h with rfl | rfl | rfl
 ·exact isName_ok
 ·exact isWeight_ok
 ·exact within_ok
) (by
 intro F h
 simp only [List.mem_cons,List.not_mem_nil,or_false]at h
 rcases h with rfl
 ·exact gradeNamed_ok
) b_checkGrade (by
 rintro ds h o ho n sz e k z rfl
 simp only [F_checkGrade]at ho
 split at ho<;>simp at ho) n_checkGrade
noncomputable def F_Check:FnE:=⟨25,none,[.one (.l [.u16,.i64,.i64,.i8,.i8,.i64])],fun l=>match l with | [.l R]=>MkOk R | _=>False,fun l=>match l with | [.l R]=>[.v (.int .i64 0)] | _=>[],fun l=>match l with | [.l R]=>[] | _=>[],fun l=>match l with | [.l R]=>[] | _=>[],false,none,none⟩
noncomputable def A_Check:List SV→List Dat→Nat→List SV→Ann:=fun xs ds n ts=>match xs with
 | [.lst x _ _ _]=>match ds with
  | [.l R]=>match n with
   | 6=>⟨Nat,fun k=>([some (SV.lst x R.length ((6:Nat)) (Rv.elemOf [IntKind.u16,IntKind.i64,IntKind.i64,IntKind.i8,IntKind.i8,IntKind.i64] R))]++nN 13++[some (SV.lst x R.length ((6:Nat)) (Rv.elemOf [IntKind.u16,IntKind.i64,IntKind.i64,IntKind.i8,IntKind.i8,IntKind.i64] R)),some (SV.i IntKind.i64 (↑R.length:Int)),some (.i .i64 k)]++nN 13),fun k=>[],fun k=>k≤R.length,fun k=>R.length-k,0⟩
   | _=>noAnn
  | _=>noAnn
 | _=>noAnn
def V_Check:Prop:=
 ∀(B:RW) (c:RV) (a:List (List Int)),IsLst B c a.length 6 (Rv.elemOf [IntKind.u16,.i64,.i64,IntKind.i8,IntKind.i8,.i64] a)→oneB c=true→(∀row∈a,row.length=6)→(∀(d:List Int),d∈a→canR [IntKind.u16,.i64,.i64,IntKind.i8,IntKind.i8,.i64] d)→F_Check.pre ([Dat.l a]++[])→Ob (IsLst B c a.length 6 (Rv.elemOf [IntKind.u16,.i64,.i64,IntKind.i8,IntKind.i8,.i64] a))∧((↑a.length:Int)=(0:Int)→Ob (Value.int .i64 (4:Int)=Value.int .i64 (0:Int))∧True)∧(¬(↑a.length:Int)=(0:Int)→Ob (IsLst B c a.length 6 (Rv.elemOf [IntKind.u16,.i64,.i64,IntKind.i8,IntKind.i8,.i64] a))∧((8:Int) < (↑a.length:Int)→Ob (Value.int .i64 (5:Int)=Value.int .i64 (0:Int))∧True)∧(¬(8:Int) < (↑a.length:Int)→Ob (IsLst B c a.length 6 (Rv.elemOf [IntKind.u16,.i64,.i64,IntKind.i8,IntKind.i8,.i64] a))∧(∃(b:Nat),Ob (b≤a.length)∧Ob (SV.lst c a.length 6 (Rv.elemOf [IntKind.u16,.i64,.i64,IntKind.i8,IntKind.i8,.i64] a)=SV.lst c a.length 6 (Rv.elemOf [IntKind.u16,.i64,.i64,IntKind.i8,IntKind.i8,.i64] a))∧Ob (SV.lst c a.length 6 (Rv.elemOf [IntKind.u16,.i64,.i64,IntKind.i8,IntKind.i8,.i64] a)=SV.lst c a.length 6 (Rv.elemOf [IntKind.u16,.i64,.i64,IntKind.i8,IntKind.i8,.i64] a))∧Ob ((↑a.length:Int)=(↑a.length:Int))∧Ob ((0:Int)=(↑b:Int))∧Ob (IsLst B c a.length 6 (Rv.elemOf [IntKind.u16,.i64,.i64,IntKind.i8,IntKind.i8,.i64] a))∧Ob (IsLst B c a.length 6 (Rv.elemOf [IntKind.u16,.i64,.i64,IntKind.i8,IntKind.i8,.i64] a))∧True)∧∀(b:Nat),b≤a.length→∀(_ _ _ _ _ _ _ _ _ _ _ _ _ _ _ _ _ _ _ _ _ _ _ _ _ _:Value),((↑b:Int) < (↑a.length:Int)→Ob ((0:Int)≤(↑b:Int)∧b < a.length∧IsLst B c a.length 6 (Rv.elemOf [IntKind.u16,.i64,.i64,IntKind.i8,IntKind.i8,.i64] a))∧Ob (IsLst B c a.length 6 (Rv.elemOf [IntKind.u16,.i64,.i64,IntKind.i8,IntKind.i8,.i64] a)∧b < a.length)∧Ob (IsLst B c a.length 6 (Rv.elemOf [IntKind.u16,.i64,.i64,IntKind.i8,IntKind.i8,.i64] a))∧Ob (IsLst B c a.length 6 (Rv.elemOf [IntKind.u16,.i64,.i64,IntKind.i8,IntKind.i8,.i64] a)∧(0:Int)≤(↑b:Int)∧b≤a.length)∧Ob (IsLst B (cutR c 0 b 6) b 6 (Rv.elemOf [IntKind.u16,.i64,.i64,IntKind.i8,IntKind.i8,.i64] a))∧∃(e:List (List Int)),Ob (IsLst B (cutR c 0 b 6) b 6 (Rv.elemOf [IntKind.u16,.i64,.i64,IntKind.i8,IntKind.i8,.i64] a)∧e.length=b∧(∀d∈e,d.length=6)∧∀(f:Nat),f < b→Rv.elemOf [IntKind.u16,.i64,.i64,IntKind.i8,IntKind.i8,.i64] a f=Rv.elemOf [IntKind.u16,.i64,.i64,IntKind.i8,IntKind.i8,.i64] e f)∧Ob (∀(d:List Int),d∈e→canR [IntKind.u16,.i64,.i64,IntKind.i8,IntKind.i8,.i64] d)∧Ob (F_checkGrade.pre ([Dat.z (codeOf (strOf (cell a b 0))),Dat.z (cell a b 1),Dat.z (cell a b 2),Dat.p (cell a b 3=(1:Int)),Dat.p (cell a b 4=(1:Int)),Dat.z (cell a b 5)]++[Dat.l e]))∧Ob (InR .i64 ((↑b:Int)+(1:Int)))∧∃(g:Nat),Ob (g≤a.length∧a.length-g < a.length-b)∧Ob (SV.lst c a.length 6 (Rv.elemOf [IntKind.u16,.i64,.i64,IntKind.i8,IntKind.i8,.i64] a)=SV.lst c a.length 6 (Rv.elemOf [IntKind.u16,.i64,.i64,IntKind.i8,IntKind.i8,.i64] a))∧Ob (SV.lst c a.length 6 (Rv.elemOf [IntKind.u16,.i64,.i64,IntKind.i8,IntKind.i8,.i64] a)=SV.lst c a.length 6 (Rv.elemOf [IntKind.u16,.i64,.i64,IntKind.i8,IntKind.i8,.i64] a))∧Ob ((↑a.length:Int)=(↑a.length:Int))∧Ob ((↑b:Int)+(1:Int)=(↑g:Int))∧Ob (IsLst B c a.length 6 (Rv.elemOf [IntKind.u16,.i64,.i64,IntKind.i8,IntKind.i8,.i64] a))∧Ob (IsLst B c a.length 6 (Rv.elemOf [IntKind.u16,.i64,.i64,IntKind.i8,IntKind.i8,.i64] a))∧True)∧(¬(↑b:Int) < (↑a.length:Int)→Ob (Value.int .i64 (0:Int)=Value.int .i64 (0:Int))∧True)))
set_option linter.unusedSimpArgs false in
set_option maxRecDepth 4000 in
set_option maxHeartbeats 400000 in
theorem v_Check:V_Check:=by
 unfold V_Check
 intro B x R hx hox hrx hcan hpre
 have M:MkOk R:=hpre
 obtain⟨l1,l4⟩:=M.l
 simp only [Ob_iff,and_true,true_and]
 refine⟨hx,fun h=>absurd h (by omega),fun _=>⟨hx,fun h=>absurd h (by omega),fun _=>⟨hx,⟨0,?_⟩,?_⟩⟩⟩
 ·repeat' (with_reducible apply And.intro)
  all_goals first | exact hx | omega | rfl
 intro k hk
 intros
 refine⟨fun h1=>?_,fun _=>trivial⟩
 have hk':k < R.length:=by omega
 have cut:IsLst B (cutR x 0 k 6) k 6 (Rv.elemOf [.u16,.i64,.i64,.i8,.i8,.i64] R):=by
  have:=cut_lst hx (Nat.zero_le k) hk
  simpa using this
 have ct:∀i j,i < k→cell (R.take k) i j=cell R i j:=fun i j h=>by
  have e:(R.take k).getD i []=R.getD i []:=by rw [List.getD_eq_getElem?_getD,List.getD_eq_getElem?_getD,List.getElem?_take_of_lt h]
  unfold cell
  rw [e]
 have lt:(R.take k).length=k:=by rw [List.length_take]; omega
 obtain⟨⟨w1,w2,w3⟩,w4,w5⟩:=M.v k hk'
 have hM:F_checkGrade.pre ([Dat.z (codeOf (strOf (cell R k 0))),Dat.z (cell R k 1),Dat.z (cell R k 2),Dat.p (cell R k 3=1),Dat.p (cell R k 4=1),Dat.z (cell R k 5)]++[Dat.l (R.take k)]):=by
  refine⟨⟨by omega,?_,?_⟩,⟨w1,w2,w3⟩,w4,w5⟩
  ·rw [lt,can_cell hrx hcan hk',M.n k hk']
  ·intro i hi
   rw [lt]at hi
   rw [ct i 0 hi,M.n i (by omega)]
 refine⟨⟨by omega,hk',hx⟩,⟨hx,hk'⟩,hx,⟨hx,by omega,hk⟩,cut,R.take k,⟨cut,lt,fun r hr=>hrx r (List.mem_of_mem_take hr),fun i hi=>?_⟩,fun r hr=>hcan r (List.mem_of_mem_take hr),hM,by simp only [InR]; omega,k+1,?_⟩
 ·rw [elemOf_eq,elemOf_eq,List.getD_eq_getElem?_getD,List.getD_eq_getElem?_getD,List.getElem?_take_of_lt hi]
 ·repeat' (with_reducible apply And.intro)
  all_goals first | exact hx | omega | rfl
theorem e_Check:V_Check=needE P [] [F_checkGrade] A_Check F_Check:=by kernel_rfl
theorem n_Check:Ob (needE P [] [F_checkGrade] A_Check F_Check):=by
 rw [← e_Check]
 exact⟨v_Check⟩
theorem b_Check:((P.funcs[25]?).any fun fn=>fn.body.isSome)=true:=by kernel_rfl
theorem Check_ok:FnE.Ok P F_Check:=FnE.ok named (l:=[]) (es:=[F_checkGrade]) (A:=A_Check) (by rfl) (by rfl) (by rfl) (by
 intro F h; simp at h) (by
 intro F h
 simp only [List.mem_cons,List.not_mem_nil,or_false]at h
 rcases h with rfl
 ·exact checkGrade_ok
) b_Check (by
 rintro ds h o ho n sz e k z rfl
 simp only [F_Check]at ho
 split at ho<;>simp at ho) n_Check
end Go.Proofs.Ytdnphbnnhfpphaa.Sy
