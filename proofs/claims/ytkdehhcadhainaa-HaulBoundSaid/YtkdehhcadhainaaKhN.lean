import Derived.Test.YtkdehhcadhainaaSyP4
import Derived.Test.YtkdehhcadhainaaGrM
import Derived.Test.YtkdehhcadhainaaStM
import Derived.Test.YtkdehhcadhainaaKtT
import Derived.Test.YtkdehhcadhainaaSyP2
import Derived.Test.YtkdehhcadhainaaKhA
import Derived.Test.YtkdehhcadhainaaKhC
import Derived.Test.YtkdehhcadhainaaKhD
import Derived.KernelRfl
import Derived.Test.YtkdehhcadhainaaProg
namespace Go.Proofs.Ytkdehhcadhainaa.Sy
open Go Go.Rv
set_option linter.unusedVariables false
noncomputable def F_earns:FnE:=⟨8,none,[.agg [.i .i64,.i .i64,.i .i64,.i .i64,.i .i64,.l [.i64,.i64,.i64,.i64,.i64,.i64],.ll [.i64,.i64]],.one (.l [.i64])],fun l=>match l with | [.z st,.z en,.z ta,.z pr,.z ba,.l S,.ll L,.l P]=>(0≤st∧st≤1000000)∧TourOk 8 en ta pr ba S L∧P.length≤1000 | _=>False,fun l=>match l with | [.z st,.z en,.z ta,.z pr,.z ba,.l S,.ll L,.l P]=>[.i .i64 (z0 (runE st en ta ba S L P) (worthK S P P.length-pr*homeF S L P P.length)),.p ((runE st en ta ba S L P)=0)] | _=>[],fun l=>match l with | [.z st,.z en,.z ta,.z pr,.z ba,.l S,.ll L,.l P]=>[] | _=>[],fun l=>match l with | [.z st,.z en,.z ta,.z pr,.z ba,.l S,.ll L,.l P]=>[] | _=>[],false,none,none⟩
noncomputable def A_earns:List SV→List Dat→Nat→List SV→Ann:=fun _ _ _ _=>noAnn
def V_earns:Prop:=
 ∀(B:RW) (g d f i e:Int) (l:RV) (b:List (List Int)),IsLst B l b.length 6 (Rv.elemOf I6 b)→oneB l=true→(∀row∈b,row.length=6)→∀(k:RV) (ys:Nat→RV) (R:List (List (List Int))),IsLL B I2 k ys R→oneB k=true→∀(j:RV) (a:List (List Int)),IsLst B j a.length 1 (Rv.elemOf [.i64] a)→oneB j=true→(∀row∈a,row.length=1)→F_earns.pre ([Dat.z g,Dat.z d,Dat.z f,Dat.z i,Dat.z e,Dat.l b,Dat.ll R]++([Dat.l a]++[]))→RwB B l b.length 6 I6 b fun h=>∃(R_1:List (List (List Int))),∃(ys_1:Nat→RV),Ob (R_1.length=R.length∧(∀(m:Nat),m < R.length→llElem I2 ys R m=llElem I2 ys_1 R_1 m)∧IsLL B I2 k ys_1 R_1)∧RwB B j a.length 1 [.i64] a fun c=>Ob (F_Run.pre ([Dat.z g,Dat.z d,Dat.z f,Dat.z i,Dat.z e,Dat.l h,Dat.ll R_1]++[Dat.l c]))∧Ob (z0 (runE g d f e h R_1 c) (worthK h c c.length-i*homeF h R_1 c c.length)=z0 (runE g d f e b R a) (worthK b a a.length-i*homeF b R a a.length))∧Ob (runE g d f e h R_1 c=(0:Int)↔runE g d f e b R a=(0:Int))∧True
set_option linter.unusedSimpArgs false in
set_option maxRecDepth 4000 in
set_option maxHeartbeats 400000 in
theorem v_earns:V_earns:=by
 unfold V_earns I2 I6 RwB
 intro B st en ta pr ba x S hx hox hrx y ys L hy hoy z P hz hoz hrz ⟨hs,ht,hP⟩
 simp only [Ob_iff,and_true,true_and,implies_true,Classical.not_not]
 exact⟨S,⟨hx,rfl,hrx,fun i hi=>rfl⟩,L,ys,⟨rfl,fun i hi=>rfl,hy⟩,P,⟨hz,rfl,hrz,fun i hi=>rfl⟩,⟨hs,ht,hP⟩,rfl,.rfl⟩
theorem e_earns:V_earns=needE P [] [F_Run] A_earns F_earns:=by kernel_rfl
theorem n_earns:Ob (needE P [] [F_Run] A_earns F_earns):=by
 rw [← e_earns]
 exact⟨v_earns⟩
theorem b_earns:((P.funcs[8]?).any fun fn=>fn.body.isSome)=true:=by kernel_rfl
theorem earns_ok:FnE.Ok P F_earns:=FnE.ok named (l:=[]) (es:=[F_Run]) (A:=A_earns) (by rfl) (by rfl) (by rfl) (by
 intro F h; simp at h) (by
 intro F h
 simp only [List.mem_cons,List.not_mem_nil,or_false]at h
 rcases h with rfl
 ·exact Run_ok
) b_earns (by
 rintro ds h o ho n sz e k z rfl
 simp only [F_earns]at ho
 split at ho<;>simp at ho) n_earns
end Go.Proofs.Ytkdehhcadhainaa.Sy
