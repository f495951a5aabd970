import Derived.Test.YtcdifnheflhbmaaSyP4
import Derived.Test.YtcdifnheflhbmaaGrM
import Derived.Test.YtcdifnheflhbmaaStM
import Derived.Test.YtcdifnheflhbmaaKtT
import Derived.Test.YtcdifnheflhbmaaSyP2
import Derived.Test.YtcdifnheflhbmaaKbA
import Derived.Test.YtcdifnheflhbmaaKbB
import Derived.Test.YtcdifnheflhbmaaKbC
import Derived.Test.YtcdifnheflhbmaaKbD
import Derived.KernelRfl
import Derived.Test.YtcdifnheflhbmaaProg
namespace Go.Proofs.Ytcdifnheflhbmaa.Sy
open Go Go.Rv
set_option linter.unusedVariables false
noncomputable def hold (W:Int) (L:List Rows) (C:Rows) (x row day:Int):Nat:=holdK W L C day x row L.length
theorem hold_le {W:Int} {L:List Rows} {C:Rows} {x row day:Int}:hold W L C x row day≤L.length:=holdK_le _
noncomputable def F_checkDay:Fn0:=⟨22,[.agg [.i .i64,.i .i64,.i .i64,.ll [.i64],.l [.i64,.i64,.i64,.i64,.i64,.i64]],i64],fun l=>match l with | [.z W,.z D,.z G,.ll L,.l C,.z day]=>BayOk 40 20 6 W D G L C∧0≤day∧day≤36499 | _=>False,fun l=>match l with | [.z W,.z D,.z G,.ll L,.l C,.z day]=>.i .i64 0 | _=>.v undef⟩
noncomputable def A_checkDay:List SV→List Dat→Nat→List SV→Ann:=fun _ _ _ _=>noAnn
def V_checkDay:Prop:=
 ∀(B:RW) (g h f:Int) (d:RV) (ys:Nat→RV) (R:List (List (List Int))),IsLL B [.i64] d ys R→oneB d=true→∀(c:RV) (a:List (List Int)),IsLst B c a.length 6 (Rv.elemOf I6 a)→oneB c=true→(∀row∈a,row.length=6)→∀(b:Int),BayOk (40:Int) (20:Int) (6:Int) g h f R a∧(0:Int)≤b∧b≤(36499:Int)→∃(R_1:List (List (List Int))),∃(ys_1:Nat→RV),Ob (R_1.length=R.length∧(∀(e:Nat),e < R.length→llElem [.i64] ys R e=llElem [.i64] ys_1 R_1 e)∧IsLL B [.i64] d ys_1 R_1)∧RwB B c a.length 6 I6 a fun i=>Ob (BayOk (40:Int) (20:Int) (6:Int) g h f R_1 i)∧(¬(0:Int)=(0:Int)→Ob ((0:Int)=(0:Int))∧True)∧(¬¬(0:Int)=(0:Int)→Ob True∧(¬((0:Int)≤b∧b≤(36499:Int))→Ob ((1:Int)=(0:Int))∧True)∧(¬¬((0:Int)≤b∧b≤(36499:Int))→Ob ((0:Int)=(0:Int))∧True))
set_option linter.unusedSimpArgs false in
set_option maxRecDepth 4000 in
set_option maxHeartbeats 400000 in
theorem v_checkDay:V_checkDay:=by
 unfold V_checkDay I6 RwB
 intro B W D G x ys L hx hox y C hy hoy hry day ⟨hb,hd⟩
 simp only [Ob_iff,and_true,true_and,implies_true,Classical.not_not,not_true_eq_false]
 exact⟨L,ys,⟨rfl,fun i hi=>rfl,hx⟩,C,⟨hy,rfl,hry,fun i hi=>rfl⟩,hb,fun _=>fun q=>absurd hd q⟩
theorem e_checkDay:V_checkDay=needF P [F_isDay,F_Check] A_checkDay F_checkDay:=by kernel_rfl
theorem n_checkDay:Ob (needF P [F_isDay,F_Check] A_checkDay F_checkDay):=by
 rw [← e_checkDay]
 exact⟨v_checkDay⟩
theorem b_checkDay:((P.funcs[22]?).any fun fn=>fn.body.isSome)=true:=by kernel_rfl
theorem checkDay_ok:Fn0.Ok P F_checkDay:=Fn0.ok named (l:=[F_isDay,F_Check]) (A:=A_checkDay) (by rfl) (by
 intro F h
 simp only [List.mem_cons,List.not_mem_nil,or_false]at h
 rcases h with rfl | rfl
 ·exact isDay_ok
 ·exact Check_ok
) b_checkDay (by
 intro ds N
 simp only [F_checkDay]
 split<;>rfl) n_checkDay
noncomputable def F_Holder:FnE:=⟨10,none,[.agg [.i .i64,.i .i64,.i .i64,.ll [.i64],.l [.i64,.i64,.i64,.i64,.i64,.i64]],i64,i64,i64],fun l=>match l with | [.z W,.z D,.z G,.ll L,.l C,.z day,.z x0,.z row]=>BayOk 40 20 6 W D G L C∧(0≤day∧day≤36499)∧(0≤x0∧x0 < W)∧0≤row∧row < D | _=>False,fun l=>match l with | [.z W,.z D,.z G,.ll L,.l C,.z day,.z x0,.z row]=>[.i .i64 (hold W L C x0 row day),.i .i64 0] | _=>[],fun l=>match l with | [.z W,.z D,.z G,.ll L,.l C,.z day,.z x0,.z row]=>[] | _=>[],fun l=>match l with | [.z W,.z D,.z G,.ll L,.l C,.z day,.z x0,.z row]=>[] | _=>[],false,none,none⟩
noncomputable def A_Holder:List SV→List Dat→Nat→List SV→Ann:=fun _ _ _ _=>noAnn
def V_Holder:Prop:=
 ∀(B:RW) (e i j:Int) (h:RV) (ys:Nat→RV) (R:List (List (List Int))),IsLL B [.i64] h ys R→oneB h=true→∀(g:RV) (a:List (List Int)),IsLst B g a.length 6 (Rv.elemOf I6 a)→oneB g=true→(∀row∈a,row.length=6)→∀(f d c:Int),F_Holder.pre ([Dat.z e,Dat.z i,Dat.z j,Dat.ll R,Dat.l a]++([Dat.z f]++([Dat.z d]++([Dat.z c]++[]))))→∃(R_1:List (List (List Int))),∃(ys_1:Nat→RV),Ob (R_1.length=R.length∧(∀(b:Nat),b < R.length→llElem [.i64] ys R b=llElem [.i64] ys_1 R_1 b)∧IsLL B [.i64] h ys_1 R_1)∧RwB B g a.length 6 I6 a fun l=>Ob (BayOk (40:Int) (20:Int) (6:Int) e i j R_1 l∧(0:Int)≤f∧f≤(36499:Int))∧(¬(0:Int)=(0:Int)→Ob ((0:Int)=(↑(hold e R a d c f):Int))∧Ob ((0:Int)=(0:Int))∧True)∧(¬¬(0:Int)=(0:Int)→∃(R_2:List (List (List Int))),∃(ys_2:Nat→RV),Ob (R_2.length=R.length∧(∀(b:Nat),b < R.length→llElem [.i64] ys R b=llElem [.i64] ys_2 R_2 b)∧IsLL B [.i64] h ys_2 R_2)∧RwB B g a.length 6 I6 a fun m=>Ob True∧(¬(((0:Int)≤d∧d < e)∧(0:Int)≤c∧c < i)→Ob ((0:Int)=(↑(hold e R a d c f):Int))∧Ob ((1:Int)=(0:Int))∧True)∧(¬¬(((0:Int)≤d∧d < e)∧(0:Int)≤c∧c < i)→∃(R_3:List (List (List Int))),∃(ys_3:Nat→RV),Ob (R_3.length=R.length∧(∀(b:Nat),b < R.length→llElem [.i64] ys R b=llElem [.i64] ys_3 R_3 b)∧IsLL B [.i64] h ys_3 R_3)∧RwB B g a.length 6 I6 a fun k=>Ob (F_holder.pre ([Dat.z e,Dat.z i,Dat.z j,Dat.ll R_3,Dat.l k]++[Dat.z f,Dat.z d,Dat.z c]))∧Ob ((↑(holdK e R_3 k f d c R_3.length):Int)=(↑(hold e R a d c f):Int))∧Ob ((0:Int)=(0:Int))∧True))
set_option linter.unusedSimpArgs false in
set_option maxRecDepth 4000 in
set_option maxHeartbeats 400000 in
theorem v_Holder:V_Holder:=by
 unfold V_Holder I6 RwB
 intro B W D G x ys L hx hox y C hy hoy hry day x0 row ⟨hb,hd,h0,hr⟩
 simp only [Ob_iff,and_true,true_and,implies_true,Classical.not_not,not_true_eq_false]
 refine⟨L,ys,⟨rfl,fun i hi=>rfl,hx⟩,C,⟨hy,rfl,hry,fun i hi=>rfl⟩,⟨hb,hd⟩,fun q=>q.elim,fun _=>⟨L,ys,⟨rfl,fun i hi=>rfl,hx⟩,C,⟨hy,rfl,hry,fun i hi=>rfl⟩,fun q=>absurd ⟨h0,hr⟩ q,fun _=>⟨L,ys,⟨rfl,fun i hi=>rfl,hx⟩,C,⟨hy,rfl,hry,fun i hi=>rfl⟩,⟨hb.mono (by decide) (by decide) (by decide),⟨hd.1,Int.le_trans hd.2 (by decide)⟩,hr⟩,rfl⟩⟩⟩
theorem e_Holder:V_Holder=needE P [F_checkDay,F_isCell] [F_holder] A_Holder F_Holder:=by kernel_rfl
theorem n_Holder:Ob (needE P [F_checkDay,F_isCell] [F_holder] A_Holder F_Holder):=by
 rw [← e_Holder]
 exact⟨v_Holder⟩
theorem b_Holder:((P.funcs[10]?).any fun fn=>fn.body.isSome)=true:=by kernel_rfl
theorem Holder_ok:FnE.Ok P F_Holder:=FnE.ok named (l:=[F_checkDay,F_isCell]) (es:=[F_holder]) (A:=A_Holder) (by rfl) (by rfl) (by rfl) (by
 intro F h
 simp only [List.mem_cons,List.not_mem_nil,or_false]at h
 rcases h with rfl | rfl
 ·exact checkDay_ok
 ·exact isCell_ok
) (by
 intro F h
 simp only [List.mem_cons,List.not_mem_nil,or_false]at h
 rcases h with rfl
 ·exact holder_ok
) b_Holder (by
 rintro ds h o ho n sz e k z rfl
 simp only [F_Holder]at ho
 split at ho<;>simp at ho) n_Holder
end Go.Proofs.Ytcdifnheflhbmaa.Sy
