import Derived.Test.YtkdehhcadhainaaSyP4
import Derived.Test.YtkdehhcadhainaaGrM
import Derived.Test.YtkdehhcadhainaaStM
import Derived.Test.YtkdehhcadhainaaKtT
import Derived.Test.YtkdehhcadhainaaSyP2
import Derived.Test.YtkdehhcadhainaaKhA
import Derived.KernelRfl
import Derived.Test.YtkdehhcadhainaaProg
namespace Go.Proofs.Ytkdehhcadhainaa.Sy
open Go Go.Rv
set_option linter.unusedVariables false
def chkT (st en:Int):Int:=if st≤1440 then (if st≤en then 0 else 8)else 1
noncomputable def F_upTo:Fn0:=⟨28,[i64,i64],fun _=>True,fun l=>match l with | [.z n,.z m]=>.p (0≤n∧n≤m) | _=>.v undef⟩
noncomputable def A_upTo:List SV→List Dat→Nat→List SV→Ann:=fun _ _ _ _=>noAnn
def V_upTo:Prop:=
 ∀(B:RW) (a b:Int),True→((0:Int)≤a→Ob (a≤b↔(0:Int)≤a∧a≤b)∧True)∧(¬(0:Int)≤a→Ob (false=true↔(0:Int)≤a∧a≤b)∧True)
set_option linter.unusedSimpArgs false in
set_option maxRecDepth 4000 in
set_option maxHeartbeats 400000 in
theorem v_upTo:V_upTo:=by
 unfold V_upTo
 intro B n m _
 simp only [Ob_iff,and_true]
 exact⟨fun h=>by omega,fun h=>by simp; omega⟩
theorem e_upTo:V_upTo=needF P [] A_upTo F_upTo:=by kernel_rfl
theorem n_upTo:Ob (needF P [] A_upTo F_upTo):=by
 rw [← e_upTo]
 exact⟨v_upTo⟩
theorem b_upTo:((P.funcs[28]?).any fun fn=>fn.body.isSome)=true:=by kernel_rfl
theorem upTo_ok:Fn0.Ok P F_upTo:=Fn0.ok named (l:=[]) (A:=A_upTo) (by rfl) (by
 intro F h; simp at h) b_upTo (by
 intro ds N
 simp only [F_upTo]
 split<;>rfl) n_upTo
noncomputable def F_isMinute:Fn0:=⟨26,[i64],fun _=>True,fun l=>match l with | [.z n]=>.p (0≤n∧n≤1440) | _=>.v undef⟩
noncomputable def A_isMinute:List SV→List Dat→Nat→List SV→Ann:=fun _ _ _ _=>noAnn
def V_isMinute:Prop:=
 ∀(B:RW) (a:Int),True→Ob True∧Ob ((0:Int)≤a∧a≤(1440:Int)↔(0:Int)≤a∧a≤(1440:Int))∧True
set_option linter.unusedSimpArgs false in
set_option maxRecDepth 4000 in
set_option maxHeartbeats 400000 in
theorem v_isMinute:V_isMinute:=by
 unfold V_isMinute
 intro B n _
 simp only [Ob_iff,and_true]
theorem e_isMinute:V_isMinute=needF P [F_upTo] A_isMinute F_isMinute:=by kernel_rfl
theorem n_isMinute:Ob (needF P [F_upTo] A_isMinute F_isMinute):=by
 rw [← e_isMinute]
 exact⟨v_isMinute⟩
theorem b_isMinute:((P.funcs[26]?).any fun fn=>fn.body.isSome)=true:=by kernel_rfl
theorem isMinute_ok:Fn0.Ok P F_isMinute:=Fn0.ok named (l:=[F_upTo]) (A:=A_isMinute) (by rfl) (by
 intro F h
 simp only [List.mem_cons,List.not_mem_nil,or_false]at h
 rcases h with rfl
 ·exact upTo_ok
) b_isMinute (by
 intro ds N
 simp only [F_isMinute]
 split<;>rfl) n_isMinute
noncomputable def F_isFuel:Fn0:=⟨27,[i64],fun _=>True,fun l=>match l with | [.z n]=>.p (0≤n∧n≤100000) | _=>.v undef⟩
noncomputable def A_isFuel:List SV→List Dat→Nat→List SV→Ann:=fun _ _ _ _=>noAnn
def V_isFuel:Prop:=
 ∀(B:RW) (a:Int),True→Ob True∧Ob ((0:Int)≤a∧a≤(100000:Int)↔(0:Int)≤a∧a≤(100000:Int))∧True
set_option linter.unusedSimpArgs false in
set_option maxRecDepth 4000 in
set_option maxHeartbeats 400000 in
theorem v_isFuel:V_isFuel:=by
 unfold V_isFuel
 intro B n _
 simp only [Ob_iff,and_true]
theorem e_isFuel:V_isFuel=needF P [F_upTo] A_isFuel F_isFuel:=by kernel_rfl
theorem n_isFuel:Ob (needF P [F_upTo] A_isFuel F_isFuel):=by
 rw [← e_isFuel]
 exact⟨v_isFuel⟩
theorem b_isFuel:((P.funcs[27]?).any fun fn=>fn.body.isSome)=true:=by kernel_rfl
theorem isFuel_ok:Fn0.Ok P F_isFuel:=Fn0.ok named (l:=[F_upTo]) (A:=A_isFuel) (by rfl) (by
 intro F h
 simp only [List.mem_cons,List.not_mem_nil,or_false]at h
 rcases h with rfl
 ·exact upTo_ok
) b_isFuel (by
 intro ds N
 simp only [F_isFuel]
 split<;>rfl) n_isFuel
noncomputable def F_isBait:Fn0:=⟨29,[i64],fun _=>True,fun l=>match l with | [.z n]=>.p (0≤n∧n≤1000) | _=>.v undef⟩
noncomputable def A_isBait:List SV→List Dat→Nat→List SV→Ann:=fun _ _ _ _=>noAnn
def V_isBait:Prop:=
 ∀(B:RW) (a:Int),True→Ob True∧Ob ((0:Int)≤a∧a≤(1000:Int)↔(0:Int)≤a∧a≤(1000:Int))∧True
set_option linter.unusedSimpArgs false in
set_option maxRecDepth 4000 in
set_option maxHeartbeats 400000 in
theorem v_isBait:V_isBait:=by
 unfold V_isBait
 intro B n _
 simp only [Ob_iff,and_true]
theorem e_isBait:V_isBait=needF P [F_upTo] A_isBait F_isBait:=by kernel_rfl
theorem n_isBait:Ob (needF P [F_upTo] A_isBait F_isBait):=by
 rw [← e_isBait]
 exact⟨v_isBait⟩
theorem b_isBait:((P.funcs[29]?).any fun fn=>fn.body.isSome)=true:=by kernel_rfl
theorem isBait_ok:Fn0.Ok P F_isBait:=Fn0.ok named (l:=[F_upTo]) (A:=A_isBait) (by rfl) (by
 intro F h
 simp only [List.mem_cons,List.not_mem_nil,or_false]at h
 rcases h with rfl
 ·exact upTo_ok
) b_isBait (by
 intro ds N
 simp only [F_isBait]
 split<;>rfl) n_isBait
noncomputable def F_placeOf:Fn0:=⟨32,[i64],fun l=>match l with | [.z n]=>-1000000≤n∧n≤1000000 | _=>False,fun l=>match l with | [.z n]=>.i .i64 (n+1) | _=>.v undef⟩
noncomputable def A_placeOf:List SV→List Dat→Nat→List SV→Ann:=fun _ _ _ _=>noAnn
def V_placeOf:Prop:=
 ∀(B:RW) (a:Int),(-1000000:Int)≤a∧a≤(1000000:Int)→Ob (InR .i64 (a+(1:Int)))∧Ob (a+(1:Int)=a+(1:Int))∧True
set_option linter.unusedSimpArgs false in
set_option maxRecDepth 4000 in
set_option maxHeartbeats 400000 in
theorem v_placeOf:V_placeOf:=by
 unfold V_placeOf
 intro B n h
 have h:-1000000≤n∧n≤1000000:=h
 simp only [Ob_iff,and_true,InR]
 omega
theorem e_placeOf:V_placeOf=needF P [] A_placeOf F_placeOf:=by kernel_rfl
theorem n_placeOf:Ob (needF P [] A_placeOf F_placeOf):=by
 rw [← e_placeOf]
 exact⟨v_placeOf⟩
theorem b_placeOf:((P.funcs[32]?).any fun fn=>fn.body.isSome)=true:=by kernel_rfl
theorem placeOf_ok:Fn0.Ok P F_placeOf:=Fn0.ok named (l:=[]) (A:=A_placeOf) (by rfl) (by
 intro F h; simp at h) b_placeOf (by
 intro ds N
 simp only [F_placeOf]
 split<;>rfl) n_placeOf
noncomputable def F_checkStop:Fn0:=⟨30,[.agg [.i .i64,.i .i64,.i .i64,.i .i64,.i .i64,.i .i64]],fun l=>match l with | [.z a,.z b,.z c,.z d,.z e,.z f]=>0≤a∧a≤1000∧0≤b∧b≤1000000∧0≤c∧c≤1440∧0≤d∧d≤100000∧0≤e∧e≤f∧f≤1440 | _=>False,fun l=>match l with | [.z a,.z b,.z c,.z d,.z e,.z f]=>.i .i64 0 | _=>.v undef⟩
noncomputable def A_checkStop:List SV→List Dat→Nat→List SV→Ann:=fun _ _ _ _=>noAnn
def V_checkStop:Prop:=
 ∀(B:RW) (f c e d a b:Int),(0:Int)≤f∧f≤(1000:Int)∧(0:Int)≤c∧c≤(1000000:Int)∧(0:Int)≤e∧e≤(1440:Int)∧(0:Int)≤d∧d≤(100000:Int)∧(0:Int)≤a∧a≤b∧b≤(1440:Int)→Ob True∧(¬¬((0:Int)≤f∧f≤(1000:Int))→Ob True∧(¬¬((0:Int)≤c∧c≤(1000000:Int))→Ob True∧(¬¬((0:Int)≤e∧e≤(1440:Int))→Ob True∧(¬((0:Int)≤d∧d≤(100000:Int))→Ob ((1:Int)=(0:Int))∧True)∧(¬¬((0:Int)≤d∧d≤(100000:Int))→Ob True∧(¬¬((0:Int)≤a∧a≤(1440:Int))→Ob True∧(¬((0:Int)≤b∧b≤(1440:Int))→Ob ((1:Int)=(0:Int))∧True)∧(¬¬((0:Int)≤b∧b≤(1440:Int))→(b < a→Ob ((8:Int)=(0:Int))∧True)∧(¬b < a→Ob ((0:Int)=(0:Int))∧True)))∧(¬((0:Int)≤a∧a≤(1440:Int))→Ob ((1:Int)=(0:Int))∧True)))∧(¬((0:Int)≤e∧e≤(1440:Int))→Ob ((1:Int)=(0:Int))∧True))∧(¬((0:Int)≤c∧c≤(1000000:Int))→Ob ((1:Int)=(0:Int))∧True))∧(¬((0:Int)≤f∧f≤(1000:Int))→Ob ((1:Int)=(0:Int))∧True)
set_option linter.unusedSimpArgs false in
set_option maxRecDepth 4000 in
set_option maxHeartbeats 400000 in
theorem v_checkStop:V_checkStop:=by
 unfold V_checkStop
 intro B a b c d e f h
 simp only [Ob_iff,and_true,true_and,Classical.not_not]
 repeat' (first | with_reducible apply And.intro | intro _)
 all_goals first | trivial | omega
theorem e_checkStop:V_checkStop=needF P [F_upTo,F_isMinute,F_isFuel,F_isBait] A_checkStop F_checkStop:=by kernel_rfl
theorem n_checkStop:Ob (needF P [F_upTo,F_isMinute,F_isFuel,F_isBait] A_checkStop F_checkStop):=by
 rw [← e_checkStop]
 exact⟨v_checkStop⟩
theorem b_checkStop:((P.funcs[30]?).any fun fn=>fn.body.isSome)=true:=by kernel_rfl
theorem checkStop_ok:Fn0.Ok P F_checkStop:=Fn0.ok named (l:=[F_upTo,F_isMinute,F_isFuel,F_isBait]) (A:=A_checkStop) (by rfl) (by
 intro F h
 simp only [List.mem_cons,List.not_mem_nil,or_false]at h
 rcases h with rfl | rfl | rfl | rfl
 ·exact upTo_ok
 ·exact isMinute_ok
 ·exact isFuel_ok
 ·exact isBait_ok
) b_checkStop (by
 intro ds N
 simp only [F_checkStop]
 split<;>rfl) n_checkStop
noncomputable def F_checkLegs:Fn0:=⟨31,[.one (.ll [.i64,.i64]),i64],fun l=>match l with | [.ll L,.z m]=>(L.length:Int)=m∧m≤1000∧LegsOk L.length L | _=>False,fun l=>match l with | [.ll L,.z m]=>.i .i64 0 | _=>.v undef⟩
noncomputable def A_checkLegs:List SV→List Dat→Nat→List SV→Ann:=fun xs ds n ts=>match xs with
 | [.lst y _ _ ye,_]=>match ds with
  | [.ll L,.z m]=>match n with
   | 4=>⟨Nat,fun k=>([none,some (SV.i IntKind.i64 m)]++nN 11++[some (SV.lst y L.length ((1:Nat)) ye),some (SV.i IntKind.i64 (↑L.length:Int)),some (.i .i64 k)]++nN 35),fun k=>[],fun k=>k≤L.length,fun k=>L.length-k,0⟩
   | 9=>(match lget ts 25 with | some (SV.i IntKind.i64 il)=>(match lget ts 24 with | some (SV.lst p0 p1 p2 p3)=>(match lget ts 15 with | some (SV.i IntKind.i64 ij)=>(match lget ts 5 with | some (SV.i IntKind.i64 ik)=>⟨Nat,fun j=>([none,some (SV.i IntKind.i64 m),none,none,none,some (.i .i64 ik),none,none,none,none,none,none,none,some (SV.lst y L.length ((1:Nat)) ye),some (SV.i IntKind.i64 (↑L.length:Int)),some (.i .i64 ij)]++nN 8++[some (.lst p0 p1 p2 p3),some (.i .i64 il),some (.i .i64 j)]++nN 24),fun j=>[],fun j=>j≤p1,fun j=>p1-j,0⟩ | _=>noAnn) | _=>noAnn) | _=>noAnn) | _=>noAnn)
   | _=>noAnn
  | _=>noAnn
 | _=>noAnn
def V_checkLegs:Prop:=
 ∀(B:RW) (c:RV) (ys:Nat→RV) (R:List (List (List Int))),IsLL B I2 c ys R→oneB c=true→∀(d:Int),(↑R.length:Int)=d∧d≤(1000:Int)∧LegsOk R.length R→Ob (IsLst B c R.length 1 (llElem I2 ys R))∧(¬(↑R.length:Int)=d→Ob ((2:Int)=(0:Int))∧True)∧(¬¬(↑R.length:Int)=d→Ob (IsLst B c R.length 1 (llElem I2 ys R))∧(∃(a:Nat),Ob (a≤R.length)∧Ob (d=d)∧Ob (SV.lst c R.length 1 (llElem I2 ys R)=SV.lst c R.length 1 (llElem I2 ys R))∧Ob ((↑R.length:Int)=(↑R.length:Int))∧Ob ((0:Int)=(↑a:Int))∧Ob (IsLst B c R.length 1 (llElem I2 ys R))∧True)∧∀(a:Nat),a≤R.length→∀(_ _ _ _ _ _ _ _ _ _ _ _ _ _ _ _ _ _ _ _ _ _ _ _ _ _ _ _ _ _ _ _ _ _ _ _ _ _ _ _ _ _ _ _ _ _ _:Value),((↑a:Int) < (↑R.length:Int)→Ob ((0:Int)≤(↑a:Int)∧a < R.length∧IsLst B c R.length 1 (llElem I2 ys R))∧Ob (IsLst B c R.length 1 (llElem I2 ys R)∧a < R.length)∧Ob (IsLst B (ys a) (R.getD a []).length 2 (Rv.elemOf I2 (R.getD a [])))∧(¬(↑(R.getD a []).length:Int)=d→Ob ((2:Int)=(0:Int))∧True)∧(¬¬(↑(R.getD a []).length:Int)=d→Ob (IsLst B (ys a) (R.getD a []).length 2 (Rv.elemOf I2 (R.getD a [])))∧(∃(b:Nat),Ob (b≤(R.getD a []).length)∧Ob (d=d)∧Ob ((↑a:Int)=(↑a:Int))∧Ob (SV.lst c R.length 1 (llElem I2 ys R)=SV.lst c R.length 1 (llElem I2 ys R))∧Ob ((↑R.length:Int)=(↑R.length:Int))∧Ob ((↑a:Int)=(↑a:Int))∧Ob (SV.lst (ys a) (R.getD a []).length 2 (Rv.elemOf I2 (R.getD a []))=SV.lst (ys a) (R.getD a []).length 2 (Rv.elemOf I2 (R.getD a [])))∧Ob ((↑(R.getD a []).length:Int)=(↑(R.getD a []).length:Int))∧Ob ((0:Int)=(↑b:Int))∧Ob (IsLst B c R.length 1 (llElem I2 ys R))∧Ob (IsLst B (ys a) (R.getD a []).length 2 (Rv.elemOf I2 (R.getD a [])))∧True)∧∀(b:Nat),b≤(R.getD a []).length→∀(_ _ _ _ _ _ _ _ _ _ _ _ _ _ _ _ _ _ _ _ _ _ _ _ _ _ _ _ _ _ _ _ _ _ _ _ _ _ _ _ _ _ _:Value),((↑b:Int) < (↑(R.getD a []).length:Int)→Ob ((0:Int)≤(↑b:Int)∧b < (R.getD a []).length∧IsLst B (ys a) (R.getD a []).length 2 (Rv.elemOf I2 (R.getD a [])))∧Ob (IsLst B (ys a) (R.getD a []).length 2 (Rv.elemOf I2 (R.getD a []))∧b < (R.getD a []).length)∧Ob True∧(¬¬((0:Int)≤cell (R.getD a []) b 0∧cell (R.getD a []) b 0≤(1440:Int))→Ob True∧(¬((0:Int)≤cell (R.getD a []) b 1∧cell (R.getD a []) b 1≤(100000:Int))→Ob ((1:Int)=(0:Int))∧True)∧(¬¬((0:Int)≤cell (R.getD a []) b 1∧cell (R.getD a []) b 1≤(100000:Int))→((↑a:Int)=(↑b:Int)→(¬(cell (R.getD a []) b 0=(0:Int)∧cell (R.getD a []) b 1=(0:Int)∧True)→Ob ((2:Int)=(0:Int))∧True)∧(¬¬(cell (R.getD a []) b 0=(0:Int)∧cell (R.getD a []) b 1=(0:Int)∧True)→Ob (InR .i64 ((↑b:Int)+(1:Int)))∧∃(e:Nat),Ob (e≤(R.getD a []).length∧(R.getD a []).length-e < (R.getD a []).length-b)∧Ob (d=d)∧Ob ((↑a:Int)=(↑a:Int))∧Ob (SV.lst c R.length 1 (llElem I2 ys R)=SV.lst c R.length 1 (llElem I2 ys R))∧Ob ((↑R.length:Int)=(↑R.length:Int))∧Ob ((↑a:Int)=(↑a:Int))∧Ob (SV.lst (ys a) (R.getD a []).length 2 (Rv.elemOf I2 (R.getD a []))=SV.lst (ys a) (R.getD a []).length 2 (Rv.elemOf I2 (R.getD a [])))∧Ob ((↑(R.getD a []).length:Int)=(↑(R.getD a []).length:Int))∧Ob ((↑b:Int)+(1:Int)=(↑e:Int))∧Ob (IsLst B c R.length 1 (llElem I2 ys R))∧Ob (IsLst B (ys a) (R.getD a []).length 2 (Rv.elemOf I2 (R.getD a [])))∧True))∧(¬(↑a:Int)=(↑b:Int)→Ob (InR .i64 ((↑b:Int)+(1:Int)))∧∃(e:Nat),Ob (e≤(R.getD a []).length∧(R.getD a []).length-e < (R.getD a []).length-b)∧Ob (d=d)∧Ob ((↑a:Int)=(↑a:Int))∧Ob (SV.lst c R.length 1 (llElem I2 ys R)=SV.lst c R.length 1 (llElem I2 ys R))∧Ob ((↑R.length:Int)=(↑R.length:Int))∧Ob ((↑a:Int)=(↑a:Int))∧Ob (SV.lst (ys a) (R.getD a []).length 2 (Rv.elemOf I2 (R.getD a []))=SV.lst (ys a) (R.getD a []).length 2 (Rv.elemOf I2 (R.getD a [])))∧Ob ((↑(R.getD a []).length:Int)=(↑(R.getD a []).length:Int))∧Ob ((↑b:Int)+(1:Int)=(↑e:Int))∧Ob (IsLst B c R.length 1 (llElem I2 ys R))∧Ob (IsLst B (ys a) (R.getD a []).length 2 (Rv.elemOf I2 (R.getD a [])))∧True)))∧(¬((0:Int)≤cell (R.getD a []) b 0∧cell (R.getD a []) b 0≤(1440:Int))→Ob ((1:Int)=(0:Int))∧True))∧(¬(↑b:Int) < (↑(R.getD a []).length:Int)→Ob (InR .i64 ((↑a:Int)+(1:Int)))∧∃(e:Nat),Ob (e≤R.length∧R.length-e < R.length-a)∧Ob (d=d)∧Ob (SV.lst c R.length 1 (llElem I2 ys R)=SV.lst c R.length 1 (llElem I2 ys R))∧Ob ((↑R.length:Int)=(↑R.length:Int))∧Ob ((↑a:Int)+(1:Int)=(↑e:Int))∧Ob (IsLst B c R.length 1 (llElem I2 ys R))∧True)))∧(¬(↑a:Int) < (↑R.length:Int)→Ob ((0:Int)=(0:Int))∧True))
set_option linter.unusedSimpArgs false in
set_option maxRecDepth 4000 in
set_option maxHeartbeats 400000 in
theorem v_checkLegs:V_checkLegs:=by
 unfold V_checkLegs I2
 intro B y ys L hy hoy m ⟨hm,hm2,hL⟩
 simp only [Ob_iff,and_true,true_and,implies_true,Classical.not_not]
 refine⟨hy.1,fun q=>absurd hm q,fun _=>⟨hy.1,⟨0,Nat.zero_le _,rfl,hy.1⟩,?_⟩⟩
 intro k hk
 intros
 rename_i h0
 have hkl:k < L.length:=by omega
 have h1:=(hy.2 k hkl).1
 have hlen:=hL.len k hkl
 refine⟨⟨Int.natCast_nonneg k,hkl,hy.1⟩,⟨hy.1,hkl⟩,h1,fun q=>absurd (by omega:((L.getD k []).length:Int)=m) q,fun _=>⟨h1,⟨0,Nat.zero_le _,rfl,hy.1,h1⟩,?_⟩⟩
 intro j hj
 intros
 refine⟨fun h2=>?_,fun h2=>⟨by simp only [InR]; omega,k+1,by omega,rfl,hy.1⟩⟩
 have hj2:j < (L.getD k []).length:=by omega
 have hc:=hL.at_ k hkl j (by omega)
 unfold lg at hc
 have i1:InR .i64 ((j:Int)+1):=by simp only [InR]; omega
 have i2:j+1≤(L.getD k []).length∧(L.getD k []).length-(j+1) < (L.getD k []).length-j:=by omega
 exact⟨⟨Int.natCast_nonneg j,hj2,h1⟩,⟨h1,hj2⟩,fun _=>⟨fun q=>absurd ⟨hc.2.2.1,hc.2.2.2.1⟩ q,fun _=>⟨fun e=>⟨fun q=>absurd (hc.2.2.2.2 (by omega)) q,fun _=>⟨i1,j+1,i2,rfl,hy.1,h1⟩⟩,fun _=>⟨i1,j+1,i2,rfl,hy.1,h1⟩⟩⟩,fun q=>absurd ⟨hc.1,hc.2.1⟩ q⟩
theorem e_checkLegs:V_checkLegs=needF P [F_isMinute,F_isFuel] A_checkLegs F_checkLegs:=by kernel_rfl
theorem n_checkLegs:Ob (needF P [F_isMinute,F_isFuel] A_checkLegs F_checkLegs):=by
 rw [← e_checkLegs]
 exact⟨v_checkLegs⟩
theorem b_checkLegs:((P.funcs[31]?).any fun fn=>fn.body.isSome)=true:=by kernel_rfl
theorem checkLegs_ok:Fn0.Ok P F_checkLegs:=Fn0.ok named (l:=[F_isMinute,F_isFuel]) (A:=A_checkLegs) (by rfl) (by
 intro F h
 simp only [List.mem_cons,List.not_mem_nil,or_false]at h
 rcases h with rfl | rfl
 ·exact isMinute_ok
 ·exact isFuel_ok
) b_checkLegs (by
 intro ds N
 simp only [F_checkLegs]
 split<;>rfl) n_checkLegs
noncomputable def F_Check:Fn0:=⟨17,[.agg [.i .i64,.i .i64,.i .i64,.i .i64,.i .i64,.l [.i64,.i64,.i64,.i64,.i64,.i64],.ll [.i64,.i64]]],fun l=>match l with | [.z st,.z en,.z ta,.z pr,.z ba,.l S,.ll L]=>(0≤st∧st≤1000000)∧TourOk 8 en ta pr ba S L | _=>False,fun l=>match l with | [.z st,.z en,.z ta,.z pr,.z ba,.l S,.ll L]=>.i .i64 (chkT st en) | _=>.v undef⟩
noncomputable def A_Check:List SV→List Dat→Nat→List SV→Ann:=fun xs ds n ts=>match xs with
 | [.agg [_,_,_,_,_,.lst x _ _ xe,.lst y _ _ ye]]=>match ds with
  | [.z st,.z en,.z ta,.z pr,.z ba,.l S,.ll L]=>match n with
   | 10=>⟨Nat,fun k=>([none,some (SV.ptr ((0:Nat)) ((0:Nat)))]++nN 40++[some (SV.lst x S.length ((6:Nat)) xe),some (SV.i IntKind.i64 (↑S.length:Int)),some (.i .i64 k)]++nN 16),fun k=>[SObj.cells [SV.i IntKind.i64 st,SV.i IntKind.i64 en,SV.i IntKind.i64 ta,SV.i IntKind.i64 pr,SV.i IntKind.i64 ba,SV.lst x S.length ((6:Nat)) xe,SV.lst y L.length ((1:Nat)) ye] Kd.ex],fun k=>k≤S.length,fun k=>S.length-k,0⟩
   | _=>noAnn
  | _=>noAnn
 | _=>noAnn
def V_Check:Prop:=
 ∀(B:RW) (c d i g h:Int) (e:RV) (a:List (List Int)),IsLst B e a.length 6 (Rv.elemOf I6 a)→oneB e=true→(∀row∈a,row.length=6)→∀(f:RV) (ys:Nat→RV) (R:List (List (List Int))),IsLL B I2 f ys R→oneB f=true→((0:Int)≤c∧c≤(1000000:Int))∧TourOk 8 d i g h a R→Ob True∧(¬¬((0:Int)≤c∧c≤(1440:Int))→Ob True∧(¬((0:Int)≤d∧d≤(1440:Int))→Ob ((1:Int)=chkT c d)∧True)∧(¬¬((0:Int)≤d∧d≤(1440:Int))→(d < c→Ob ((8:Int)=chkT c d)∧True)∧(¬d < c→Ob True∧(¬¬((0:Int)≤i∧i≤(100000:Int))→Ob True∧(¬¬((0:Int)≤g∧g≤(1000:Int))→Ob True∧(¬((0:Int)≤h∧h≤(1000:Int))→Ob ((1:Int)=chkT c d)∧True)∧(¬¬((0:Int)≤h∧h≤(1000:Int))→LsA B e I6 a∧((8:Int) < (↑a.length:Int)→Ob ((5:Int)=chkT c d)∧True)∧(¬(8:Int) < (↑a.length:Int)→LsA B e I6 a∧(∃(b:Nat),Ob (b≤a.length)∧Ob (SV.lst e a.length 6 (Rv.elemOf I6 a)=SV.lst e a.length 6 (Rv.elemOf I6 a))∧Ob ((↑a.length:Int)=(↑a.length:Int))∧Ob ((0:Int)=(↑b:Int))∧Ob (c=c)∧Ob (d=d)∧Ob (i=i)∧Ob (g=g)∧Ob (h=h)∧Ob (SV.lst e a.length 6 (Rv.elemOf I6 a)=SV.lst e a.length 6 (Rv.elemOf I6 a))∧Ob (SV.lst f R.length 1 (llElem I2 ys R)=SV.lst f R.length 1 (llElem I2 ys R))∧LsA B e I6 a∧LsA B e I6 a∧Ob (IsLst B f R.length 1 (llElem I2 ys R))∧True)∧∀(b:Nat),b≤a.length→∀(_ _ _ _ _ _ _ _ _ _ _ _ _ _ _ _ _ _ _ _ _ _ _ _ _ _ _ _ _ _ _ _ _ _ _ _ _ _ _ _ _ _ _ _ _ _ _ _ _ _ _ _ _ _ _ _ _:Value),((↑b:Int) < (↑a.length:Int)→Ob ((0:Int)≤(↑b:Int)∧b < a.length∧IsLst B e a.length 6 (Rv.elemOf I6 a))∧Ob (IsLst B e a.length 6 (Rv.elemOf I6 a)∧b < a.length)∧Ob ((0:Int)≤cell a b 0∧cell a b 0≤(1000:Int)∧(0:Int)≤cell a b 1∧cell a b 1≤(1000000:Int)∧(0:Int)≤cell a b 2∧cell a b 2≤(1440:Int)∧(0:Int)≤cell a b 3∧cell a b 3≤(100000:Int)∧(0:Int)≤cell a b 4∧cell a b 4≤cell a b 5∧cell a b 5≤(1440:Int))∧(¬(0:Int)=(0:Int)→Ob ((0:Int)=chkT c d)∧True)∧(¬¬(0:Int)=(0:Int)→Ob (InR .i64 ((↑b:Int)+(1:Int)))∧∃(j:Nat),Ob (j≤a.length∧a.length-j < a.length-b)∧Ob (SV.lst e a.length 6 (Rv.elemOf I6 a)=SV.lst e a.length 6 (Rv.elemOf I6 a))∧Ob ((↑a.length:Int)=(↑a.length:Int))∧Ob ((↑b:Int)+(1:Int)=(↑j:Int))∧Ob (c=c)∧Ob (d=d)∧Ob (i=i)∧Ob (g=g)∧Ob (h=h)∧Ob (SV.lst e a.length 6 (Rv.elemOf I6 a)=SV.lst e a.length 6 (Rv.elemOf I6 a))∧Ob (SV.lst f R.length 1 (llElem I2 ys R)=SV.lst f R.length 1 (llElem I2 ys R))∧LsA B e I6 a∧LsA B e I6 a∧Ob (IsLst B f R.length 1 (llElem I2 ys R))∧True))∧(¬(↑b:Int) < (↑a.length:Int)→Ob (IsLst B f R.length 1 (llElem I2 ys R))∧LsA B e I6 a∧LsA B e I6 a∧Ob ((-1000000:Int)≤(↑a.length:Int)∧(↑a.length:Int)≤(1000000:Int))∧∃(R_1:List (List (List Int))),∃(ys_1:Nat→RV),Ob (R_1.length=R.length∧(∀(k:Nat),k < R.length→llElem I2 ys R k=llElem I2 ys_1 R_1 k)∧IsLL B I2 f ys_1 R_1)∧Ob ((↑R_1.length:Int)=(↑a.length:Int)+(1:Int)∧(↑a.length:Int)+(1:Int)≤(1000:Int)∧LegsOk R_1.length R_1)∧Ob ((0:Int)=chkT c d)∧True))))∧(¬((0:Int)≤g∧g≤(1000:Int))→Ob ((1:Int)=chkT c d)∧True))∧(¬((0:Int)≤i∧i≤(100000:Int))→Ob ((1:Int)=chkT c d)∧True))))∧(¬((0:Int)≤c∧c≤(1440:Int))→Ob ((1:Int)=chkT c d)∧True)
set_option linter.unusedSimpArgs false in
set_option maxRecDepth 4000 in
set_option maxHeartbeats 400000 in
theorem v_Check:V_Check:=by
 unfold V_Check I2 I6 LsA
 intro B st en ta pr ba x S hx hox hrx y ys L hy hoy ⟨hs,ht⟩
 simp only [Ob_iff,and_true,true_and,implies_true,Classical.not_not,not_true_eq_false]
 have hn:=ht.n
 have hm:=ht.m
 refine⟨fun h1=>⟨fun q=>absurd ht.en q,fun _=>⟨fun q=>?_,fun q=>⟨fun _=>⟨fun _=>⟨fun z=>absurd ht.ba z,fun _=>⟨hx,fun z=>by omega,fun _=>⟨hx,⟨0,Nat.zero_le _,rfl,hx,hx,hy.1⟩,?_⟩⟩⟩,fun z=>absurd ht.pr z⟩,fun z=>absurd ht.ta z⟩⟩⟩,fun q=>?_⟩
 ·unfold chkT
  rw [if_pos h1.2,if_neg (by omega)]
 ·have e0:chkT st en=0:=by unfold chkT; rw [if_pos h1.2,if_pos (by omega)]
  intro k hk
  intros
  refine⟨fun h2=>?_,fun h2=>⟨hy.1,hx,hx,by omega,L,ys,⟨rfl,fun i hi=>rfl,hy⟩,⟨by omega,by omega,by rw [hm]; exact ht.l⟩,e0.symm⟩⟩
  have hkl:k < S.length:=by omega
  exact⟨⟨Int.natCast_nonneg k,hkl,hx⟩,⟨hx,hkl⟩,ht.s.at_ k hkl,fun q=>q.elim,fun _=>⟨by simp only [InR]; omega,k+1,by omega,rfl,hx,hx,hy.1⟩⟩
 ·unfold chkT
  rw [if_neg (by omega)]
theorem e_Check:V_Check=needF P [F_isMinute,F_isFuel,F_upTo,F_isBait,F_checkStop,F_placeOf,F_checkLegs] A_Check F_Check:=by kernel_rfl
theorem n_Check:Ob (needF P [F_isMinute,F_isFuel,F_upTo,F_isBait,F_checkStop,F_placeOf,F_checkLegs] A_Check F_Check):=by
 rw [← e_Check]
 exact⟨v_Check⟩
theorem b_Check:((P.funcs[17]?).any fun fn=>fn.body.isSome)=true:=by kernel_rfl
theorem Check_ok:Fn0.Ok P F_Check:=Fn0.ok named (l:=[F_isMinute,F_isFuel,F_upTo,F_isBait,F_checkStop,F_placeOf,F_checkLegs]) (A:=A_Check) (by rfl) (by
 intro F h
 simp only [List.mem_cons,List.not_mem_nil,or_false]at h
 rcases h with rfl | rfl | rfl | rfl | rfl | rfl | rfl
 ·exact isMinute_ok
 ·exact isFuel_ok
 ·exact upTo_ok
 ·exact isBait_ok
 ·exact checkStop_ok
 ·exact placeOf_ok
 ·exact checkLegs_ok
) b_Check (by
 intro ds N
 simp only [F_Check]
 split<;>rfl) n_Check
end Go.Proofs.Ytkdehhcadhainaa.Sy
