import Derived.Test.YtkdehhcadhainaaSyP4
import Derived.Test.YtkdehhcadhainaaGrM
import Derived.Test.YtkdehhcadhainaaStM
import Derived.Test.YtkdehhcadhainaaKtT
import Derived.Test.YtkdehhcadhainaaKtA
import Derived.Test.YtkdehhcadhainaaSyP2
import Derived.Test.YtkdehhcadhainaaSyP4
import Derived.Test.YtkdehhcadhainaaKhA
import Derived.KernelRfl
import Derived.Test.YtkdehhcadhainaaProg
namespace Go.Proofs.Ytkdehhcadhainaa.Sy
open Go Go.Rv
set_option linter.unusedVariables false
theorem sam1 {R S:Rows} {k:Nat}:samTo 1 R S k↔R.length=S.length∧∀j,j < k→cell R j 0=cell S j 0:=⟨fun h=>⟨h.1,fun j hj=>(h.2 j hj).2⟩,fun h=>⟨h.1,fun j hj=>⟨trivial,h.2 j hj⟩⟩⟩
theorem cell_take {R:Rows} {n j c:Nat} (h:j < n):cell (R.take n) j c=cell R j c:=by
 have e:(R.take n).getD j []=R.getD j []:=by
  rw [List.getD_eq_getElem?_getD (l:=R.take n),List.getElem?_take,if_pos h,List.getD_eq_getElem?_getD]
 unfold cell
 rw [e]
theorem elem_takeB {R:Rows} {n:Nat}:∀i,i < n→Rv.elemOf [.i64] R i=Rv.elemOf [.i64] (R.take n) i:=fun i hi=>by
 show [SV.i .i64 (cell R i 0)]=[SV.i .i64 (cell (R.take n) i 0)]
 rw [cell_take hi]
def hasR (R:Rows) (x:Int):Prop:=∃j,j < R.length∧cell R j 0=x
noncomputable def F_Has:Fn0:=⟨15,[.one (.l [.i64]),i64],fun l=>match l with | [.l R,.z x0]=>R.length≤1000000 | _=>False,fun l=>match l with | [.l R,.z x0]=>.p (hasR R x0) | _=>.v undef⟩
noncomputable def A_Has:List SV→List Dat→Nat→List SV→Ann:=fun xs ds n ts=>match xs with
 | [.lst z _ _ ze,_]=>match ds with
  | [.l R,.z x0]=>match n with
   | 2=>⟨Nat,fun k=>([some (SV.lst z R.length ((1:Nat)) ze),some (SV.i IntKind.i64 x0),none,none,none,some (.i .i64 k)]++nN 12),fun k=>[],fun k=>k≤R.length∧∀j,j < k→¬ cell R j 0=x0,fun k=>R.length-k,0⟩
   | _=>noAnn
  | _=>noAnn
 | _=>noAnn
def V_Has:Prop:=
 ∀(B:RW) (c:RV) (a:List (List Int)),IsLst B c a.length 1 (Rv.elemOf [.i64] a)→oneB c=true→(∀row∈a,row.length=1)→∀(d:Int),a.length≤1000000→(∃(b:Nat),Ob (b≤a.length∧∀(e:Nat),e < b→¬cell a e 0=d)∧Ob (SV.lst c a.length 1 (Rv.elemOf [.i64] a)=SV.lst c a.length 1 (Rv.elemOf [.i64] a))∧Ob (d=d)∧Ob ((0:Int)=(↑b:Int))∧LsA B c [.i64] a∧True)∧∀(b:Nat),(b≤a.length∧∀(e:Nat),e < b→¬cell a e 0=d)→∀(_ _ _ _ _ _ _ _ _ _ _ _ _ _ _:Value),LsA B c [.i64] a∧((↑b:Int) < (↑a.length:Int)→Ob ((0:Int)≤(↑b:Int)∧b < a.length∧IsLst B c a.length 1 (Rv.elemOf [.i64] a))∧Ob (IsLst B c a.length 1 (Rv.elemOf [.i64] a)∧b < a.length)∧(cell a b 0=d→Ob (true=true↔hasR a d)∧True)∧(¬cell a b 0=d→Ob (InR .i64 ((↑b:Int)+(1:Int)))∧∃(f:Nat),Ob ((f≤a.length∧∀(e:Nat),e < f→¬cell a e 0=d)∧a.length-f < a.length-b)∧Ob (SV.lst c a.length 1 (Rv.elemOf [.i64] a)=SV.lst c a.length 1 (Rv.elemOf [.i64] a))∧Ob (d=d)∧Ob ((↑b:Int)+(1:Int)=(↑f:Int))∧LsA B c [.i64] a∧True))∧(¬(↑b:Int) < (↑a.length:Int)→Ob (false=true↔hasR a d)∧True)
set_option linter.unusedSimpArgs false in
set_option maxRecDepth 4000 in
set_option maxHeartbeats 400000 in
theorem v_Has:V_Has:=by
 unfold V_Has LsA
 intro B z R hz hoz hrz x0 hR
 have hR:R.length≤1000000:=hR
 simp only [Ob_iff,and_true,true_and,implies_true,Classical.not_not]
 refine⟨⟨0,⟨Nat.zero_le _,fun j hj=>absurd hj (Nat.not_lt_zero _)⟩,rfl,hz⟩,?_⟩
 intro k ⟨hk,hn⟩
 intros
 refine⟨hz,fun h1=>?_,fun h1=>⟨fun q=>absurd q (by decide),fun⟨j,h2,h3⟩=>absurd h3 (hn j (by omega))⟩⟩
 have hkl:k < R.length:=by omega
 refine⟨⟨Int.natCast_nonneg _,hkl,hz⟩,⟨hz,hkl⟩,fun h2=>⟨fun _=>⟨k,hkl,h2⟩,fun _=>trivial⟩,fun h2=>⟨by simp only [InR]; omega,k+1,⟨⟨hkl,fun j hj=>?_⟩,by omega⟩,rfl,hz⟩⟩
 by_cases hjk:j=k
 ·rw [hjk]; exact h2
 ·exact hn j (by omega)
theorem e_Has:V_Has=needF P [] A_Has F_Has:=by kernel_rfl
theorem n_Has:Ob (needF P [] A_Has F_Has):=by
 rw [← e_Has]
 exact⟨v_Has⟩
theorem b_Has:((P.funcs[15]?).any fun fn=>fn.body.isSome)=true:=by kernel_rfl
theorem Has_ok:Fn0.Ok P F_Has:=Fn0.ok named (l:=[]) (A:=A_Has) (by rfl) (by
 intro F h; simp at h) b_Has (by
 intro ds N
 simp only [F_Has]
 split<;>rfl) n_Has
noncomputable def F_Begins:Fn0:=⟨9,[.one (.l [.i64]),.one (.l [.i64])],fun l=>match l with | [.l R,.l Q]=>R.length≤1000000∧Q.length≤1000000 | _=>False,fun l=>match l with | [.l R,.l Q]=>.p (Q.length≤R.length∧∀j,j < Q.length→cell R j 0=cell Q j 0) | _=>.v undef⟩
noncomputable def A_Begins:List SV→List Dat→Nat→List SV→Ann:=fun _ _ _ _=>noAnn
def V_Begins:Prop:=
 ∀(B:RW) (f:RV) (b:List (List Int)),IsLst B f b.length 1 (Rv.elemOf [.i64] b)→oneB f=true→(∀row∈b,row.length=1)→∀(e:RV) (a:List (List Int)),IsLst B e a.length 1 (Rv.elemOf [.i64] a)→oneB e=true→(∀row∈a,row.length=1)→b.length≤1000000∧a.length≤1000000→LsA B f [.i64] b∧LsA B e [.i64] a∧((↑a.length:Int)≤(↑b.length:Int)→LsA B e [.i64] a∧Ob (IsLst B f b.length 1 (Rv.elemOf [.i64] b)∧(0:Int)≤(↑a.length:Int)∧a.length≤b.length)∧∃(d:List (List Int)),Ob (IsLst B (cutR f 0 a.length 1) a.length 1 (Rv.elemOf [.i64] b)∧d.length=a.length∧(∀r∈d,r.length=1)∧∀(g:Nat),g < a.length→Rv.elemOf [.i64] b g=Rv.elemOf [.i64] d g)∧RwB B e a.length 1 [.i64] a fun h=>Ob (d.length≤4000000∧h.length≤4000000)∧Ob (samTo 1 d h d.length↔a.length≤b.length∧∀(c:Nat),c < a.length→cell b c 0=cell a c 0)∧True)∧(¬(↑a.length:Int)≤(↑b.length:Int)→Ob (false=true↔a.length≤b.length∧∀(c:Nat),c < a.length→cell b c 0=cell a c 0)∧True)
set_option linter.unusedSimpArgs false in
set_option maxRecDepth 4000 in
set_option maxHeartbeats 400000 in
theorem v_Begins:V_Begins:=by
 unfold V_Begins LsA RwB
 intro B z R hz hoz hrz y Q hy hoy hry ⟨hR,hQ⟩
 simp only [Ob_iff,and_true,true_and,implies_true,Classical.not_not]
 refine⟨hz,hy,fun h1=>?_,fun h1=>⟨fun q=>absurd q (by decide),fun q=>absurd q.1 (by omega)⟩⟩
 have hle:Q.length≤R.length:=by omega
 have hc:=cut_lst hz (Nat.zero_le Q.length) hle
 simp only [Nat.zero_add,Nat.sub_zero]at hc
 have ht:(R.take Q.length).length=Q.length:=by rw [List.length_take]; omega
 refine⟨hy,⟨hz,Int.natCast_nonneg _,hle⟩,R.take Q.length,⟨hc,ht,fun r hr=>hrz r (List.mem_of_mem_take hr),elem_takeB⟩,Q,⟨hy,rfl,hry,fun i hi=>rfl⟩,⟨by omega,by omega⟩,?_⟩
 refine sam1.trans ⟨fun h=>⟨hle,fun j hj=>?_⟩,fun h=>⟨ht,fun j hj=>?_⟩⟩
 ·have:=h.2 j (by rw [ht]; exact hj)
  rwa [cell_take hj]at this
 ·rw [ht]at hj
  rw [cell_take hj]
  exact h.2 j hj
theorem e_Begins:V_Begins=needF P [F_SameInts] A_Begins F_Begins:=by kernel_rfl
theorem n_Begins:Ob (needF P [F_SameInts] A_Begins F_Begins):=by
 rw [← e_Begins]
 exact⟨v_Begins⟩
theorem b_Begins:((P.funcs[9]?).any fun fn=>fn.body.isSome)=true:=by kernel_rfl
theorem Begins_ok:Fn0.Ok P F_Begins:=Fn0.ok named (l:=[F_SameInts]) (A:=A_Begins) (by rfl) (by
 intro F h
 simp only [List.mem_cons,List.not_mem_nil,or_false]at h
 rcases h with rfl
 ·exact SameInts_ok
) b_Begins (by
 intro ds N
 simp only [F_Begins]
 split<;>rfl) n_Begins
end Go.Proofs.Ytkdehhcadhainaa.Sy
