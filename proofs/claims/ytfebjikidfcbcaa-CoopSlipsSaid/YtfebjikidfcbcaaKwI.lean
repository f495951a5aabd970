import Derived.Test.YtfebjikidfcbcaaSyP2
import Derived.Test.YtfebjikidfcbcaaGrM
import Derived.Test.YtfebjikidfcbcaaStM
import Derived.Test.YtfebjikidfcbcaaLrM
import Derived.Test.YtfebjikidfcbcaaDhM
import Derived.Test.YtfebjikidfcbcaaKtT
import Derived.Test.YtfebjikidfcbcaaKtA
import Derived.Test.YtfebjikidfcbcaaKtB
import Derived.Test.YtfebjikidfcbcaaKwA
import Derived.Test.YtfebjikidfcbcaaKwB
import Derived.Test.YtfebjikidfcbcaaKwC
import Derived.Test.YtfebjikidfcbcaaKwD
import Derived.Test.YtfebjikidfcbcaaKwE
import Derived.Test.YtfebjikidfcbcaaKwF
import Derived.Test.YtfebjikidfcbcaaSyP2
import Derived.KernelRfl
import Derived.Test.YtfebjikidfcbcaaProg
namespace Go.Proofs.Ytfebjikidfcbcaa.Sy
open Go Go.Rv
set_option linter.unusedVariables false
def prt (q p:Int):Int:=(q*p+1000000-1).tdiv 1000000
theorem prt_in {q p:Int} (h1:0≤q∧q≤1000000000) (h2:0≤p∧p≤1000000):0≤prt q p∧prt q p≤q:=by
 have h3:0≤q*p:=Int.mul_nonneg h1.1 h2.1
 have h4:q*p≤q*1000000:=Int.mul_le_mul_of_nonneg_left h2.2 h1.1
 unfold prt
 rw [Int.tdiv_eq_ediv_of_nonneg (by omega)]
 omega
def dpar (n k m o:Int):Int:=if (k=7∨k=8)∧m≠0 then 2 else if ¬ (k=7∨k=8)∧¬ (0≤m∧m≤n-1)then 6 else if k≠6 then (if o≠0 then 2 else 0)else if ¬ (0≤o∧o≤n-1)then 6 else if o=m then 2 else 0
def dchk (n k m o q:Int):Int:=if ¬ (1≤k∧k≤8)then 3 else if dpar n k m o≠0 then dpar n k m o else if ¬ (1≤q∧q≤1000000000)then 1 else 0
theorem dchk_ok {n k m o q:Int} (hn:1≤n) (h:dchk n k m o q=0):(1≤k∧k≤8)∧(0≤m∧m < n)∧(1≤q∧q≤1000000000)∧(k=6→(0≤o∧o < n)∧o≠m):=by
 unfold dchk dpar at h
 repeat' split at h
 all_goals omega
noncomputable def F_partUp:Fn0:=⟨89,[i64,i64],fun l=>match l with | [.z q,.z p]=>(0≤q∧q≤1000000000)∧(0≤p∧p≤1000000) | _=>False,fun l=>match l with | [.z q,.z p]=>.i .i64 (prt q p) | _=>.v undef⟩
noncomputable def A_partUp:List SV→List Dat→Nat→List SV→Ann:=fun _ _ _ _=>noAnn
def V_partUp:Prop:=∀(B:RW) (n n_1:Int),((0:Int)≤n∧n≤(1000000000:Int))∧(0:Int)≤n_1∧n_1≤(1000000:Int)→Ob (InR .i64 (n*n_1))∧Ob (InR .i64 (n*n_1+(1000000:Int)))∧Ob (InR .i64 (n*n_1+(1000000:Int)-(1:Int)))∧Ob ((0:Int) < (1000000:Int)∧InR .i64 ((n*n_1+(1000000:Int)-(1:Int)).tdiv (1000000:Int)))∧Ob ((n*n_1+(1000000:Int)-(1:Int)).tdiv (1000000:Int)=prt n n_1)∧True
set_option linter.unusedSimpArgs false in
set_option maxRecDepth 4000 in
set_option maxHeartbeats 400000 in
theorem v_partUp:V_partUp:=by
 unfold V_partUp
 intro B q p ⟨h1,h2⟩
 have h3:0≤q*p:=Int.mul_nonneg h1.1 h2.1
 have h4:q*p≤1000000000*p:=Int.mul_le_mul_of_nonneg_right h1.2 h2.1
 simp only [Ob_iff,InR,and_true]
 have h5:=prt_in h1 h2
 unfold prt at h5 ⊢
 generalize q*p=x at *
 omega
theorem e_partUp:V_partUp=needF P [] A_partUp F_partUp:=by kernel_rfl
theorem n_partUp:Ob (needF P [] A_partUp F_partUp):=by
 rw [← e_partUp]
 exact⟨v_partUp⟩
theorem b_partUp:((P.funcs[89]?).any fun fn=>fn.body.isSome)=true:=by kernel_rfl
theorem partUp_ok:Fn0.Ok P F_partUp:=Fn0.ok named (l:=[]) (A:=A_partUp) (by rfl) (by
 intro F h; simp at h) b_partUp (by
 intro ds N
 simp only [F_partUp]
 split<;>rfl) n_partUp
noncomputable def F_isIndex:Fn0:=⟨72,[i64,i64],fun l=>match l with | [.z n,.z many]=>0≤many∧many≤4000000 | _=>False,fun l=>match l with | [.z n,.z many]=>.p (0≤n∧n≤many-1) | _=>.v undef⟩
noncomputable def A_isIndex:List SV→List Dat→Nat→List SV→Ann:=fun _ _ _ _=>noAnn
def V_isIndex:Prop:=∀(B:RW) (n n_1:Int),(0:Int)≤n_1∧n_1≤(4000000:Int)→Ob (InR .i64 (n_1-(1:Int)))∧Ob True∧Ob ((0:Int)≤n∧n≤n_1-(1:Int)↔(0:Int)≤n∧n≤n_1-(1:Int))∧True
set_option linter.unusedSimpArgs false in
set_option maxRecDepth 4000 in
set_option maxHeartbeats 400000 in
theorem v_isIndex:V_isIndex:=by
 unfold V_isIndex
 intros B n many hm
 simp only [Ob_iff,InR,and_true]
 omega
theorem e_isIndex:V_isIndex=needF P [F_within] A_isIndex F_isIndex:=by kernel_rfl
theorem n_isIndex:Ob (needF P [F_within] A_isIndex F_isIndex):=by
 rw [← e_isIndex]
 exact⟨v_isIndex⟩
theorem b_isIndex:((P.funcs[72]?).any fun fn=>fn.body.isSome)=true:=by kernel_rfl
theorem isIndex_ok:Fn0.Ok P F_isIndex:=Fn0.ok named (l:=[F_within]) (A:=A_isIndex) (by rfl) (by
 intro F h
 simp only [List.mem_cons,List.not_mem_nil,or_false]at h
 rcases h with rfl
 ·exact within_ok
) b_isIndex (by
 intro ds N
 simp only [F_isIndex]
 split<;>rfl) n_isIndex
noncomputable def F_checkParties:Fn0:=⟨73,[.agg [.i .i64,.i .i64,.i .i64,.i .i64],i64],fun l=>match l with | [.z dk,.z dm,.z dO,.z dq,.z n]=>0≤n∧n≤4000000 | _=>False,fun l=>match l with | [.z dk,.z dm,.z dO,.z dq,.z n]=>.i .i64 (dpar n dk dm dO) | _=>.v undef⟩
noncomputable def A_checkParties:List SV→List Dat→Nat→List SV→Ann:=fun _ _ _ _=>noAnn
def V_checkParties:Prop:=∀(B:RW) (n n_1 n_2 n_3 n_4:Int),(0:Int)≤n_4∧n_4≤(4000000:Int)→(¬n=(7:Int)→(n=(8:Int)→(¬n_1=(0:Int)→Ob ((2:Int)=dpar n_4 n n_1 n_2)∧True)∧(¬¬n_1=(0:Int)→(¬n=(6:Int)→(¬n_2=(0:Int)→Ob ((2:Int)=dpar n_4 n n_1 n_2)∧True)∧(¬¬n_2=(0:Int)→Ob ((0:Int)=dpar n_4 n n_1 n_2)∧True))∧(¬¬n=(6:Int)→Ob ((0:Int)≤n_4∧n_4≤(4000000:Int))∧(¬((0:Int)≤n_2∧n_2≤n_4-(1:Int))→Ob ((6:Int)=dpar n_4 n n_1 n_2)∧True)∧(¬¬((0:Int)≤n_2∧n_2≤n_4-(1:Int))→(n_2=n_1→Ob ((2:Int)=dpar n_4 n n_1 n_2)∧True)∧(¬n_2=n_1→Ob ((0:Int)=dpar n_4 n n_1 n_2)∧True)))))∧(¬n=(8:Int)→Ob ((0:Int)≤n_4∧n_4≤(4000000:Int))∧(¬((0:Int)≤n_1∧n_1≤n_4-(1:Int))→Ob ((6:Int)=dpar n_4 n n_1 n_2)∧True)∧(¬¬((0:Int)≤n_1∧n_1≤n_4-(1:Int))→(¬n=(6:Int)→(¬n_2=(0:Int)→Ob ((2:Int)=dpar n_4 n n_1 n_2)∧True)∧(¬¬n_2=(0:Int)→Ob ((0:Int)=dpar n_4 n n_1 n_2)∧True))∧(¬¬n=(6:Int)→Ob ((0:Int)≤n_4∧n_4≤(4000000:Int))∧(¬((0:Int)≤n_2∧n_2≤n_4-(1:Int))→Ob ((6:Int)=dpar n_4 n n_1 n_2)∧True)∧(¬¬((0:Int)≤n_2∧n_2≤n_4-(1:Int))→(n_2=n_1→Ob ((2:Int)=dpar n_4 n n_1 n_2)∧True)∧(¬n_2=n_1→Ob ((0:Int)=dpar n_4 n n_1 n_2)∧True))))))∧(n=(7:Int)→(¬n_1=(0:Int)→Ob ((2:Int)=dpar n_4 n n_1 n_2)∧True)∧(¬¬n_1=(0:Int)→(¬n=(6:Int)→(¬n_2=(0:Int)→Ob ((2:Int)=dpar n_4 n n_1 n_2)∧True)∧(¬¬n_2=(0:Int)→Ob ((0:Int)=dpar n_4 n n_1 n_2)∧True))∧(¬¬n=(6:Int)→Ob ((0:Int)≤n_4∧n_4≤(4000000:Int))∧(¬((0:Int)≤n_2∧n_2≤n_4-(1:Int))→Ob ((6:Int)=dpar n_4 n n_1 n_2)∧True)∧(¬¬((0:Int)≤n_2∧n_2≤n_4-(1:Int))→(n_2=n_1→Ob ((2:Int)=dpar n_4 n n_1 n_2)∧True)∧(¬n_2=n_1→Ob ((0:Int)=dpar n_4 n n_1 n_2)∧True)))))
set_option linter.unusedSimpArgs false in
set_option maxRecDepth 4000 in
set_option maxHeartbeats 400000 in
theorem v_checkParties:V_checkParties:=by
 unfold V_checkParties
 intros
 simp only [Ob_iff,InR,and_true,true_and,Classical.not_not]
 repeat' (first | trivial | apply And.intro | intro _)
 all_goals first | trivial | assumption | omega | skip
 all_goals (unfold dpar; repeat' split)
 all_goals first | trivial | omega
theorem e_checkParties:V_checkParties=needF P [F_isIndex] A_checkParties F_checkParties:=by kernel_rfl
theorem n_checkParties:Ob (needF P [F_isIndex] A_checkParties F_checkParties):=by
 rw [← e_checkParties]
 exact⟨v_checkParties⟩
theorem b_checkParties:((P.funcs[73]?).any fun fn=>fn.body.isSome)=true:=by kernel_rfl
theorem checkParties_ok:Fn0.Ok P F_checkParties:=Fn0.ok named (l:=[F_isIndex]) (A:=A_checkParties) (by rfl) (by
 intro F h
 simp only [List.mem_cons,List.not_mem_nil,or_false]at h
 rcases h with rfl
 ·exact isIndex_ok
) b_checkParties (by
 intro ds N
 simp only [F_checkParties]
 split<;>rfl) n_checkParties
noncomputable def F_checkDeal:Fn0:=⟨55,[.agg [.i .i64,.i .i64,.i .i64,.i .i64],i64],fun l=>match l with | [.z dk,.z dm,.z dO,.z dq,.z n]=>0≤n∧n≤4000000 | _=>False,fun l=>match l with | [.z dk,.z dm,.z dO,.z dq,.z n]=>.i .i64 (dchk n dk dm dO dq) | _=>.v undef⟩
noncomputable def A_checkDeal:List SV→List Dat→Nat→List SV→Ann:=fun _ _ _ _=>noAnn
def V_checkDeal:Prop:=∀(B:RW) (n n_1 n_2 n_3 n_4:Int),(0:Int)≤n_4∧n_4≤(4000000:Int)→Ob True∧(¬((1:Int)≤n∧n≤(8:Int))→Ob ((3:Int)=dchk n_4 n n_1 n_2 n_3)∧True)∧(¬¬((1:Int)≤n∧n≤(8:Int))→Ob ((0:Int)≤n_4∧n_4≤(4000000:Int))∧(¬dpar n_4 n n_1 n_2=(0:Int)→Ob (dpar n_4 n n_1 n_2=dchk n_4 n n_1 n_2 n_3)∧True)∧(¬¬dpar n_4 n n_1 n_2=(0:Int)→Ob True∧(¬((1:Int)≤n_3∧n_3≤(1000000000:Int))→Ob ((1:Int)=dchk n_4 n n_1 n_2 n_3)∧True)∧(¬¬((1:Int)≤n_3∧n_3≤(1000000000:Int))→Ob ((0:Int)=dchk n_4 n n_1 n_2 n_3)∧True)))
set_option linter.unusedSimpArgs false in
set_option maxRecDepth 4000 in
set_option maxHeartbeats 400000 in
theorem v_checkDeal:V_checkDeal:=by
 unfold V_checkDeal
 intros
 simp only [Ob_iff,InR,and_true,true_and,Classical.not_not]
 repeat' (first | trivial | apply And.intro | intro _)
 all_goals first | trivial | assumption | omega | skip
 all_goals (unfold dchk; repeat' split)
 all_goals first | trivial | omega
theorem e_checkDeal:V_checkDeal=needF P [F_within,F_checkParties] A_checkDeal F_checkDeal:=by kernel_rfl
theorem n_checkDeal:Ob (needF P [F_within,F_checkParties] A_checkDeal F_checkDeal):=by
 rw [← e_checkDeal]
 exact⟨v_checkDeal⟩
theorem b_checkDeal:((P.funcs[55]?).any fun fn=>fn.body.isSome)=true:=by kernel_rfl
theorem checkDeal_ok:Fn0.Ok P F_checkDeal:=Fn0.ok named (l:=[F_within,F_checkParties]) (A:=A_checkDeal) (by rfl) (by
 intro F h
 simp only [List.mem_cons,List.not_mem_nil,or_false]at h
 rcases h with rfl | rfl
 ·exact within_ok
 ·exact checkParties_ok
) b_checkDeal (by
 intro ds N
 simp only [F_checkDeal]
 split<;>rfl) n_checkDeal
end Go.Proofs.Ytfebjikidfcbcaa.Sy
