import Derived.Test.YtfebjikidfcbcaaSyP2
import Derived.Test.YtfebjikidfcbcaaGrM
import Derived.Test.YtfebjikidfcbcaaStM
import Derived.Test.YtfebjikidfcbcaaLrM
import Derived.Test.YtfebjikidfcbcaaDhM
import Derived.Test.YtfebjikidfcbcaaKtT
import Derived.Test.YtfebjikidfcbcaaKtA
import Derived.Test.YtfebjikidfcbcaaKtB
import Derived.Test.YtfebjikidfcbcaaKwA
import Derived.Test.YtfebjikidfcbcaaKwB
import Derived.Test.YtfebjikidfcbcaaKwC
import Derived.Test.YtfebjikidfcbcaaKwD
import Derived.Test.YtfebjikidfcbcaaKwE
import Derived.Test.YtfebjikidfcbcaaKwF
import Derived.Test.YtfebjikidfcbcaaSyP2
import Derived.KernelRfl
import Derived.Test.YtfebjikidfcbcaaProg
namespace Go.Proofs.Ytfebjikidfcbcaa.Sy
open Go Go.Rv
set_option linter.unusedVariables false
def prt (q p:Int):Int:=(q*p+1000000-1).tdiv 1000000
theorem prt_in {q p:Int} (h1:0≤q∧q≤1000000000) (h2:0≤p∧p≤1000000):0≤prt q p∧prt q p≤q:=by
 have h3:0≤q*p:=Int.mul_nonneg h1.1 h2.1
 have h4:q*p≤q*1000000:=Int.mul_le_mul_of_nonneg_left h2.2 h1.1
 unfold prt
 rw [Int.tdiv_eq_ediv_of_nonneg (by omega)]
 omega
def dpar (n k m o:Int):Int:=if (k=7∨k=8)∧m≠0 then 2 else if ¬ (k=7∨k=8)∧¬ (0≤m∧m≤n-1)then 6 else if k≠6 then (if o≠0 then 2 else 0)else if ¬ (0≤o∧o≤n-1)then 6 else if o=m then 2 else 0
def dchk (n k m o q:Int):Int:=if ¬ (1≤k∧k≤8)then 3 else if dpar n k m o≠0 then dpar n k m o else if ¬ (1≤q∧q≤1000000000)then 1 else 0
theorem dchk_ok {n k m o q:Int} (hn:1≤n) (h:dchk n k m o q=0):(1≤k∧k≤8)∧(0≤m∧m < n)∧(1≤q∧q≤1000000000)∧(k=6→(0≤o∧o < n)∧o≠m):=by
 unfold dchk dpar at h
 repeat' split at h
 all_goals omega
noncomputable def F_partUp:Fn0:=⟨89,[i64,i64],fun l=>match l with | [.z q,.z p]=>(0≤q∧q≤1000000000)∧(0≤p∧p≤1000000) | _=>False,fun l=>match l with | [.z q,.z p]=>.i .i64 (prt q p) | _=>.v undef⟩
noncomputable def A_partUp:List SV→List Dat→Nat→List SV→Ann:=fun _ _ _ _=>noAnn
def V_partUp:Prop:=
 ∀(B:RW) (b a:Int),((0:Int)≤b∧b≤(1000000000:Int))∧(0:Int)≤a∧a≤(1000000:Int)→Ob (InR .i64 (b*a))∧Ob (InR .i64 (b*a+(1000000:Int)))∧Ob (InR .i64 (b*a+(1000000:Int)-(1:Int)))∧Ob ((0:Int) < (1000000:Int)∧InR .i64 ((b*a+(1000000:Int)-(1:Int)).tdiv (1000000:Int)))∧Ob ((b*a+(1000000:Int)-(1:Int)).tdiv (1000000:Int)=prt b a)∧True
set_option linter.unusedSimpArgs false in
set_option maxRecDepth 4000 in
set_option maxHeartbeats 400000 in
theorem v_partUp:V_partUp:=by
 unfold V_partUp
 intro B q p ⟨h1,h2⟩
 have h3:0≤q*p:=Int.mul_nonneg h1.1 h2.1
 have h4:q*p≤1000000000*p:=Int.mul_le_mul_of_nonneg_right h1.2 h2.1
 simp only [Ob_iff,InR,and_true]
 have h5:=prt_in h1 h2
 unfold prt at h5 ⊢
 generalize q*p=x at *
 omega
theorem e_partUp:V_partUp=needF P [] A_partUp F_partUp:=by kernel_rfl
theorem n_partUp:Ob (needF P [] A_partUp F_partUp):=by
 rw [← e_partUp]
 exact⟨v_partUp⟩
theorem b_partUp:((P.funcs[89]?).any fun fn=>fn.body.isSome)=true:=by kernel_rfl
theorem partUp_ok:Fn0.Ok P F_partUp:=Fn0.ok named (l:=[]) (A:=A_partUp) (by rfl) (by
 intro F h; simp at h) b_partUp (by
 intro ds N
 simp only [F_partUp]
 split<;>rfl) n_partUp
noncomputable def F_PartR:Fn0:=⟨23,[i64,i64],fun l=>match l with | [.z q,.z p]=>(0≤q∧q≤1000000000)∧(0≤p∧p≤1000000) | _=>False,fun l=>match l with | [.z q,.z p]=>.i .i64 (prt q p) | _=>.v undef⟩
noncomputable def A_PartR:List SV→List Dat→Nat→List SV→Ann:=fun _ _ _ _=>noAnn
def V_PartR:Prop:=
 ∀(B:RW) (b a:Int),((0:Int)≤b∧b≤(1000000000:Int))∧(0:Int)≤a∧a≤(1000000:Int)→Ob (InR .i64 (b*a))∧Ob (InR .i64 (b*a+(1000000:Int)))∧Ob (InR .i64 (b*a+(1000000:Int)-(1:Int)))∧Ob ((0:Int) < (1000000:Int)∧InR .i64 ((b*a+(1000000:Int)-(1:Int)).tdiv (1000000:Int)))∧Ob ((b*a+(1000000:Int)-(1:Int)).tdiv (1000000:Int)=prt b a)∧True
set_option linter.unusedSimpArgs false in
set_option maxRecDepth 4000 in
set_option maxHeartbeats 400000 in
theorem v_PartR:V_PartR:=by
 unfold V_PartR
 intro B q p ⟨h1,h2⟩
 have h3:0≤q*p:=Int.mul_nonneg h1.1 h2.1
 have h4:q*p≤1000000000*p:=Int.mul_le_mul_of_nonneg_right h1.2 h2.1
 simp only [Ob_iff,InR,and_true]
 have h5:=prt_in h1 h2
 unfold prt at h5 ⊢
 generalize q*p=x at *
 omega
theorem e_PartR:V_PartR=needF P [] A_PartR F_PartR:=by kernel_rfl
theorem n_PartR:Ob (needF P [] A_PartR F_PartR):=by
 rw [← e_PartR]
 exact⟨v_PartR⟩
theorem b_PartR:((P.funcs[23]?).any fun fn=>fn.body.isSome)=true:=by kernel_rfl
theorem PartR_ok:Fn0.Ok P F_PartR:=Fn0.ok named (l:=[]) (A:=A_PartR) (by rfl) (by
 intro F h; simp at h) b_PartR (by
 intro ds N
 simp only [F_PartR]
 split<;>rfl) n_PartR
noncomputable def F_isIndex:Fn0:=⟨72,[i64,i64],fun l=>match l with | [.z n,.z many]=>0≤many∧many≤4000000 | _=>False,fun l=>match l with | [.z n,.z many]=>.p (0≤n∧n≤many-1) | _=>.v undef⟩
noncomputable def A_isIndex:List SV→List Dat→Nat→List SV→Ann:=fun _ _ _ _=>noAnn
def V_isIndex:Prop:=
 ∀(B:RW) (b a:Int),(0:Int)≤a∧a≤(4000000:Int)→Ob (InR .i64 (a-(1:Int)))∧Ob True∧Ob ((0:Int)≤b∧b≤a-(1:Int)↔(0:Int)≤b∧b≤a-(1:Int))∧True
set_option linter.unusedSimpArgs false in
set_option maxRecDepth 4000 in
set_option maxHeartbeats 400000 in
theorem v_isIndex:V_isIndex:=by
 unfold V_isIndex
 intros B n many hm
 simp only [Ob_iff,InR,and_true]
 omega
theorem e_isIndex:V_isIndex=needF P [F_within] A_isIndex F_isIndex:=by kernel_rfl
theorem n_isIndex:Ob (needF P [F_within] A_isIndex F_isIndex):=by
 rw [← e_isIndex]
 exact⟨v_isIndex⟩
theorem b_isIndex:((P.funcs[72]?).any fun fn=>fn.body.isSome)=true:=by kernel_rfl
theorem isIndex_ok:Fn0.Ok P F_isIndex:=Fn0.ok named (l:=[F_within]) (A:=A_isIndex) (by rfl) (by
 intro F h
 simp only [List.mem_cons,List.not_mem_nil,or_false]at h
 rcases h with rfl
 ·exact within_ok
) b_isIndex (by
 intro ds N
 simp only [F_isIndex]
 split<;>rfl) n_isIndex
noncomputable def F_checkParties:Fn0:=⟨73,[.agg [.i .i64,.i .i64,.i .i64,.i .i64],i64],fun l=>match l with | [.z dk,.z dm,.z dO,.z dq,.z n]=>0≤n∧n≤4000000 | _=>False,fun l=>match l with | [.z dk,.z dm,.z dO,.z dq,.z n]=>.i .i64 (dpar n dk dm dO) | _=>.v undef⟩
noncomputable def A_checkParties:List SV→List Dat→Nat→List SV→Ann:=fun _ _ _ _=>noAnn
def V_checkParties:Prop:=
 ∀(B:RW) (d c a e b:Int),(0:Int)≤b∧b≤(4000000:Int)→(¬d=(7:Int)→(d=(8:Int)→(¬c=(0:Int)→Ob ((2:Int)=dpar b d c a)∧True)∧(¬¬c=(0:Int)→(¬d=(6:Int)→(¬a=(0:Int)→Ob ((2:Int)=dpar b d c a)∧True)∧(¬¬a=(0:Int)→Ob ((0:Int)=dpar b d c a)∧True))∧(¬¬d=(6:Int)→Ob ((0:Int)≤b∧b≤(4000000:Int))∧(¬((0:Int)≤a∧a≤b-(1:Int))→Ob ((6:Int)=dpar b d c a)∧True)∧(¬¬((0:Int)≤a∧a≤b-(1:Int))→(a=c→Ob ((2:Int)=dpar b d c a)∧True)∧(¬a=c→Ob ((0:Int)=dpar b d c a)∧True)))))∧(¬d=(8:Int)→Ob ((0:Int)≤b∧b≤(4000000:Int))∧(¬((0:Int)≤c∧c≤b-(1:Int))→Ob ((6:Int)=dpar b d c a)∧True)∧(¬¬((0:Int)≤c∧c≤b-(1:Int))→(¬d=(6:Int)→(¬a=(0:Int)→Ob ((2:Int)=dpar b d c a)∧True)∧(¬¬a=(0:Int)→Ob ((0:Int)=dpar b d c a)∧True))∧(¬¬d=(6:Int)→Ob ((0:Int)≤b∧b≤(4000000:Int))∧(¬((0:Int)≤a∧a≤b-(1:Int))→Ob ((6:Int)=dpar b d c a)∧True)∧(¬¬((0:Int)≤a∧a≤b-(1:Int))→(a=c→Ob ((2:Int)=dpar b d c a)∧True)∧(¬a=c→Ob ((0:Int)=dpar b d c a)∧True))))))∧(d=(7:Int)→(¬c=(0:Int)→Ob ((2:Int)=dpar b d c a)∧True)∧(¬¬c=(0:Int)→(¬d=(6:Int)→(¬a=(0:Int)→Ob ((2:Int)=dpar b d c a)∧True)∧(¬¬a=(0:Int)→Ob ((0:Int)=dpar b d c a)∧True))∧(¬¬d=(6:Int)→Ob ((0:Int)≤b∧b≤(4000000:Int))∧(¬((0:Int)≤a∧a≤b-(1:Int))→Ob ((6:Int)=dpar b d c a)∧True)∧(¬¬((0:Int)≤a∧a≤b-(1:Int))→(a=c→Ob ((2:Int)=dpar b d c a)∧True)∧(¬a=c→Ob ((0:Int)=dpar b d c a)∧True)))))
set_option linter.unusedSimpArgs false in
set_option maxRecDepth 4000 in
set_option maxHeartbeats 400000 in
theorem v_checkParties:V_checkParties:=by
 unfold V_checkParties
 intros
 simp only [Ob_iff,InR,and_true,true_and,Classical.not_not]
 repeat' (first | trivial | apply And.intro | intro _)
 all_goals first | trivial | assumption | omega | skip
 all_goals (unfold dpar; repeat' split)
 all_goals first | trivial | omega
theorem e_checkParties:V_checkParties=needF P [F_isIndex] A_checkParties F_checkParties:=by kernel_rfl
theorem n_checkParties:Ob (needF P [F_isIndex] A_checkParties F_checkParties):=by
 rw [← e_checkParties]
 exact⟨v_checkParties⟩
theorem b_checkParties:((P.funcs[73]?).any fun fn=>fn.body.isSome)=true:=by kernel_rfl
theorem checkParties_ok:Fn0.Ok P F_checkParties:=Fn0.ok named (l:=[F_isIndex]) (A:=A_checkParties) (by rfl) (by
 intro F h
 simp only [List.mem_cons,List.not_mem_nil,or_false]at h
 rcases h with rfl
 ·exact isIndex_ok
) b_checkParties (by
 intro ds N
 simp only [F_checkParties]
 split<;>rfl) n_checkParties
noncomputable def F_checkDeal:Fn0:=⟨55,[.agg [.i .i64,.i .i64,.i .i64,.i .i64],i64],fun l=>match l with | [.z dk,.z dm,.z dO,.z dq,.z n]=>0≤n∧n≤4000000 | _=>False,fun l=>match l with | [.z dk,.z dm,.z dO,.z dq,.z n]=>.i .i64 (dchk n dk dm dO dq) | _=>.v undef⟩
noncomputable def A_checkDeal:List SV→List Dat→Nat→List SV→Ann:=fun _ _ _ _=>noAnn
def V_checkDeal:Prop:=
 ∀(B:RW) (b d e c a:Int),(0:Int)≤a∧a≤(4000000:Int)→Ob True∧(¬((1:Int)≤b∧b≤(8:Int))→Ob ((3:Int)=dchk a b d e c)∧True)∧(¬¬((1:Int)≤b∧b≤(8:Int))→Ob ((0:Int)≤a∧a≤(4000000:Int))∧(¬dpar a b d e=(0:Int)→Ob (dpar a b d e=dchk a b d e c)∧True)∧(¬¬dpar a b d e=(0:Int)→Ob True∧(¬((1:Int)≤c∧c≤(1000000000:Int))→Ob ((1:Int)=dchk a b d e c)∧True)∧(¬¬((1:Int)≤c∧c≤(1000000000:Int))→Ob ((0:Int)=dchk a b d e c)∧True)))
set_option linter.unusedSimpArgs false in
set_option maxRecDepth 4000 in
set_option maxHeartbeats 400000 in
theorem v_checkDeal:V_checkDeal:=by
 unfold V_checkDeal
 intros
 simp only [Ob_iff,InR,and_true,true_and,Classical.not_not]
 repeat' (first | trivial | apply And.intro | intro _)
 all_goals first | trivial | assumption | omega | skip
 all_goals (unfold dchk; repeat' split)
 all_goals first | trivial | omega
theorem e_checkDeal:V_checkDeal=needF P [F_within,F_checkParties] A_checkDeal F_checkDeal:=by kernel_rfl
theorem n_checkDeal:Ob (needF P [F_within,F_checkParties] A_checkDeal F_checkDeal):=by
 rw [← e_checkDeal]
 exact⟨v_checkDeal⟩
theorem b_checkDeal:((P.funcs[55]?).any fun fn=>fn.body.isSome)=true:=by kernel_rfl
theorem checkDeal_ok:Fn0.Ok P F_checkDeal:=Fn0.ok named (l:=[F_within,F_checkParties]) (A:=A_checkDeal) (by rfl) (by
 intro F h
 simp only [List.mem_cons,List.not_mem_nil,or_false]at h
 rcases h with rfl | rfl
 ·exact within_ok
 ·exact checkParties_ok
) b_checkDeal (by
 intro ds N
 simp only [F_checkDeal]
 split<;>rfl) n_checkDeal
noncomputable def F_checkDealR:Fn0:=⟨39,[.agg [.i .i64,.i .i64,.i .i64,.i .i64,.l [.i64,.i64,.i64],.i .i64],.agg [.i .i64,.i .i64,.i .i64,.i .i64]],fun l=>match l with | [.z fee,.z itr,.z pri,.z cre,.l A,.z till,.z dk,.z dm,.z dO,.z dq]=>1≤A.length∧A.length≤4000000 | _=>False,fun l=>match l with | [.z fee,.z itr,.z pri,.z cre,.l A,.z till,.z dk,.z dm,.z dO,.z dq]=>.i .i64 (dchk A.length dk dm dO dq) | _=>.v undef⟩
noncomputable def A_checkDealR:List SV→List Dat→Nat→List SV→Ann:=fun _ _ _ _=>noAnn
def V_checkDealR:Prop:=
 ∀(B:RW) (h i k j:Int) (f:RV) (e:List (List Int)),IsLst B f e.length 3 (Rv.elemOf I3 e)→oneB f=true→(∀row∈e,row.length=3)→∀(g b d c a:Int),(1:Nat)≤e.length∧e.length≤4000000→LsA B f I3 e∧Ob (InR .i64 ((↑e.length:Int)-(1:Int)))∧Ob True∧(¬((1:Int)≤b∧b≤(8:Int))→Ob ((3:Int)=dchk (↑e.length:Int) b d c a)∧True)∧(¬¬((1:Int)≤b∧b≤(8:Int))→((7:Int)≤b→(¬d=(0:Int)→Ob ((2:Int)=dchk (↑e.length:Int) b d c a)∧True)∧(¬¬d=(0:Int)→Ob True∧(¬((0:Int)≤d∧d≤(↑e.length:Int)-(1:Int))→Ob ((6:Int)=dchk (↑e.length:Int) b d c a)∧True)∧(¬¬((0:Int)≤d∧d≤(↑e.length:Int)-(1:Int))→(b=(6:Int)→Ob True∧(¬((0:Int)≤c∧c≤(↑e.length:Int)-(1:Int))→Ob ((6:Int)=dchk (↑e.length:Int) b d c a)∧True)∧(¬¬((0:Int)≤c∧c≤(↑e.length:Int)-(1:Int))→(b=(6:Int)→(¬c=d→(¬b=(6:Int)→(¬c=(0:Int)→Ob ((2:Int)=dchk (↑e.length:Int) b d c a)∧True)∧(¬¬c=(0:Int)→Ob True∧(¬((1:Int)≤a∧a≤(1000000000:Int))→Ob ((1:Int)=dchk (↑e.length:Int) b d c a)∧True)∧(¬¬((1:Int)≤a∧a≤(1000000000:Int))→Ob ((0:Int)=dchk (↑e.length:Int) b d c a)∧True)))∧(¬¬b=(6:Int)→Ob True∧(¬((1:Int)≤a∧a≤(1000000000:Int))→Ob ((1:Int)=dchk (↑e.length:Int) b d c a)∧True)∧(¬¬((1:Int)≤a∧a≤(1000000000:Int))→Ob ((0:Int)=dchk (↑e.length:Int) b d c a)∧True)))∧(c=d→Ob ((2:Int)=dchk (↑e.length:Int) b d c a)∧True))∧(¬b=(6:Int)→(¬b=(6:Int)→(¬c=(0:Int)→Ob ((2:Int)=dchk (↑e.length:Int) b d c a)∧True)∧(¬¬c=(0:Int)→Ob True∧(¬((1:Int)≤a∧a≤(1000000000:Int))→Ob ((1:Int)=dchk (↑e.length:Int) b d c a)∧True)∧(¬¬((1:Int)≤a∧a≤(1000000000:Int))→Ob ((0:Int)=dchk (↑e.length:Int) b d c a)∧True)))∧(¬¬b=(6:Int)→Ob True∧(¬((1:Int)≤a∧a≤(1000000000:Int))→Ob ((1:Int)=dchk (↑e.length:Int) b d c a)∧True)∧(¬¬((1:Int)≤a∧a≤(1000000000:Int))→Ob ((0:Int)=dchk (↑e.length:Int) b d c a)∧True)))))∧(¬b=(6:Int)→(b=(6:Int)→(¬c=d→(¬b=(6:Int)→(¬c=(0:Int)→Ob ((2:Int)=dchk (↑e.length:Int) b d c a)∧True)∧(¬¬c=(0:Int)→Ob True∧(¬((1:Int)≤a∧a≤(1000000000:Int))→Ob ((1:Int)=dchk (↑e.length:Int) b d c a)∧True)∧(¬¬((1:Int)≤a∧a≤(1000000000:Int))→Ob ((0:Int)=dchk (↑e.length:Int) b d c a)∧True)))∧(¬¬b=(6:Int)→Ob True∧(¬((1:Int)≤a∧a≤(1000000000:Int))→Ob ((1:Int)=dchk (↑e.length:Int) b d c a)∧True)∧(¬¬((1:Int)≤a∧a≤(1000000000:Int))→Ob ((0:Int)=dchk (↑e.length:Int) b d c a)∧True)))∧(c=d→Ob ((2:Int)=dchk (↑e.length:Int) b d c a)∧True))∧(¬b=(6:Int)→(¬b=(6:Int)→(¬c=(0:Int)→Ob ((2:Int)=dchk (↑e.length:Int) b d c a)∧True)∧(¬¬c=(0:Int)→Ob True∧(¬((1:Int)≤a∧a≤(1000000000:Int))→Ob ((1:Int)=dchk (↑e.length:Int) b d c a)∧True)∧(¬¬((1:Int)≤a∧a≤(1000000000:Int))→Ob ((0:Int)=dchk (↑e.length:Int) b d c a)∧True)))∧(¬¬b=(6:Int)→Ob True∧(¬((1:Int)≤a∧a≤(1000000000:Int))→Ob ((1:Int)=dchk (↑e.length:Int) b d c a)∧True)∧(¬¬((1:Int)≤a∧a≤(1000000000:Int))→Ob ((0:Int)=dchk (↑e.length:Int) b d c a)∧True)))))))∧(¬(7:Int)≤b→Ob True∧(¬((0:Int)≤d∧d≤(↑e.length:Int)-(1:Int))→Ob ((6:Int)=dchk (↑e.length:Int) b d c a)∧True)∧(¬¬((0:Int)≤d∧d≤(↑e.length:Int)-(1:Int))→(b=(6:Int)→Ob True∧(¬((0:Int)≤c∧c≤(↑e.length:Int)-(1:Int))→Ob ((6:Int)=dchk (↑e.length:Int) b d c a)∧True)∧(¬¬((0:Int)≤c∧c≤(↑e.length:Int)-(1:Int))→(b=(6:Int)→(¬c=d→(¬b=(6:Int)→(¬c=(0:Int)→Ob ((2:Int)=dchk (↑e.length:Int) b d c a)∧True)∧(¬¬c=(0:Int)→Ob True∧(¬((1:Int)≤a∧a≤(1000000000:Int))→Ob ((1:Int)=dchk (↑e.length:Int) b d c a)∧True)∧(¬¬((1:Int)≤a∧a≤(1000000000:Int))→Ob ((0:Int)=dchk (↑e.length:Int) b d c a)∧True)))∧(¬¬b=(6:Int)→Ob True∧(¬((1:Int)≤a∧a≤(1000000000:Int))→Ob ((1:Int)=dchk (↑e.length:Int) b d c a)∧True)∧(¬¬((1:Int)≤a∧a≤(1000000000:Int))→Ob ((0:Int)=dchk (↑e.length:Int) b d c a)∧True)))∧(c=d→Ob ((2:Int)=dchk (↑e.length:Int) b d c a)∧True))∧(¬b=(6:Int)→(¬b=(6:Int)→(¬c=(0:Int)→Ob ((2:Int)=dchk (↑e.length:Int) b d c a)∧True)∧(¬¬c=(0:Int)→Ob True∧(¬((1:Int)≤a∧a≤(1000000000:Int))→Ob ((1:Int)=dchk (↑e.length:Int) b d c a)∧True)∧(¬¬((1:Int)≤a∧a≤(1000000000:Int))→Ob ((0:Int)=dchk (↑e.length:Int) b d c a)∧True)))∧(¬¬b=(6:Int)→Ob True∧(¬((1:Int)≤a∧a≤(1000000000:Int))→Ob ((1:Int)=dchk (↑e.length:Int) b d c a)∧True)∧(¬¬((1:Int)≤a∧a≤(1000000000:Int))→Ob ((0:Int)=dchk (↑e.length:Int) b d c a)∧True)))))∧(¬b=(6:Int)→(b=(6:Int)→(¬c=d→(¬b=(6:Int)→(¬c=(0:Int)→Ob ((2:Int)=dchk (↑e.length:Int) b d c a)∧True)∧(¬¬c=(0:Int)→Ob True∧(¬((1:Int)≤a∧a≤(1000000000:Int))→Ob ((1:Int)=dchk (↑e.length:Int) b d c a)∧True)∧(¬¬((1:Int)≤a∧a≤(1000000000:Int))→Ob ((0:Int)=dchk (↑e.length:Int) b d c a)∧True)))∧(¬¬b=(6:Int)→Ob True∧(¬((1:Int)≤a∧a≤(1000000000:Int))→Ob ((1:Int)=dchk (↑e.length:Int) b d c a)∧True)∧(¬¬((1:Int)≤a∧a≤(1000000000:Int))→Ob ((0:Int)=dchk (↑e.length:Int) b d c a)∧True)))∧(c=d→Ob ((2:Int)=dchk (↑e.length:Int) b d c a)∧True))∧(¬b=(6:Int)→(¬b=(6:Int)→(¬c=(0:Int)→Ob ((2:Int)=dchk (↑e.length:Int) b d c a)∧True)∧(¬¬c=(0:Int)→Ob True∧(¬((1:Int)≤a∧a≤(1000000000:Int))→Ob ((1:Int)=dchk (↑e.length:Int) b d c a)∧True)∧(¬¬((1:Int)≤a∧a≤(1000000000:Int))→Ob ((0:Int)=dchk (↑e.length:Int) b d c a)∧True)))∧(¬¬b=(6:Int)→Ob True∧(¬((1:Int)≤a∧a≤(1000000000:Int))→Ob ((1:Int)=dchk (↑e.length:Int) b d c a)∧True)∧(¬¬((1:Int)≤a∧a≤(1000000000:Int))→Ob ((0:Int)=dchk (↑e.length:Int) b d c a)∧True)))))))
set_option linter.unusedSimpArgs false in
set_option maxRecDepth 4000 in
set_option maxHeartbeats 400000 in
theorem v_checkDealR:V_checkDealR:=by
 unfold V_checkDealR I3 LsA
 intros
 simp only [Ob_iff,InR,and_true,true_and,Classical.not_not]
 repeat' (first | trivial | apply And.intro | intro _)
 all_goals first | trivial | assumption | omega | skip
 all_goals (unfold dchk dpar; repeat' split)
 all_goals first | trivial | omega
theorem e_checkDealR:V_checkDealR=needF P [F_withinR] A_checkDealR F_checkDealR:=by kernel_rfl
theorem n_checkDealR:Ob (needF P [F_withinR] A_checkDealR F_checkDealR):=by
 rw [← e_checkDealR]
 exact⟨v_checkDealR⟩
theorem b_checkDealR:((P.funcs[39]?).any fun fn=>fn.body.isSome)=true:=by kernel_rfl
theorem checkDealR_ok:Fn0.Ok P F_checkDealR:=Fn0.ok named (l:=[F_withinR]) (A:=A_checkDealR) (by rfl) (by
 intro F h
 simp only [List.mem_cons,List.not_mem_nil,or_false]at h
 rcases h with rfl
 ·exact withinR_ok
) b_checkDealR (by
 intro ds N
 simp only [F_checkDealR]
 split<;>rfl) n_checkDealR
end Go.Proofs.Ytfebjikidfcbcaa.Sy
