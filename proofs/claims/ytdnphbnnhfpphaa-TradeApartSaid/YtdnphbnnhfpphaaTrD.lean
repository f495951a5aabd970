import Derived.Test.YtdnphbnnhfpphaaSyP2
import Derived.Test.YtdnphbnnhfpphaaGrM
import Derived.Test.YtdnphbnnhfpphaaKtT
import Derived.Test.YtdnphbnnhfpphaaTrA
import Derived.Test.YtdnphbnnhfpphaaTrN
import Derived.Test.YtdnphbnnhfpphaaTrB
import Derived.Test.YtdnphbnnhfpphaaTrC
import Derived.Test.YtdnphbnnhfpphaaSyP2
import Derived.KernelRfl
import Derived.Test.YtdnphbnnhfpphaaProg
namespace Go.Proofs.Ytdnphbnnhfpphaa.Sy
open Go Go.Rv
set_option linter.unusedVariables false
def bkF (L:Rows) (k:Nat) (i:Nat):List SV:=[.i .i64 (dn L i 1 0 k),.i .i64 (dn L i 1 1 k),.i .i64 (dn L i 2 0 k),.i .i64 (dn L i 2 1 k),.i .i64 (dn L i 3 0 k),.i .i64 (dn L i 3 1 k),.i .i64 (dn L i 4 0 k),.i .i64 (dn L i 4 1 k),.i .i64 (lf L i 0 k),.i .i64 (lf L i 1 k),.i .i64 (dn L i 5 1 k)]
theorem bk_plain (L:Rows) (k n:Nat):PlainE n (.fn (bkF L k)):=fun i _ y hy=>by
 simp only [El.at,bkF,List.mem_cons,List.not_mem_nil,or_false]at hy
 rcases hy with rfl | rfl | rfl | rfl | rfl | rfl | rfl | rfl | rfl | rfl | rfl<;>trivial
noncomputable def F_balance:Fn0:=⟨17,[.agg [.i .i64,.i .i64,.i .i64,.i .i64,.i .i64,.i .i64,.i .i64,.i .i64,.i .i64,.i .i64,.i .i64,.i .i64,.i .i64,.i .i64]],fun _=>True,fun l=>match l with | [.z a,.z b,.z c,.z d,.z e,.z f,.z g,.z h,.z i,.z j,.z k,.z l,.z m,.z n]=>.agg [.i .i64 e,.i .i64 f,.i .i64 g,.i .i64 h,.i .i64 i,.i .i64 j,.i .i64 k,.i .i64 l,.i .i64 a,.i .i64 b,.i .i64 n] | _=>.v undef⟩
noncomputable def A_balance:List SV→List Dat→Nat→List SV→Ann:=fun _ _ _ _=>noAnn
def V_balance:Prop:=
 ∀(B:RW) (h g l n i k j f c b e d m a:Int),True→Ob (i=i)∧Ob (k=k)∧Ob (j=j)∧Ob (f=f)∧Ob (c=c)∧Ob (b=b)∧Ob (e=e)∧Ob (d=d)∧Ob (h=h)∧Ob (g=g)∧Ob (a=a)∧True
set_option linter.unusedSimpArgs false in
set_option maxRecDepth 4000 in
set_option maxHeartbeats 400000 in
theorem v_balance:V_balance:=by
 unfold V_balance
 intros
 simp only [Ob_iff,and_true,true_and]
 repeat' (with_reducible apply And.intro)
 all_goals first | rfl | trivial
theorem e_balance:V_balance=needF P [] A_balance F_balance:=by kernel_rfl
theorem n_balance:Ob (needF P [] A_balance F_balance):=by
 rw [← e_balance]
 exact⟨v_balance⟩
theorem b_balance:((P.funcs[17]?).any fun fn=>fn.body.isSome)=true:=by kernel_rfl
theorem balance_ok:Fn0.Ok P F_balance:=Fn0.ok named (l:=[]) (A:=A_balance) (by rfl) (by
 intro F h; simp at h) b_balance (by
 intro ds N
 simp only [F_balance]
 split<;>rfl) n_balance
noncomputable def F_Book:FnE:=⟨8,none,[.one (.l [.u16,.i64,.i64,.i8,.i8,.i64]),.one (.l [.i64,.i64,.i64,.i64])],fun l=>match l with | [.l R,.l L]=>MkOk R∧LgOk R.length L | _=>False,fun l=>match l with | [.l R,.l L]=>[.gsl 0 R.length 11 true,.v (.int .i64 0)] | _=>[],fun l=>match l with | [.l R,.l L]=>[.gr R.length 11 (.fn (bkF L L.length)) .gr true] | _=>[],fun l=>match l with | [.l R,.l L]=>[] | _=>[],false,none,none⟩
end Go.Proofs.Ytdnphbnnhfpphaa.Sy
