import Derived.Test.YtimcjjekohfokaaSyP4
import Derived.Test.YtimcjjekohfokaaGrM
import Derived.Test.YtimcjjekohfokaaStM
import Derived.Test.YtimcjjekohfokaaKtT
import Derived.Test.YtimcjjekohfokaaSyP2
import Derived.Test.YtimcjjekohfokaaSyP4
import Derived.Test.YtimcjjekohfokaaKwU
import Derived.Test.YtimcjjekohfokaaKhA
import Derived.KernelRfl
import Derived.Test.YtimcjjekohfokaaProg
namespace Go.Proofs.Ytimcjjekohfokaa.Sy
open Go Go.Rv
set_option linter.unusedVariables false
theorem rowR_row (a:Int) (k:Nat):∀r∈rowR a k,r.length=1:=by
 intro r hr
 have:=(rowR_perm a k).mem_iff.1 hr
 simp only [List.mem_map]at this
 obtain⟨i,_,rfl⟩:=this
 rfl
theorem elem_take {R:Rows} {n:Nat}:∀i,i < n→Rv.elemOf [.i64] R i=Rv.elemOf [.i64] (R.take n) i:=fun i hi=>by
 show [SV.i .i64 (cell R i 0)]=[SV.i .i64 (cell (R.take n) i 0)]
 have e:(R.take n).getD i []=R.getD i []:=by
  rw [List.getD_eq_getElem?_getD (l:=R.take n),List.getElem?_take,if_pos hi,List.getD_eq_getElem?_getD]
 unfold cell
 rw [e]
noncomputable def F_PlanOf:FnG:=⟨7,(some [.i .u64]),[.agg [.i .i64,.i .i64,.i .i64,.i .i64,.i .i64,.l [.i64,.i64,.i64,.i64,.i64,.i64],.ll [.i64,.i64]]],fun l=>match l with | [.z a,.z st,.z en,.z ta,.z pr,.z ba,.l S,.ll L]=>S.length≤1000 | _=>False,[.one (.l [.i64])],fun l m=>match l with | [.z a,.z st,.z en,.z ta,.z pr,.z ba,.l S,.ll L]=>(match m with | [.l R,.z a2]=>R.length≤S.length∧∀r∈R,r.length=1 | _=>False) | _=>False,[]⟩
noncomputable def A_PlanOf:List SV→List Dat→Nat→List SV→AnG:=fun xs ds n ts=>match xs with
 | [.agg [.i _ a0],.agg [_,_,_,_,_,.lst x _ _ xe,.lst y _ _ ye]]=>match ds with
  | [.z a,.z st,.z en,.z ta,.z pr,.z ba,.l S,.ll L]=>match n with
   | 2=>⟨Unit,fun _=>[],fun _=>[],fun _ _=>True,fun _=>0,1000001,[(.t 5,.l [.i64])]⟩
   | _=>noAnG
  | _=>noAnG
 | _=>noAnG
def V_PlanOf:Prop:=
 ∀(B:RW) (c m l j n k:Int) (d:RV) (a:List (List Int)),IsLst B d a.length 6 (Rv.elemOf I6 a)→oneB d=true→(∀row∈a,row.length=6)→∀(g:RV) (ys:Nat→RV) (R:List (List (List Int))),IsLL B I2 g ys R→oneB g=true→a.length≤1000→LsA B d I6 a∧Ob (F_Row.pre ([Dat.z c]++[Dat.z (↑a.length:Int)]))∧RwA a.length a.length 1 [.i64] ((El.fn (Rv.elemOf [.i64] (rowR c a.length))).at) fun b=>∀(B':RW),Grow B B'→∀(e:RV),IsLst B' e b.length 1 (Rv.elemOf [.i64] b)→oneB e=true→LsA B d I6 a∧Ob (IsLst B g R.length 1 (llElem I2 ys R))∧Ob (a.length=a.length)∧LsA B d I6 a∧Ob (a.length=a.length)∧LsA B d I6 a∧Ob (IsLst B g R.length 1 (llElem I2 ys R))∧Ob (IsLst B' e b.length 1 (Rv.elemOf [.i64] b))∧Ob (InR .i64 ((↑b.length:Int)+(1:Int)))∧Ob (F_Below.pre ([Dat.z (rowA c a.length)]++[Dat.z ((↑b.length:Int)+(1:Int))]))∧Ob (IsLst B' e b.length 1 (Rv.elemOf [.i64] b)∧(0:Int)≤belowV (rowA c a.length) ((↑b.length:Int)+(1:Int))∧(belowV (rowA c a.length) ((↑b.length:Int)+(1:Int))).toNat≤b.length)∧∃(f:List (List Int)),Ob (IsLst B' (cutR e 0 (belowV (rowA c a.length) ((↑b.length:Int)+(1:Int))).toNat 1) (belowV (rowA c a.length) ((↑b.length:Int)+(1:Int))).toNat 1 (Rv.elemOf [.i64] b)∧f.length=(belowV (rowA c a.length) ((↑b.length:Int)+(1:Int))).toNat∧(∀h∈f,h.length=1)∧∀(i:Nat),i < (belowV (rowA c a.length) ((↑b.length:Int)+(1:Int))).toNat→Rv.elemOf [.i64] b i=Rv.elemOf [.i64] f i)∧Ob (f.length≤a.length∧∀(h:List Int),h∈f→h.length=(1:Nat))
set_option linter.unusedSimpArgs false in
set_option maxRecDepth 4000 in
set_option maxHeartbeats 400000 in
theorem v_PlanOf:V_PlanOf:=by
 unfold V_PlanOf I2 I6 LsA RwA
 intro B a st en ta pr ba x S hx hox hrx y ys L hy hoy hS
 have hS:S.length≤1000:=hS
 simp only [Ob_iff,and_true,true_and,implies_true]
 have hl:=rowR_len a S.length
 refine⟨hx,⟨by omega,by omega⟩,rowR a S.length,⟨hl,rowR_row _ _,fun i hi=>rfl⟩,?_⟩
 intro B1 g1 x2 hx2 ho2
 have hb:=belowV_in (rowA a S.length) (((rowR a S.length).length:Int)+1)
 generalize belowV (rowA a S.length) (((rowR a S.length).length:Int)+1)=b at *
 have hbl:b.toNat≤(rowR a S.length).length:=by omega
 refine⟨hx,hy.1,hx,hx,hy.1,hx2,by simp only [InR]; omega,(show((rowR a S.length).length:Int)+1≤9223372036854775807 by omega),⟨hx2,hb.1,hbl⟩,(rowR a S.length).take b.toNat,⟨?_,by rw [List.length_take]; omega,fun r hr=>rowR_row _ _ r (List.mem_of_mem_take hr),elem_take⟩,by rw [List.length_take]; omega,fun r hr=>rowR_row _ _ r (List.mem_of_mem_take hr)⟩
 have:=cut_lst hx2 (Nat.zero_le b.toNat) hbl
 simp only [Nat.zero_add,Nat.sub_zero]at this
 exact this
theorem e_PlanOf:V_PlanOf=needG P [] [F_Below,F_Row] [] A_PlanOf F_PlanOf:=by kernel_rfl
theorem n_PlanOf:Ob (needG P [] [F_Below,F_Row] [] A_PlanOf F_PlanOf):=by
 rw [← e_PlanOf]
 exact⟨v_PlanOf⟩
theorem b_PlanOf:((P.funcs[7]?).any fun fn=>fn.body.isSome)=true:=by kernel_rfl
theorem PlanOf_ok:FnG.Ok P F_PlanOf:=FnG.ok named (l:=[]) (es:=[F_Below,F_Row]) (gs:=[]) (A:=A_PlanOf) (by rfl) (by rfl) (by rfl) (by
 intro F h; simp at h) (by
 intro F h
 simp only [List.mem_cons,List.not_mem_nil,or_false]at h
 rcases h with rfl | rfl
 ·exact Below_ok
 ·exact Row_ok
) (by
 intro F h; simp at h) b_PlanOf rfl n_PlanOf
end Go.Proofs.Ytimcjjekohfokaa.Sy
