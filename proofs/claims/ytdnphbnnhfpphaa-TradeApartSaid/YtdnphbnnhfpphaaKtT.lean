import Derived.Test.YtdnphbnnhfpphaaSyP2
import Derived.Test.YtdnphbnnhfpphaaGrM
import Derived.KernelRfl
import Derived.Test.YtdnphbnnhfpphaaProg
namespace Go.Proofs.Ytdnphbnnhfpphaa.Sy
open Go Go.Rv
set_option linter.unusedVariables false
noncomputable def F_next:FnE:=⟨11,(some [.i .u64]),[],fun _=>True,fun l=>match l with | [.z a]=>[.i .u64 (tval a)] | _=>[],fun l=>match l with | [.z a]=>[] | _=>[],fun l=>match l with | [.z a]=>[.i .u64 (tnext a)] | _=>[],false,none,none⟩
noncomputable def A_next:List SV→List Dat→Nat→List SV→Ann:=fun _ _ _ _=>noAnn
def V_next:Prop:=
 ∀(B:RW) (a:Int),F_next.pre ([Dat.z a]++[])→Ob ((0:Int)≤IntKind.u64.wrap (a+(11415608902216751769:Int))∧(0:Int)≤(30:Int)∧(30:Int)≤(↑64:Int)∧InR .u64 (IntKind.u64.wrap (a+(11415608902216751769:Int)) / (2:Int) ^ (30:Nat)))∧Ob ((0:Int)≤IntKind.u64.wrap (a+(11415608902216751769:Int))∧(0:Int)≤IntKind.u64.wrap (a+(11415608902216751769:Int)) / (2:Int) ^ (30:Nat)∧InR .u64 (xorI (IntKind.u64.wrap (a+(11415608902216751769:Int))) (IntKind.u64.wrap (a+(11415608902216751769:Int)) / (2:Int) ^ (30:Nat))))∧Ob ((0:Int)≤IntKind.u64.wrap (xorI (IntKind.u64.wrap (a+(11415608902216751769:Int))) (IntKind.u64.wrap (a+(11415608902216751769:Int)) / (2:Int) ^ (30:Nat))*(13787848793156543929:Int))∧(0:Int)≤(27:Int)∧(27:Int)≤(↑64:Int)∧InR .u64 (IntKind.u64.wrap (xorI (IntKind.u64.wrap (a+(11415608902216751769:Int))) (IntKind.u64.wrap (a+(11415608902216751769:Int)) / (2:Int) ^ (30:Nat))*(13787848793156543929:Int)) / (2:Int) ^ (27:Nat)))∧Ob ((0:Int)≤IntKind.u64.wrap (xorI (IntKind.u64.wrap (a+(11415608902216751769:Int))) (IntKind.u64.wrap (a+(11415608902216751769:Int)) / (2:Int) ^ (30:Nat))*(13787848793156543929:Int))∧(0:Int)≤IntKind.u64.wrap (xorI (IntKind.u64.wrap (a+(11415608902216751769:Int))) (IntKind.u64.wrap (a+(11415608902216751769:Int)) / (2:Int) ^ (30:Nat))*(13787848793156543929:Int)) / (2:Int) ^ (27:Nat)∧InR .u64 (xorI (IntKind.u64.wrap (xorI (IntKind.u64.wrap (a+(11415608902216751769:Int))) (IntKind.u64.wrap (a+(11415608902216751769:Int)) / (2:Int) ^ (30:Nat))*(13787848793156543929:Int))) (IntKind.u64.wrap (xorI (IntKind.u64.wrap (a+(11415608902216751769:Int))) (IntKind.u64.wrap (a+(11415608902216751769:Int)) / (2:Int) ^ (30:Nat))*(13787848793156543929:Int)) / (2:Int) ^ (27:Nat))))∧Ob ((0:Int)≤IntKind.u64.wrap (xorI (IntKind.u64.wrap (xorI (IntKind.u64.wrap (a+(11415608902216751769:Int))) (IntKind.u64.wrap (a+(11415608902216751769:Int)) / (2:Int) ^ (30:Nat))*(13787848793156543929:Int))) (IntKind.u64.wrap (xorI (IntKind.u64.wrap (a+(11415608902216751769:Int))) (IntKind.u64.wrap (a+(11415608902216751769:Int)) / (2:Int) ^ (30:Nat))*(13787848793156543929:Int)) / (2:Int) ^ (27:Nat))*(10723151780598845931:Int))∧(0:Int)≤(31:Int)∧(31:Int)≤(↑64:Int)∧InR .u64 (IntKind.u64.wrap (xorI (IntKind.u64.wrap (xorI (IntKind.u64.wrap (a+(11415608902216751769:Int))) (IntKind.u64.wrap (a+(11415608902216751769:Int)) / (2:Int) ^ (30:Nat))*(13787848793156543929:Int))) (IntKind.u64.wrap (xorI (IntKind.u64.wrap (a+(11415608902216751769:Int))) (IntKind.u64.wrap (a+(11415608902216751769:Int)) / (2:Int) ^ (30:Nat))*(13787848793156543929:Int)) / (2:Int) ^ (27:Nat))*(10723151780598845931:Int)) / (2:Int) ^ (31:Nat)))∧Ob ((0:Int)≤IntKind.u64.wrap (xorI (IntKind.u64.wrap (xorI (IntKind.u64.wrap (a+(11415608902216751769:Int))) (IntKind.u64.wrap (a+(11415608902216751769:Int)) / (2:Int) ^ (30:Nat))*(13787848793156543929:Int))) (IntKind.u64.wrap (xorI (IntKind.u64.wrap (a+(11415608902216751769:Int))) (IntKind.u64.wrap (a+(11415608902216751769:Int)) / (2:Int) ^ (30:Nat))*(13787848793156543929:Int)) / (2:Int) ^ (27:Nat))*(10723151780598845931:Int))∧(0:Int)≤IntKind.u64.wrap (xorI (IntKind.u64.wrap (xorI (IntKind.u64.wrap (a+(11415608902216751769:Int))) (IntKind.u64.wrap (a+(11415608902216751769:Int)) / (2:Int) ^ (30:Nat))*(13787848793156543929:Int))) (IntKind.u64.wrap (xorI (IntKind.u64.wrap (a+(11415608902216751769:Int))) (IntKind.u64.wrap (a+(11415608902216751769:Int)) / (2:Int) ^ (30:Nat))*(13787848793156543929:Int)) / (2:Int) ^ (27:Nat))*(10723151780598845931:Int)) / (2:Int) ^ (31:Nat)∧InR .u64 (xorI (IntKind.u64.wrap (xorI (IntKind.u64.wrap (xorI (IntKind.u64.wrap (a+(11415608902216751769:Int))) (IntKind.u64.wrap (a+(11415608902216751769:Int)) / (2:Int) ^ (30:Nat))*(13787848793156543929:Int))) (IntKind.u64.wrap (xorI (IntKind.u64.wrap (a+(11415608902216751769:Int))) (IntKind.u64.wrap (a+(11415608902216751769:Int)) / (2:Int) ^ (30:Nat))*(13787848793156543929:Int)) / (2:Int) ^ (27:Nat))*(10723151780598845931:Int))) (IntKind.u64.wrap (xorI (IntKind.u64.wrap (xorI (IntKind.u64.wrap (a+(11415608902216751769:Int))) (IntKind.u64.wrap (a+(11415608902216751769:Int)) / (2:Int) ^ (30:Nat))*(13787848793156543929:Int))) (IntKind.u64.wrap (xorI (IntKind.u64.wrap (a+(11415608902216751769:Int))) (IntKind.u64.wrap (a+(11415608902216751769:Int)) / (2:Int) ^ (30:Nat))*(13787848793156543929:Int)) / (2:Int) ^ (27:Nat))*(10723151780598845931:Int)) / (2:Int) ^ (31:Nat))))∧Ob (xorI (IntKind.u64.wrap (xorI (IntKind.u64.wrap (xorI (IntKind.u64.wrap (a+(11415608902216751769:Int))) (IntKind.u64.wrap (a+(11415608902216751769:Int)) / (2:Int) ^ (30:Nat))*(13787848793156543929:Int))) (IntKind.u64.wrap (xorI (IntKind.u64.wrap (a+(11415608902216751769:Int))) (IntKind.u64.wrap (a+(11415608902216751769:Int)) / (2:Int) ^ (30:Nat))*(13787848793156543929:Int)) / (2:Int) ^ (27:Nat))*(10723151780598845931:Int))) (IntKind.u64.wrap (xorI (IntKind.u64.wrap (xorI (IntKind.u64.wrap (a+(11415608902216751769:Int))) (IntKind.u64.wrap (a+(11415608902216751769:Int)) / (2:Int) ^ (30:Nat))*(13787848793156543929:Int))) (IntKind.u64.wrap (xorI (IntKind.u64.wrap (a+(11415608902216751769:Int))) (IntKind.u64.wrap (a+(11415608902216751769:Int)) / (2:Int) ^ (30:Nat))*(13787848793156543929:Int)) / (2:Int) ^ (27:Nat))*(10723151780598845931:Int)) / (2:Int) ^ (31:Nat))=tval a)∧Ob (IntKind.u64.wrap (a+(11415608902216751769:Int))=tnext a)∧True
set_option linter.unusedSimpArgs false in
set_option maxRecDepth 4000 in
set_option maxHeartbeats 400000 in
theorem v_next:V_next:=by
 unfold V_next
 intro B a _
 simp only [Ob_iff]
 repeat' (first | exact trivial | exact wrap_nn _ | exact div_nn _ (wrap_nn _) | exact div_in _ (wrap_in _) | exact xorI_in (wrap_in _) (div_in _ (wrap_in _)) | with_reducible apply And.intro | intro _)
 all_goals first | rfl | decide
theorem e_next:V_next=needE P [] [] A_next F_next:=by kernel_rfl
theorem n_next:Ob (needE P [] [] A_next F_next):=by
 rw [← e_next]
 exact⟨v_next⟩
theorem b_next:((P.funcs[11]?).any fun fn=>fn.body.isSome)=true:=by kernel_rfl
theorem next_ok:FnE.Ok P F_next:=FnE.ok named (l:=[]) (es:=[]) (A:=A_next) (by rfl) (by rfl) (by rfl) (by
 intro F h; simp at h) (by
 intro F h; simp at h) b_next (by
 rintro ds h o ho n sz e k z rfl
 simp only [F_next]at ho
 split at ho<;>simp at ho) n_next
noncomputable def F_Below:FnE:=⟨9,(some [.i .u64]),[i64],fun l=>match l with | [.z a,.z n]=>n≤9223372036854775807 | _=>False,fun l=>match l with | [.z a,.z n]=>[.i .i64 (belowV a n)] | _=>[],fun l=>match l with | [.z a,.z n]=>[] | _=>[],fun l=>match l with | [.z a,.z n]=>[.i .u64 (belowA a n)] | _=>[],false,none,none⟩
noncomputable def A_Below:List SV→List Dat→Nat→List SV→Ann:=fun _ _ _ _=>noAnn
def V_Below:Prop:=
 ∀(B:RW) (a b:Int),F_Below.pre ([Dat.z a]++([Dat.z b]++[]))→(b < (2:Int)→Ob ((0:Int)=belowV a b)∧Ob (a=belowA a b)∧True)∧(¬b < (2:Int)→Ob (F_next.pre ([Dat.z a]++[]))∧Ob ((0:Int)≤tval a∧(0:Int)≤(1:Int)∧(1:Int)≤(↑64:Int)∧InR .u64 (tval a / (2:Int) ^ (1:Nat)))∧Ob ((0:Int)≤tval a / (2:Int) ^ (1:Nat)∧(0:Int) < IntKind.u64.wrap b∧InR .u64 (tval a / (2:Int) ^ (1:Nat) % IntKind.u64.wrap b))∧Ob (InR .i64 (tval a / (2:Int) ^ (1:Nat) % IntKind.u64.wrap b))∧Ob (tval a / (2:Int) ^ (1:Nat) % IntKind.u64.wrap b=belowV a b)∧Ob (tnext a=belowA a b)∧True)
set_option linter.unusedSimpArgs false in
set_option maxRecDepth 4000 in
set_option maxHeartbeats 400000 in
theorem v_Below:V_Below:=by
 unfold V_Below
 intro B a n hn
 have hn:n≤9223372036854775807:=hn
 simp only [Ob_iff]
 refine⟨fun h=>?_,fun h=>?_⟩
 ·simp only [belowV,belowA,if_pos h,and_self]
 ·have h1:=tval_in a
  have h2:=div_in 1 h1
  have h3:=belowV_bd a (n:=n) (by omega)
  have h4:=wrap_of (x:=n) (by omega) (by omega)
  have h5:F_next.pre [Dat.z a]:=trivial
  simp only [belowV,belowA,if_neg h,h4]
  simp only [InR]at *
  refine⟨h5,?_⟩
  generalize tval a / 2 ^ 1 % n=q at *
  generalize tval a / 2 ^ 1=r at *
  repeat' (first | apply And.intro | intro _)
  all_goals first | trivial | omega
theorem e_Below:V_Below=needE P [] [F_next] A_Below F_Below:=by kernel_rfl
theorem n_Below:Ob (needE P [] [F_next] A_Below F_Below):=by
 rw [← e_Below]
 exact⟨v_Below⟩
theorem b_Below:((P.funcs[9]?).any fun fn=>fn.body.isSome)=true:=by kernel_rfl
theorem Below_ok:FnE.Ok P F_Below:=FnE.ok named (l:=[]) (es:=[F_next]) (A:=A_Below) (by rfl) (by rfl) (by rfl) (by
 intro F h; simp at h) (by
 intro F h
 simp only [List.mem_cons,List.not_mem_nil,or_false]at h
 rcases h with rfl
 ·exact next_ok
) b_Below (by
 rintro ds h o ho n sz e k z rfl
 simp only [F_Below]at ho
 split at ho<;>simp at ho) n_Below
noncomputable def F_From:FnE:=⟨12,(some [.i .u64]),[i64,i64],fun l=>match l with | [.z a,.z lo,.z hi]=>-1000000000000≤lo∧lo≤1000000000000∧-1000000000000≤hi∧hi≤1000000000000 | _=>False,fun l=>match l with | [.z a,.z lo,.z hi]=>[.i .i64 (lo+belowV a (hi-lo+1))] | _=>[],fun l=>match l with | [.z a,.z lo,.z hi]=>[] | _=>[],fun l=>match l with | [.z a,.z lo,.z hi]=>[.i .u64 (belowA a (hi-lo+1))] | _=>[],false,none,none⟩
noncomputable def A_From:List SV→List Dat→Nat→List SV→Ann:=fun _ _ _ _=>noAnn
def V_From:Prop:=
 ∀(B:RW) (c a b:Int),F_From.pre ([Dat.z c]++([Dat.z a]++([Dat.z b]++[])))→Ob (InR .i64 (b-a))∧Ob (InR .i64 (b-a+(1:Int)))∧Ob (F_Below.pre ([Dat.z c]++[Dat.z (b-a+(1:Int))]))∧Ob (InR .i64 (a+belowV c (b-a+(1:Int))))∧Ob (a+belowV c (b-a+(1:Int))=a+belowV c (b-a+(1:Int)))∧Ob (belowA c (b-a+(1:Int))=belowA c (b-a+(1:Int)))∧True
set_option linter.unusedSimpArgs false in
set_option maxRecDepth 4000 in
set_option maxHeartbeats 400000 in
theorem v_From:V_From:=by
 unfold V_From
 intro B a lo hi h
 simp only [F_From,F_Below,List.cons_append,List.nil_append,Ob_iff,InR]at h ⊢
 have h3:=belowV_in a (hi-lo+1)
 generalize belowV a (hi-lo+1)=q at *
 repeat' (first | apply And.intro | intro _)
 all_goals first | trivial | omega
theorem e_From:V_From=needE P [] [F_Below] A_From F_From:=by kernel_rfl
theorem n_From:Ob (needE P [] [F_Below] A_From F_From):=by
 rw [← e_From]
 exact⟨v_From⟩
theorem b_From:((P.funcs[12]?).any fun fn=>fn.body.isSome)=true:=by kernel_rfl
theorem From_ok:FnE.Ok P F_From:=FnE.ok named (l:=[]) (es:=[F_Below]) (A:=A_From) (by rfl) (by rfl) (by rfl) (by
 intro F h; simp at h) (by
 intro F h
 simp only [List.mem_cons,List.not_mem_nil,or_false]at h
 rcases h with rfl
 ·exact Below_ok
) b_From (by
 rintro ds h o ho n sz e k z rfl
 simp only [F_From]at ho
 split at ho<;>simp at ho) n_From
noncomputable def F_Once:FnE:=⟨15,(some [.i .u64]),[i64],fun l=>match l with | [.z a,.z n]=>n≤9223372036854775807 | _=>False,fun l=>match l with | [.z a,.z n]=>[.p (belowV a n=0)] | _=>[],fun l=>match l with | [.z a,.z n]=>[] | _=>[],fun l=>match l with | [.z a,.z n]=>[.i .u64 (belowA a n)] | _=>[],false,none,none⟩
noncomputable def A_Once:List SV→List Dat→Nat→List SV→Ann:=fun _ _ _ _=>noAnn
def V_Once:Prop:=
 ∀(B:RW) (b a:Int),F_Once.pre ([Dat.z b]++([Dat.z a]++[]))→Ob (F_Below.pre ([Dat.z b]++[Dat.z a]))∧Ob (belowV b a=(0:Int)↔belowV b a=(0:Int))∧Ob (belowA b a=belowA b a)∧True
set_option linter.unusedSimpArgs false in
set_option maxRecDepth 4000 in
set_option maxHeartbeats 400000 in
theorem v_Once:V_Once:=by
 unfold V_Once
 intro B a n h
 exact⟨⟨h⟩,⟨Iff.rfl⟩,⟨rfl⟩,trivial⟩
theorem e_Once:V_Once=needE P [] [F_Below] A_Once F_Once:=by kernel_rfl
theorem n_Once:Ob (needE P [] [F_Below] A_Once F_Once):=by
 rw [← e_Once]
 exact⟨v_Once⟩
theorem b_Once:((P.funcs[15]?).any fun fn=>fn.body.isSome)=true:=by kernel_rfl
theorem Once_ok:FnE.Ok P F_Once:=FnE.ok named (l:=[]) (es:=[F_Below]) (A:=A_Once) (by rfl) (by rfl) (by rfl) (by
 intro F h; simp at h) (by
 intro F h
 simp only [List.mem_cons,List.not_mem_nil,or_false]at h
 rcases h with rfl
 ·exact Below_ok
) b_Once (by
 rintro ds h o ho n sz e k z rfl
 simp only [F_Once]at ho
 split at ho<;>simp at ho) n_Once
noncomputable def F_Of:FnE:=⟨14,(some [.i .u64]),[.one (.l [.i64])],fun l=>match l with | [.z a,.l l]=>l.length≤1000 | _=>False,fun l=>match l with | [.z a,.l l]=>[.i .i64 (ofV a l)] | _=>[],fun l=>match l with | [.z a,.l l]=>[] | _=>[],fun l=>match l with | [.z a,.l l]=>[.i .u64 (ofA a l)] | _=>[],false,none,none⟩
noncomputable def A_Of:List SV→List Dat→Nat→List SV→Ann:=fun _ _ _ _=>noAnn
def V_Of:Prop:=
 ∀(B:RW) (b:Int) (c:RV) (a:List (List Int)),IsLst B c a.length 1 (Rv.elemOf [.i64] a)→oneB c=true→(∀row∈a,row.length=1)→F_Of.pre ([Dat.z b]++([Dat.l a]++[]))→LsA B c [.i64] a∧((↑a.length:Int)=(0:Int)→Ob ((0:Int)=ofV b a)∧Ob (b=ofA b a)∧True)∧(¬(↑a.length:Int)=(0:Int)→LsA B c [.i64] a∧Ob (F_Below.pre ([Dat.z b]++[Dat.z (↑a.length:Int)]))∧Ob ((0:Int)≤belowV b (↑a.length:Int)∧(belowV b (↑a.length:Int)).toNat < a.length∧IsLst B c a.length 1 (Rv.elemOf [.i64] a))∧Ob (IsLst B c a.length 1 (Rv.elemOf [.i64] a)∧(belowV b (↑a.length:Int)).toNat < a.length)∧Ob (cell a (belowV b (↑a.length:Int)).toNat 0=ofV b a)∧Ob (belowA b (↑a.length:Int)=ofA b a)∧True)
set_option linter.unusedSimpArgs false in
set_option maxRecDepth 4000 in
set_option maxHeartbeats 400000 in
theorem v_Of:V_Of:=by
 unfold V_Of LsA
 intro B a x l hx ho hr h
 simp only [F_Of,F_Below,List.cons_append,List.nil_append,Ob_iff]at h ⊢
 refine⟨hx,fun h0=>?_,fun h0=>?_⟩
 ·have e:l.length=0:=by omega
  simp only [ofV,ofA,e,if_true,and_self]
 ·have e:¬ l.length=0:=by omega
  have h3:=belowV_in a l.length
  have h4:(belowV a l.length).toNat < l.length:=by omega
  simp only [ofV,ofA,if_neg e,and_true]
  exact⟨hx,by omega,⟨by omega,h4,hx⟩,hx,h4⟩
theorem e_Of:V_Of=needE P [] [F_Below] A_Of F_Of:=by kernel_rfl
theorem n_Of:Ob (needE P [] [F_Below] A_Of F_Of):=by
 rw [← e_Of]
 exact⟨v_Of⟩
theorem b_Of:((P.funcs[14]?).any fun fn=>fn.body.isSome)=true:=by kernel_rfl
theorem Of_ok:FnE.Ok P F_Of:=FnE.ok named (l:=[]) (es:=[F_Below]) (A:=A_Of) (by rfl) (by rfl) (by rfl) (by
 intro F h; simp at h) (by
 intro F h
 simp only [List.mem_cons,List.not_mem_nil,or_false]at h
 rcases h with rfl
 ·exact Below_ok
) b_Of (by
 rintro ds h o ho n sz e k z rfl
 simp only [F_Of]at ho
 split at ho<;>simp at ho) n_Of
noncomputable def F_TideOf:FnE:=⟨5,none,[.one (.l [.i64])],fun l=>match l with | [.l l]=>l.length≤9223372036854775807 | _=>False,fun l=>match l with | [.l l]=>[.ptr 0 0] | _=>[],fun l=>match l with | [.l l]=>[.cells [.i .u64 (tideK l l.length)] .ex] | _=>[],fun l=>match l with | [.l l]=>[] | _=>[],false,none,none⟩
noncomputable def A_TideOf:List SV→List Dat→Nat→List SV→Ann:=fun xs ds n ts=>match xs with
 | [.lst x _ _ _]=>match ds with
  | [.l l]=>match n with
   | 3=>⟨Nat,fun k=>([some (SV.lst x l.length ((1:Nat)) (Rv.elemOf [IntKind.i64] l)),none,some (SV.v (Value.pointer none)),some (SV.ptr ((0:Nat)) ((0:Nat))),some (.i .i64 k)]++nN 25),fun k=>[.cells [.i .u64 (tideK l k)] .ex],fun k=>k≤l.length,fun k=>l.length-k,0⟩
   | _=>noAnn
  | _=>noAnn
 | _=>noAnn
def V_TideOf:Prop:=
 ∀(B:RW) (c:RV) (a:List (List Int)),IsLst B c a.length 1 (Rv.elemOf [.i64] a)→oneB c=true→(∀row∈a,row.length=1)→F_TideOf.pre ([Dat.l a]++[])→(∃(b:Nat),Ob (b≤a.length)∧Ob (SV.lst c a.length 1 (Rv.elemOf [.i64] a)=SV.lst c a.length 1 (Rv.elemOf [.i64] a))∧Ob (SV.v (Value.pointer none)=SV.v (Value.pointer none))∧Ob ((0:Int)=(↑b:Int))∧Ob ((7809847782465536322:Int)=tideK a b)∧LsA B c [.i64] a∧True)∧∀(b:Nat),b≤a.length→∀(_ _ _ _ _ _ _ _ _ _ _ _ _ _ _ _ _ _ _ _ _ _ _ _ _ _:Value),LsA B c [.i64] a∧((↑b:Int) < (↑a.length:Int)→LsA B c [.i64] a∧Ob ((0:Int)≤(↑b:Int)∧b < a.length∧IsLst B c a.length 1 (Rv.elemOf [.i64] a))∧Ob (IsLst B c a.length 1 (Rv.elemOf [.i64] a)∧b < a.length)∧Ob (IsLst B c a.length 1 (Rv.elemOf [.i64] a)∧b < a.length)∧Ob (F_next.pre ([Dat.z (IntKind.u64.wrap (IntKind.u64.wrap (tideK a b+IntKind.u64.wrap (cell a b 0))*(12605985483714917081:Int)))]++[]))∧Ob (InR .i64 ((↑b:Int)+(1:Int)))∧∃(d:Nat),Ob (d≤a.length∧a.length-d < a.length-b)∧Ob (SV.lst c a.length 1 (Rv.elemOf [.i64] a)=SV.lst c a.length 1 (Rv.elemOf [.i64] a))∧Ob (SV.v (Value.pointer none)=SV.v (Value.pointer none))∧Ob ((↑b:Int)+(1:Int)=(↑d:Int))∧Ob (tnext (IntKind.u64.wrap (IntKind.u64.wrap (tideK a b+IntKind.u64.wrap (cell a b 0))*(12605985483714917081:Int)))=tideK a d)∧LsA B c [.i64] a∧True)∧(¬(↑b:Int) < (↑a.length:Int)→Ob (tideK a b=tideK a a.length)∧True)
set_option linter.unusedSimpArgs false in
set_option maxRecDepth 4000 in
set_option maxHeartbeats 400000 in
theorem v_TideOf:V_TideOf:=by
 unfold V_TideOf LsA
 intro B x l hx ho hr h
 simp only [F_TideOf,F_next,List.cons_append,List.nil_append,Ob_iff,InR]at h ⊢
 refine⟨⟨0,by omega,trivial,trivial,rfl,rfl,hx,trivial⟩,?_⟩
 intro k hk
 intros
 refine⟨hx,fun h1=>?_,fun h1=>⟨by rw [show k=l.length by omega],trivial⟩⟩
 have h2:k < l.length:=by omega
 exact⟨hx,⟨by omega,h2,hx⟩,⟨hx,h2⟩,⟨hx,h2⟩,trivial,by omega,k+1,by omega,trivial,trivial,by omega,rfl,hx,trivial⟩
theorem e_TideOf:V_TideOf=needE P [] [F_next] A_TideOf F_TideOf:=by kernel_rfl
theorem n_TideOf:Ob (needE P [] [F_next] A_TideOf F_TideOf):=by
 rw [← e_TideOf]
 exact⟨v_TideOf⟩
theorem b_TideOf:((P.funcs[5]?).any fun fn=>fn.body.isSome)=true:=by kernel_rfl
theorem TideOf_ok:FnE.Ok P F_TideOf:=FnE.ok named (l:=[]) (es:=[F_next]) (A:=A_TideOf) (by rfl) (by rfl) (by rfl) (by
 intro F h; simp at h) (by
 intro F h
 simp only [List.mem_cons,List.not_mem_nil,or_false]at h
 rcases h with rfl
 ·exact next_ok
) b_TideOf (by
 rintro ds h o ho n sz e k z rfl
 simp only [F_TideOf]at ho
 split at ho<;>simp at ho) n_TideOf
end Go.Proofs.Ytdnphbnnhfpphaa.Sy
