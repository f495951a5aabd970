import Derived.Test.YtgoiegaobhfocaaSyP2
import Derived.Test.YtgoiegaobhfocaaGrM
import Derived.Test.YtgoiegaobhfocaaSyP2
import Derived.KernelRfl
import Derived.Test.YtgoiegaobhfocaaProg
namespace Go.Proofs.Ytgoiegaobhfocaa.Sy
open Go Go.Rv
set_option linter.unusedVariables false
theorem ed_bd {n b M:Int} (h1:-M≤n) (h2:n≤M) (hM:0≤M) (hb:0 < b):-M≤n / b∧n / b≤M:=by
 have m:M*1≤M*b:=Int.mul_le_mul_of_nonneg_left (by omega) hM
 constructor
 ·rw [Int.le_ediv_iff_mul_le hb,Int.neg_mul]
  omega
 ·exact Int.ediv_le_of_le_mul hb (by omega)
theorem tdm {n b:Int} (hb:0 < b):(n.tmod b < 0→n.tdiv b-1=n / b)∧(¬ n.tmod b < 0→n.tdiv b=n / b):=by
 by_cases h:0≤n
 ·rw [Int.tdiv_eq_ediv_of_nonneg h,Int.tmod_eq_emod_of_nonneg h]
  have:=Int.emod_nonneg n (show b≠0 by omega)
  exact⟨fun h1=>by omega,fun _=>rfl⟩
 ·obtain⟨m,rfl⟩:∃m,n=-m:=⟨-n,by omega⟩
  rw [Int.neg_tdiv,Int.neg_tmod,Int.tdiv_eq_ediv_of_nonneg (by omega),Int.tmod_eq_emod_of_nonneg (by omega)]
  have e:=Int.mul_ediv_add_emod m b
  have r0:=Int.emod_nonneg m (show b≠0 by omega)
  have r1:=Int.emod_lt_of_pos m hb
  constructor
  ·intro h1
   refine(((Int.ediv_emod_unique (a:=-m) (r:=b-m % b) (q:=-(m / b)-1) hb).2 ⟨?_,by omega,by omega⟩).1).symm
   rw [Int.mul_sub,Int.mul_neg]
   omega
  ·intro h1
   refine(((Int.ediv_emod_unique (a:=-m) (r:=0) (q:=-(m / b)) hb).2 ⟨?_,by omega,by omega⟩).1).symm
   rw [Int.mul_neg]
   omega
theorem le0 {n b:Int} (h:0≤n) (hb:0 < b):n % b≤n:=by
 have e:=Int.mul_ediv_add_emod n b
 have:0≤b*(n / b):=Int.mul_nonneg (by omega) (Int.ediv_nonneg h (by omega))
 omega
theorem td_in {n b:Int} (h1:-4000000000000000000≤n) (h2:n≤4000000000000000000) (hb:0 < b):-4000000000000000001≤n.tdiv b∧n.tdiv b≤4000000000000000001∧-4000000000000000001≤n.tmod b∧n.tmod b≤4000000000000000001:=by
 have e:=ed_bd h1 h2 (by omega) hb
 have t:=tdm (n:=n) hb
 have m:b*n.tdiv b+n.tmod b=n:=Int.mul_tdiv_add_tmod n b
 have q:-4000000000000000001≤n.tdiv b∧n.tdiv b≤4000000000000000001:=by
  by_cases h:n.tmod b < 0
  ·have:=t.1 h; omega
  ·have:=t.2 h; omega
 refine⟨q.1,q.2,?_⟩
 by_cases h:0≤n
 ·rw [Int.tmod_eq_emod_of_nonneg h]
  have:=Int.emod_nonneg n (show b≠0 by omega)
  have:=le0 h hb
  omega
 ·obtain⟨k,rfl⟩:∃k,n=-k:=⟨-n,by omega⟩
  rw [Int.neg_tmod,Int.tmod_eq_emod_of_nonneg (by omega)]
  have:=Int.emod_nonneg k (show b≠0 by omega)
  have:=le0 (n:=k) (by omega) hb
  omega
noncomputable def F_nothing:Fn0:=⟨92,[.agg [.l [.i64,.i64,.i64,.i64,.i64,.i64,.i64,.i64],.l [.i64,.i64],.i .i64,.i .i64,.i .i64,.i .i64,.i .i64,.i .i64,.i .i64,.i .i64,.i .i64,.i .i64,.i .i64,.i .i64,.i .i64,.i .i64,.i .i64,.i .i64,.i .i64,.i .i64]],fun _=>True,fun l=>match l with | [.l T,.l R,.z s1,.z s2,.z s3,.z s4,.z s5,.z s6,.z u1,.z u2,.z v1,.z v2,.z a1,.z a2,.z g1,.z g2,.z le,.z mo,.z w1,.z w2]=>.agg [.i .i64 0,.i .i64 0] | _=>.v undef⟩
noncomputable def A_nothing:List SV→List Dat→Nat→List SV→Ann:=fun _ _ _ _=>noAnn
def V_nothing:Prop:=
 ∀(B:RW) (c:RV) (a:List (List Int)),IsLst B c a.length 8 (Rv.elemOf [.i64,.i64,.i64,.i64,.i64,.i64,.i64,.i64] a)→oneB c=true→(∀row∈a,row.length=8)→∀(d:RV) (b:List (List Int)),IsLst B d b.length 2 (Rv.elemOf I2 b)→oneB d=true→(∀row∈b,row.length=2)→∀(h n f m v l j o u e r i g s t p q k:Int),True→Ob ((0:Int)=(0:Int))∧Ob ((0:Int)=(0:Int))∧True
set_option linter.unusedSimpArgs false in
set_option maxRecDepth 4000 in
set_option maxHeartbeats 400000 in
theorem v_nothing:V_nothing:=by
 unfold V_nothing I2
 intros
 simp only [Ob_iff,and_true,true_and]
theorem e_nothing:V_nothing=needF P [] A_nothing F_nothing:=by kernel_rfl
theorem n_nothing:Ob (needF P [] A_nothing F_nothing):=by
 rw [← e_nothing]
 exact⟨v_nothing⟩
theorem b_nothing:((P.funcs[92]?).any fun fn=>fn.body.isSome)=true:=by kernel_rfl
theorem nothing_ok:Fn0.Ok P F_nothing:=Fn0.ok named (l:=[]) (A:=A_nothing) (by rfl) (by
 intro F h; simp at h) b_nothing (by
 intro ds N
 simp only [F_nothing]
 split<;>rfl) n_nothing
noncomputable def F_ofO:Fn0:=⟨93,[.agg [.i .i64,.i .i64,.i .i64,.i .i64,.i .i64,.i .i64]],fun _=>True,fun l=>match l with | [.z a,.z b,.z c,.z d,.z e,.z f]=>.agg [.i .i64 a,.i .i64 b] | _=>.v undef⟩
noncomputable def A_ofO:List SV→List Dat→Nat→List SV→Ann:=fun _ _ _ _=>noAnn
def V_ofO:Prop:=
 ∀(B:RW) (b a e d f c:Int),True→Ob (b=b)∧Ob (a=a)∧True
set_option linter.unusedSimpArgs false in
set_option maxRecDepth 4000 in
set_option maxHeartbeats 400000 in
theorem v_ofO:V_ofO:=by
 unfold V_ofO
 intros
 simp only [Ob_iff,and_true,true_and]
theorem e_ofO:V_ofO=needF P [] A_ofO F_ofO:=by kernel_rfl
theorem n_ofO:Ob (needF P [] A_ofO F_ofO):=by
 rw [← e_ofO]
 exact⟨v_ofO⟩
theorem b_ofO:((P.funcs[93]?).any fun fn=>fn.body.isSome)=true:=by kernel_rfl
theorem ofO_ok:Fn0.Ok P F_ofO:=Fn0.ok named (l:=[]) (A:=A_ofO) (by rfl) (by
 intro F h; simp at h) b_ofO (by
 intro ds N
 simp only [F_ofO]
 split<;>rfl) n_ofO
noncomputable def F_loadO:Fn0:=⟨94,[.agg [.l [.i64,.i64,.i64,.i64,.i64,.i64,.i64,.i64],.l [.i64,.i64],.i .i64,.i .i64,.i .i64,.i .i64,.i .i64,.i .i64,.i .i64,.i .i64,.i .i64,.i .i64,.i .i64,.i .i64,.i .i64,.i .i64,.i .i64,.i .i64,.i .i64,.i .i64]],fun l=>match l with | [.l T,.l R,.z s1,.z s2,.z s3,.z s4,.z s5,.z s6,.z u1,.z u2,.z v1,.z v2,.z a1,.z a2,.z g1,.z g2,.z le,.z mo,.z w1,.z w2]=>-1000000≤u1∧u1≤1000000∧-1000000≤u2∧u2≤1000000 | _=>False,fun l=>match l with | [.l T,.l R,.z s1,.z s2,.z s3,.z s4,.z s5,.z s6,.z u1,.z u2,.z v1,.z v2,.z a1,.z a2,.z g1,.z g2,.z le,.z mo,.z w1,.z w2]=>.agg [.i .i64 (0-u2),.i .i64 (0-u1)] | _=>.v undef⟩
noncomputable def A_loadO:List SV→List Dat→Nat→List SV→Ann:=fun _ _ _ _=>noAnn
def V_loadO:Prop:=
 ∀(B:RW) (e:RV) (c:List (List Int)),IsLst B e c.length 8 (Rv.elemOf [.i64,.i64,.i64,.i64,.i64,.i64,.i64,.i64] c)→oneB e=true→(∀row∈c,row.length=8)→∀(f:RV) (d:List (List Int)),IsLst B f d.length 2 (Rv.elemOf I2 d)→oneB f=true→(∀row∈d,row.length=2)→∀(j o h n v m a b u g r k i s t p q l:Int),(-1000000:Int)≤a∧a≤(1000000:Int)∧(-1000000:Int)≤b∧b≤(1000000:Int)→Ob (InR .i64 ((0:Int)-b))∧Ob (InR .i64 ((0:Int)-a))∧Ob ((0:Int)-b=(0:Int)-b)∧Ob ((0:Int)-a=(0:Int)-a)∧True
set_option linter.unusedSimpArgs false in
set_option maxRecDepth 4000 in
set_option maxHeartbeats 400000 in
theorem v_loadO:V_loadO:=by
 unfold V_loadO I2
 intros
 simp only [Ob_iff,and_true,true_and,InR]at *
 omega
theorem e_loadO:V_loadO=needF P [] A_loadO F_loadO:=by kernel_rfl
theorem n_loadO:Ob (needF P [] A_loadO F_loadO):=by
 rw [← e_loadO]
 exact⟨v_loadO⟩
theorem b_loadO:((P.funcs[94]?).any fun fn=>fn.body.isSome)=true:=by kernel_rfl
theorem loadO_ok:Fn0.Ok P F_loadO:=Fn0.ok named (l:=[]) (A:=A_loadO) (by rfl) (by
 intro F h; simp at h) b_loadO (by
 intro ds N
 simp only [F_loadO]
 split<;>rfl) n_loadO
noncomputable def F_givenO:Fn0:=⟨95,[.agg [.l [.i64,.i64,.i64,.i64,.i64,.i64,.i64,.i64],.l [.i64,.i64],.i .i64,.i .i64,.i .i64,.i .i64,.i .i64,.i .i64,.i .i64,.i .i64,.i .i64,.i .i64,.i .i64,.i .i64,.i .i64,.i .i64,.i .i64,.i .i64,.i .i64,.i .i64]],fun _=>True,fun l=>match l with | [.l T,.l R,.z s1,.z s2,.z s3,.z s4,.z s5,.z s6,.z u1,.z u2,.z v1,.z v2,.z a1,.z a2,.z g1,.z g2,.z le,.z mo,.z w1,.z w2]=>.agg [.i .i64 a1,.i .i64 a2] | _=>.v undef⟩
noncomputable def A_givenO:List SV→List Dat→Nat→List SV→Ann:=fun _ _ _ _=>noAnn
def V_givenO:Prop:=
 ∀(B:RW) (c:RV) (a:List (List Int)),IsLst B c a.length 8 (Rv.elemOf [.i64,.i64,.i64,.i64,.i64,.i64,.i64,.i64] a)→oneB c=true→(∀row∈a,row.length=8)→∀(e:RV) (b:List (List Int)),IsLst B e b.length 2 (Rv.elemOf I2 b)→oneB e=true→(∀row∈b,row.length=2)→∀(j o h n v m k p u g f d i s t q r l:Int),True→Ob (f=f)∧Ob (d=d)∧True
set_option linter.unusedSimpArgs false in
set_option maxRecDepth 4000 in
set_option maxHeartbeats 400000 in
theorem v_givenO:V_givenO:=by
 unfold V_givenO I2
 intros
 simp only [Ob_iff,and_true,true_and]
theorem e_givenO:V_givenO=needF P [] A_givenO F_givenO:=by kernel_rfl
theorem n_givenO:Ob (needF P [] A_givenO F_givenO):=by
 rw [← e_givenO]
 exact⟨v_givenO⟩
theorem b_givenO:((P.funcs[95]?).any fun fn=>fn.body.isSome)=true:=by kernel_rfl
theorem givenO_ok:Fn0.Ok P F_givenO:=Fn0.ok named (l:=[]) (A:=A_givenO) (by rfl) (by
 intro F h; simp at h) b_givenO (by
 intro ds N
 simp only [F_givenO]
 split<;>rfl) n_givenO
noncomputable def F_ofA:Fn0:=⟨96,[.agg [.i .i64,.i .i64,.i .i64,.i .i64,.i .i64,.i .i64]],fun _=>True,fun l=>match l with | [.z a,.z b,.z c,.z d,.z e,.z f]=>.agg [.i .i64 c,.i .i64 d] | _=>.v undef⟩
noncomputable def A_ofA:List SV→List Dat→Nat→List SV→Ann:=fun _ _ _ _=>noAnn
def V_ofA:Prop:=
 ∀(B:RW) (e d b a f c:Int),True→Ob (b=b)∧Ob (a=a)∧True
set_option linter.unusedSimpArgs false in
set_option maxRecDepth 4000 in
set_option maxHeartbeats 400000 in
theorem v_ofA:V_ofA:=by
 unfold V_ofA
 intros
 simp only [Ob_iff,and_true,true_and]
theorem e_ofA:V_ofA=needF P [] A_ofA F_ofA:=by kernel_rfl
theorem n_ofA:Ob (needF P [] A_ofA F_ofA):=by
 rw [← e_ofA]
 exact⟨v_ofA⟩
theorem b_ofA:((P.funcs[96]?).any fun fn=>fn.body.isSome)=true:=by kernel_rfl
theorem ofA_ok:Fn0.Ok P F_ofA:=Fn0.ok named (l:=[]) (A:=A_ofA) (by rfl) (by
 intro F h; simp at h) b_ofA (by
 intro ds N
 simp only [F_ofA]
 split<;>rfl) n_ofA
noncomputable def F_loadA:Fn0:=⟨97,[.agg [.l [.i64,.i64,.i64,.i64,.i64,.i64,.i64,.i64],.l [.i64,.i64],.i .i64,.i .i64,.i .i64,.i .i64,.i .i64,.i .i64,.i .i64,.i .i64,.i .i64,.i .i64,.i .i64,.i .i64,.i .i64,.i .i64,.i .i64,.i .i64,.i .i64,.i .i64]],fun _=>True,fun l=>match l with | [.l T,.l R,.z s1,.z s2,.z s3,.z s4,.z s5,.z s6,.z u1,.z u2,.z v1,.z v2,.z a1,.z a2,.z g1,.z g2,.z le,.z mo,.z w1,.z w2]=>.agg [.i .i64 v1,.i .i64 v2] | _=>.v undef⟩
noncomputable def A_loadA:List SV→List Dat→Nat→List SV→Ann:=fun _ _ _ _=>noAnn
def V_loadA:Prop:=
 ∀(B:RW) (d:RV) (a:List (List Int)),IsLst B d a.length 8 (Rv.elemOf [.i64,.i64,.i64,.i64,.i64,.i64,.i64,.i64] a)→oneB d=true→(∀row∈a,row.length=8)→∀(e:RV) (b:List (List Int)),IsLst B e b.length 2 (Rv.elemOf I2 b)→oneB e=true→(∀row∈b,row.length=2)→∀(i o g n v m k p f c s j h t u q r l:Int),True→Ob (f=f)∧Ob (c=c)∧True
set_option linter.unusedSimpArgs false in
set_option maxRecDepth 4000 in
set_option maxHeartbeats 400000 in
theorem v_loadA:V_loadA:=by
 unfold V_loadA I2
 intros
 simp only [Ob_iff,and_true,true_and]
theorem e_loadA:V_loadA=needF P [] A_loadA F_loadA:=by kernel_rfl
theorem n_loadA:Ob (needF P [] A_loadA F_loadA):=by
 rw [← e_loadA]
 exact⟨v_loadA⟩
theorem b_loadA:((P.funcs[97]?).any fun fn=>fn.body.isSome)=true:=by kernel_rfl
theorem loadA_ok:Fn0.Ok P F_loadA:=Fn0.ok named (l:=[]) (A:=A_loadA) (by rfl) (by
 intro F h; simp at h) b_loadA (by
 intro ds N
 simp only [F_loadA]
 split<;>rfl) n_loadA
noncomputable def F_ofW:Fn0:=⟨98,[.agg [.i .i64,.i .i64,.i .i64,.i .i64,.i .i64,.i .i64]],fun _=>True,fun l=>match l with | [.z a,.z b,.z c,.z d,.z e,.z f]=>.agg [.i .i64 e,.i .i64 f] | _=>.v undef⟩
noncomputable def A_ofW:List SV→List Dat→Nat→List SV→Ann:=fun _ _ _ _=>noAnn
def V_ofW:Prop:=
 ∀(B:RW) (f e d c b a:Int),True→Ob (b=b)∧Ob (a=a)∧True
set_option linter.unusedSimpArgs false in
set_option maxRecDepth 4000 in
set_option maxHeartbeats 400000 in
theorem v_ofW:V_ofW:=by
 unfold V_ofW
 intros
 simp only [Ob_iff,and_true,true_and]
theorem e_ofW:V_ofW=needF P [] A_ofW F_ofW:=by kernel_rfl
theorem n_ofW:Ob (needF P [] A_ofW F_ofW):=by
 rw [← e_ofW]
 exact⟨v_ofW⟩
theorem b_ofW:((P.funcs[98]?).any fun fn=>fn.body.isSome)=true:=by kernel_rfl
theorem ofW_ok:Fn0.Ok P F_ofW:=Fn0.ok named (l:=[]) (A:=A_ofW) (by rfl) (by
 intro F h; simp at h) b_ofW (by
 intro ds N
 simp only [F_ofW]
 split<;>rfl) n_ofW
noncomputable def F_givenW:Fn0:=⟨99,[.agg [.l [.i64,.i64,.i64,.i64,.i64,.i64,.i64,.i64],.l [.i64,.i64],.i .i64,.i .i64,.i .i64,.i .i64,.i .i64,.i .i64,.i .i64,.i .i64,.i .i64,.i .i64,.i .i64,.i .i64,.i .i64,.i .i64,.i .i64,.i .i64,.i .i64,.i .i64]],fun _=>True,fun l=>match l with | [.l T,.l R,.z s1,.z s2,.z s3,.z s4,.z s5,.z s6,.z u1,.z u2,.z v1,.z v2,.z a1,.z a2,.z g1,.z g2,.z le,.z mo,.z w1,.z w2]=>.agg [.i .i64 g1,.i .i64 g2] | _=>.v undef⟩
noncomputable def A_givenW:List SV→List Dat→Nat→List SV→Ann:=fun _ _ _ _=>noAnn
def V_givenW:Prop:=
 ∀(B:RW) (d:RV) (a:List (List Int)),IsLst B d a.length 8 (Rv.elemOf [.i64,.i64,.i64,.i64,.i64,.i64,.i64,.i64] a)→oneB d=true→(∀row∈a,row.length=8)→∀(e:RV) (b:List (List Int)),IsLst B e b.length 2 (Rv.elemOf I2 b)→oneB e=true→(∀row∈b,row.length=2)→∀(i o h n v m k p u g s j c f t q r l:Int),True→Ob (c=c)∧Ob (f=f)∧True
set_option linter.unusedSimpArgs false in
set_option maxRecDepth 4000 in
set_option maxHeartbeats 400000 in
theorem v_givenW:V_givenW:=by
 unfold V_givenW I2
 intros
 simp only [Ob_iff,and_true,true_and]
theorem e_givenW:V_givenW=needF P [] A_givenW F_givenW:=by kernel_rfl
theorem n_givenW:Ob (needF P [] A_givenW F_givenW):=by
 rw [← e_givenW]
 exact⟨v_givenW⟩
theorem b_givenW:((P.funcs[99]?).any fun fn=>fn.body.isSome)=true:=by kernel_rfl
theorem givenW_ok:Fn0.Ok P F_givenW:=Fn0.ok named (l:=[]) (A:=A_givenW) (by rfl) (by
 intro F h; simp at h) b_givenW (by
 intro ds N
 simp only [F_givenW]
 split<;>rfl) n_givenW
noncomputable def F_bothEnds:Fn0:=⟨78,[.agg [.i .i64,.i .i64]],fun _=>True,fun l=>match l with | [.z a,.z b]=>.agg [.i .i64 a,.i .i64 b] | _=>.v undef⟩
noncomputable def A_bothEnds:List SV→List Dat→Nat→List SV→Ann:=fun _ _ _ _=>noAnn
def V_bothEnds:Prop:=
 ∀(B:RW) (a b:Int),True→Ob (a=a)∧Ob (b=b)∧True
set_option linter.unusedSimpArgs false in
set_option maxRecDepth 4000 in
set_option maxHeartbeats 400000 in
theorem v_bothEnds:V_bothEnds:=by
 unfold V_bothEnds
 intros
 simp only [Ob_iff,and_true,true_and]
theorem e_bothEnds:V_bothEnds=needF P [] A_bothEnds F_bothEnds:=by kernel_rfl
theorem n_bothEnds:Ob (needF P [] A_bothEnds F_bothEnds):=by
 rw [← e_bothEnds]
 exact⟨v_bothEnds⟩
theorem b_bothEnds:((P.funcs[78]?).any fun fn=>fn.body.isSome)=true:=by kernel_rfl
theorem bothEnds_ok:Fn0.Ok P F_bothEnds:=Fn0.ok named (l:=[]) (A:=A_bothEnds) (by rfl) (by
 intro F h; simp at h) b_bothEnds (by
 intro ds N
 simp only [F_bothEnds]
 split<;>rfl) n_bothEnds
noncomputable def F_bound:Fn0:=⟨80,[i64,.agg [.i .i64,.i .i64]],fun _=>True,fun l=>match l with | [.z n,.z a,.z b]=>.i .i64 (min (max n a) b) | _=>.v undef⟩
noncomputable def A_bound:List SV→List Dat→Nat→List SV→Ann:=fun _ _ _ _=>noAnn
def V_bound:Prop:=
 ∀(B:RW) (b c a:Int),True→Ob (min (max b c) a=min (max b c) a)∧True
set_option linter.unusedSimpArgs false in
set_option maxRecDepth 4000 in
set_option maxHeartbeats 400000 in
theorem v_bound:V_bound:=by
 unfold V_bound
 intros
 simp only [Ob_iff,and_true,true_and]
theorem e_bound:V_bound=needF P [] A_bound F_bound:=by kernel_rfl
theorem n_bound:Ob (needF P [] A_bound F_bound):=by
 rw [← e_bound]
 exact⟨v_bound⟩
theorem b_bound:((P.funcs[80]?).any fun fn=>fn.body.isSome)=true:=by kernel_rfl
theorem bound_ok:Fn0.Ok P F_bound:=Fn0.ok named (l:=[]) (A:=A_bound) (by rfl) (by
 intro F h; simp at h) b_bound (by
 intro ds N
 simp only [F_bound]
 split<;>rfl) n_bound
noncomputable def F_divDown:Fn0:=⟨81,[i64,i64],fun l=>match l with | [.z n,.z b]=>-4000000000000000000≤n∧n≤4000000000000000000∧0 < b∧b≤4000000000000000000 | _=>False,fun l=>match l with | [.z n,.z b]=>.i .i64 (n / b) | _=>.v undef⟩
noncomputable def A_divDown:List SV→List Dat→Nat→List SV→Ann:=fun _ _ _ _=>noAnn
def V_divDown:Prop:=
 ∀(B:RW) (b a:Int),(-4000000000000000000:Int)≤b∧b≤(4000000000000000000:Int)∧(0:Int) < a∧a≤(4000000000000000000:Int)→Ob ((0:Int) < a∧InR .i64 (b.tdiv a))∧Ob ((0:Int) < a∧InR .i64 (b.tmod a))∧(b.tmod a < (0:Int)→Ob (InR .i64 (b.tdiv a-(1:Int)))∧Ob (b.tdiv a-(1:Int)=b / a)∧True)∧(¬b.tmod a < (0:Int)→Ob (b.tdiv a=b / a)∧True)
set_option linter.unusedSimpArgs false in
set_option maxRecDepth 4000 in
set_option maxHeartbeats 400000 in
theorem v_divDown:V_divDown:=by
 unfold V_divDown
 intro B n b ⟨h1,h2,h3,h4⟩
 have t:=tdm (n:=n) h3
 have i:=td_in h1 h2 h3
 simp only [Ob_iff,and_true,true_and]
 exact⟨⟨h3,by simp only [InR]; omega⟩,⟨h3,by simp only [InR]; omega⟩,fun h=>⟨by simp only [InR]; omega,t.1 h⟩,t.2⟩
theorem e_divDown:V_divDown=needF P [] A_divDown F_divDown:=by kernel_rfl
theorem n_divDown:Ob (needF P [] A_divDown F_divDown):=by
 rw [← e_divDown]
 exact⟨v_divDown⟩
theorem b_divDown:((P.funcs[81]?).any fun fn=>fn.body.isSome)=true:=by kernel_rfl
theorem divDown_ok:Fn0.Ok P F_divDown:=Fn0.ok named (l:=[]) (A:=A_divDown) (by rfl) (by
 intro F h; simp at h) b_divDown (by
 intro ds N
 simp only [F_divDown]
 split<;>rfl) n_divDown
noncomputable def F_divUp:Fn0:=⟨82,[i64,i64],fun l=>match l with | [.z n,.z b]=>-4000000000000000000≤n∧n≤4000000000000000000∧0 < b∧b≤4000000000000000000 | _=>False,fun l=>match l with | [.z n,.z b]=>.i .i64 (0-(0-n) / b) | _=>.v undef⟩
noncomputable def A_divUp:List SV→List Dat→Nat→List SV→Ann:=fun _ _ _ _=>noAnn
def V_divUp:Prop:=
 ∀(B:RW) (a b:Int),(-4000000000000000000:Int)≤a∧a≤(4000000000000000000:Int)∧(0:Int) < b∧b≤(4000000000000000000:Int)→Ob (InR .i64 ((0:Int)-a))∧Ob ((-4000000000000000000:Int)≤(0:Int)-a∧(0:Int)-a≤(4000000000000000000:Int)∧(0:Int) < b∧b≤(4000000000000000000:Int))∧Ob (InR .i64 ((0:Int)-((0:Int)-a) / b))∧Ob ((0:Int)-((0:Int)-a) / b=(0:Int)-((0:Int)-a) / b)∧True
set_option linter.unusedSimpArgs false in
set_option maxRecDepth 4000 in
set_option maxHeartbeats 400000 in
theorem v_divUp:V_divUp:=by
 unfold V_divUp
 intro B n b ⟨h1,h2,h3,h4⟩
 have e:=ed_bd (n:=0-n) (M:=4000000000000000000) (by omega) (by omega) (by omega) h3
 simp only [Ob_iff,and_true,true_and]
 exact⟨by simp only [InR]; omega,⟨by omega,by omega,h3,h4⟩,by simp only [InR]; omega⟩
theorem e_divUp:V_divUp=needF P [F_divDown] A_divUp F_divUp:=by kernel_rfl
theorem n_divUp:Ob (needF P [F_divDown] A_divUp F_divUp):=by
 rw [← e_divUp]
 exact⟨v_divUp⟩
theorem b_divUp:((P.funcs[82]?).any fun fn=>fn.body.isSome)=true:=by kernel_rfl
theorem divUp_ok:Fn0.Ok P F_divUp:=Fn0.ok named (l:=[F_divDown]) (A:=A_divUp) (by rfl) (by
 intro F h
 simp only [List.mem_cons,List.not_mem_nil,or_false]at h
 rcases h with rfl
 ·exact divDown_ok
) b_divUp (by
 intro ds N
 simp only [F_divUp]
 split<;>rfl) n_divUp
end Go.Proofs.Ytgoiegaobhfocaa.Sy
