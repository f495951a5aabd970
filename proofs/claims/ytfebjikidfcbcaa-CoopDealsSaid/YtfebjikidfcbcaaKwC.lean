import Derived.Test.YtfebjikidfcbcaaSyP2
import Derived.Test.YtfebjikidfcbcaaGrM
import Derived.Test.YtfebjikidfcbcaaStM
import Derived.Test.YtfebjikidfcbcaaKtT
import Derived.Test.YtfebjikidfcbcaaKtA
import Derived.Test.YtfebjikidfcbcaaKtB
import Derived.Test.YtfebjikidfcbcaaKwA
import Derived.Test.YtfebjikidfcbcaaKwB
import Derived.Test.YtfebjikidfcbcaaSyP2
import Derived.KernelRfl
import Derived.Test.YtfebjikidfcbcaaProg
namespace Go.Proofs.Ytfebjikidfcbcaa.Sy
open Go Go.Rv
set_option linter.unusedVariables false
def allM (L:Rows):Prop:=∀i,i < L.length→mny (cell L i 0)
def idl (A:Rows):Prop:=∀i,i < A.length→cell A i 2≤0
noncomputable def F_withinR:Fn0:=⟨58,[i64,i64,i64],fun _=>True,fun l=>match l with | [.z n,.z lo,.z hi]=>.p (lo≤n∧n≤hi) | _=>.v undef⟩
noncomputable def A_withinR:List SV→List Dat→Nat→List SV→Ann:=fun _ _ _ _=>noAnn
def V_withinR:Prop:=
 ∀(B:RW) (a b c:Int),True→(b≤a→Ob (a≤c↔b≤a∧a≤c)∧True)∧(¬b≤a→Ob (false=true↔b≤a∧a≤c)∧True)
set_option linter.unusedSimpArgs false in
set_option maxRecDepth 4000 in
set_option maxHeartbeats 400000 in
theorem v_withinR:V_withinR:=by
 unfold V_withinR
 intros
 simp only [Ob_iff,and_true,true_and,InR]at *
 all_goals grind
theorem e_withinR:V_withinR=needF P [] A_withinR F_withinR:=by kernel_rfl
theorem n_withinR:Ob (needF P [] A_withinR F_withinR):=by
 rw [← e_withinR]
 exact⟨v_withinR⟩
theorem b_withinR:((P.funcs[58]?).any fun fn=>fn.body.isSome)=true:=by kernel_rfl
theorem withinR_ok:Fn0.Ok P F_withinR:=Fn0.ok named (l:=[]) (A:=A_withinR) (by rfl) (by
 intro F h; simp at h) b_withinR (by
 intro ds N
 simp only [F_withinR]
 split<;>rfl) n_withinR
noncomputable def F_moneyR:Fn0:=⟨59,[.one (.l [.i64])],fun l=>match l with | [.l L]=>L.length≤4000000 | _=>False,fun l=>match l with | [.l L]=>.p (allM L) | _=>.v undef⟩
noncomputable def A_moneyR:List SV→List Dat→Nat→List SV→Ann:=fun xs ds n ts=>match xs with
 | [.lst x _ _ _]=>match ds with
  | [.l L]=>match n with
   | 2=>⟨Nat,fun k=>([some (SV.lst x L.length ((1:Nat)) (Rv.elemOf [IntKind.i64] L)),none,none,some (.i .i64 k)]++nN 12),fun k=>[],fun k=>k≤L.length∧∀i,i < k→mny (cell L i 0),fun k=>L.length-k,0⟩
   | _=>noAnn
  | _=>noAnn
 | _=>noAnn
def V_moneyR:Prop:=
 ∀(B:RW) (c:RV) (a:List (List Int)),IsLst B c a.length 1 (Rv.elemOf [.i64] a)→oneB c=true→(∀row∈a,row.length=1)→a.length≤4000000→(∃(b:Nat),Ob (b≤a.length∧∀(d:Nat),d < b→mny (cell a d 0))∧Ob (SV.lst c a.length 1 (Rv.elemOf [.i64] a)=SV.lst c a.length 1 (Rv.elemOf [.i64] a))∧Ob ((0:Int)=(↑b:Int))∧LsA B c [.i64] a∧True)∧∀(b:Nat),(b≤a.length∧∀(d:Nat),d < b→mny (cell a d 0))→∀(_ _ _ _ _ _ _ _ _ _ _ _ _ _:Value),LsA B c [.i64] a∧((↑b:Int) < (↑a.length:Int)→Ob ((0:Int)≤(↑b:Int)∧b < a.length∧IsLst B c a.length 1 (Rv.elemOf [.i64] a))∧Ob (IsLst B c a.length 1 (Rv.elemOf [.i64] a)∧b < a.length)∧Ob True∧(¬((0:Int)≤cell a b 0∧cell a b 0≤(1000000000:Int))→Ob (false=true↔allM a)∧True)∧(¬¬((0:Int)≤cell a b 0∧cell a b 0≤(1000000000:Int))→Ob (InR .i64 ((↑b:Int)+(1:Int)))∧∃(e:Nat),Ob ((e≤a.length∧∀(d:Nat),d < e→mny (cell a d 0))∧a.length-e < a.length-b)∧Ob (SV.lst c a.length 1 (Rv.elemOf [.i64] a)=SV.lst c a.length 1 (Rv.elemOf [.i64] a))∧Ob ((↑b:Int)+(1:Int)=(↑e:Int))∧LsA B c [.i64] a∧True))∧(¬(↑b:Int) < (↑a.length:Int)→Ob (true=true↔allM a)∧True)
set_option linter.unusedSimpArgs false in
set_option maxRecDepth 4000 in
set_option maxHeartbeats 400000 in
theorem v_moneyR:V_moneyR:=by
 unfold V_moneyR LsA
 intro B x L hx hox hrx hL
 have hL:L.length≤4000000:=hL
 simp only [Ob_iff,allM,and_true,true_and,Classical.not_not]
 refine⟨⟨0,⟨Nat.zero_le _,fun i hi=>absurd hi (Nat.not_lt_zero _)⟩,rfl,hx⟩,?_⟩
 intro k ⟨hk,hk2⟩
 intros
 refine⟨hx,fun h7=>?_,fun h7=>?_⟩
 ·have hk':k < L.length:=by omega
  refine⟨⟨by omega,hk',hx⟩,⟨hx,hk'⟩,fun h8=>?_,fun h8=>?_⟩
  ·constructor
   ·intro h; cases h
   ·intro h; exact absurd (h k hk') h8
  ·refine⟨by simp only [InR]; omega,k+1,⟨⟨hk',fun i hi=>?_⟩,by omega⟩,by omega,hx⟩
   by_cases e:i=k
   ·subst e; exact h8
   ·exact hk2 i (by omega)
 have ek:k=L.length:=by omega
 subst ek
 exact⟨fun _=>hk2,fun _=>trivial⟩
theorem e_moneyR:V_moneyR=needF P [F_withinR] A_moneyR F_moneyR:=by kernel_rfl
theorem n_moneyR:Ob (needF P [F_withinR] A_moneyR F_moneyR):=by
 rw [← e_moneyR]
 exact⟨v_moneyR⟩
theorem b_moneyR:((P.funcs[59]?).any fun fn=>fn.body.isSome)=true:=by kernel_rfl
theorem moneyR_ok:Fn0.Ok P F_moneyR:=Fn0.ok named (l:=[F_withinR]) (A:=A_moneyR) (by rfl) (by
 intro F h
 simp only [List.mem_cons,List.not_mem_nil,or_false]at h
 rcases h with rfl
 ·exact withinR_ok
) b_moneyR (by
 intro ds N
 simp only [F_moneyR]
 split<;>rfl) n_moneyR
noncomputable def F_surplusR:Fn0:=⟨60,[.agg [.i .i64,.i .i64,.i .i64,.i .i64,.l [.i64,.i64,.i64],.i .i64]],fun l=>match l with | [.z fee,.z itr,.z pri,.z cre,.l A,.z till]=>Small A till | _=>False,fun l=>match l with | [.z fee,.z itr,.z pri,.z cre,.l A,.z till]=>.i .i64 (surp A till) | _=>.v undef⟩
noncomputable def A_surplusR:List SV→List Dat→Nat→List SV→Ann:=fun xs ds n ts=>match xs with
 | [.agg [_,_,_,_,.lst x _ _ _,_]]=>match ds with
  | [.z fee,.z itr,.z pri,.z cre,.l A,.z till]=>match n with
   | 3=>⟨Nat,fun k=>([none,some (SV.ptr ((0:Nat)) ((0:Nat))),some (SV.v (Value.int IntKind.i64 (0:Int))),some (.i .i64 (till+colS 1 A k-colS 0 A k)),some (.i .i64 k)]++nN 25),fun k=>[SObj.cells [SV.i IntKind.i64 fee,SV.i IntKind.i64 itr,SV.i IntKind.i64 pri,SV.i IntKind.i64 cre,SV.lst x A.length ((3:Nat)) (Rv.elemOf [IntKind.i64,IntKind.i64,IntKind.i64] A),SV.i IntKind.i64 till] Kd.ex],fun k=>k≤A.length,fun k=>A.length-k,0⟩
   | _=>noAnn
  | _=>noAnn
 | _=>noAnn
def V_surplusR:Prop:=
 ∀(B:RW) (f g i h:Int) (c:RV) (a:List (List Int)),IsLst B c a.length 3 (Rv.elemOf I3 a)→oneB c=true→(∀row∈a,row.length=3)→∀(d:Int),Small a d→(∃(b:Nat),Ob (b≤a.length)∧Ob (Value.int .i64 (0:Int)=Value.int .i64 (0:Int))∧Ob (d=d+colS 1 a b-colS 0 a b)∧Ob ((0:Int)=(↑b:Int))∧Ob (f=f)∧Ob (g=g)∧Ob (i=i)∧Ob (h=h)∧Ob (SV.lst c a.length 3 (Rv.elemOf I3 a)=SV.lst c a.length 3 (Rv.elemOf I3 a))∧Ob (d=d)∧LsA B c I3 a∧True)∧∀(b:Nat),b≤a.length→∀(_ _ _ _ _ _ _ _ _ _ _ _ _ _ _ _ _ _ _ _ _ _ _ _ _ _:Value),LsA B c I3 a∧((↑b:Int) < (↑a.length:Int)→LsA B c I3 a∧Ob ((0:Int)≤(↑b:Int)∧b < a.length∧IsLst B c a.length 3 (Rv.elemOf I3 a))∧Ob (IsLst B c a.length 3 (Rv.elemOf I3 a)∧b < a.length)∧Ob (IsLst B c a.length 3 (Rv.elemOf I3 a)∧b < a.length)∧Ob (IsLst B c a.length 3 (Rv.elemOf I3 a)∧b < a.length)∧Ob (InR .i64 (d+colS 1 a b-colS 0 a b+cell a b 1))∧LsA B c I3 a∧Ob ((0:Int)≤(↑b:Int)∧b < a.length∧IsLst B c a.length 3 (Rv.elemOf I3 a))∧Ob (IsLst B c a.length 3 (Rv.elemOf I3 a)∧b < a.length)∧Ob (IsLst B c a.length 3 (Rv.elemOf I3 a)∧b < a.length)∧Ob (IsLst B c a.length 3 (Rv.elemOf I3 a)∧b < a.length)∧Ob (InR .i64 (d+colS 1 a b-colS 0 a b+cell a b 1-cell a b 0))∧Ob (InR .i64 ((↑b:Int)+(1:Int)))∧∃(e:Nat),Ob (e≤a.length∧a.length-e < a.length-b)∧Ob (Value.int .i64 (0:Int)=Value.int .i64 (0:Int))∧Ob (d+colS 1 a b-colS 0 a b+cell a b 1-cell a b 0=d+colS 1 a e-colS 0 a e)∧Ob ((↑b:Int)+(1:Int)=(↑e:Int))∧Ob (f=f)∧Ob (g=g)∧Ob (i=i)∧Ob (h=h)∧Ob (SV.lst c a.length 3 (Rv.elemOf I3 a)=SV.lst c a.length 3 (Rv.elemOf I3 a))∧Ob (d=d)∧LsA B c I3 a∧True)∧(¬(↑b:Int) < (↑a.length:Int)→Ob (d+colS 1 a b-colS 0 a b=surp a d)∧True)
set_option linter.unusedSimpArgs false in
set_option maxRecDepth 4000 in
set_option maxHeartbeats 400000 in
theorem v_surplusR:V_surplusR:=by
 unfold V_surplusR I3 LsA
 intro B fee itr pri cre x A hx hox hrx till hS
 have hS:Small A till:=hS
 have hl:=hS.l
 have bt:=hS.t
 simp only [Ob_iff,and_true,true_and]
 refine⟨⟨0,Nat.zero_le _,by simp [colS,sumF],rfl,hx⟩,?_⟩
 intro k hk
 intros
 refine⟨hx,fun h7=>?_,fun h7=>?_⟩
 ·have hk':k < A.length:=by omega
  have s1:=hS.sum (c:=1) (by omega) hk
  have s0:=hS.sum (c:=0) (by omega) hk
  have c1:=hS.col (c:=1) (by omega) k hk'
  have c0:=hS.col (c:=0) (by omega) k hk'
  have e1:colS 1 A (k+1)=colS 1 A k+cell A k 1:=rfl
  have e0:colS 0 A (k+1)=colS 0 A k+cell A k 0:=rfl
  refine⟨hx,⟨by omega,hk',hx⟩,⟨hx,hk'⟩,⟨hx,hk'⟩,⟨hx,hk'⟩,by simp only [InR]; omega,hx,⟨by omega,hk',hx⟩,⟨hx,hk'⟩,⟨hx,hk'⟩,⟨hx,hk'⟩,by simp only [InR]; omega,by simp only [InR]; omega,k+1,⟨hk',by omega⟩,by rw [e1,e0]; omega,by omega,hx⟩
 have ek:k=A.length:=by omega
 subst ek
 rfl
theorem e_surplusR:V_surplusR=needF P [] A_surplusR F_surplusR:=by kernel_rfl
theorem n_surplusR:Ob (needF P [] A_surplusR F_surplusR):=by
 rw [← e_surplusR]
 exact⟨v_surplusR⟩
theorem b_surplusR:((P.funcs[60]?).any fun fn=>fn.body.isSome)=true:=by kernel_rfl
theorem surplusR_ok:Fn0.Ok P F_surplusR:=Fn0.ok named (l:=[]) (A:=A_surplusR) (by rfl) (by
 intro F h; simp at h) b_surplusR (by
 intro ds N
 simp only [F_surplusR]
 split<;>rfl) n_surplusR
noncomputable def F_CheckR:Fn0:=⟨38,[.agg [.i .i64,.i .i64,.i .i64,.i .i64,.l [.i64,.i64,.i64],.i .i64]],fun l=>match l with | [.z fee,.z itr,.z pri,.z cre,.l A,.z till]=>A.length≤4000000 | _=>False,fun l=>match l with | [.z fee,.z itr,.z pri,.z cre,.l A,.z till]=>.i .i64 (coopErr fee itr pri cre A till) | _=>.v undef⟩
noncomputable def A_CheckR:List SV→List Dat→Nat→List SV→Ann:=fun xs ds n ts=>match xs with
 | [.agg [_,_,_,_,.lst x _ _ _,_]]=>match ds with
  | [.z fee,.z itr,.z pri,.z cre,.l A,.z till]=>match n with
   | 9=>⟨Nat,fun k=>([none,some (SV.ptr ((0:Nat)) ((0:Nat))),none,none,some (.i .i64 k)]++nN 69),fun k=>[SObj.cells [SV.i IntKind.i64 cre] Kd.ex,SObj.cells [SV.i IntKind.i64 fee,SV.i IntKind.i64 itr,SV.i IntKind.i64 pri,SV.i IntKind.i64 cre] Kd.ex,SObj.cells [SV.i IntKind.i64 fee,SV.i IntKind.i64 itr,SV.i IntKind.i64 pri,SV.i IntKind.i64 cre,SV.lst x A.length ((3:Nat)) (Rv.elemOf [IntKind.i64,IntKind.i64,IntKind.i64] A),SV.i IntKind.i64 till] Kd.ex],fun k=>k≤A.length∧∀i,i < k→accAt A i,fun k=>A.length-k,0⟩
   | _=>noAnn
  | _=>noAnn
 | _=>noAnn
def V_CheckR:Prop:=
 ∀(B:RW) (e f g d:Int) (c:RV) (a:List (List Int)),IsLst B c a.length 3 (Rv.elemOf I3 a)→oneB c=true→(∀row∈a,row.length=3)→∀(h:Int),a.length≤4000000→Ob True∧(¬¬((0:Int)≤e∧e≤(1000000:Int))→Ob True∧(¬¬((0:Int)≤f∧f≤(1000000:Int))→Ob True∧(¬¬((0:Int)≤g∧g≤(1000:Int))→Ob ([[d]].length≤4000000)∧(¬allM [[d]]→Ob ((1:Int)=coopErr e f g d a h)∧True)∧(¬¬allM [[d]]→LsA B c I3 a∧((↑a.length:Int)=(0:Int)→Ob ((4:Int)=coopErr e f g d a h)∧True)∧(¬(↑a.length:Int)=(0:Int)→LsA B c I3 a∧((12:Int) < (↑a.length:Int)→Ob ((5:Int)=coopErr e f g d a h)∧True)∧(¬(12:Int) < (↑a.length:Int)→(∃(b:Nat),Ob (b≤a.length∧∀(i:Nat),i < b→accAt a i)∧Ob ((0:Int)=(↑b:Int))∧Ob (d=d)∧Ob (e=e)∧Ob (f=f)∧Ob (g=g)∧Ob (d=d)∧Ob (e=e)∧Ob (f=f)∧Ob (g=g)∧Ob (d=d)∧Ob (SV.lst c a.length 3 (Rv.elemOf I3 a)=SV.lst c a.length 3 (Rv.elemOf I3 a))∧Ob (h=h)∧LsA B c I3 a∧True)∧∀(b:Nat),(b≤a.length∧∀(i:Nat),i < b→accAt a i)→∀(_ _ _ _ _ _ _ _ _ _ _ _ _ _ _ _ _ _ _ _ _ _ _ _ _ _ _ _ _ _ _ _ _ _ _ _ _ _ _ _ _ _ _ _ _ _ _ _ _ _ _ _ _ _ _ _ _ _ _ _ _ _ _ _ _ _ _ _ _ _ _ _:Value),LsA B c I3 a∧((↑b:Int) < (↑a.length:Int)→LsA B c I3 a∧Ob ((0:Int)≤(↑b:Int)∧b < a.length∧IsLst B c a.length 3 (Rv.elemOf I3 a))∧Ob (IsLst B c a.length 3 (Rv.elemOf I3 a)∧b < a.length)∧Ob (IsLst B c a.length 3 (Rv.elemOf I3 a)∧b < a.length)∧Ob (IsLst B c a.length 3 (Rv.elemOf I3 a)∧b < a.length)∧LsA B c I3 a∧Ob ((0:Int)≤(↑b:Int)∧b < a.length∧IsLst B c a.length 3 (Rv.elemOf I3 a))∧Ob (IsLst B c a.length 3 (Rv.elemOf I3 a)∧b < a.length)∧Ob (IsLst B c a.length 3 (Rv.elemOf I3 a)∧b < a.length)∧Ob (IsLst B c a.length 3 (Rv.elemOf I3 a)∧b < a.length)∧LsA B c I3 a∧Ob ((0:Int)≤(↑b:Int)∧b < a.length∧IsLst B c a.length 3 (Rv.elemOf I3 a))∧Ob (IsLst B c a.length 3 (Rv.elemOf I3 a)∧b < a.length)∧Ob (IsLst B c a.length 3 (Rv.elemOf I3 a)∧b < a.length)∧Ob (IsLst B c a.length 3 (Rv.elemOf I3 a)∧b < a.length)∧Ob ([[cell a b 0],[cell a b 1],[cell a b 2]].length≤4000000)∧(¬allM [[cell a b 0],[cell a b 1],[cell a b 2]]→Ob ((1:Int)=coopErr e f g d a h)∧True)∧(¬¬allM [[cell a b 0],[cell a b 1],[cell a b 2]]→Ob (InR .i64 ((↑b:Int)+(1:Int)))∧∃(j:Nat),Ob ((j≤a.length∧∀(i:Nat),i < j→accAt a i)∧a.length-j < a.length-b)∧Ob ((↑b:Int)+(1:Int)=(↑j:Int))∧Ob (d=d)∧Ob (e=e)∧Ob (f=f)∧Ob (g=g)∧Ob (d=d)∧Ob (e=e)∧Ob (f=f)∧Ob (g=g)∧Ob (d=d)∧Ob (SV.lst c a.length 3 (Rv.elemOf I3 a)=SV.lst c a.length 3 (Rv.elemOf I3 a))∧Ob (h=h)∧LsA B c I3 a∧True))∧(¬(↑b:Int) < (↑a.length:Int)→Ob ([[h]].length≤4000000)∧(¬allM [[h]]→Ob ((1:Int)=coopErr e f g d a h)∧True)∧(¬¬allM [[h]]→RwB B c a.length 3 I3 a fun k=>Ob (Small k h)∧(surp k h < (0:Int)→Ob ((9:Int)=coopErr e f g d a h)∧True)∧(¬surp k h < (0:Int)→Ob ((0:Int)=coopErr e f g d a h)∧True)))))))∧(¬((0:Int)≤g∧g≤(1000:Int))→Ob ((1:Int)=coopErr e f g d a h)∧True))∧(¬((0:Int)≤f∧f≤(1000000:Int))→Ob ((1:Int)=coopErr e f g d a h)∧True))∧(¬((0:Int)≤e∧e≤(1000000:Int))→Ob ((1:Int)=coopErr e f g d a h)∧True)
set_option linter.unusedSimpArgs false in
set_option maxRecDepth 4000 in
set_option maxHeartbeats 400000 in
theorem v_CheckR:V_CheckR:=by
 unfold V_CheckR I3 LsA RwB
 intro B fee itr pri cre x A hx hox hrx till hA
 have hA:A.length≤4000000:=hA
 have m1:∀n:Int,allM [[n]]↔mny n:=fun n=>⟨fun h=>h 0 (Nat.lt_succ_self 0),fun h i hi=>by
  have hi:i < 1:=hi
  have e:i=0:=by omega
  subst e
  exact h⟩
 have m3:∀k,allM [[cell A k 0],[cell A k 1],[cell A k 2]]↔accAt A k:=fun k=>⟨fun h=>⟨h 0 (by show 0 < 3; omega),h 1 (by show 1 < 3; omega),h 2 (by show 2 < 3; omega)⟩,fun h i hi=>by
  have hi:i < 3:=hi
  have:i=0∨i=1∨i=2:=by omega
  rcases this with rfl | rfl | rfl
  ·exact h.1
  ·exact h.2.1
  ·exact h.2.2⟩
 have l1:∀n:Int,[[n]].length≤4000000:=fun n=>by show 1≤4000000; omega
 have l3:∀k,[[cell A k 0],[cell A k 1],[cell A k 2]].length≤4000000:=fun k=>by show 3≤4000000; omega
 simp only [Ob_iff,and_true,true_and,Classical.not_not,m1,m3]
 have bad:¬ ((0≤fee∧fee≤1000000)∧(0≤itr∧itr≤1000000)∧(0≤pri∧pri≤1000)∧mny cre)→1=coopErr fee itr pri cre A till:=fun h=>by
  unfold coopErr
  rw [if_neg h]
 refine⟨fun h1=>⟨fun h2=>⟨fun h3=>⟨l1 _,fun h4=>bad fun h=>h4 h.2.2.2,fun h4=>?_⟩,fun h3=>bad fun h=>h3 h.2.2.1⟩,fun h2=>bad fun h=>h2 h.2.1⟩,fun h1=>bad fun h=>h1 h.1⟩
 have hr:(0≤fee∧fee≤1000000)∧(0≤itr∧itr≤1000000)∧(0≤pri∧pri≤1000)∧mny cre:=⟨h1,h2,h3,h4⟩
 refine⟨hx,fun h5=>?_,fun h5=>⟨hx,fun h6=>?_,fun h6=>?_⟩⟩
 ·unfold coopErr
  rw [if_pos hr,if_pos (by omega)]
 ·unfold coopErr
  rw [if_pos hr,if_neg (by omega),if_pos (by omega)]
 have l0:¬ A.length=0:=by omega
 have l2:¬ 12 < A.length:=by omega
 refine⟨⟨0,⟨Nat.zero_le _,fun i hi=>absurd hi (Nat.not_lt_zero _)⟩,rfl,hx⟩,?_⟩
 intro k ⟨hk,hk2⟩
 intros
 refine⟨hx,fun h7=>?_,fun h7=>?_⟩
 ·have hk':k < A.length:=by omega
  have badk:¬ accAt A k→1=coopErr fee itr pri cre A till:=fun h=>by
   unfold coopErr
   rw [if_pos hr,if_neg l0,if_neg l2,if_neg fun hh=>h (hh k hk')]
  refine⟨hx,⟨by omega,hk',hx⟩,⟨hx,hk'⟩,⟨hx,hk'⟩,⟨hx,hk'⟩,hx,⟨by omega,hk',hx⟩,⟨hx,hk'⟩,⟨hx,hk'⟩,⟨hx,hk'⟩,hx,⟨by omega,hk',hx⟩,⟨hx,hk'⟩,⟨hx,hk'⟩,⟨hx,hk'⟩,l3 k,fun h8=>badk h8,fun h8=>?_⟩
  refine⟨by simp only [InR]; omega,k+1,⟨⟨hk',fun i hi=>?_⟩,by omega⟩,by omega,hx⟩
  by_cases e:i=k
  ·subst e; exact h8
  ·exact hk2 i (by omega)
 have ek:k=A.length:=by omega
 subst ek
 refine⟨l1 _,fun h8=>?_,fun h8=>?_⟩
 ·unfold coopErr
  rw [if_pos hr,if_neg l0,if_neg l2,if_pos hk2,if_neg h8]
 refine⟨A,⟨hx,rfl,hrx,fun _ _=>rfl⟩,small_of (by omega) hk2 h8,fun h9=>?_,fun h9=>?_⟩
 ·unfold coopErr
  rw [if_pos hr,if_neg l0,if_neg l2,if_pos hk2,if_pos h8,if_pos h9]
 ·unfold coopErr
  rw [if_pos hr,if_neg l0,if_neg l2,if_pos hk2,if_pos h8,if_neg h9]
theorem e_CheckR:V_CheckR=needF P [F_withinR,F_moneyR,F_surplusR] A_CheckR F_CheckR:=by kernel_rfl
theorem n_CheckR:Ob (needF P [F_withinR,F_moneyR,F_surplusR] A_CheckR F_CheckR):=by
 rw [← e_CheckR]
 exact⟨v_CheckR⟩
theorem b_CheckR:((P.funcs[38]?).any fun fn=>fn.body.isSome)=true:=by kernel_rfl
theorem CheckR_ok:Fn0.Ok P F_CheckR:=Fn0.ok named (l:=[F_withinR,F_moneyR,F_surplusR]) (A:=A_CheckR) (by rfl) (by
 intro F h
 simp only [List.mem_cons,List.not_mem_nil,or_false]at h
 rcases h with rfl | rfl | rfl
 ·exact withinR_ok
 ·exact moneyR_ok
 ·exact surplusR_ok
) b_CheckR (by
 intro ds N
 simp only [F_CheckR]
 split<;>rfl) n_CheckR
noncomputable def F_idleR:Fn0:=⟨84,[.one (.l [.i64,.i64,.i64])],fun l=>match l with | [.l A]=>A.length≤4000000 | _=>False,fun l=>match l with | [.l A]=>.p (idl A) | _=>.v undef⟩
noncomputable def A_idleR:List SV→List Dat→Nat→List SV→Ann:=fun xs ds n ts=>match xs with
 | [.lst x _ _ _]=>match ds with
  | [.l A]=>match n with
   | 2=>⟨Nat,fun k=>([some (SV.lst x A.length ((3:Nat)) (Rv.elemOf [IntKind.i64,IntKind.i64,IntKind.i64] A)),none,none,some (.i .i64 k)]++nN 12),fun k=>[],fun k=>k≤A.length∧∀i,i < k→cell A i 2≤0,fun k=>A.length-k,0⟩
   | _=>noAnn
  | _=>noAnn
 | _=>noAnn
def V_idleR:Prop:=
 ∀(B:RW) (c:RV) (a:List (List Int)),IsLst B c a.length 3 (Rv.elemOf I3 a)→oneB c=true→(∀row∈a,row.length=3)→a.length≤4000000→(∃(b:Nat),Ob (b≤a.length∧∀(d:Nat),d < b→cell a d 2≤(0:Int))∧Ob (SV.lst c a.length 3 (Rv.elemOf I3 a)=SV.lst c a.length 3 (Rv.elemOf I3 a))∧Ob ((0:Int)=(↑b:Int))∧LsA B c I3 a∧True)∧∀(b:Nat),(b≤a.length∧∀(d:Nat),d < b→cell a d 2≤(0:Int))→∀(_ _ _ _ _ _ _ _ _ _ _ _ _ _:Value),LsA B c I3 a∧((↑b:Int) < (↑a.length:Int)→Ob ((0:Int)≤(↑b:Int)∧b < a.length∧IsLst B c a.length 3 (Rv.elemOf I3 a))∧Ob (IsLst B c a.length 3 (Rv.elemOf I3 a)∧b < a.length)∧((0:Int) < cell a b 2→Ob (false=true↔idl a)∧True)∧(¬(0:Int) < cell a b 2→Ob (InR .i64 ((↑b:Int)+(1:Int)))∧∃(e:Nat),Ob ((e≤a.length∧∀(d:Nat),d < e→cell a d 2≤(0:Int))∧a.length-e < a.length-b)∧Ob (SV.lst c a.length 3 (Rv.elemOf I3 a)=SV.lst c a.length 3 (Rv.elemOf I3 a))∧Ob ((↑b:Int)+(1:Int)=(↑e:Int))∧LsA B c I3 a∧True))∧(¬(↑b:Int) < (↑a.length:Int)→Ob (true=true↔idl a)∧True)
set_option linter.unusedSimpArgs false in
set_option maxRecDepth 4000 in
set_option maxHeartbeats 400000 in
theorem v_idleR:V_idleR:=by
 unfold V_idleR I3 LsA
 intro B x A hx hox hrx hL
 have hL:A.length≤4000000:=hL
 simp only [Ob_iff,idl,and_true,true_and,Classical.not_not]
 refine⟨⟨0,⟨Nat.zero_le _,fun i hi=>absurd hi (Nat.not_lt_zero _)⟩,rfl,hx⟩,?_⟩
 intro k ⟨hk,hk2⟩
 intros
 refine⟨hx,fun h7=>?_,fun h7=>?_⟩
 ·have hk':k < A.length:=by omega
  refine⟨⟨by omega,hk',hx⟩,⟨hx,hk'⟩,fun h8=>?_,fun h8=>?_⟩
  ·constructor
   ·intro h; cases h
   ·intro h; have:=h k hk'; omega
  ·refine⟨by simp only [InR]; omega,k+1,⟨⟨hk',fun i hi=>?_⟩,by omega⟩,by omega,hx⟩
   by_cases e:i=k
   ·subst e; omega
   ·exact hk2 i (by omega)
 have ek:k=A.length:=by omega
 subst ek
 exact⟨fun _=>hk2,fun _=>trivial⟩
theorem e_idleR:V_idleR=needF P [] A_idleR F_idleR:=by kernel_rfl
theorem n_idleR:Ob (needF P [] A_idleR F_idleR):=by
 rw [← e_idleR]
 exact⟨v_idleR⟩
theorem b_idleR:((P.funcs[84]?).any fun fn=>fn.body.isSome)=true:=by kernel_rfl
theorem idleR_ok:Fn0.Ok P F_idleR:=Fn0.ok named (l:=[]) (A:=A_idleR) (by rfl) (by
 intro F h; simp at h) b_idleR (by
 intro ds N
 simp only [F_idleR]
 split<;>rfl) n_idleR
end Go.Proofs.Ytfebjikidfcbcaa.Sy
