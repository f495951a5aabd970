import Derived.Test.YtfebjikidfcbcaaSyP2
import Derived.Test.YtfebjikidfcbcaaGrM
import Derived.Test.YtfebjikidfcbcaaStM
import Derived.Test.YtfebjikidfcbcaaKtT
import Derived.Test.YtfebjikidfcbcaaKtA
import Derived.Test.YtfebjikidfcbcaaKtB
import Derived.Test.YtfebjikidfcbcaaKwA
import Derived.Test.YtfebjikidfcbcaaKwB
import Derived.Test.YtfebjikidfcbcaaSyP2
import Derived.KernelRfl
import Derived.Test.YtfebjikidfcbcaaProg
namespace Go.Proofs.Ytfebjikidfcbcaa.Sy
open Go Go.Rv
set_option linter.unusedVariables false
def mxL (L:Rows):Nat→Int
 | 0=>cell L 0 0
 | k+1=>if k+1=1 then cell L 0 0 else max (mxL L k) (cell L k 0)
theorem mxL_succ (L:Rows) {k:Nat} (h:1≤k):mxL L (k+1)=max (mxL L k) (cell L k 0):=by
 show(if k+1=1 then _ else _)=_
 rw [if_neg (by omega)]
theorem mxL_gt (L:Rows) (M:Int):∀ {k:Nat},1≤k→(M < mxL L k↔∃i,i < k∧M < cell L i 0)
 | 1,_=>⟨fun h=>⟨0,by omega,h⟩,fun⟨i,h1,h2⟩=>by
  have e:i=0:=by omega
  subst e; exact h2⟩
 | k+2,_=>by
  rw [mxL_succ L (by omega:1≤k+1)]
  have ih:=mxL_gt L M (k:=k+1) (by omega)
  constructor
  ·intro h
   by_cases h1:M < mxL L (k+1)
   ·obtain⟨i,h2,h3⟩:=ih.1 h1
    exact⟨i,by omega,h3⟩
   ·exact⟨k+1,by omega,by omega⟩
  ·rintro⟨i,h1,h2⟩
   by_cases e:i=k+1
   ·subst e; omega
   ·have:=ih.2 ⟨i,by omega,h2⟩
    omega
def fullC (A:Rows) (till:Int):Prop:=1000000000 < till∨∃k,k < A.length∧(1000000000 < cell A k 0∨1000000000 < cell A k 2)
def fullL (A:Rows) (till:Int):Rows:=colO 0 A A.length++colO 2 A A.length++[[till]]
theorem cell_apd (X Y:Rows) (i c:Nat):cell (X++Y) i c=if i < X.length then cell X i c else cell Y (i-X.length) c:=by
 unfold cell
 split
 ·rename_i h
  simp [List.getD_eq_getElem?_getD,List.getElem?_append_left h]
 ·rename_i h
  simp [List.getD_eq_getElem?_getD,List.getElem?_append_right (Nat.le_of_not_lt h)]
theorem fullL_len (A:Rows) (till:Int):(fullL A till).length=A.length+A.length+1:=by
 simp only [fullL,List.length_append,colO_len,List.length_cons,List.length_nil]
theorem fullL_row (A:Rows) (till:Int):∀r∈fullL A till,r.length=1:=by
 intro r hr
 unfold fullL at hr
 rcases List.mem_append.1 hr with hr | hr
 ·rcases List.mem_append.1 hr with hr | hr
  ·exact colO_row _ _ _ r hr
  ·exact colO_row _ _ _ r hr
 ·rw [List.mem_singleton.1 hr]; rfl
theorem fullL_cell (A:Rows) (till:Int) (i:Nat) (h:i < A.length+A.length+1):cell (fullL A till) i 0=if i < A.length then cell A i 0 else if i < A.length+A.length then cell A (i-A.length) 2 else till:=by
 unfold fullL
 rw [cell_apd,List.length_append,colO_len,colO_len]
 by_cases h2:i < A.length+A.length
 ·rw [if_pos h2,cell_apd,colO_len]
  by_cases h1:i < A.length
  ·rw [if_pos h1,if_pos h1,colO_cell 0 A h1]
  ·rw [if_neg h1,if_neg h1,if_pos h2,colO_cell 2 A (by omega)]
 ·rw [if_neg h2,if_neg (by omega),if_neg h2]
  have e:i-(A.length+A.length)=0:=by omega
  rw [e]
  rfl
theorem fullL_at (A:Rows) (till:Int) (i:Nat) (h:i < 0+A.length+A.length+1):(behind (0+A.length+A.length) (behind (0+A.length) (behind 0 (El.fn fun _=>[]) A.length (.fn (Rv.elemOf [.i64] (colO 0 A A.length)))) A.length (.fn (Rv.elemOf [.i64] (colO 2 A A.length)))) 1 (litEl (symL [SV.i .i64 till]) 1 1)).at i=Rv.elemOf [.i64] (fullL A till) i:=by
 have e:Rv.elemOf [.i64] (fullL A till) i=[SV.i .i64 (cell (fullL A till) i 0)]:=rfl
 rw [e,fullL_cell A till i (by omega)]
 show(if i < 0+A.length+A.length then (if i < 0+A.length then (if i < 0 then []else Rv.elemOf [.i64] (colO 0 A A.length) (i-0))else Rv.elemOf [.i64] (colO 2 A A.length) (i-(0+A.length)))else [SV.i .i64 till])=_
 have e0:∀c j,j < A.length→Rv.elemOf [.i64] (colO c A A.length) j=[SV.i .i64 (cell A j c)]:=fun c j hj=>by
  show [SV.i .i64 (cell (colO c A A.length) j 0)]=_
  rw [colO_cell c A hj]
 by_cases h1:i < A.length
 ·rw [if_pos (by omega),if_pos (by omega),if_neg (by omega),if_pos h1,Nat.sub_zero,e0 0 i h1]
 ·by_cases h2:i < A.length+A.length
  ·rw [if_pos (by omega),if_neg (by omega),if_neg h1,if_pos h2,Nat.zero_add,e0 2 _ (by omega)]
  ·rw [if_neg (by omega),if_neg h1,if_neg h2]
theorem full_iff (A:Rows) (till:Int):1000000000 < mxL (fullL A till) (fullL A till).length↔fullC A till:=by
 rw [mxL_gt _ _ (by rw [fullL_len]; omega),fullL_len]
 constructor
 ·rintro⟨i,h1,h2⟩
  rw [fullL_cell A till i h1]at h2
  split at h2
  ·exact .inr ⟨i,by assumption,.inl h2⟩
  ·split at h2
   ·exact .inr ⟨i-A.length,by omega,.inr h2⟩
   ·exact .inl h2
 ·rintro(h | ⟨k,h1,h | h⟩)
  ·refine⟨A.length+A.length,by omega,?_⟩
   rw [fullL_cell A till _ (by omega),if_neg (by omega),if_neg (by omega)]
   exact h
  ·refine⟨k,by omega,?_⟩
   rw [fullL_cell A till _ (by omega),if_pos h1]
   exact h
  ·refine⟨A.length+k,by omega,?_⟩
   rw [fullL_cell A till _ (by omega),if_neg (by omega),if_pos (by omega),Nat.add_sub_cancel_left]
   exact h
noncomputable def F_maxI:Fn0:=⟨83,[.one (.l [.i64])],fun l=>match l with | [.l L]=>1≤L.length∧L.length≤4000000 | _=>False,fun l=>match l with | [.l L]=>.i .i64 (mxL L L.length) | _=>.v undef⟩
noncomputable def A_maxI:List SV→List Dat→Nat→List SV→Ann:=fun xs ds n ts=>match xs with
 | [.lst x _ _ _]=>match ds with
  | [.l L]=>match n with
   | 5=>⟨Nat,fun k=>([some (SV.lst x L.length ((1:Nat)) (Rv.elemOf [IntKind.i64] L)),none,some (SV.v (Value.int IntKind.i64 (0:Int))),some (.i .i64 (mxL L k)),some (.i .i64 k)]++nN 20),fun k=>[],fun k=>1≤k∧k≤L.length,fun k=>L.length-k,0⟩
   | _=>noAnn
  | _=>noAnn
 | _=>noAnn
def V_maxI:Prop:=
 ∀(B:RW) (c:RV) (a:List (List Int)),IsLst B c a.length 1 (Rv.elemOf [.i64] a)→oneB c=true→(∀row∈a,row.length=1)→(1:Nat)≤a.length∧a.length≤4000000→LsA B c [.i64] a∧((↑a.length:Int) < (1:Int)→False)∧(¬(↑a.length:Int) < (1:Int)→Ob ((0:Nat) < a.length∧IsLst B c a.length 1 (Rv.elemOf [.i64] a))∧Ob (IsLst B c a.length 1 (Rv.elemOf [.i64] a)∧(0:Nat) < a.length)∧(∃(b:Nat),Ob ((1:Nat)≤b∧b≤a.length)∧Ob (SV.lst c a.length 1 (Rv.elemOf [.i64] a)=SV.lst c a.length 1 (Rv.elemOf [.i64] a))∧Ob (Value.int .i64 (0:Int)=Value.int .i64 (0:Int))∧Ob (cell a 0 0=mxL a b)∧Ob ((1:Int)=(↑b:Int))∧LsA B c [.i64] a∧True)∧∀(b:Nat),(1:Nat)≤b∧b≤a.length→∀(_ _ _ _ _ _ _ _ _ _ _ _ _ _ _ _ _ _ _ _ _:Value),LsA B c [.i64] a∧((↑b:Int) < (↑a.length:Int)→Ob ((0:Int)≤(↑b:Int)∧b < a.length∧IsLst B c a.length 1 (Rv.elemOf [.i64] a))∧Ob (IsLst B c a.length 1 (Rv.elemOf [.i64] a)∧b < a.length)∧Ob (InR .i64 ((↑b:Int)+(1:Int)))∧∃(d:Nat),Ob (((1:Nat)≤d∧d≤a.length)∧a.length-d < a.length-b)∧Ob (SV.lst c a.length 1 (Rv.elemOf [.i64] a)=SV.lst c a.length 1 (Rv.elemOf [.i64] a))∧Ob (Value.int .i64 (0:Int)=Value.int .i64 (0:Int))∧Ob (max (mxL a b) (cell a b 0)=mxL a d)∧Ob ((↑b:Int)+(1:Int)=(↑d:Int))∧LsA B c [.i64] a∧True)∧(¬(↑b:Int) < (↑a.length:Int)→Ob (mxL a b=mxL a a.length)∧True))
set_option linter.unusedSimpArgs false in
set_option maxRecDepth 4000 in
set_option maxHeartbeats 400000 in
theorem v_maxI:V_maxI:=by
 unfold V_maxI LsA
 intro B x L hx hox hrx ⟨h1,h2⟩
 simp only [Ob_iff,and_true,true_and,InR]
 refine⟨hx,by omega,fun _=>⟨⟨by omega,hx⟩,⟨hx,by omega⟩,⟨1,⟨Nat.le_refl _,h1⟩,rfl,rfl,hx⟩,?_⟩⟩
 intro k ⟨hk1,hk2⟩
 intros
 refine⟨hx,fun h3=>?_,fun h3=>?_⟩
 ·have hk:k < L.length:=by omega
  exact⟨⟨by omega,hk,hx⟩,⟨hx,hk⟩,by omega,k+1,⟨⟨by omega,hk⟩,by omega⟩,(mxL_succ L hk1).symm,by omega,hx⟩
 ·have e:k=L.length:=by omega
  rw [e]
theorem e_maxI:V_maxI=needF P [] A_maxI F_maxI:=by kernel_rfl
theorem n_maxI:Ob (needF P [] A_maxI F_maxI):=by
 rw [← e_maxI]
 exact⟨v_maxI⟩
theorem b_maxI:((P.funcs[83]?).any fun fn=>fn.body.isSome)=true:=by kernel_rfl
theorem maxI_ok:Fn0.Ok P F_maxI:=Fn0.ok named (l:=[]) (A:=A_maxI) (by rfl) (by
 intro F h; simp at h) b_maxI (by
 intro ds N
 simp only [F_maxI]
 split<;>rfl) n_maxI
noncomputable def F_isFull:FnE:=⟨57,none,[.agg [.i .i64,.i .i64,.i .i64,.i .i64,.l [.i64,.i64,.i64],.i .i64]],fun l=>match l with | [.z fee,.z itr,.z pri,.z cre,.l A,.z till]=>1≤A.length∧A.length≤100 | _=>False,fun l=>match l with | [.z fee,.z itr,.z pri,.z cre,.l A,.z till]=>[.p (fullC A till)] | _=>[],fun l=>match l with | [.z fee,.z itr,.z pri,.z cre,.l A,.z till]=>[] | _=>[],fun l=>match l with | [.z fee,.z itr,.z pri,.z cre,.l A,.z till]=>[] | _=>[],false,none,none⟩
noncomputable def A_isFull:List SV→List Dat→Nat→List SV→Ann:=fun _ _ _ _=>noAnn
noncomputable def A_isFull_1:List SV→List Dat→List SV→List SObj→Nat→List SV→Ann:=fun xs ds ar bs n ts=>match xs with
 | [.agg [_,_,_,_,.lst x _ _ _,_]]=>match ds with
  | [.z fee,.z itr,.z pri,.z cre,.l A,.z till]=>match n with
   | 3=>⟨Unit,fun _=>[],fun _=>[],fun _=>True,fun _=>0,5⟩
   | 11=>⟨Unit,fun _=>[],fun _=>[],fun _=>True,fun _=>0,5⟩
   | _=>noAnn
  | _=>noAnn
 | _=>noAnn
noncomputable def A_isFull_2:List SV→List Dat→List SV→List SObj→Nat→List SV→Ann:=fun _ _ _ _ _ _=>noAnn
noncomputable def I_isFull:List SV→List Dat→List In:=fun xs ds=>[⟨82,A_isFull_1 xs ds⟩,⟨91,A_isFull_2 xs ds⟩]
def V_isFull:Prop:=
 ∀(B:RW) (h i k j:Int) (e:RV) (g:List (List Int)),IsLst B e g.length 3 (Rv.elemOf I3 g)→oneB e=true→(∀row∈g,row.length=3)→∀(f:Int),F_isFull.pre ([Dat.z h,Dat.z i,Dat.z k,Dat.z j,Dat.l g,Dat.z f]++[])→LsA B e I3 g∧RwB B e g.length 3 I3 g fun a=>Ob (F_each.pre ([Dat.z h,Dat.z i,Dat.z k,Dat.z j,Dat.l a,Dat.z f]++[Dat.z (Int.ofNat 66)]))∧Ob (PlainE a.length (El.fn (Rv.elemOf [.i64] (colO 0 a a.length))))∧LsA B e I3 g∧RwB B e g.length 3 I3 g fun b=>Ob (F_each.pre ([Dat.z h,Dat.z i,Dat.z k,Dat.z j,Dat.l b,Dat.z f]++[Dat.z (Int.ofNat 67)]))∧Ob (PlainE b.length (El.fn (Rv.elemOf [.i64] (colO 2 b b.length))))∧Ob (InR .i64 ((0:Int)+(↑a.length:Int)))∧((0:Int)+(↑a.length:Int) < (0:Int)→False)∧(¬(0:Int)+(↑a.length:Int) < (0:Int)→Ob (InR .i64 ((0:Int)+(↑a.length:Int)+(↑b.length:Int)))∧((0:Int)+(↑a.length:Int)+(↑b.length:Int) < (0:Int)→False)∧(¬(0:Int)+(↑a.length:Int)+(↑b.length:Int) < (0:Int)→Ob (InR .i64 ((0:Int)+(↑a.length:Int)+(↑b.length:Int)+Int.ofNat 1))∧((0:Int)+(↑a.length:Int)+(↑b.length:Int)+Int.ofNat 1 < (0:Int)→False)∧(¬(0:Int)+(↑a.length:Int)+(↑b.length:Int)+Int.ofNat 1 < (0:Int)→((0:Int)+(↑a.length:Int)+(↑b.length:Int)+Int.ofNat 1 < (0:Int)→False)∧(¬(0:Int)+(↑a.length:Int)+(↑b.length:Int)+Int.ofNat 1 < (0:Int)→Ob (InR .i64 ((0:Int)+(↑a.length:Int)+(↑b.length:Int)+Int.ofNat 1-Int.ofNat 0))∧((0:Int) < (0:Int)+(↑a.length:Int)+(↑b.length:Int)+Int.ofNat 1-Int.ofNat 0→Ob ((0:Int) < (0:Int)+(↑a.length:Int)+(↑b.length:Int)+Int.ofNat 1-Int.ofNat 0∧((0:Int)+(↑a.length:Int)+(↑b.length:Int)+Int.ofNat 1-Int.ofNat 0).toNat*(2:Nat)*(9:Nat)≤1099511627776)∧Ob (((0:Int)+(↑a.length:Int)+(↑b.length:Int)+Int.ofNat 1-Int.ofNat 0).toNat=((0:Int)+(↑a.length:Int)+(↑b.length:Int)+Int.ofNat 1-Int.ofNat 0).toNat)∧Ob (a.length=a.length∧∀(c:Nat),c < a.length→((El.fn (Rv.elemOf [.i64] (colO 0 a a.length))).at c).length=(1:Nat))∧(a.length=(0:Nat)→Ob (b.length=b.length∧∀(c:Nat),c < b.length→((El.fn (Rv.elemOf [.i64] (colO 2 b b.length))).at c).length=(1:Nat))∧(b.length=(0:Nat)→Ob ((18:Nat)≤1099511627776)∧∃(d:List (List Int)),Ob ((1:Nat)=(1:Nat)∧d.length=(1:Nat)∧(∀r∈d,r.length=1)∧∀(c:Nat),c < 1→(behind 0 (El.fn fun(e:Nat)↦[]) 1 (litEl (symL [SV.i .i64 f]) 1 1)).at c=Rv.elemOf [.i64] d c)∧Ob ((1:Nat)≤d.length∧d.length≤4000000)∧Ob ((1000000000:Int) < mxL d d.length↔fullC g f)∧True)∧(¬b.length=(0:Nat)→Ob (((0:Nat)+b.length)*(2:Nat)*(9:Nat)≤1099511627776)∧Ob ((0:Nat)+b.length=(0:Nat)+b.length∧∀(c:Nat),c < 0+b.length→((behind 0 (El.fn fun(e:Nat)↦[]) b.length (El.fn (Rv.elemOf [.i64] (colO 2 b b.length)))).at c).length=(1:Nat))∧Ob (((0:Nat)+b.length+(1:Nat))*(2:Nat)*(9:Nat)≤1099511627776)∧Ob ((0:Nat)+b.length=(0:Nat)+b.length)∧∃(d:List (List Int)),Ob ((0:Nat)+b.length+(1:Nat)=(0:Nat)+b.length+(1:Nat)∧d.length=(0:Nat)+b.length+(1:Nat)∧(∀r∈d,r.length=1)∧∀(c:Nat),c < 0+b.length+(1:Nat)→(behind ((0:Nat)+b.length) (behind 0 (El.fn fun(e:Nat)↦[]) b.length (El.fn (Rv.elemOf [.i64] (colO 2 b b.length)))) 1 (litEl (symL [SV.i .i64 f]) 1 1)).at c=Rv.elemOf [.i64] d c)∧Ob ((1:Nat)≤d.length∧d.length≤4000000)∧Ob ((1000000000:Int) < mxL d d.length↔fullC g f)∧True))∧(¬a.length=(0:Nat)→Ob (((0:Nat)+a.length)*(2:Nat)*(9:Nat)≤1099511627776)∧Ob ((0:Nat)+a.length=(0:Nat)+a.length∧∀(c:Nat),c < 0+a.length→((behind 0 (El.fn fun(e:Nat)↦[]) a.length (El.fn (Rv.elemOf [.i64] (colO 0 a a.length)))).at c).length=(1:Nat))∧Ob (b.length=b.length∧∀(c:Nat),c < b.length→((El.fn (Rv.elemOf [.i64] (colO 2 b b.length))).at c).length=(1:Nat))∧(b.length=(0:Nat)→Ob ((0:Nat)+a.length=(0:Nat)+a.length∧∀(c:Nat),c < 0+a.length→((behind 0 (El.fn fun(e:Nat)↦[]) a.length (El.fn (Rv.elemOf [.i64] (colO 0 a a.length)))).at c).length=(1:Nat))∧Ob (((0:Nat)+a.length+(1:Nat))*(2:Nat)*(9:Nat)≤1099511627776)∧Ob ((0:Nat)+a.length=(0:Nat)+a.length)∧∃(d:List (List Int)),Ob ((0:Nat)+a.length+(1:Nat)=(0:Nat)+a.length+(1:Nat)∧d.length=(0:Nat)+a.length+(1:Nat)∧(∀r∈d,r.length=1)∧∀(c:Nat),c < 0+a.length+(1:Nat)→(behind ((0:Nat)+a.length) (behind 0 (El.fn fun(e:Nat)↦[]) a.length (El.fn (Rv.elemOf [.i64] (colO 0 a a.length)))) 1 (litEl (symL [SV.i .i64 f]) 1 1)).at c=Rv.elemOf [.i64] d c)∧Ob ((1:Nat)≤d.length∧d.length≤4000000)∧Ob ((1000000000:Int) < mxL d d.length↔fullC g f)∧True)∧(¬b.length=(0:Nat)→Ob (((0:Nat)+a.length+b.length)*(2:Nat)*(9:Nat)≤1099511627776)∧Ob ((0:Nat)+a.length=(0:Nat)+a.length)∧Ob ((0:Nat)+a.length+b.length=(0:Nat)+a.length+b.length∧∀(c:Nat),c < 0+a.length+b.length→((behind ((0:Nat)+a.length) (behind 0 (El.fn fun(e:Nat)↦[]) a.length (El.fn (Rv.elemOf [.i64] (colO 0 a a.length)))) b.length (El.fn (Rv.elemOf [.i64] (colO 2 b b.length)))).at c).length=(1:Nat))∧Ob (((0:Nat)+a.length+b.length+(1:Nat))*(2:Nat)*(9:Nat)≤1099511627776)∧Ob ((0:Nat)+a.length+b.length=(0:Nat)+a.length+b.length)∧∃(d:List (List Int)),Ob ((0:Nat)+a.length+b.length+(1:Nat)=(0:Nat)+a.length+b.length+(1:Nat)∧d.length=(0:Nat)+a.length+b.length+(1:Nat)∧(∀r∈d,r.length=1)∧∀(c:Nat),c < 0+a.length+b.length+(1:Nat)→(behind ((0:Nat)+a.length+b.length) (behind ((0:Nat)+a.length) (behind 0 (El.fn fun(e:Nat)↦[]) a.length (El.fn (Rv.elemOf [.i64] (colO 0 a a.length)))) b.length (El.fn (Rv.elemOf [.i64] (colO 2 b b.length)))) 1 (litEl (symL [SV.i .i64 f]) 1 1)).at c=Rv.elemOf [.i64] d c)∧Ob ((1:Nat)≤d.length∧d.length≤4000000)∧Ob ((1000000000:Int) < mxL d d.length↔fullC g f)∧True)))∧(¬(0:Int) < (0:Int)+(↑a.length:Int)+(↑b.length:Int)+Int.ofNat 1-Int.ofNat 0→Ob (a.length=a.length∧∀(c:Nat),c < a.length→((El.fn (Rv.elemOf [.i64] (colO 0 a a.length))).at c).length=(1:Nat))∧(a.length=(0:Nat)→Ob (b.length=b.length∧∀(c:Nat),c < b.length→((El.fn (Rv.elemOf [.i64] (colO 2 b b.length))).at c).length=(1:Nat))∧(b.length=(0:Nat)→Ob ((18:Nat)≤1099511627776)∧∃(d:List (List Int)),Ob ((1:Nat)=(1:Nat)∧d.length=(1:Nat)∧(∀r∈d,r.length=1)∧∀(c:Nat),c < 1→(behind 0 (El.fn fun(e:Nat)↦[]) 1 (litEl (symL [SV.i .i64 f]) 1 1)).at c=Rv.elemOf [.i64] d c)∧Ob ((1:Nat)≤d.length∧d.length≤4000000)∧Ob ((1000000000:Int) < mxL d d.length↔fullC g f)∧True)∧(¬b.length=(0:Nat)→Ob (((0:Nat)+b.length)*(2:Nat)*(9:Nat)≤1099511627776)∧Ob ((0:Nat)+b.length=(0:Nat)+b.length∧∀(c:Nat),c < 0+b.length→((behind 0 (El.fn fun(e:Nat)↦[]) b.length (El.fn (Rv.elemOf [.i64] (colO 2 b b.length)))).at c).length=(1:Nat))∧Ob (((0:Nat)+b.length+(1:Nat))*(2:Nat)*(9:Nat)≤1099511627776)∧Ob ((0:Nat)+b.length=(0:Nat)+b.length)∧∃(d:List (List Int)),Ob ((0:Nat)+b.length+(1:Nat)=(0:Nat)+b.length+(1:Nat)∧d.length=(0:Nat)+b.length+(1:Nat)∧(∀r∈d,r.length=1)∧∀(c:Nat),c < 0+b.length+(1:Nat)→(behind ((0:Nat)+b.length) (behind 0 (El.fn fun(e:Nat)↦[]) b.length (El.fn (Rv.elemOf [.i64] (colO 2 b b.length)))) 1 (litEl (symL [SV.i .i64 f]) 1 1)).at c=Rv.elemOf [.i64] d c)∧Ob ((1:Nat)≤d.length∧d.length≤4000000)∧Ob ((1000000000:Int) < mxL d d.length↔fullC g f)∧True))∧(¬a.length=(0:Nat)→Ob (((0:Nat)+a.length)*(2:Nat)*(9:Nat)≤1099511627776)∧Ob ((0:Nat)+a.length=(0:Nat)+a.length∧∀(c:Nat),c < 0+a.length→((behind 0 (El.fn fun(e:Nat)↦[]) a.length (El.fn (Rv.elemOf [.i64] (colO 0 a a.length)))).at c).length=(1:Nat))∧Ob (b.length=b.length∧∀(c:Nat),c < b.length→((El.fn (Rv.elemOf [.i64] (colO 2 b b.length))).at c).length=(1:Nat))∧(b.length=(0:Nat)→Ob ((0:Nat)+a.length=(0:Nat)+a.length∧∀(c:Nat),c < 0+a.length→((behind 0 (El.fn fun(e:Nat)↦[]) a.length (El.fn (Rv.elemOf [.i64] (colO 0 a a.length)))).at c).length=(1:Nat))∧Ob (((0:Nat)+a.length+(1:Nat))*(2:Nat)*(9:Nat)≤1099511627776)∧Ob ((0:Nat)+a.length=(0:Nat)+a.length)∧∃(d:List (List Int)),Ob ((0:Nat)+a.length+(1:Nat)=(0:Nat)+a.length+(1:Nat)∧d.length=(0:Nat)+a.length+(1:Nat)∧(∀r∈d,r.length=1)∧∀(c:Nat),c < 0+a.length+(1:Nat)→(behind ((0:Nat)+a.length) (behind 0 (El.fn fun(e:Nat)↦[]) a.length (El.fn (Rv.elemOf [.i64] (colO 0 a a.length)))) 1 (litEl (symL [SV.i .i64 f]) 1 1)).at c=Rv.elemOf [.i64] d c)∧Ob ((1:Nat)≤d.length∧d.length≤4000000)∧Ob ((1000000000:Int) < mxL d d.length↔fullC g f)∧True)∧(¬b.length=(0:Nat)→Ob (((0:Nat)+a.length+b.length)*(2:Nat)*(9:Nat)≤1099511627776)∧Ob ((0:Nat)+a.length=(0:Nat)+a.length)∧Ob ((0:Nat)+a.length+b.length=(0:Nat)+a.length+b.length∧∀(c:Nat),c < 0+a.length+b.length→((behind ((0:Nat)+a.length) (behind 0 (El.fn fun(e:Nat)↦[]) a.length (El.fn (Rv.elemOf [.i64] (colO 0 a a.length)))) b.length (El.fn (Rv.elemOf [.i64] (colO 2 b b.length)))).at c).length=(1:Nat))∧Ob (((0:Nat)+a.length+b.length+(1:Nat))*(2:Nat)*(9:Nat)≤1099511627776)∧Ob ((0:Nat)+a.length+b.length=(0:Nat)+a.length+b.length)∧∃(d:List (List Int)),Ob ((0:Nat)+a.length+b.length+(1:Nat)=(0:Nat)+a.length+b.length+(1:Nat)∧d.length=(0:Nat)+a.length+b.length+(1:Nat)∧(∀r∈d,r.length=1)∧∀(c:Nat),c < 0+a.length+b.length+(1:Nat)→(behind ((0:Nat)+a.length+b.length) (behind ((0:Nat)+a.length) (behind 0 (El.fn fun(e:Nat)↦[]) a.length (El.fn (Rv.elemOf [.i64] (colO 0 a a.length)))) b.length (El.fn (Rv.elemOf [.i64] (colO 2 b b.length)))) 1 (litEl (symL [SV.i .i64 f]) 1 1)).at c=Rv.elemOf [.i64] d c)∧Ob ((1:Nat)≤d.length∧d.length≤4000000)∧Ob ((1000000000:Int) < mxL d d.length↔fullC g f)∧True)))))))
set_option linter.unusedSimpArgs false in
set_option maxRecDepth 4000 in
set_option maxHeartbeats 400000 in
theorem v_isFull:V_isFull:=by
 unfold V_isFull I3 LsA RwB
 intro B fee itr pri cre x A hx hox hrx till ⟨h1,h2⟩
 simp only [Ob_iff,and_true,true_and,InR,Int.ofNat_eq_natCast]
 have hA:A.length≤4000000:=by omega
 have rl:∀c (i:Nat),i < A.length→((El.fn (Rv.elemOf [.i64] (colO c A A.length))).at i).length=1:=fun c i hi=>rfl
 have n0:¬ A.length=0:=by omega
 refine⟨hx,A,⟨hx,rfl,hrx,fun _ _=>rfl⟩,hA,plain_elemOf _ _ _,hx,A,⟨hx,rfl,hrx,fun _ _=>rfl⟩,hA,plain_elemOf _ _ _,by omega,by omega,fun _=>⟨by omega,by omega,fun _=>⟨by omega,by omega,fun _=>⟨by omega,fun _=>⟨by omega,fun _=>⟨by omega,rl 0,fun h=>absurd h n0,fun _=>⟨by omega,?_,rl 2,fun h=>absurd h n0,fun _=>⟨by omega,?_,by omega,fullL A till,⟨by rw [fullL_len]; omega,fullL_row A till,fullL_at A till⟩,⟨by rw [fullL_len]; omega,by rw [fullL_len]; omega⟩,full_iff A till⟩⟩⟩,fun h=>absurd h (by omega)⟩⟩⟩⟩⟩
 ·intro i hi
  rfl
 ·intro i hi
  show(if i < 0+A.length then (if i < 0 then []else Rv.elemOf [.i64] (colO 0 A A.length) (i-0))else Rv.elemOf [.i64] (colO 2 A A.length) (i-(0+A.length))).length=1
  split
  ·rw [if_neg (by omega)]; rfl
  ·rfl
theorem e_isFull:V_isFull=needEI P [F_balanceOf,F_seasonOf,F_maxI] [F_each] I_isFull A_isFull F_isFull:=by kernel_rfl
theorem n_isFull:Ob (needEI P [F_balanceOf,F_seasonOf,F_maxI] [F_each] I_isFull A_isFull F_isFull):=by
 rw [← e_isFull]
 exact⟨v_isFull⟩
theorem b_isFull:((P.funcs[57]?).any fun fn=>fn.body.isSome)=true:=by kernel_rfl
theorem isFull_ok:FnE.Ok P F_isFull:=FnE.okI named (l:=[F_balanceOf,F_seasonOf,F_maxI]) (es:=[F_each]) (I:=I_isFull) (A:=A_isFull) (by rfl) (by rfl) (by rfl) (by
 intro F h
 simp only [List.mem_cons,List.not_mem_nil,or_false]at h
 rcases h with rfl | rfl | rfl
 ·exact balanceOf_ok
 ·exact seasonOf_ok
 ·exact maxI_ok
) (by
 intro F h
 simp only [List.mem_cons,List.not_mem_nil,or_false]at h
 rcases h with rfl
 ·exact each_ok
) b_isFull (by
 intro ds h o ho n sz e k z he
 subst he
 simp only [F_isFull]at ho
 split at ho<;>simp at ho) n_isFull
end Go.Proofs.Ytfebjikidfcbcaa.Sy
