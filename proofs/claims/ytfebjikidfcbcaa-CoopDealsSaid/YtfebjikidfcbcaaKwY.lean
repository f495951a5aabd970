import Derived.Test.YtfebjikidfcbcaaSyP2
import Derived.Test.YtfebjikidfcbcaaGrM
import Derived.Test.YtfebjikidfcbcaaStM
import Derived.Test.YtfebjikidfcbcaaLrM
import Derived.Test.YtfebjikidfcbcaaDhM
import Derived.Test.YtfebjikidfcbcaaKtT
import Derived.Test.YtfebjikidfcbcaaKtA
import Derived.Test.YtfebjikidfcbcaaKtB
import Derived.Test.YtfebjikidfcbcaaKwA
import Derived.Test.YtfebjikidfcbcaaKwB
import Derived.Test.YtfebjikidfcbcaaKwC
import Derived.Test.YtfebjikidfcbcaaKwD
import Derived.Test.YtfebjikidfcbcaaKwE
import Derived.Test.YtfebjikidfcbcaaKwF
import Derived.Test.YtfebjikidfcbcaaKwI
import Derived.Test.YtfebjikidfcbcaaKwJ
import Derived.Test.YtfebjikidfcbcaaKwK
import Derived.Test.YtfebjikidfcbcaaKwM
import Derived.Test.YtfebjikidfcbcaaKwN
import Derived.Test.YtfebjikidfcbcaaKwX
import Derived.Test.YtfebjikidfcbcaaSyP2
import Derived.KernelRfl
import Derived.Test.YtfebjikidfcbcaaProg
namespace Go.Proofs.Ytfebjikidfcbcaa.Sy
open Go Go.Rv
set_option linter.unusedVariables false
theorem row4c (L M:Rows) (k:Nat):eqRow L M k 4↔(cell L k 0=cell M k 0∧cell L k 1=cell M k 1∧cell L k 2=cell M k 2∧cell L k 3=cell M k 3):=⟨fun h=>⟨h.1.1.1.2,h.1.1.2,h.1.2,h.2⟩,fun h=>⟨⟨⟨⟨trivial,h.1⟩,h.2.1⟩,h.2.2.1⟩,h.2.2.2⟩⟩
noncomputable def F_OwnDeals:FnE:=⟨14,none,[.one (.l [.i64,.i64,.i64,.i64])],fun l=>match l with | [.l R]=>R.length≤4000000 | _=>False,fun l=>match l with | [.l R]=>[.gsl 0 R.length 4 false] | _=>[],fun l=>match l with | [.l R]=>[.gr R.length 4 (.fn (Rv.elemOf [.i64,.i64,.i64,.i64] R)) .gr false] | _=>[],fun l=>match l with | [.l R]=>[] | _=>[],false,none,none⟩
noncomputable def A_OwnDeals:List SV→List Dat→Nat→List SV→Ann:=fun _ _ _ _=>noAnn
def V_OwnDeals:Prop:=
 ∀(B:RW) (b:RV) (a:List (List Int)),IsLst B b a.length 4 (Rv.elemOf I4 a)→oneB b=true→(∀row∈a,row.length=4)→F_OwnDeals.pre ([Dat.l a]++[])→LsA B b I4 a∧(a.length=(0:Nat)→Ob ((0:Nat)=a.length)∧EqA (0:Nat) a.length (litEl (symL (replS 0 (List.map SV.v (Value.agg #[Value.int .i64 (0:Int),Value.int .i64 (0:Int),Value.int .i64 (0:Int),Value.int .i64 (0:Int)]).cells.toList))) 4 0) (El.fn (Rv.elemOf I4 a))∧PlA I4 a∧True)∧(¬a.length=(0:Nat)→Ob (((0:Nat)+a.length)*(2:Nat)*(33:Nat)≤1099511627776)∧Ob ((0:Nat) < 0+((0:Nat)+a.length)*(4:Nat))∧Ob ((0:Nat)+a.length=a.length)∧EqA ((0:Nat)+a.length) a.length (behind 0 (litEl (symL (replS 0 (List.map SV.v (Value.agg #[Value.int .i64 (0:Int),Value.int .i64 (0:Int),Value.int .i64 (0:Int),Value.int .i64 (0:Int)]).cells.toList))) 4 0) a.length (El.fn (Rv.elemOf I4 a))) (El.fn (Rv.elemOf I4 a))∧PlA I4 a∧True)
set_option linter.unusedSimpArgs false in
set_option maxRecDepth 4000 in
set_option maxHeartbeats 400000 in
theorem v_OwnDeals:V_OwnDeals:=by
 unfold V_OwnDeals EqA I4 LsA PlA
 intro B x R hx ho hr h
 simp only [F_OwnDeals,List.cons_append,List.nil_append,Ob_iff]at h ⊢
 refine⟨hx,fun h0=>⟨h0.symm,⟨h0.symm,fun i hi=>by omega⟩,plain_elemOf _ _ _,trivial⟩,fun h0=>⟨by omega,by omega,by omega,⟨by omega,fun i _=>behind_at _ _ _ _⟩,plain_elemOf _ _ _,trivial⟩⟩
theorem e_OwnDeals:V_OwnDeals=needE P [] [] A_OwnDeals F_OwnDeals:=by kernel_rfl
theorem n_OwnDeals:Ob (needE P [] [] A_OwnDeals F_OwnDeals):=by
 rw [← e_OwnDeals]
 exact⟨v_OwnDeals⟩
theorem b_OwnDeals:((P.funcs[14]?).any fun fn=>fn.body.isSome)=true:=by kernel_rfl
theorem OwnDeals_ok:FnE.Ok P F_OwnDeals:=FnE.ok named (l:=[]) (es:=[]) (A:=A_OwnDeals) (by rfl) (by rfl) (by rfl) (by
 intro F h; simp at h) (by
 intro F h; simp at h) b_OwnDeals (by
 intro ds h o ho n sz e k z he
 subst he
 simp only [F_OwnDeals]at ho
 split at ho
 ·simp only [List.mem_cons,List.not_mem_nil,or_false,SObj.gr.injEq]at ho
  obtain⟨rfl,rfl,rfl,rfl,rfl⟩:=ho
  exact plain_elemOf _ _ _
 ·simp at ho) n_OwnDeals
noncomputable def F_SameDeals:Fn0:=⟨21,[.one (.l [.i64,.i64,.i64,.i64]),.one (.l [.i64,.i64,.i64,.i64])],fun l=>match l with | [.l R,.l S]=>R.length≤4000000∧S.length≤4000000 | _=>False,fun l=>match l with | [.l R,.l S]=>.p (samTo 4 R S R.length) | _=>.v undef⟩
noncomputable def A_SameDeals:List SV→List Dat→Nat→List SV→Ann:=fun xs ds n ts=>match xs with
 | [.lst x _ _ _,.lst y _ _ _]=>match ds with
  | [.l R,.l S]=>match n with
   | 3=>⟨Nat,fun k=>([some (SV.lst x R.length ((4:Nat)) (Rv.elemOf [IntKind.i64,IntKind.i64,IntKind.i64,IntKind.i64] R)),some (SV.lst y S.length ((4:Nat)) (Rv.elemOf [IntKind.i64,IntKind.i64,IntKind.i64,IntKind.i64] S)),none,none,some (SV.v (Value.bool false)),some (.p (samTo 4 R S k)),some (.i .i64 k)]++nN 24),fun k=>[],fun k=>k≤R.length,fun k=>R.length-k,0⟩
   | _=>noAnn
  | _=>noAnn
 | _=>noAnn
def V_SameDeals:Prop:=
 ∀(B:RW) (d:RV) (a:List (List Int)),IsLst B d a.length 4 (Rv.elemOf I4 a)→oneB d=true→(∀row∈a,row.length=4)→∀(e:RV) (b:List (List Int)),IsLst B e b.length 4 (Rv.elemOf I4 b)→oneB e=true→(∀row∈b,row.length=4)→a.length≤4000000∧b.length≤4000000→LsA B d I4 a∧LsA B e I4 b∧(∃(c:Nat),Ob (c≤a.length)∧Ob (SV.lst d a.length 4 (Rv.elemOf I4 a)=SV.lst d a.length 4 (Rv.elemOf I4 a))∧Ob (SV.lst e b.length 4 (Rv.elemOf I4 b)=SV.lst e b.length 4 (Rv.elemOf I4 b))∧Ob (SV.v (Value.bool false)=SV.v (Value.bool false))∧Ob ((↑a.length:Int)=(↑b.length:Int)↔samTo 4 a b c)∧Ob ((0:Int)=(↑c:Int))∧LsA B d I4 a∧LsA B e I4 b∧True)∧∀(c:Nat),c≤a.length→∀(_ _ _ _ _ _ _ _ _ _ _ _ _ _ _ _ _ _ _ _ _ _ _ _ _ _:Value),(samTo 4 a b c→LsA B d I4 a∧((↑c:Int) < (↑a.length:Int)→LsA B d I4 a∧Ob ((0:Int)≤(↑c:Int)∧c < a.length∧IsLst B d a.length 4 (Rv.elemOf I4 a))∧Ob (IsLst B d a.length 4 (Rv.elemOf I4 a)∧c < a.length)∧Ob (IsLst B d a.length 4 (Rv.elemOf I4 a)∧c < a.length)∧LsA B e I4 b∧Ob ((0:Int)≤(↑c:Int)∧c < b.length∧IsLst B e b.length 4 (Rv.elemOf I4 b))∧Ob (IsLst B e b.length 4 (Rv.elemOf I4 b)∧c < b.length)∧Ob (IsLst B e b.length 4 (Rv.elemOf I4 b)∧c < b.length)∧Ob (InR .i64 ((↑c:Int)+(1:Int)))∧∃(f:Nat),Ob (f≤a.length∧a.length-f < a.length-c)∧Ob (SV.lst d a.length 4 (Rv.elemOf I4 a)=SV.lst d a.length 4 (Rv.elemOf I4 a))∧Ob (SV.lst e b.length 4 (Rv.elemOf I4 b)=SV.lst e b.length 4 (Rv.elemOf I4 b))∧Ob (SV.v (Value.bool false)=SV.v (Value.bool false))∧Ob (cell a c 0=cell b c 0∧cell a c 1=cell b c 1∧cell a c 2=cell b c 2∧cell a c 3=cell b c 3∧True↔samTo 4 a b f)∧Ob ((↑c:Int)+(1:Int)=(↑f:Int))∧LsA B d I4 a∧LsA B e I4 b∧True)∧(¬(↑c:Int) < (↑a.length:Int)→Ob (samTo 4 a b c↔samTo 4 a b a.length)∧True))∧(¬samTo 4 a b c→Ob (samTo 4 a b c↔samTo 4 a b a.length)∧True)
set_option linter.unusedSimpArgs false in
set_option maxRecDepth 4000 in
set_option maxHeartbeats 400000 in
theorem v_SameDeals:V_SameDeals:=by
 unfold V_SameDeals I4 LsA
 intro B x R hx hox hrx y S hy hoy hry ⟨hR,hS⟩
 simp only [Ob_iff,and_true,true_and,InR]
 have z0:=sam_zero 4 R S
 have body:∀k,k≤R.length→samTo 4 R S k→(k:Int) < (R.length:Int)→k < S.length:=fun k h1 h2 h3=>by
  have:=h2.1
  omega
 have e0:∀k,k≤R.length→¬ samTo 4 R S k→(samTo 4 R S k↔samTo 4 R S R.length):=fun k h1 h2=>⟨fun h=>absurd h h2,fun h=>absurd h (sam_stop h1 h2)⟩
 have e1:∀k,k≤R.length→¬ (k:Int) < (R.length:Int)→(samTo 4 R S k↔samTo 4 R S R.length):=fun k h1 h2=>by
  have e:k=R.length:=by omega
  subst e
  exact Iff.rfl
 refine⟨hx,hy,⟨0,?_⟩,?_⟩
 ·rw [z0]
  repeat' (with_reducible apply And.intro)
  all_goals first | exact hx | exact hy | omega | trivial
 intro k hk
 intros
 refine⟨fun h3=>⟨hx,fun h4=>?_,fun h4=>e1 k hk h4⟩,fun h3=>e0 k hk h3⟩
 have hkR:k < R.length:=by omega
 have hkS:=body k hk h3 h4
 have nx:=(sam_succ h3).trans (row4c R S k)
 repeat' (with_reducible apply And.intro)
 all_goals first | exact hx | exact hy | exact hkR | exact hkS | omega | skip
 refine⟨k+1,?_⟩
 repeat' (with_reducible apply And.intro)
 all_goals first | exact hx | exact hy | exact nx.symm | omega | trivial
theorem e_SameDeals:V_SameDeals=needF P [] A_SameDeals F_SameDeals:=by kernel_rfl
theorem n_SameDeals:Ob (needF P [] A_SameDeals F_SameDeals):=by
 rw [← e_SameDeals]
 exact⟨v_SameDeals⟩
theorem b_SameDeals:((P.funcs[21]?).any fun fn=>fn.body.isSome)=true:=by kernel_rfl
theorem SameDeals_ok:Fn0.Ok P F_SameDeals:=Fn0.ok named (l:=[]) (A:=A_SameDeals) (by rfl) (by
 intro F h; simp at h) b_SameDeals (by
 intro ds N
 simp only [F_SameDeals]
 split<;>rfl) n_SameDeals
noncomputable def F_SameErrors:Fn0:=⟨20,[.one (.l [.i64]),.one (.l [.i64])],fun l=>match l with | [.l R,.l S]=>R.length≤4000000∧S.length≤4000000 | _=>False,fun l=>match l with | [.l R,.l S]=>.p (samTo 1 R S R.length) | _=>.v undef⟩
noncomputable def A_SameErrors:List SV→List Dat→Nat→List SV→Ann:=fun xs ds n ts=>match xs with
 | [.lst x _ _ _,.lst y _ _ _]=>match ds with
  | [.l R,.l S]=>match n with
   | 3=>⟨Nat,fun k=>([some (SV.lst x R.length ((1:Nat)) (Rv.elemOf [IntKind.i64] R)),some (SV.lst y S.length ((1:Nat)) (Rv.elemOf [IntKind.i64] S)),none,none,some (SV.v (Value.bool false)),some (.p (samTo 1 R S k)),some (.i .i64 k)]++nN 24),fun k=>[],fun k=>k≤R.length,fun k=>R.length-k,0⟩
   | _=>noAnn
  | _=>noAnn
 | _=>noAnn
def V_SameErrors:Prop:=
 ∀(B:RW) (d:RV) (a:List (List Int)),IsLst B d a.length 1 (Rv.elemOf [.i64] a)→oneB d=true→(∀row∈a,row.length=1)→∀(e:RV) (b:List (List Int)),IsLst B e b.length 1 (Rv.elemOf [.i64] b)→oneB e=true→(∀row∈b,row.length=1)→a.length≤4000000∧b.length≤4000000→LsA B d [.i64] a∧LsA B e [.i64] b∧(∃(c:Nat),Ob (c≤a.length)∧Ob (SV.lst d a.length 1 (Rv.elemOf [.i64] a)=SV.lst d a.length 1 (Rv.elemOf [.i64] a))∧Ob (SV.lst e b.length 1 (Rv.elemOf [.i64] b)=SV.lst e b.length 1 (Rv.elemOf [.i64] b))∧Ob (SV.v (Value.bool false)=SV.v (Value.bool false))∧Ob ((↑a.length:Int)=(↑b.length:Int)↔samTo 1 a b c)∧Ob ((0:Int)=(↑c:Int))∧LsA B d [.i64] a∧LsA B e [.i64] b∧True)∧∀(c:Nat),c≤a.length→∀(_ _ _ _ _ _ _ _ _ _ _ _ _ _ _ _ _ _ _ _ _ _ _ _ _ _:Value),(samTo 1 a b c→LsA B d [.i64] a∧((↑c:Int) < (↑a.length:Int)→LsA B d [.i64] a∧Ob ((0:Int)≤(↑c:Int)∧c < a.length∧IsLst B d a.length 1 (Rv.elemOf [.i64] a))∧Ob (IsLst B d a.length 1 (Rv.elemOf [.i64] a)∧c < a.length)∧Ob (IsLst B d a.length 1 (Rv.elemOf [.i64] a)∧c < a.length)∧LsA B e [.i64] b∧Ob ((0:Int)≤(↑c:Int)∧c < b.length∧IsLst B e b.length 1 (Rv.elemOf [.i64] b))∧Ob (IsLst B e b.length 1 (Rv.elemOf [.i64] b)∧c < b.length)∧Ob (IsLst B e b.length 1 (Rv.elemOf [.i64] b)∧c < b.length)∧Ob (InR .i64 ((↑c:Int)+(1:Int)))∧∃(f:Nat),Ob (f≤a.length∧a.length-f < a.length-c)∧Ob (SV.lst d a.length 1 (Rv.elemOf [.i64] a)=SV.lst d a.length 1 (Rv.elemOf [.i64] a))∧Ob (SV.lst e b.length 1 (Rv.elemOf [.i64] b)=SV.lst e b.length 1 (Rv.elemOf [.i64] b))∧Ob (SV.v (Value.bool false)=SV.v (Value.bool false))∧Ob (cell a c 0=cell b c 0↔samTo 1 a b f)∧Ob ((↑c:Int)+(1:Int)=(↑f:Int))∧LsA B d [.i64] a∧LsA B e [.i64] b∧True)∧(¬(↑c:Int) < (↑a.length:Int)→Ob (samTo 1 a b c↔samTo 1 a b a.length)∧True))∧(¬samTo 1 a b c→Ob (samTo 1 a b c↔samTo 1 a b a.length)∧True)
set_option linter.unusedSimpArgs false in
set_option maxRecDepth 4000 in
set_option maxHeartbeats 400000 in
theorem v_SameErrors:V_SameErrors:=by
 unfold V_SameErrors LsA
 intro B x R hx hox hrx y S hy hoy hry ⟨hR,hS⟩
 simp only [Ob_iff,and_true,true_and,InR]
 have z0:=sam_zero 1 R S
 have body:∀k,k≤R.length→samTo 1 R S k→(k:Int) < (R.length:Int)→k < S.length:=fun k h1 h2 h3=>by
  have:=h2.1
  omega
 have e0:∀k,k≤R.length→¬ samTo 1 R S k→(samTo 1 R S k↔samTo 1 R S R.length):=fun k h1 h2=>⟨fun h=>absurd h h2,fun h=>absurd h (sam_stop h1 h2)⟩
 have e1:∀k,k≤R.length→¬ (k:Int) < (R.length:Int)→(samTo 1 R S k↔samTo 1 R S R.length):=fun k h1 h2=>by
  have e:k=R.length:=by omega
  subst e
  exact Iff.rfl
 refine⟨hx,hy,⟨0,?_⟩,?_⟩
 ·rw [z0]
  repeat' (with_reducible apply And.intro)
  all_goals first | exact hx | exact hy | omega | trivial
 intro k hk
 intros
 refine⟨fun h3=>⟨hx,fun h4=>?_,fun h4=>e1 k hk h4⟩,fun h3=>e0 k hk h3⟩
 have hkR:k < R.length:=by omega
 have hkS:=body k hk h3 h4
 have nx:=(sam_succ h3).trans (row1 R S k)
 repeat' (with_reducible apply And.intro)
 all_goals first | exact hx | exact hy | exact hkR | exact hkS | omega | skip
 refine⟨k+1,?_⟩
 repeat' (with_reducible apply And.intro)
 all_goals first | exact hx | exact hy | exact nx.symm | omega | trivial
theorem e_SameErrors:V_SameErrors=needF P [] A_SameErrors F_SameErrors:=by kernel_rfl
theorem n_SameErrors:Ob (needF P [] A_SameErrors F_SameErrors):=by
 rw [← e_SameErrors]
 exact⟨v_SameErrors⟩
theorem b_SameErrors:((P.funcs[20]?).any fun fn=>fn.body.isSome)=true:=by kernel_rfl
theorem SameErrors_ok:Fn0.Ok P F_SameErrors:=Fn0.ok named (l:=[]) (A:=A_SameErrors) (by rfl) (by
 intro F h; simp at h) b_SameErrors (by
 intro ds N
 simp only [F_SameErrors]
 split<;>rfl) n_SameErrors
end Go.Proofs.Ytfebjikidfcbcaa.Sy
