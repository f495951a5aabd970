import Derived.Test.YtkdehhcadhainaaSyP4
import Derived.Test.YtkdehhcadhainaaGrM
import Derived.Test.YtkdehhcadhainaaKtT
import Derived.Test.YtkdehhcadhainaaSyP2
import Derived.KernelRfl
import Derived.Test.YtkdehhcadhainaaProg
namespace Go.Proofs.Ytkdehhcadhainaa.Sy
open Go Go.Rv
set_option linter.unusedVariables false
def eqRow (L M:Rows) (i:Nat):Nat→Prop
 | 0=>True
 | c+1=>eqRow L M i c∧cell L i c=cell M i c
def samTo (w:Nat) (L M:Rows) (k:Nat):Prop:=L.length=M.length∧∀i,i < k→eqRow L M i w
theorem sam_zero (w:Nat) (L M:Rows):samTo w L M 0↔L.length=M.length:=⟨fun h=>h.1,fun h=>⟨h,fun i hi=>absurd hi (Nat.not_lt_zero i)⟩⟩
theorem sam_succ {w:Nat} {L M:Rows} {k:Nat} (h:samTo w L M k):samTo w L M (k+1)↔eqRow L M k w:=by
 constructor
 ·intro h2
  exact h2.2 k (by omega)
 ·intro h2
  refine⟨h.1,fun i hi=>?_⟩
  by_cases e:i=k
  ·subst e; exact h2
  ·exact h.2 i (by omega)
theorem sam_stop {w:Nat} {L M:Rows} {k n:Nat} (hk:k≤n) (h:¬ samTo w L M k):¬ samTo w L M n:=fun h2=>h ⟨h2.1,fun i hi=>h2.2 i (by omega)⟩
theorem row1 (L M:Rows) (k:Nat):eqRow L M k 1↔cell L k 0=cell M k 0:=⟨fun h=>h.2,fun h=>⟨trivial,h⟩⟩
noncomputable def F_Ints:FnE:=⟨16,none,[.one (.l [.i64])],fun l=>match l with | [.l R]=>R.length≤4000000 | _=>False,fun l=>match l with | [.l R]=>[.gsl 0 R.length 1 false] | _=>[],fun l=>match l with | [.l R]=>[.gr R.length 1 (.fn (Rv.elemOf [.i64] R)) .gr false] | _=>[],fun l=>match l with | [.l R]=>[] | _=>[],false,none,none⟩
noncomputable def A_Ints:List SV→List Dat→Nat→List SV→Ann:=fun _ _ _ _=>noAnn
def V_Ints:Prop:=
 ∀(B:RW) (b:RV) (a:List (List Int)),IsLst B b a.length 1 (Rv.elemOf [.i64] a)→oneB b=true→(∀row∈a,row.length=1)→F_Ints.pre ([Dat.l a]++[])→LsA B b [.i64] a∧(a.length=(0:Nat)→Ob ((0:Nat)=a.length)∧EqA (0:Nat) a.length (litEl (symL (replS 0 (List.map SV.v (Value.int .i64 (0:Int)).cells.toList))) 1 0) (El.fn (Rv.elemOf [.i64] a))∧PlA [.i64] a∧True)∧(¬a.length=(0:Nat)→Ob (((0:Nat)+a.length)*(2:Nat)*(9:Nat)≤1099511627776)∧Ob ((0:Nat) < 0+((0:Nat)+a.length)*(1:Nat))∧Ob ((0:Nat)+a.length=a.length)∧EqA ((0:Nat)+a.length) a.length (behind 0 (litEl (symL (replS 0 (List.map SV.v (Value.int .i64 (0:Int)).cells.toList))) 1 0) a.length (El.fn (Rv.elemOf [.i64] a))) (El.fn (Rv.elemOf [.i64] a))∧PlA [.i64] a∧True)
set_option linter.unusedSimpArgs false in
set_option maxRecDepth 4000 in
set_option maxHeartbeats 400000 in
theorem v_Ints:V_Ints:=by
 unfold V_Ints EqA LsA PlA
 intro B x R hx ho hr h
 simp only [F_Ints,List.cons_append,List.nil_append,Ob_iff]at h ⊢
 refine⟨hx,fun h0=>⟨h0.symm,⟨h0.symm,fun i hi=>by omega⟩,plain_elemOf _ _ _,trivial⟩,fun h0=>⟨by omega,by omega,by omega,⟨by omega,fun i _=>behind_at _ _ _ _⟩,plain_elemOf _ _ _,trivial⟩⟩
theorem e_Ints:V_Ints=needE P [] [] A_Ints F_Ints:=by kernel_rfl
theorem n_Ints:Ob (needE P [] [] A_Ints F_Ints):=by
 rw [← e_Ints]
 exact⟨v_Ints⟩
theorem b_Ints:((P.funcs[16]?).any fun fn=>fn.body.isSome)=true:=by kernel_rfl
theorem Ints_ok:FnE.Ok P F_Ints:=FnE.ok named (l:=[]) (es:=[]) (A:=A_Ints) (by rfl) (by rfl) (by rfl) (by
 intro F h; simp at h) (by
 intro F h; simp at h) b_Ints (by
 intro ds h o ho n sz e k z he
 subst he
 simp only [F_Ints]at ho
 split at ho
 ·simp only [List.mem_cons,List.not_mem_nil,or_false,SObj.gr.injEq]at ho
  obtain⟨rfl,rfl,rfl,rfl,rfl⟩:=ho
  exact plain_elemOf _ _ _
 ·simp at ho) n_Ints
noncomputable def F_SameInts:Fn0:=⟨22,[.one (.l [.i64]),.one (.l [.i64])],fun l=>match l with | [.l R,.l S]=>R.length≤4000000∧S.length≤4000000 | _=>False,fun l=>match l with | [.l R,.l S]=>.p (samTo 1 R S R.length) | _=>.v undef⟩
noncomputable def A_SameInts:List SV→List Dat→Nat→List SV→Ann:=fun xs ds n ts=>match xs with
 | [.lst x _ _ _,.lst y _ _ _]=>match ds with
  | [.l R,.l S]=>match n with
   | 3=>⟨Nat,fun k=>([some (SV.lst x R.length ((1:Nat)) (Rv.elemOf [IntKind.i64] R)),some (SV.lst y S.length ((1:Nat)) (Rv.elemOf [IntKind.i64] S)),none,none,some (SV.v (Value.bool false)),some (.p (samTo 1 R S k)),some (.i .i64 k)]++nN 24),fun k=>[],fun k=>k≤R.length,fun k=>R.length-k,0⟩
   | _=>noAnn
  | _=>noAnn
 | _=>noAnn
def V_SameInts:Prop:=
 ∀(B:RW) (d:RV) (a:List (List Int)),IsLst B d a.length 1 (Rv.elemOf [.i64] a)→oneB d=true→(∀row∈a,row.length=1)→∀(e:RV) (b:List (List Int)),IsLst B e b.length 1 (Rv.elemOf [.i64] b)→oneB e=true→(∀row∈b,row.length=1)→a.length≤4000000∧b.length≤4000000→LsA B d [.i64] a∧LsA B e [.i64] b∧(∃(c:Nat),Ob (c≤a.length)∧Ob (SV.lst d a.length 1 (Rv.elemOf [.i64] a)=SV.lst d a.length 1 (Rv.elemOf [.i64] a))∧Ob (SV.lst e b.length 1 (Rv.elemOf [.i64] b)=SV.lst e b.length 1 (Rv.elemOf [.i64] b))∧Ob (SV.v (Value.bool false)=SV.v (Value.bool false))∧Ob ((↑a.length:Int)=(↑b.length:Int)↔samTo 1 a b c)∧Ob ((0:Int)=(↑c:Int))∧LsA B d [.i64] a∧LsA B e [.i64] b∧True)∧∀(c:Nat),c≤a.length→∀(_ _ _ _ _ _ _ _ _ _ _ _ _ _ _ _ _ _ _ _ _ _ _ _ _ _:Value),(samTo 1 a b c→LsA B d [.i64] a∧((↑c:Int) < (↑a.length:Int)→LsA B d [.i64] a∧Ob ((0:Int)≤(↑c:Int)∧c < a.length∧IsLst B d a.length 1 (Rv.elemOf [.i64] a))∧Ob (IsLst B d a.length 1 (Rv.elemOf [.i64] a)∧c < a.length)∧Ob (IsLst B d a.length 1 (Rv.elemOf [.i64] a)∧c < a.length)∧LsA B e [.i64] b∧Ob ((0:Int)≤(↑c:Int)∧c < b.length∧IsLst B e b.length 1 (Rv.elemOf [.i64] b))∧Ob (IsLst B e b.length 1 (Rv.elemOf [.i64] b)∧c < b.length)∧Ob (IsLst B e b.length 1 (Rv.elemOf [.i64] b)∧c < b.length)∧Ob (InR .i64 ((↑c:Int)+(1:Int)))∧∃(f:Nat),Ob (f≤a.length∧a.length-f < a.length-c)∧Ob (SV.lst d a.length 1 (Rv.elemOf [.i64] a)=SV.lst d a.length 1 (Rv.elemOf [.i64] a))∧Ob (SV.lst e b.length 1 (Rv.elemOf [.i64] b)=SV.lst e b.length 1 (Rv.elemOf [.i64] b))∧Ob (SV.v (Value.bool false)=SV.v (Value.bool false))∧Ob (cell a c 0=cell b c 0↔samTo 1 a b f)∧Ob ((↑c:Int)+(1:Int)=(↑f:Int))∧LsA B d [.i64] a∧LsA B e [.i64] b∧True)∧(¬(↑c:Int) < (↑a.length:Int)→Ob (samTo 1 a b c↔samTo 1 a b a.length)∧True))∧(¬samTo 1 a b c→Ob (samTo 1 a b c↔samTo 1 a b a.length)∧True)
set_option linter.unusedSimpArgs false in
set_option maxRecDepth 4000 in
set_option maxHeartbeats 400000 in
theorem v_SameInts:V_SameInts:=by
 unfold V_SameInts LsA
 intro B x R hx hox hrx y S hy hoy hry ⟨hR,hS⟩
 simp only [Ob_iff,and_true,true_and,InR]
 have z0:=sam_zero 1 R S
 have body:∀k,k≤R.length→samTo 1 R S k→(k:Int) < (R.length:Int)→k < S.length:=fun k h1 h2 h3=>by
  have:=h2.1
  omega
 have e0:∀k,k≤R.length→¬ samTo 1 R S k→(samTo 1 R S k↔samTo 1 R S R.length):=fun k h1 h2=>⟨fun h=>absurd h h2,fun h=>absurd h (sam_stop h1 h2)⟩
 have e1:∀k,k≤R.length→¬ (k:Int) < (R.length:Int)→(samTo 1 R S k↔samTo 1 R S R.length):=fun k h1 h2=>by
  have e:k=R.length:=by omega
  subst e
  exact Iff.rfl
 refine⟨hx,hy,⟨0,?_⟩,?_⟩
 ·rw [z0]
  repeat' (with_reducible apply And.intro)
  all_goals first | exact hx | exact hy | omega | trivial
 intro k hk
 intros
 refine⟨fun h3=>⟨hx,fun h4=>?_,fun h4=>e1 k hk h4⟩,fun h3=>e0 k hk h3⟩
 have hkR:k < R.length:=by omega
 have hkS:=body k hk h3 h4
 have nx:=(sam_succ h3).trans (row1 R S k)
 repeat' (with_reducible apply And.intro)
 all_goals first | exact hx | exact hy | exact hkR | exact hkS | omega | skip
 refine⟨k+1,?_⟩
 repeat' (with_reducible apply And.intro)
 all_goals first | exact hx | exact hy | exact nx.symm | omega | trivial
theorem e_SameInts:V_SameInts=needF P [] A_SameInts F_SameInts:=by kernel_rfl
theorem n_SameInts:Ob (needF P [] A_SameInts F_SameInts):=by
 rw [← e_SameInts]
 exact⟨v_SameInts⟩
theorem b_SameInts:((P.funcs[22]?).any fun fn=>fn.body.isSome)=true:=by kernel_rfl
theorem SameInts_ok:Fn0.Ok P F_SameInts:=Fn0.ok named (l:=[]) (A:=A_SameInts) (by rfl) (by
 intro F h; simp at h) b_SameInts (by
 intro ds N
 simp only [F_SameInts]
 split<;>rfl) n_SameInts
end Go.Proofs.Ytkdehhcadhainaa.Sy
