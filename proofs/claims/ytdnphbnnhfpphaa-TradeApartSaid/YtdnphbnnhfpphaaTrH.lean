import Derived.Test.YtdnphbnnhfpphaaSyP2
import Derived.Test.YtdnphbnnhfpphaaGrM
import Derived.Test.YtdnphbnnhfpphaaKtT
import Derived.Test.YtdnphbnnhfpphaaTrA
import Derived.Test.YtdnphbnnhfpphaaTrN
import Derived.Test.YtdnphbnnhfpphaaTrB
import Derived.Test.YtdnphbnnhfpphaaTrC
import Derived.Test.YtdnphbnnhfpphaaTrD
import Derived.Test.YtdnphbnnhfpphaaTrG
import Derived.Test.YtdnphbnnhfpphaaSyP2
import Derived.KernelRfl
import Derived.Test.YtdnphbnnhfpphaaProg
namespace Go.Proofs.Ytdnphbnnhfpphaa.Sy
open Go Go.Rv
set_option linter.unusedVariables false
theorem ld_zero {n:Nat} {L:Rows} (h:¬ ldErr L=0):ldN n L=0:=by
 by_cases e:∀k,k < L.length→clAt L k
 ·exact absurd (ld_ok (n:=n) e).1 h
 ·unfold ldN
  rw [if_neg e]
noncomputable def F_BookE:FnE:=⟨8,none,[.one (.l [.u16,.i64,.i64,.i8,.i8,.i64]),.one (.l [.i64,.i64,.i64,.i64])],fun l=>match l with | [.l R,.l L]=>MkOk R∧LpOk R.length L | _=>False,fun l=>match l with | [.l R,.l L]=>[.gsl 0 (ldN R.length L) 11 true,.i .i64 (ldErr L)] | _=>[],fun l=>match l with | [.l R,.l L]=>[.gr (ldN R.length L) 11 (.fn (bkF L L.length)) .gr true] | _=>[],fun l=>match l with | [.l R,.l L]=>[] | _=>[],false,none,none⟩
noncomputable def A_BookE:List SV→List Dat→Nat→List SV→Ann:=fun xs ds n ts=>match xs with
 | [.lst x _ _ _,.lst y _ _ _]=>match ds with
  | [.l R,.l L]=>match n with
   | 6=>⟨Nat,fun k=>([none,none,none,none,some (SV.v (Value.slice none ((0:Nat)) ((0:Nat)))),some (SV.v (Value.int IntKind.i64 (0:Int))),none,none,some (.gsl 1 k 11 true)]++nN 11++[some (SV.gsl ((0:Nat)) (ldN R.length L) ((14:Nat)) true),some (SV.i IntKind.i64 (↑(ldN R.length L):Int)),some (.i .i64 k)]++nN 10),fun k=>[.gr k 11 (.fn (bkF L L.length)) .gr true,SObj.gr (ldN R.length L) ((14:Nat)) (El.fn (stF L L.length)) Kd.gr true],fun k=>k≤ldN R.length L,fun k=>ldN R.length L-k,0⟩
   | _=>noAnn
  | _=>noAnn
 | _=>noAnn
def V_BookE:Prop:=
 ∀(B:RW) (i:RV) (c:List (List Int)),IsLst B i c.length 6 (Rv.elemOf [IntKind.u16,.i64,.i64,IntKind.i8,IntKind.i8,.i64] c)→oneB i=true→(∀row∈c,row.length=6)→(∀(f:List Int),f∈c→canR [IntKind.u16,.i64,.i64,IntKind.i8,IntKind.i8,.i64] f)→∀(j:RV) (a:List (List Int)),IsLst B j a.length 4 (Rv.elemOf I4 a)→oneB j=true→(∀row∈a,row.length=4)→F_BookE.pre ([Dat.l c]++([Dat.l a]++[]))→∃(e:List (List Int)),Ob (IsLst B i c.length 6 (Rv.elemOf [IntKind.u16,.i64,.i64,IntKind.i8,IntKind.i8,.i64] c)∧e.length=c.length∧(∀f∈e,f.length=6)∧∀(g:Nat),g < c.length→Rv.elemOf [IntKind.u16,.i64,.i64,IntKind.i8,IntKind.i8,.i64] c g=Rv.elemOf [IntKind.u16,.i64,.i64,IntKind.i8,IntKind.i8,.i64] e g)∧Ob (∀(f:List Int),f∈e→canR [IntKind.u16,.i64,.i64,IntKind.i8,IntKind.i8,.i64] f)∧RwB B j a.length 4 I4 a fun d=>Ob (F_doAllE.pre [Dat.l e,Dat.l d])∧(¬ldErr d=(0:Int)→Ob (ldN c.length a=(0:Nat))∧Ob (ldErr d=ldErr a)∧Ob (ldN c.length a=(0:Nat))∧Ob (PlainE (ldN c.length a) (El.fn (bkF a a.length)))∧True)∧(¬¬ldErr d=(0:Int)→(∃(b:Nat),Ob (b≤ldN c.length a)∧Ob (SV.v (Value.slice none 0 0)=SV.v (Value.slice none 0 0))∧Ob (Value.int .i64 (0:Int)=Value.int .i64 (0:Int))∧Ob (b=(0:Nat))∧Ob (ldN e.length d=ldN c.length a)∧Ob ((↑(ldN e.length d):Int)=(↑(ldN c.length a):Int))∧Ob ((0:Int)=(↑b:Int))∧Ob (b=(0:Nat))∧EqA (ldN e.length d) (ldN c.length a) (El.fn (stF d d.length)) (El.fn (stF a a.length))∧Ob (PlainE b (El.fn (bkF a a.length)))∧Ob (PlainE (ldN c.length a) (El.fn (stF a a.length)))∧True)∧∀(b:Nat),b≤ldN c.length a→∀(_ _ _ _ _ _ _ _ _ _ _ _ _ _ _ _ _ _ _ _ _ _ _ _ _ _ _:Value),((↑b:Int) < (↑(ldN c.length a):Int)→Ob ((0:Int)≤(↑b:Int)∧b < ldN c.length a)∧Ob (b < ldN c.length a)∧Ob True∧Ob (b=b∧∀(g:Nat),g < b→((El.fn (bkF a a.length)).at g).length=(11:Nat))∧Ob ((b+(1:Nat))*(2:Nat)*(89:Nat)≤1099511627776)∧Ob (b=b)∧Ob (InR .i64 ((↑b:Int)+(1:Int)))∧∃(h:Nat),Ob (h≤ldN c.length a∧ldN c.length a-h < ldN c.length a-b)∧Ob (SV.v (Value.slice none 0 0)=SV.v (Value.slice none 0 0))∧Ob (Value.int .i64 (0:Int)=Value.int .i64 (0:Int))∧Ob (b+(1:Nat)=h)∧Ob (ldN c.length a=ldN c.length a)∧Ob ((↑(ldN c.length a):Int)=(↑(ldN c.length a):Int))∧Ob ((↑b:Int)+(1:Int)=(↑h:Int))∧EqA (b+(1:Nat)) h (behind b (El.fn (bkF a a.length)) 1 (litEl (symL [SV.i .i64 (dn a (↑b:Int) (1:Int) 0 a.length),SV.i .i64 (dn a (↑b:Int) (1:Int) 1 a.length),SV.i .i64 (dn a (↑b:Int) (2:Int) 0 a.length),SV.i .i64 (dn a (↑b:Int) (2:Int) 1 a.length),SV.i .i64 (dn a (↑b:Int) (3:Int) 0 a.length),SV.i .i64 (dn a (↑b:Int) (3:Int) 1 a.length),SV.i .i64 (dn a (↑b:Int) (4:Int) 0 a.length),SV.i .i64 (dn a (↑b:Int) (4:Int) 1 a.length),SV.i .i64 (lf a (↑b:Int) 0 a.length),SV.i .i64 (lf a (↑b:Int) 1 a.length),SV.i .i64 (dn a (↑b:Int) (5:Int) 1 a.length)]) 11 1)) (El.fn (bkF a a.length))∧EqA (ldN c.length a) (ldN c.length a) (El.fn (stF a a.length)) (El.fn (stF a a.length))∧Ob (PlainE h (El.fn (bkF a a.length)))∧Ob (PlainE (ldN c.length a) (El.fn (stF a a.length)))∧True)∧(¬(↑b:Int) < (↑(ldN c.length a):Int)→Ob (b=ldN c.length a)∧Ob ((0:Int)=ldErr a)∧EqA b (ldN c.length a) (El.fn (bkF a a.length)) (El.fn (bkF a a.length))∧Ob (PlainE (ldN c.length a) (El.fn (bkF a a.length)))∧True))
set_option linter.unusedSimpArgs false in
set_option maxRecDepth 4000 in
set_option maxHeartbeats 400000 in
theorem v_BookE:V_BookE:=by
 unfold V_BookE EqA I4 RwB
 intro B x R hx hox hrx hcan y L hy hoy hry ⟨hM,hL⟩
 have l4:=hM.l
 have hn:ldN R.length L≤4:=by
  unfold ldN
  split<;>omega
 simp only [Ob_iff,and_true,true_and,Classical.not_not]
 refine⟨R,⟨hx,rfl,hrx,fun _ _=>rfl⟩,hcan,L,⟨hy,rfl,hry,fun _ _=>rfl⟩,⟨hM,hL⟩,fun h=>?_,fun h=>?_⟩
 ·have z:=ld_zero (n:=R.length) h
  repeat' (with_reducible apply And.intro)
  all_goals first | exact z | exact bk_plain _ _ _ | rfl
 refine⟨⟨0,?_⟩,?_⟩
 ·repeat' (with_reducible apply And.intro)
  all_goals first | exact st_plain _ _ _ | exact bk_plain _ _ _ | exact fun i _=>rfl | omega | rfl
 obtain⟨m,hm⟩:∃m,ldN R.length L=m:=⟨_,rfl⟩
 rw [hm]at hn ⊢
 intro k hk
 intros
 refine⟨fun h1=>?_,fun h1=>?_⟩
 ·have hs:∀i,i < k+1→(El.snoc (.fn (bkF L L.length)) k (bkF L L.length k)).at i=(El.fn (bkF L L.length)).at i:=by
   intro i hi
   simp only [El.at]
   by_cases h:i < k
   ·rw [if_pos h]
   ·rw [if_neg h,show i=k by omega]
  refine⟨⟨by omega,by omega⟩,by omega,fun i _=>rfl,by omega,by simp only [InR]; omega,k+1,?_⟩
  repeat' (with_reducible apply And.intro)
  all_goals first | exact st_plain _ _ _ | exact bk_plain _ _ _ | exact hs | exact fun i _=>rfl | exact fun _ _=>trivial | omega | rfl
 ·have e:k=m:=by omega
  subst e
  repeat' (with_reducible apply And.intro)
  all_goals first | exact h.symm | exact bk_plain _ _ _ | trivial | rfl | exact fun _ _=>rfl | exact fun _ _=>trivial
theorem e_BookE:V_BookE=needE P [F_balance] [F_doAllE] A_BookE F_BookE:=by kernel_rfl
theorem n_BookE:Ob (needE P [F_balance] [F_doAllE] A_BookE F_BookE):=by
 rw [← e_BookE]
 exact⟨v_BookE⟩
theorem b_BookE:((P.funcs[8]?).any fun fn=>fn.body.isSome)=true:=by kernel_rfl
theorem BookE_ok:FnE.Ok P F_BookE:=FnE.ok named (l:=[F_balance]) (es:=[F_doAllE]) (A:=A_BookE) (by rfl) (by rfl) (by rfl) (by
 intro F h
 simp only [List.mem_cons,List.not_mem_nil,or_false]at h
 rcases h with rfl
 ·exact balance_ok
) (by
 intro F h
 simp only [List.mem_cons,List.not_mem_nil,or_false]at h
 rcases h with rfl
 ·exact doAllE_ok
) b_BookE (by
 intro ds h o ho n sz e k z he
 subst he
 simp only [F_BookE]at ho
 split at ho
 ·simp only [List.mem_cons,List.not_mem_nil,or_false,SObj.gr.injEq]at ho
  obtain⟨rfl,rfl,rfl,rfl,rfl⟩:=ho
  exact bk_plain _ _ _
 ·simp at ho) n_BookE
end Go.Proofs.Ytdnphbnnhfpphaa.Sy
