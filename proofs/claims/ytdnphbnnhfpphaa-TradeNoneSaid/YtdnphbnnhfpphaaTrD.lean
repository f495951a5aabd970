import Derived.Test.YtdnphbnnhfpphaaSyP2
import Derived.Test.YtdnphbnnhfpphaaGrM
import Derived.Test.YtdnphbnnhfpphaaKtT
import Derived.Test.YtdnphbnnhfpphaaTrA
import Derived.Test.YtdnphbnnhfpphaaTrN
import Derived.Test.YtdnphbnnhfpphaaTrB
import Derived.Test.YtdnphbnnhfpphaaTrC
import Derived.Test.YtdnphbnnhfpphaaSyP2
import Derived.KernelRfl
import Derived.Test.YtdnphbnnhfpphaaProg
namespace Go.Proofs.Ytdnphbnnhfpphaa.Sy
open Go Go.Rv
set_option linter.unusedVariables false
def bkF (L:Rows) (k:Nat) (i:Nat):List SV:=[.i .i64 (dn L i 1 0 k),.i .i64 (dn L i 1 1 k),.i .i64 (dn L i 2 0 k),.i .i64 (dn L i 2 1 k),.i .i64 (dn L i 3 0 k),.i .i64 (dn L i 3 1 k),.i .i64 (dn L i 4 0 k),.i .i64 (dn L i 4 1 k),.i .i64 (lf L i 0 k),.i .i64 (lf L i 1 k),.i .i64 (dn L i 5 1 k)]
theorem bk_plain (L:Rows) (k n:Nat):PlainE n (.fn (bkF L k)):=fun i _ y hy=>by
 simp only [El.at,bkF,List.mem_cons,List.not_mem_nil,or_false]at hy
 rcases hy with rfl | rfl | rfl | rfl | rfl | rfl | rfl | rfl | rfl | rfl | rfl<;>trivial
noncomputable def F_balance:Fn0:=⟨17,[.agg [.i .i64,.i .i64,.i .i64,.i .i64,.i .i64,.i .i64,.i .i64,.i .i64,.i .i64,.i .i64,.i .i64,.i .i64,.i .i64,.i .i64]],fun _=>True,fun l=>match l with | [.z a,.z b,.z c,.z d,.z e,.z f,.z g,.z h,.z i,.z j,.z k,.z l,.z m,.z n]=>.agg [.i .i64 e,.i .i64 f,.i .i64 g,.i .i64 h,.i .i64 i,.i .i64 j,.i .i64 k,.i .i64 l,.i .i64 a,.i .i64 b,.i .i64 n] | _=>.v undef⟩
noncomputable def A_balance:List SV→List Dat→Nat→List SV→Ann:=fun _ _ _ _=>noAnn
def V_balance:Prop:=
 ∀(B:RW) (h d m l e g a b c i j f n k:Int),True→Ob (e=e)∧Ob (g=g)∧Ob (a=a)∧Ob (b=b)∧Ob (c=c)∧Ob (i=i)∧Ob (j=j)∧Ob (f=f)∧Ob (h=h)∧Ob (d=d)∧Ob (k=k)∧True
set_option linter.unusedSimpArgs false in
set_option maxRecDepth 4000 in
set_option maxHeartbeats 400000 in
theorem v_balance:V_balance:=by
 unfold V_balance
 intros
 simp only [Ob_iff,and_true,true_and]
 repeat' (with_reducible apply And.intro)
 all_goals first | rfl | trivial
theorem e_balance:V_balance=needF P [] A_balance F_balance:=by kernel_rfl
theorem n_balance:Ob (needF P [] A_balance F_balance):=by
 rw [← e_balance]
 exact⟨v_balance⟩
theorem b_balance:((P.funcs[17]?).any fun fn=>fn.body.isSome)=true:=by kernel_rfl
theorem balance_ok:Fn0.Ok P F_balance:=Fn0.ok named (l:=[]) (A:=A_balance) (by rfl) (by
 intro F h; simp at h) b_balance (by
 intro ds N
 simp only [F_balance]
 split<;>rfl) n_balance
noncomputable def F_Book:FnE:=⟨8,none,[.one (.l [.u16,.i64,.i64,.i8,.i8,.i64]),.one (.l [.i64,.i64,.i64,.i64])],fun l=>match l with | [.l R,.l L]=>MkOk R∧LgOk R.length L | _=>False,fun l=>match l with | [.l R,.l L]=>[.gsl 0 R.length 11 true,.v (.int .i64 0)] | _=>[],fun l=>match l with | [.l R,.l L]=>[.gr R.length 11 (.fn (bkF L L.length)) .gr true] | _=>[],fun l=>match l with | [.l R,.l L]=>[] | _=>[],false,none,none⟩
noncomputable def A_Book:List SV→List Dat→Nat→List SV→Ann:=fun xs ds n ts=>match xs with
 | [.lst x _ _ _,.lst y _ _ _]=>match ds with
  | [.l R,.l L]=>match n with
   | 6=>⟨Nat,fun k=>([none,none,none,none,some (SV.v (Value.slice none ((0:Nat)) ((0:Nat)))),some (SV.v (Value.int IntKind.i64 (0:Int))),none,none,some (.gsl 1 k 11 true)]++nN 11++[some (SV.gsl ((0:Nat)) R.length ((14:Nat)) false),some (SV.i IntKind.i64 (↑R.length:Int)),some (.i .i64 k)]++nN 10),fun k=>[.gr k 11 (.fn (bkF L L.length)) .gr true,SObj.gr R.length ((14:Nat)) (El.fn (stF L L.length)) Kd.gr false],fun k=>k≤R.length,fun k=>R.length-k,0⟩
   | _=>noAnn
  | _=>noAnn
 | _=>noAnn
def V_Book:Prop:=
 ∀(B:RW) (j:RV) (c:List (List Int)),IsLst B j c.length 6 (Rv.elemOf [IntKind.u16,.i64,.i64,IntKind.i8,IntKind.i8,.i64] c)→oneB j=true→(∀row∈c,row.length=6)→(∀(e:List Int),e∈c→canR [IntKind.u16,.i64,.i64,IntKind.i8,IntKind.i8,.i64] e)→∀(i:RV) (a:List (List Int)),IsLst B i a.length 4 (Rv.elemOf I4 a)→oneB i=true→(∀row∈a,row.length=4)→F_Book.pre ([Dat.l c]++([Dat.l a]++[]))→∃(d:List (List Int)),Ob (IsLst B j c.length 6 (Rv.elemOf [IntKind.u16,.i64,.i64,IntKind.i8,IntKind.i8,.i64] c)∧d.length=c.length∧(∀e∈d,e.length=6)∧∀(g:Nat),g < c.length→Rv.elemOf [IntKind.u16,.i64,.i64,IntKind.i8,IntKind.i8,.i64] c g=Rv.elemOf [IntKind.u16,.i64,.i64,IntKind.i8,IntKind.i8,.i64] d g)∧Ob (∀(e:List Int),e∈d→canR [IntKind.u16,.i64,.i64,IntKind.i8,IntKind.i8,.i64] e)∧RwB B i a.length 4 I4 a fun h=>Ob (F_doAll.pre [Dat.l d,Dat.l h])∧(∃(b:Nat),Ob (b≤c.length)∧Ob (SV.v (Value.slice none 0 0)=SV.v (Value.slice none 0 0))∧Ob (Value.int .i64 (0:Int)=Value.int .i64 (0:Int))∧Ob (b=(0:Nat))∧Ob (d.length=c.length)∧Ob ((↑d.length:Int)=(↑c.length:Int))∧Ob ((0:Int)=(↑b:Int))∧Ob (b=(0:Nat))∧EqA d.length c.length (El.fn (stF h h.length)) (El.fn (stF a a.length))∧Ob (PlainE b (El.fn (bkF a a.length)))∧Ob (PlainE c.length (El.fn (stF a a.length)))∧True)∧∀(b:Nat),b≤c.length→∀(z z_1 z_2 z_3 z_4 z_5 z_6 z_7 z_8 z_9 z_10 z_11 z_12 z_13 z_14 z_15 z_16 z_17 z_18 z_19 z_20 z_21 z_22 z_23 z_24 z_25 z_26:Value),((↑b:Int) < (↑c.length:Int)→Ob ((0:Int)≤(↑b:Int)∧b < c.length)∧Ob (b < c.length)∧Ob True∧Ob (b=b∧∀(g:Nat),g < b→((El.fn (bkF a a.length)).at g).length=(11:Nat))∧Ob ((b+(1:Nat))*(2:Nat)*(89:Nat)≤1099511627776)∧Ob (b=b)∧Ob (InR .i64 ((↑b:Int)+(1:Int)))∧∃(f:Nat),Ob (f≤c.length∧c.length-f < c.length-b)∧Ob (SV.v (Value.slice none 0 0)=SV.v (Value.slice none 0 0))∧Ob (Value.int .i64 (0:Int)=Value.int .i64 (0:Int))∧Ob (b+(1:Nat)=f)∧Ob (c.length=c.length)∧Ob ((↑c.length:Int)=(↑c.length:Int))∧Ob ((↑b:Int)+(1:Int)=(↑f:Int))∧EqA (b+(1:Nat)) f (behind b (El.fn (bkF a a.length)) 1 (litEl (symL [SV.i .i64 (dn a (↑b:Int) (1:Int) 0 a.length),SV.i .i64 (dn a (↑b:Int) (1:Int) 1 a.length),SV.i .i64 (dn a (↑b:Int) (2:Int) 0 a.length),SV.i .i64 (dn a (↑b:Int) (2:Int) 1 a.length),SV.i .i64 (dn a (↑b:Int) (3:Int) 0 a.length),SV.i .i64 (dn a (↑b:Int) (3:Int) 1 a.length),SV.i .i64 (dn a (↑b:Int) (4:Int) 0 a.length),SV.i .i64 (dn a (↑b:Int) (4:Int) 1 a.length),SV.i .i64 (lf a (↑b:Int) 0 a.length),SV.i .i64 (lf a (↑b:Int) 1 a.length),SV.i .i64 (dn a (↑b:Int) (5:Int) 1 a.length)]) 11 1)) (El.fn (bkF a a.length))∧EqA c.length c.length (El.fn (stF a a.length)) (El.fn (stF a a.length))∧Ob (PlainE f (El.fn (bkF a a.length)))∧Ob (PlainE c.length (El.fn (stF a a.length)))∧True)∧(¬(↑b:Int) < (↑c.length:Int)→Ob (b=c.length)∧Ob (Value.int .i64 (0:Int)=Value.int .i64 (0:Int))∧EqA b c.length (El.fn (bkF a a.length)) (El.fn (bkF a a.length))∧Ob (PlainE c.length (El.fn (bkF a a.length)))∧True)
set_option linter.unusedSimpArgs false in
set_option maxRecDepth 4000 in
set_option maxHeartbeats 400000 in
theorem v_Book:V_Book:=by
 unfold V_Book EqA I4 RwB
 intro B x R hx hox hrx hcan y L hy hoy hry ⟨hM,hL⟩
 have l4:=hM.l
 simp only [Ob_iff,and_true,true_and]
 refine⟨R,⟨hx,rfl,hrx,fun _ _=>rfl⟩,hcan,L,⟨hy,rfl,hry,fun _ _=>rfl⟩,⟨hM,hL⟩,⟨0,?_⟩,?_⟩
 ·repeat' (with_reducible apply And.intro)
  all_goals first | exact st_plain _ _ _ | exact bk_plain _ _ _ | exact fun i _=>rfl | omega | rfl
 intro k hk
 intros
 refine⟨fun h1=>?_,fun h1=>?_⟩
 ·have hs:∀i,i < k+1→(El.snoc (.fn (bkF L L.length)) k (bkF L L.length k)).at i=(El.fn (bkF L L.length)).at i:=by
   intro i hi
   simp only [El.at]
   by_cases h:i < k
   ·rw [if_pos h]
   ·rw [if_neg h,show i=k by omega]
  refine⟨⟨by omega,by omega⟩,by omega,fun i _=>rfl,by omega,by simp only [InR]; omega,k+1,?_⟩
  repeat' (with_reducible apply And.intro)
  all_goals first | exact st_plain _ _ _ | exact bk_plain _ _ _ | exact hs | exact fun i _=>rfl | exact fun _ _=>trivial | omega | rfl
 ·have e:k=R.length:=by omega
  subst e
  repeat' (with_reducible apply And.intro)
  all_goals first | exact bk_plain _ _ _ | trivial | rfl | exact fun _ _=>rfl | exact fun _ _=>trivial
theorem e_Book:V_Book=needE P [F_balance] [F_doAll] A_Book F_Book:=by kernel_rfl
theorem n_Book:Ob (needE P [F_balance] [F_doAll] A_Book F_Book):=by
 rw [← e_Book]
 exact⟨v_Book⟩
theorem b_Book:((P.funcs[8]?).any fun fn=>fn.body.isSome)=true:=by kernel_rfl
theorem Book_ok:FnE.Ok P F_Book:=FnE.ok named (l:=[F_balance]) (es:=[F_doAll]) (A:=A_Book) (by rfl) (by rfl) (by rfl) (by
 intro F h
 simp only [List.mem_cons,List.not_mem_nil,or_false]at h
 rcases h with rfl
 ·exact balance_ok
) (by
 intro F h
 simp only [List.mem_cons,List.not_mem_nil,or_false]at h
 rcases h with rfl
 ·exact doAll_ok
) b_Book (by
 intro ds h o ho n sz e k z he
 subst he
 simp only [F_Book]at ho
 split at ho
 ·simp only [List.mem_cons,List.not_mem_nil,or_false,SObj.gr.injEq]at ho
  obtain⟨rfl,rfl,rfl,rfl,rfl⟩:=ho
  exact bk_plain _ _ _
 ·simp at ho) n_Book
end Go.Proofs.Ytdnphbnnhfpphaa.Sy
