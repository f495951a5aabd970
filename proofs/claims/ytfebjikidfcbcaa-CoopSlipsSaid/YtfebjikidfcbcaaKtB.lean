import Derived.Test.YtfebjikidfcbcaaSyP2
import Derived.Test.YtfebjikidfcbcaaGrM
import Derived.Test.YtfebjikidfcbcaaStM
import Derived.Test.YtfebjikidfcbcaaKtT
import Derived.Test.YtfebjikidfcbcaaKtA
import Derived.Test.YtfebjikidfcbcaaSyP2
import Derived.KernelRfl
import Derived.Test.YtfebjikidfcbcaaProg
namespace Go.Proofs.Ytfebjikidfcbcaa.Sy
open Go Go.Rv
set_option linter.unusedVariables false
def wrapZ (x n:Int):Int:=if n < 2 then 0 else if x.tmod n < 0 then x.tmod n+n else x.tmod n
theorem wrapZ_in (x:Int) {n:Int} (h:0 < n):0≤wrapZ x n∧wrapZ x n < n:=by
 unfold wrapZ
 have h1:=Int.tmod_lt_of_pos x h
 have h2:=Int.lt_tmod_of_pos x h
 split
 ·omega
 ·split<;>omega
def itQ (Q:Int→Int) (a:Int):Nat→Int
 | 0=>a
 | k+1=>Q (itQ Q a k)
def itR (Q:Int→Int) (row:Int→List Int) (a:Int):Nat→Rows
 | 0=>[]
 | k+1=>itR Q row a k++[row (itQ Q a k)]
theorem itQ_succ (Q:Int→Int) (a:Int) (k:Nat):itQ Q a (k+1)=Q (itQ Q a k):=rfl
theorem it_len (Q:Int→Int) (row:Int→List Int) (a:Int):∀k,(itR Q row a k).length=k
 | 0=>rfl
 | k+1=>by simp [itR,it_len Q row a k]
theorem getD_appL {α:Type} {l r:List α} {d:α} {i:Nat} (h:i < l.length):(l++r).getD i d=l.getD i d:=by
 rw [List.getD_eq_getElem?_getD,List.getD_eq_getElem?_getD,List.getElem?_append_left h]
theorem it_get (Q:Int→Int) (row:Int→List Int) (a:Int):∀k i,i < k→(itR Q row a k).getD i []=row (itQ Q a i)
 | 0,i,hi=>by omega
 | k+1,i,hi=>by
  have hl:=it_len Q row a k
  simp only [itR]
  by_cases e:i=k
  ·subst e
   rw [List.getD_eq_getElem?_getD,List.getElem?_append_right (by omega),hl,Nat.sub_self]
   rfl
  ·rw [getD_appL (by omega)]
   exact it_get Q row a k i (by omega)
theorem it_cell (Q:Int→Int) (row:Int→List Int) (a:Int) {k i:Nat} (h:i < k) (j:Nat):cell (itR Q row a k) i j=(row (itQ Q a i)).getD j 0:=by
 unfold cell
 rw [it_get Q row a k i h]
theorem snoc3 {R:Rows} {k:Nat} {x y z:Int} (hl:R.length=k):∀i,i < k+1→(behind k (.fn (Rv.elemOf [.i64,.i64,.i64] R)) 1 (litEl [SV.i .i64 x,SV.i .i64 y,SV.i .i64 z] 3 1)).at i=(El.fn (Rv.elemOf [.i64,.i64,.i64] (R++[[x,y,z]]))).at i:=fun i hi=>by
 have:=snoc_at (R:=R) (ks:=[.i64,.i64,.i64]) (r:=[x,y,z]) (cs:=[SV.i .i64 x,SV.i .i64 y,SV.i .i64 z]) rfl (i:=i) (by omega)
 rw [hl]at this
 exact this
theorem l3_0 {x y z:Int}:[x,y,z].getD 0 0=x:=rfl
theorem l3_1 {x y z:Int}:[x,y,z].getD 1 0=y:=rfl
theorem l3_2 {x y z:Int}:[x,y,z].getD 2 0=z:=rfl
noncomputable def F_Wrap:Fn0:=⟨36,[i64,i64],fun l=>match l with | [.z x,.z n]=>n≤1000000000 | _=>False,fun l=>match l with | [.z x,.z n]=>.i .i64 (wrapZ x n) | _=>.v undef⟩
noncomputable def A_Wrap:List SV→List Dat→Nat→List SV→Ann:=fun _ _ _ _=>noAnn
def V_Wrap:Prop:=∀(B:RW) (n n_1:Int),n_1≤(1000000000:Int)→(n_1 < (2:Int)→Ob ((0:Int)=wrapZ n n_1)∧True)∧(¬n_1 < (2:Int)→Ob ((0:Int) < n_1∧InR .i64 (n.tmod n_1))∧(n.tmod n_1 < (0:Int)→Ob (InR .i64 (n.tmod n_1+n_1))∧Ob (n.tmod n_1+n_1=wrapZ n n_1)∧True)∧(¬n.tmod n_1 < (0:Int)→Ob (n.tmod n_1=wrapZ n n_1)∧True))
set_option linter.unusedSimpArgs false in
set_option maxRecDepth 4000 in
set_option maxHeartbeats 400000 in
theorem v_Wrap:V_Wrap:=by
 unfold V_Wrap
 intro B x n hn
 simp only [Ob_iff,and_true,true_and,InR]
 have h1:=fun h:0 < n=>Int.tmod_lt_of_pos x h
 have h2:=fun h:0 < n=>Int.lt_tmod_of_pos x h
 have h3:=wrapZ_in x (n:=n)
 unfold wrapZ at *
 refine⟨fun h=>?_,fun h=>⟨by omega,fun h4=>?_,fun h4=>?_⟩⟩
 ·rw [if_pos h]
 ·refine⟨by omega,?_⟩
  rw [if_neg h,if_pos h4]
 ·rw [if_neg h,if_neg h4]
theorem e_Wrap:V_Wrap=needF P [] A_Wrap F_Wrap:=by kernel_rfl
theorem n_Wrap:Ob (needF P [] A_Wrap F_Wrap):=by
 rw [← e_Wrap]
 exact⟨v_Wrap⟩
theorem b_Wrap:((P.funcs[36]?).any fun fn=>fn.body.isSome)=true:=by kernel_rfl
theorem Wrap_ok:Fn0.Ok P F_Wrap:=Fn0.ok named (l:=[]) (A:=A_Wrap) (by rfl) (by
 intro F h; simp at h) b_Wrap (by
 intro ds N
 simp only [F_Wrap]
 split<;>rfl) n_Wrap
end Go.Proofs.Ytfebjikidfcbcaa.Sy
