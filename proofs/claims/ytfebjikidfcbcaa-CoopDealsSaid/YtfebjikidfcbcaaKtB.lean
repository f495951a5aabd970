import Derived.Test.YtfebjikidfcbcaaSyP2
import Derived.Test.YtfebjikidfcbcaaGrM
import Derived.Test.YtfebjikidfcbcaaStM
import Derived.Test.YtfebjikidfcbcaaKtT
import Derived.Test.YtfebjikidfcbcaaKtA
import Derived.Test.YtfebjikidfcbcaaSyP2
import Derived.KernelRfl
import Derived.Test.YtfebjikidfcbcaaProg
namespace Go.Proofs.Ytfebjikidfcbcaa.Sy
open Go Go.Rv
set_option linter.unusedVariables false
def wrapZ (x n:Int):Int:=if n < 2 then 0 else if x.tmod n < 0 then x.tmod n+n else x.tmod n
theorem wrapZ_in (x:Int) {n:Int} (h:0 < n):0≤wrapZ x n∧wrapZ x n < n:=by
 unfold wrapZ
 have h1:=Int.tmod_lt_of_pos x h
 have h2:=Int.lt_tmod_of_pos x h
 split
 ·omega
 ·split<;>omega
def itQ (Q:Int→Int) (a:Int):Nat→Int
 | 0=>a
 | k+1=>Q (itQ Q a k)
def itR (Q:Int→Int) (row:Int→List Int) (a:Int):Nat→Rows
 | 0=>[]
 | k+1=>itR Q row a k++[row (itQ Q a k)]
theorem itQ_succ (Q:Int→Int) (a:Int) (k:Nat):itQ Q a (k+1)=Q (itQ Q a k):=rfl
theorem itR_succ (Q:Int→Int) (row:Int→List Int) (a:Int) (k:Nat):itR Q row a (k+1)=itR Q row a k++[row (itQ Q a k)]:=rfl
theorem it_len (Q:Int→Int) (row:Int→List Int) (a:Int):∀k,(itR Q row a k).length=k
 | 0=>rfl
 | k+1=>by simp [itR,it_len Q row a k]
theorem snoc3 {R:Rows} {k:Nat} {x y z:Int} (hl:R.length=k):∀i,i < k+1→(behind k (.fn (Rv.elemOf [.i64,.i64,.i64] R)) 1 (litEl [SV.i .i64 x,SV.i .i64 y,SV.i .i64 z] 3 1)).at i=(El.fn (Rv.elemOf [.i64,.i64,.i64] (R++[[x,y,z]]))).at i:=fun i hi=>by
 have:=snoc_at (R:=R) (ks:=[.i64,.i64,.i64]) (r:=[x,y,z]) (cs:=[SV.i .i64 x,SV.i .i64 y,SV.i .i64 z]) rfl (i:=i) (by omega)
 rw [hl]at this
 exact this
noncomputable def F_Wrap:Fn0:=⟨36,[i64,i64],fun l=>match l with | [.z x,.z n]=>n≤1000000000 | _=>False,fun l=>match l with | [.z x,.z n]=>.i .i64 (wrapZ x n) | _=>.v undef⟩
noncomputable def A_Wrap:List SV→List Dat→Nat→List SV→Ann:=fun _ _ _ _=>noAnn
def V_Wrap:Prop:=
 ∀(B:RW) (b a:Int),a≤(1000000000:Int)→(a < (2:Int)→Ob ((0:Int)=wrapZ b a)∧True)∧(¬a < (2:Int)→Ob ((0:Int) < a∧InR .i64 (b.tmod a))∧(b.tmod a < (0:Int)→Ob (InR .i64 (b.tmod a+a))∧Ob (b.tmod a+a=wrapZ b a)∧True)∧(¬b.tmod a < (0:Int)→Ob (b.tmod a=wrapZ b a)∧True))
set_option linter.unusedSimpArgs false in
set_option maxRecDepth 4000 in
set_option maxHeartbeats 400000 in
theorem v_Wrap:V_Wrap:=by
 unfold V_Wrap
 intro B x n hn
 simp only [Ob_iff,and_true,true_and,InR]
 have h1:=fun h:0 < n=>Int.tmod_lt_of_pos x h
 have h2:=fun h:0 < n=>Int.lt_tmod_of_pos x h
 have h3:=wrapZ_in x (n:=n)
 unfold wrapZ at *
 refine⟨fun h=>?_,fun h=>⟨by omega,fun h4=>?_,fun h4=>?_⟩⟩
 ·rw [if_pos h]
 ·refine⟨by omega,?_⟩
  rw [if_neg h,if_pos h4]
 ·rw [if_neg h,if_neg h4]
theorem e_Wrap:V_Wrap=needF P [] A_Wrap F_Wrap:=by kernel_rfl
theorem n_Wrap:Ob (needF P [] A_Wrap F_Wrap):=by
 rw [← e_Wrap]
 exact⟨v_Wrap⟩
theorem b_Wrap:((P.funcs[36]?).any fun fn=>fn.body.isSome)=true:=by kernel_rfl
theorem Wrap_ok:Fn0.Ok P F_Wrap:=Fn0.ok named (l:=[]) (A:=A_Wrap) (by rfl) (by
 intro F h; simp at h) b_Wrap (by
 intro ds N
 simp only [F_Wrap]
 split<;>rfl) n_Wrap
end Go.Proofs.Ytfebjikidfcbcaa.Sy
