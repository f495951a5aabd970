import Derived.Test.YtgoiegaobhfocaaSyP2
import Derived.Test.YtgoiegaobhfocaaGrM
import Derived.Test.YtgoiegaobhfocaaKtG
import Derived.Test.YtgoiegaobhfocaaKtH
import Derived.Test.YtgoiegaobhfocaaKtI
import Derived.Test.YtgoiegaobhfocaaKuA
import Derived.Test.YtgoiegaobhfocaaKuB
import Derived.Test.YtgoiegaobhfocaaKuC
import Derived.Test.YtgoiegaobhfocaaKuD
import Derived.Test.YtgoiegaobhfocaaSyP2
import Derived.KernelRfl
import Derived.Test.YtgoiegaobhfocaaProg
namespace Go.Proofs.Ytgoiegaobhfocaa.Sy
open Go Go.Rv
set_option linter.unusedVariables false
def SpOk (a b lo hi:Int):Prop:=lo≤a∧a≤b∧b≤hi
def WaOk (a b c d e f:Int):Prop:=SpOk a b 0 100000∧SpOk c d 0 100000∧SpOk e f (-50) 400
theorem flA_step (R:Rows) (nu:Int) (k:Nat):flT R nu (-1) 0 0 (k+1)=flT R nu (-1) 0 0 k+if cell R k 0=nu then cell R k 1 else 0:=by
 simp only [flT]
 by_cases h:cell R k 0=nu
 ·rw [if_pos (show cell R k 0=nu∧((k:Int)≠-1∨(0:Int) < 0)from⟨h,.inl (by omega)⟩),if_pos h]
 ·rw [if_neg fun hh=>h hh.1,if_neg h]
theorem flA_mono {R:Rows} {nu:Int} {k:Nat}:∀ {n:Nat},k≤n→(∀i,i < n→0≤cell R i 1)→flT R nu (-1) 0 0 k≤flT R nu (-1) 0 0 n
 | 0,h,_=>by
  have:k=0:=by omega
  subst this
  exact Int.le_refl _
 | n+1,h,hc=>by
  by_cases e:k=n+1
  ·subst e; exact Int.le_refl _
  ·have ih:=flA_mono (R:=R) (nu:=nu) (k:=k) (n:=n) (by omega) fun i hi=>hc i (by omega)
   have c:=hc n (by omega)
   rw [flA_step]
   split<;>omega
theorem plain_fn1' (n:Nat) (f:Nat→Int):PlainE n (.fn fun i=>[SV.i .i64 (f i)]):=by
 intro i _ y hy
 simp only [El.at,List.mem_cons,List.not_mem_nil,or_false]at hy
 subst hy
 trivial
structure Pl where
 T:Rows
 R:Rows
 s1:Int
 s2:Int
 s3:Int
 s4:Int
 s5:Int
 s6:Int
 u1:Int
 u2:Int
 v1:Int
 v2:Int
 a1:Int
 a2:Int
 g1:Int
 g2:Int
 le:Int
 mo:Int
 w1:Int
 w2:Int
structure TkOk (T:Rows) (i:Nat):Prop where
 l:1≤cell T i 0∧cell T i 0≤100000
 g:0≤cell T i 1∧cell T i 1≤10000000
 w:WaOk (cell T i 2) (cell T i 3) (cell T i 4) (cell T i 5) (cell T i 6) (cell T i 7)
structure Pl.Ok (p:Pl):Prop where
 n:1≤p.T.length∧p.T.length≤6
 t:∀i,i < p.T.length→TkOk p.T i
 m:p.R.length≤8
 r:∀i,i < p.R.length→(0≤cell p.R i 0∧cell p.R i 0 < p.T.length)∧0≤cell p.R i 1∧cell p.R i 1≤100000
 f:∀i,i < p.T.length→flT p.R i (-1) 0 0 p.R.length≤cell p.T i 0
 s:WaOk p.s1 p.s2 p.s3 p.s4 p.s5 p.s6
 u:SpOk p.u1 p.u2 0 100000
 v:SpOk p.v1 p.v2 0 100000
 a:SpOk p.a1 p.a2 0 100000
 g:SpOk p.g1 p.g2 (-400) 400
 e:(0≤p.le∧p.le≤100000)∧0≤p.mo∧p.mo≤100000
 w:SpOk p.w1 p.w2 (-50) 400
noncomputable def F_withinT:Fn0:=⟨61,[i64,i64,i64],fun _=>True,fun l=>match l with | [.z n,.z lo,.z hi]=>.p (lo≤n∧n≤hi) | _=>.v undef⟩
noncomputable def A_withinT:List SV→List Dat→Nat→List SV→Ann:=fun _ _ _ _=>noAnn
def V_withinT:Prop:=
 ∀(B:RW) (a b c:Int),True→(b≤a→Ob (a≤c↔b≤a∧a≤c)∧True)∧(¬b≤a→Ob (false=true↔b≤a∧a≤c)∧True)
set_option linter.unusedSimpArgs false in
set_option maxRecDepth 4000 in
set_option maxHeartbeats 400000 in
theorem v_withinT:V_withinT:=by
 unfold V_withinT
 intros
 simp only [Ob_iff,and_true,true_and,InR]at *
 all_goals grind
theorem e_withinT:V_withinT=needF P [] A_withinT F_withinT:=by kernel_rfl
theorem n_withinT:Ob (needF P [] A_withinT F_withinT):=by
 rw [← e_withinT]
 exact⟨v_withinT⟩
theorem b_withinT:((P.funcs[61]?).any fun fn=>fn.body.isSome)=true:=by kernel_rfl
theorem withinT_ok:Fn0.Ok P F_withinT:=Fn0.ok named (l:=[]) (A:=A_withinT) (by rfl) (by
 intro F h; simp at h) b_withinT (by
 intro ds N
 simp only [F_withinT]
 split<;>rfl) n_withinT
noncomputable def F_isIndex:Fn0:=⟨35,[i64,i64],fun _=>True,fun l=>match l with | [.z n,.z m]=>.p (0≤n∧n < m) | _=>.v undef⟩
noncomputable def A_isIndex:List SV→List Dat→Nat→List SV→Ann:=fun _ _ _ _=>noAnn
def V_isIndex:Prop:=
 ∀(B:RW) (a b:Int),True→((0:Int)≤a→Ob (a < b↔(0:Int)≤a∧a < b)∧True)∧(¬(0:Int)≤a→Ob (false=true↔(0:Int)≤a∧a < b)∧True)
set_option linter.unusedSimpArgs false in
set_option maxRecDepth 4000 in
set_option maxHeartbeats 400000 in
theorem v_isIndex:V_isIndex:=by
 unfold V_isIndex
 intros
 simp only [Ob_iff,and_true,true_and,SpOk,WaOk,Bool.false_eq_true,false_iff,true_iff,Bool.true_eq_false]at *
 repeat' (first | (with_reducible apply And.intro) | intro _ | exact trivial)
 all_goals first | omega | grind
theorem e_isIndex:V_isIndex=needF P [] A_isIndex F_isIndex:=by kernel_rfl
theorem n_isIndex:Ob (needF P [] A_isIndex F_isIndex):=by
 rw [← e_isIndex]
 exact⟨v_isIndex⟩
theorem b_isIndex:((P.funcs[35]?).any fun fn=>fn.body.isSome)=true:=by kernel_rfl
theorem isIndex_ok:Fn0.Ok P F_isIndex:=Fn0.ok named (l:=[]) (A:=A_isIndex) (by rfl) (by
 intro F h; simp at h) b_isIndex (by
 intro ds N
 simp only [F_isIndex]
 split<;>rfl) n_isIndex
noncomputable def F_isHour:Fn0:=⟨36,[i64],fun _=>True,fun l=>match l with | [.z n]=>.p (0≤n∧n≤48) | _=>.v undef⟩
noncomputable def A_isHour:List SV→List Dat→Nat→List SV→Ann:=fun _ _ _ _=>noAnn
def V_isHour:Prop:=
 ∀(B:RW) (a:Int),True→Ob True∧Ob ((0:Int)≤a∧a≤(48:Int)↔(0:Int)≤a∧a≤(48:Int))∧True
set_option linter.unusedSimpArgs false in
set_option maxRecDepth 4000 in
set_option maxHeartbeats 400000 in
theorem v_isHour:V_isHour:=by
 unfold V_isHour
 intros
 simp only [Ob_iff,and_true,true_and,SpOk,WaOk,Bool.false_eq_true,false_iff,true_iff,Bool.true_eq_false]at *
 repeat' (first | (with_reducible apply And.intro) | intro _ | exact trivial)
 all_goals first | omega | grind
theorem e_isHour:V_isHour=needF P [F_withinT] A_isHour F_isHour:=by kernel_rfl
theorem n_isHour:Ob (needF P [F_withinT] A_isHour F_isHour):=by
 rw [← e_isHour]
 exact⟨v_isHour⟩
theorem b_isHour:((P.funcs[36]?).any fun fn=>fn.body.isSome)=true:=by kernel_rfl
theorem isHour_ok:Fn0.Ok P F_isHour:=Fn0.ok named (l:=[F_withinT]) (A:=A_isHour) (by rfl) (by
 intro F h
 simp only [List.mem_cons,List.not_mem_nil,or_false]at h
 rcases h with rfl
 ·exact withinT_ok
) b_isHour (by
 intro ds N
 simp only [F_isHour]
 split<;>rfl) n_isHour
noncomputable def F_isReading:Fn0:=⟨72,[i64],fun _=>True,fun l=>match l with | [.z n]=>.p (0≤n∧n≤100000) | _=>.v undef⟩
noncomputable def A_isReading:List SV→List Dat→Nat→List SV→Ann:=fun _ _ _ _=>noAnn
def V_isReading:Prop:=
 ∀(B:RW) (a:Int),True→Ob True∧Ob ((0:Int)≤a∧a≤(100000:Int)↔(0:Int)≤a∧a≤(100000:Int))∧True
set_option linter.unusedSimpArgs false in
set_option maxRecDepth 4000 in
set_option maxHeartbeats 400000 in
theorem v_isReading:V_isReading:=by
 unfold V_isReading
 intros
 simp only [Ob_iff,and_true,true_and,SpOk,WaOk,Bool.false_eq_true,false_iff,true_iff,Bool.true_eq_false]at *
 repeat' (first | (with_reducible apply And.intro) | intro _ | exact trivial)
 all_goals first | omega | grind
theorem e_isReading:V_isReading=needF P [F_withinT] A_isReading F_isReading:=by kernel_rfl
theorem n_isReading:Ob (needF P [F_withinT] A_isReading F_isReading):=by
 rw [← e_isReading]
 exact⟨v_isReading⟩
theorem b_isReading:((P.funcs[72]?).any fun fn=>fn.body.isSome)=true:=by kernel_rfl
theorem isReading_ok:Fn0.Ok P F_isReading:=Fn0.ok named (l:=[F_withinT]) (A:=A_isReading) (by rfl) (by
 intro F h
 simp only [List.mem_cons,List.not_mem_nil,or_false]at h
 rcases h with rfl
 ·exact withinT_ok
) b_isReading (by
 intro ds N
 simp only [F_isReading]
 split<;>rfl) n_isReading
noncomputable def F_checkSpan:Fn0:=⟨71,[.agg [.i .i64,.i .i64],i64,i64],fun l=>match l with | [.z a,.z b,.z lo,.z hi]=>SpOk a b lo hi | _=>False,fun l=>match l with | [.z a,.z b,.z lo,.z hi]=>.i .i64 0 | _=>.v undef⟩
noncomputable def A_checkSpan:List SV→List Dat→Nat→List SV→Ann:=fun _ _ _ _=>noAnn
def V_checkSpan:Prop:=
 ∀(B:RW) (a b d c:Int),SpOk a b d c→Ob True∧(¬¬(d≤a∧a≤c)→Ob True∧(¬(d≤b∧b≤c)→Ob ((1:Int)=(0:Int))∧True)∧(¬¬(d≤b∧b≤c)→(b < a→Ob ((8:Int)=(0:Int))∧True)∧(¬b < a→Ob ((0:Int)=(0:Int))∧True)))∧(¬(d≤a∧a≤c)→Ob ((1:Int)=(0:Int))∧True)
set_option linter.unusedSimpArgs false in
set_option maxRecDepth 4000 in
set_option maxHeartbeats 400000 in
theorem v_checkSpan:V_checkSpan:=by
 unfold V_checkSpan
 intros
 simp only [Ob_iff,and_true,true_and,SpOk,WaOk,Bool.false_eq_true,false_iff,true_iff,Bool.true_eq_false]at *
 repeat' (first | (with_reducible apply And.intro) | intro _ | exact trivial)
 all_goals first | omega | grind
theorem e_checkSpan:V_checkSpan=needF P [F_withinT] A_checkSpan F_checkSpan:=by kernel_rfl
theorem n_checkSpan:Ob (needF P [F_withinT] A_checkSpan F_checkSpan):=by
 rw [← e_checkSpan]
 exact⟨v_checkSpan⟩
theorem b_checkSpan:((P.funcs[71]?).any fun fn=>fn.body.isSome)=true:=by kernel_rfl
theorem checkSpan_ok:Fn0.Ok P F_checkSpan:=Fn0.ok named (l:=[F_withinT]) (A:=A_checkSpan) (by rfl) (by
 intro F h
 simp only [List.mem_cons,List.not_mem_nil,or_false]at h
 rcases h with rfl
 ·exact withinT_ok
) b_checkSpan (by
 intro ds N
 simp only [F_checkSpan]
 split<;>rfl) n_checkSpan
noncomputable def F_first:Fn0:=⟨70,[.one (.l [.i64])],fun l=>match l with | [.l L]=>L.length≤1000∧∀i,i < L.length→cell L i 0=0 | _=>False,fun l=>match l with | [.l L]=>.i .i64 0 | _=>.v undef⟩
noncomputable def A_first:List SV→List Dat→Nat→List SV→Ann:=fun xs ds n ts=>match xs with
 | [.lst x _ _ _]=>match ds with
  | [.l L]=>match n with
   | 2=>⟨Nat,fun k=>[none,none,none,none,none,some (SV.lst x L.length ((1:Nat)) (Rv.elemOf [IntKind.i64] L)),some (SV.i IntKind.i64 (↑L.length:Int)),some (.i .i64 k),none,none,none,none,none,none,none],fun k=>[],fun k=>k≤L.length,fun k=>L.length-k,0⟩
   | _=>noAnn
  | _=>noAnn
 | _=>noAnn
def V_first:Prop:=
 ∀(B:RW) (c:RV) (a:List (List Int)),IsLst B c a.length 1 (Rv.elemOf [.i64] a)→oneB c=true→(∀row∈a,row.length=1)→(a.length≤1000∧∀(e:Nat),e < a.length→cell a e 0=(0:Int))→LsA B c [.i64] a∧(∃(b:Nat),Ob (b≤a.length)∧Ob (SV.lst c a.length 1 (Rv.elemOf [.i64] a)=SV.lst c a.length 1 (Rv.elemOf [.i64] a))∧Ob ((↑a.length:Int)=(↑a.length:Int))∧Ob ((0:Int)=(↑b:Int))∧LsA B c [.i64] a∧True)∧∀(b:Nat),b≤a.length→∀(_ _ _ _ _ _ _ _ _ _ _ _:Value),((↑b:Int) < (↑a.length:Int)→Ob ((0:Int)≤(↑b:Int)∧b < a.length∧IsLst B c a.length 1 (Rv.elemOf [.i64] a))∧Ob (IsLst B c a.length 1 (Rv.elemOf [.i64] a)∧b < a.length)∧(¬cell a b 0=(0:Int)→Ob (cell a b 0=(0:Int))∧True)∧(¬¬cell a b 0=(0:Int)→Ob (InR .i64 ((↑b:Int)+(1:Int)))∧∃(d:Nat),Ob (d≤a.length∧a.length-d < a.length-b)∧Ob (SV.lst c a.length 1 (Rv.elemOf [.i64] a)=SV.lst c a.length 1 (Rv.elemOf [.i64] a))∧Ob ((↑a.length:Int)=(↑a.length:Int))∧Ob ((↑b:Int)+(1:Int)=(↑d:Int))∧LsA B c [.i64] a∧True))∧(¬(↑b:Int) < (↑a.length:Int)→Ob ((0:Int)=(0:Int))∧True)
set_option linter.unusedSimpArgs false in
set_option maxRecDepth 4000 in
set_option maxHeartbeats 400000 in
theorem v_first:V_first:=by
 unfold V_first LsA
 intro B x L hx hox hrx ⟨hl,hc⟩
 simp only [Ob_iff,and_true,true_and]
 refine⟨hx,⟨0,by omega,rfl,hx⟩,?_⟩
 intro k hk
 intros
 refine⟨fun h1=>?_,fun _=>trivial⟩
 have hk':k < L.length:=by omega
 have c:=hc k hk'
 refine⟨⟨by omega,hk',hx⟩,⟨hx,hk'⟩,fun h2=>absurd c h2,fun h2=>?_⟩
 exact⟨by simp only [InR]; omega,k+1,⟨hk',by omega⟩,by omega,hx⟩
theorem e_first:V_first=needF P [] A_first F_first:=by kernel_rfl
theorem n_first:Ob (needF P [] A_first F_first):=by
 rw [← e_first]
 exact⟨v_first⟩
theorem b_first:((P.funcs[70]?).any fun fn=>fn.body.isSome)=true:=by kernel_rfl
theorem first_ok:Fn0.Ok P F_first:=Fn0.ok named (l:=[]) (A:=A_first) (by rfl) (by
 intro F h; simp at h) b_first (by
 intro ds N
 simp only [F_first]
 split<;>rfl) n_first
noncomputable def F_checkWater:Fn0:=⟨69,[.agg [.i .i64,.i .i64,.i .i64,.i .i64,.i .i64,.i .i64]],fun l=>match l with | [.z n1,.z n2,.z n3,.z n4,.z n5,.z n6]=>WaOk n1 n2 n3 n4 n5 n6 | _=>False,fun l=>match l with | [.z n1,.z n2,.z n3,.z n4,.z n5,.z n6]=>.i .i64 0 | _=>.v undef⟩
noncomputable def A_checkWater:List SV→List Dat→Nat→List SV→Ann:=fun _ _ _ _=>noAnn
def V_checkWater:Prop:=
 ∀(B:RW) (f d c b g a:Int),WaOk f d c b g a→Ob (SpOk f d (0:Int) (100000:Int))∧Ob (SpOk c b (0:Int) (100000:Int))∧Ob (SpOk g a (-50:Int) (400:Int))∧Ob ((3:Nat)≤1000∧∀(e:Nat),e < 3→cell [[(0:Int)],[(0:Int)],[(0:Int)]] e 0=(0:Int))∧Ob ((0:Int)=(0:Int))∧True
set_option linter.unusedSimpArgs false in
set_option maxRecDepth 4000 in
set_option maxHeartbeats 400000 in
theorem v_checkWater:V_checkWater:=by
 unfold V_checkWater
 intro B a b c d e f h
 simp only [Ob_iff,and_true,true_and]
 exact⟨h.1,h.2.1,h.2.2,by omega,fun i hi=>by
  rcases(show i=0∨i=1∨i=2 by omega)with rfl | rfl | rfl<;>rfl⟩
theorem e_checkWater:V_checkWater=needF P [F_checkSpan,F_first] A_checkWater F_checkWater:=by kernel_rfl
theorem n_checkWater:Ob (needF P [F_checkSpan,F_first] A_checkWater F_checkWater):=by
 rw [← e_checkWater]
 exact⟨v_checkWater⟩
theorem b_checkWater:((P.funcs[69]?).any fun fn=>fn.body.isSome)=true:=by kernel_rfl
theorem checkWater_ok:Fn0.Ok P F_checkWater:=Fn0.ok named (l:=[F_checkSpan,F_first]) (A:=A_checkWater) (by rfl) (by
 intro F h
 simp only [List.mem_cons,List.not_mem_nil,or_false]at h
 rcases h with rfl | rfl
 ·exact checkSpan_ok
 ·exact first_ok
) b_checkWater (by
 intro ds N
 simp only [F_checkWater]
 split<;>rfl) n_checkWater
noncomputable def F_checkTank:Fn0:=⟨42,[.agg [.i .i64,.i .i64,.i .i64,.i .i64,.i .i64,.i .i64,.i .i64,.i .i64]],fun l=>match l with | [.z lt,.z gr,.z n1,.z n2,.z n3,.z n4,.z n5,.z n6]=>(1≤lt∧lt≤100000)∧(0≤gr∧gr≤10000000)∧WaOk n1 n2 n3 n4 n5 n6 | _=>False,fun l=>match l with | [.z lt,.z gr,.z n1,.z n2,.z n3,.z n4,.z n5,.z n6]=>.i .i64 0 | _=>.v undef⟩
noncomputable def A_checkTank:List SV→List Dat→Nat→List SV→Ann:=fun _ _ _ _=>noAnn
def V_checkTank:Prop:=
 ∀(B:RW) (b a e d h c f g:Int),((1:Int)≤b∧b≤(100000:Int))∧((0:Int)≤a∧a≤(10000000:Int))∧WaOk e d h c f g→Ob True∧(¬¬((1:Int)≤b∧b≤(100000:Int))→Ob True∧(¬((0:Int)≤a∧a≤(10000000:Int))→Ob ((1:Int)=(0:Int))∧True)∧(¬¬((0:Int)≤a∧a≤(10000000:Int))→Ob (WaOk e d h c f g)∧Ob ((0:Int)=(0:Int))∧True))∧(¬((1:Int)≤b∧b≤(100000:Int))→Ob ((1:Int)=(0:Int))∧True)
set_option linter.unusedSimpArgs false in
set_option maxRecDepth 4000 in
set_option maxHeartbeats 400000 in
theorem v_checkTank:V_checkTank:=by
 unfold V_checkTank
 intro B lt gr a b c d e f ⟨h1,h2,h3⟩
 simp only [Ob_iff,and_true,true_and]
 exact⟨fun _=>⟨fun h=>absurd h2 h,fun _=>h3⟩,fun h=>absurd h1 h⟩
theorem e_checkTank:V_checkTank=needF P [F_checkWater,F_withinT] A_checkTank F_checkTank:=by kernel_rfl
theorem n_checkTank:Ob (needF P [F_checkWater,F_withinT] A_checkTank F_checkTank):=by
 rw [← e_checkTank]
 exact⟨v_checkTank⟩
theorem b_checkTank:((P.funcs[42]?).any fun fn=>fn.body.isSome)=true:=by kernel_rfl
theorem checkTank_ok:Fn0.Ok P F_checkTank:=Fn0.ok named (l:=[F_checkWater,F_withinT]) (A:=A_checkTank) (by rfl) (by
 intro F h
 simp only [List.mem_cons,List.not_mem_nil,or_false]at h
 rcases h with rfl | rfl
 ·exact checkWater_ok
 ·exact withinT_ok
) b_checkTank (by
 intro ds N
 simp only [F_checkTank]
 split<;>rfl) n_checkTank
noncomputable def F_checkHours:Fn0:=⟨44,[.agg [.l [.i64,.i64,.i64,.i64,.i64,.i64,.i64,.i64],.l [.i64,.i64],.i .i64,.i .i64,.i .i64,.i .i64,.i .i64,.i .i64,.i .i64,.i .i64,.i .i64,.i .i64,.i .i64,.i .i64,.i .i64,.i .i64,.i .i64,.i .i64,.i .i64,.i .i64]],fun l=>match l with | [.l T,.l R,.z s1,.z s2,.z s3,.z s4,.z s5,.z s6,.z u1,.z u2,.z v1,.z v2,.z a1,.z a2,.z g1,.z g2,.z le,.z mo,.z w1,.z w2]=>(Pl.mk T R s1 s2 s3 s4 s5 s6 u1 u2 v1 v2 a1 a2 g1 g2 le mo w1 w2).Ok | _=>False,fun l=>match l with | [.l T,.l R,.z s1,.z s2,.z s3,.z s4,.z s5,.z s6,.z u1,.z u2,.z v1,.z v2,.z a1,.z a2,.z g1,.z g2,.z le,.z mo,.z w1,.z w2]=>.i .i64 0 | _=>.v undef⟩
noncomputable def A_checkHours:List SV→List Dat→Nat→List SV→Ann:=fun _ _ _ _=>noAnn
def V_checkHours:Prop:=
 ∀(B:RW) (i:RV) (c:List (List Int)),IsLst B i c.length 8 (Rv.elemOf [.i64,.i64,.i64,.i64,.i64,.i64,.i64,.i64] c)→oneB i=true→(∀row∈c,row.length=8)→∀(q:RV) (d:List (List Int)),IsLst B q d.length 2 (Rv.elemOf I2 d)→oneB q=true→(∀row∈d,row.length=2)→∀(h p f o w n l r v e t j g u b a s m:Int),(Pl.mk c d h p f o w n l r v e t j g u b a s m).Ok→Ob (WaOk h p f o w n)∧Ob (SpOk l r (0:Int) (100000:Int))∧Ob (SpOk v e (0:Int) (100000:Int))∧Ob (SpOk t j (0:Int) (100000:Int))∧Ob (SpOk g u (-400:Int) (400:Int))∧Ob ((5:Nat)≤1000∧∀(k:Nat),k < 5→cell [[(0:Int)],[(0:Int)],[(0:Int)],[(0:Int)],[(0:Int)]] k 0=(0:Int))∧(¬(0:Int)=(0:Int)→Ob ((0:Int)=(0:Int))∧True)∧(¬¬(0:Int)=(0:Int)→Ob True∧(¬¬((0:Int)≤b∧b≤(100000:Int))→Ob True∧(¬((0:Int)≤a∧a≤(100000:Int))→Ob ((1:Int)=(0:Int))∧True)∧(¬¬((0:Int)≤a∧a≤(100000:Int))→Ob (SpOk s m (-50:Int) (400:Int))∧Ob ((0:Int)=(0:Int))∧True))∧(¬((0:Int)≤b∧b≤(100000:Int))→Ob ((1:Int)=(0:Int))∧True))
set_option linter.unusedSimpArgs false in
set_option maxRecDepth 4000 in
set_option maxHeartbeats 400000 in
theorem v_checkHours:V_checkHours:=by
 unfold V_checkHours I2
 intro B x T hx hox hrx y R hy hoy hry
 intro s1 s2 s3 s4 s5 s6 u1 u2 v1 v2 a1 a2 g1 g2 le mo w1 w2
 intro h
 simp only [Ob_iff,and_true,true_and]
 exact⟨h.s,h.u,h.v,h.a,h.g,⟨by omega,fun i hi=>by
  rcases(show i=0∨i=1∨i=2∨i=3∨i=4 by omega)with rfl | rfl | rfl | rfl | rfl<;>rfl⟩,fun _=>trivial,fun _=>⟨fun _=>⟨fun h2=>absurd h.e.2 h2,fun _=>h.w⟩,fun h2=>absurd h.e.1 h2⟩⟩
theorem e_checkHours:V_checkHours=needF P [F_checkWater,F_checkSpan,F_first,F_isReading] A_checkHours F_checkHours:=by kernel_rfl
theorem n_checkHours:Ob (needF P [F_checkWater,F_checkSpan,F_first,F_isReading] A_checkHours F_checkHours):=by
 rw [← e_checkHours]
 exact⟨v_checkHours⟩
theorem b_checkHours:((P.funcs[44]?).any fun fn=>fn.body.isSome)=true:=by kernel_rfl
theorem checkHours_ok:Fn0.Ok P F_checkHours:=Fn0.ok named (l:=[F_checkWater,F_checkSpan,F_first,F_isReading]) (A:=A_checkHours) (by rfl) (by
 intro F h
 simp only [List.mem_cons,List.not_mem_nil,or_false]at h
 rcases h with rfl | rfl | rfl | rfl
 ·exact checkWater_ok
 ·exact checkSpan_ok
 ·exact first_ok
 ·exact isReading_ok
) b_checkHours (by
 intro ds N
 simp only [F_checkHours]
 split<;>rfl) n_checkHours
noncomputable def F_checkPumps:FnE:=⟨43,none,[.agg [.l [.i64,.i64,.i64,.i64,.i64,.i64,.i64,.i64],.l [.i64,.i64],.i .i64,.i .i64,.i .i64,.i .i64,.i .i64,.i .i64,.i .i64,.i .i64,.i .i64,.i .i64,.i .i64,.i .i64,.i .i64,.i .i64,.i .i64,.i .i64,.i .i64,.i .i64]],fun l=>match l with | [.l T,.l R,.z s1,.z s2,.z s3,.z s4,.z s5,.z s6,.z u1,.z u2,.z v1,.z v2,.z a1,.z a2,.z g1,.z g2,.z le,.z mo,.z w1,.z w2]=>(Pl.mk T R s1 s2 s3 s4 s5 s6 u1 u2 v1 v2 a1 a2 g1 g2 le mo w1 w2).Ok | _=>False,fun l=>match l with | [.l T,.l R,.z s1,.z s2,.z s3,.z s4,.z s5,.z s6,.z u1,.z u2,.z v1,.z v2,.z a1,.z a2,.z g1,.z g2,.z le,.z mo,.z w1,.z w2]=>[.i .i64 0] | _=>[],fun l=>match l with | [.l T,.l R,.z s1,.z s2,.z s3,.z s4,.z s5,.z s6,.z u1,.z u2,.z v1,.z v2,.z a1,.z a2,.z g1,.z g2,.z le,.z mo,.z w1,.z w2]=>[] | _=>[],fun l=>match l with | [.l T,.l R,.z s1,.z s2,.z s3,.z s4,.z s5,.z s6,.z u1,.z u2,.z v1,.z v2,.z a1,.z a2,.z g1,.z g2,.z le,.z mo,.z w1,.z w2]=>[] | _=>[],false,none,none⟩
noncomputable def A_checkPumps:List SV→List Dat→Nat→List SV→Ann:=fun xs ds n ts=>match xs with
 | [.agg (.lst x _ _ _ :: .lst y _ _ _ :: _)]=>match ds with
  | [.l T,.l R,.z s1,.z s2,.z s3,.z s4,.z s5,.z s6,.z u1,.z u2,.z v1,.z v2,.z a1,.z a2,.z g1,.z g2,.z le,.z mo,.z w1,.z w2]=>match n with
   | 5=>⟨Nat,fun k=>([none,some (SV.ptr ((0:Nat)) ((0:Nat))),none,some (.gsl 1 T.length 1 false)]++nN 11++[some (SV.lst y R.length ((2:Nat)) (Rv.elemOf [IntKind.i64,IntKind.i64] R)),some (SV.i IntKind.i64 (↑R.length:Int)),some (.i .i64 k)]++nN 37),fun k=>[.gr T.length 1 (.fn fun i=>[.i .i64 (flT R i (-1) 0 0 k)]) .ex false,SObj.cells [SV.lst x T.length ((8:Nat)) (Rv.elemOf [IntKind.i64,IntKind.i64,IntKind.i64,IntKind.i64,IntKind.i64,IntKind.i64,IntKind.i64,IntKind.i64] T),SV.lst y R.length ((2:Nat)) (Rv.elemOf [IntKind.i64,IntKind.i64] R),SV.i IntKind.i64 s1,SV.i IntKind.i64 s2,SV.i IntKind.i64 s3,SV.i IntKind.i64 s4,SV.i IntKind.i64 s5,SV.i IntKind.i64 s6,SV.i IntKind.i64 u1,SV.i IntKind.i64 u2,SV.i IntKind.i64 v1,SV.i IntKind.i64 v2,SV.i IntKind.i64 a1,SV.i IntKind.i64 a2,SV.i IntKind.i64 g1,SV.i IntKind.i64 g2,SV.i IntKind.i64 le,SV.i IntKind.i64 mo,SV.i IntKind.i64 w1,SV.i IntKind.i64 w2] Kd.ex],fun k=>k≤R.length,fun k=>R.length-k,0⟩
   | _=>noAnn
  | _=>noAnn
 | _=>noAnn
def V_checkPumps:Prop:=
 ∀(B:RW) (d:RV) (b:List (List Int)),IsLst B d b.length 8 (Rv.elemOf [.i64,.i64,.i64,.i64,.i64,.i64,.i64,.i64] b)→oneB d=true→(∀row∈b,row.length=8)→∀(e:RV) (a:List (List Int)),IsLst B e a.length 2 (Rv.elemOf I2 a)→oneB e=true→(∀row∈a,row.length=2)→∀(k q i p y o m r x h u l j v w s t n:Int),F_checkPumps.pre ([Dat.l b,Dat.l a,Dat.z k,Dat.z q,Dat.z i,Dat.z p,Dat.z y,Dat.z o,Dat.z m,Dat.z r,Dat.z x,Dat.z h,Dat.z u,Dat.z l,Dat.z j,Dat.z v,Dat.z w,Dat.z s,Dat.z t,Dat.z n]++[])→LsA B e I2 a∧((8:Int) < (↑a.length:Int)→Ob ((5:Int)=(0:Int))∧True)∧(¬(8:Int) < (↑a.length:Int)→LsA B d [.i64,.i64,.i64,.i64,.i64,.i64,.i64,.i64] b∧Ob ((↑b.length:Int)=(↑b.length:Int)∧(0:Int)≤(↑b.length:Int)∧b.length*(9:Nat)≤1099511627776)∧LsA B e I2 a∧(∃(c:Nat),Ob (c≤a.length)∧Ob (b.length=b.length)∧Ob (SV.lst e a.length 2 (Rv.elemOf I2 a)=SV.lst e a.length 2 (Rv.elemOf I2 a))∧Ob ((↑a.length:Int)=(↑a.length:Int))∧Ob ((0:Int)=(↑c:Int))∧EqA b.length b.length (El.fn fun(d:Nat)↦symL (List.map SV.v (Value.int .i64 (0:Int)).cells.toList)) (El.fn fun(f:Nat)↦[SV.i .i64 (flT a (↑f:Int) (-1:Int) (0:Int) (0:Int) c)])∧Ob (SV.lst d b.length 8 (Rv.elemOf [.i64,.i64,.i64,.i64,.i64,.i64,.i64,.i64] b)=SV.lst d b.length 8 (Rv.elemOf [.i64,.i64,.i64,.i64,.i64,.i64,.i64,.i64] b))∧Ob (SV.lst e a.length 2 (Rv.elemOf I2 a)=SV.lst e a.length 2 (Rv.elemOf I2 a))∧Ob (k=k)∧Ob (q=q)∧Ob (i=i)∧Ob (p=p)∧Ob (y=y)∧Ob (o=o)∧Ob (m=m)∧Ob (r=r)∧Ob (x=x)∧Ob (h=h)∧Ob (u=u)∧Ob (l=l)∧Ob (j=j)∧Ob (v=v)∧Ob (w=w)∧Ob (s=s)∧Ob (t=t)∧Ob (n=n)∧LsA B e I2 a∧Ob (PlainE b.length (El.fn fun(f:Nat)↦[SV.i .i64 (flT a (↑f:Int) (-1:Int) (0:Int) (0:Int) c)]))∧LsA B d [.i64,.i64,.i64,.i64,.i64,.i64,.i64,.i64] b∧LsA B e I2 a∧True)∧∀(c:Nat),c≤a.length→∀(_ _ _ _ _ _ _ _ _ _ _ _ _ _ _ _ _ _ _ _ _ _ _ _ _ _ _ _ _ _ _ _ _ _ _ _ _ _ _ _ _ _ _ _ _ _ _ _ _ _:Value),((↑c:Int) < (↑a.length:Int)→Ob ((0:Int)≤(↑c:Int)∧c < a.length∧IsLst B e a.length 2 (Rv.elemOf I2 a))∧Ob (IsLst B e a.length 2 (Rv.elemOf I2 a)∧c < a.length)∧LsA B d [.i64,.i64,.i64,.i64,.i64,.i64,.i64,.i64] b∧Ob True∧(¬((0:Int)≤cell a c 0∧cell a c 0 < (↑b.length:Int))→Ob ((6:Int)=(0:Int))∧True)∧(¬¬((0:Int)≤cell a c 0∧cell a c 0 < (↑b.length:Int))→Ob True∧(¬((0:Int)≤cell a c 1∧cell a c 1≤(100000:Int))→Ob ((1:Int)=(0:Int))∧True)∧(¬¬((0:Int)≤cell a c 1∧cell a c 1≤(100000:Int))→Ob ((0:Int)≤cell a c 0∧(cell a c 0).toNat < b.length)∧Ob ((cell a c 0).toNat < b.length)∧Ob (InR .i64 (flT a (↑(cell a c 0).toNat:Int) (-1:Int) (0:Int) (0:Int) c+cell a c 1))∧Ob ((0:Int)≤cell a c 0∧(cell a c 0).toNat < b.length)∧Ob ((cell a c 0).toNat < b.length∧((El.fn fun(f:Nat)↦[SV.i .i64 (flT a (↑f:Int) (-1:Int) (0:Int) (0:Int) c)]).at (cell a c 0).toNat).length=(1:Nat))∧Ob ((0:Int)≤cell a c 0∧(cell a c 0).toNat < b.length)∧Ob ((cell a c 0).toNat < b.length)∧((cell a c 0).toNat=(cell a c 0).toNat→LsA B d [.i64,.i64,.i64,.i64,.i64,.i64,.i64,.i64] b∧Ob ((0:Int)≤cell a c 0∧(cell a c 0).toNat < b.length∧IsLst B d b.length 8 (Rv.elemOf [.i64,.i64,.i64,.i64,.i64,.i64,.i64,.i64] b))∧Ob (IsLst B d b.length 8 (Rv.elemOf [.i64,.i64,.i64,.i64,.i64,.i64,.i64,.i64] b)∧(cell a c 0).toNat < b.length)∧Ob (IsLst B d b.length 8 (Rv.elemOf [.i64,.i64,.i64,.i64,.i64,.i64,.i64,.i64] b)∧(cell a c 0).toNat < b.length)∧Ob (IsLst B d b.length 8 (Rv.elemOf [.i64,.i64,.i64,.i64,.i64,.i64,.i64,.i64] b)∧(cell a c 0).toNat < b.length)∧(cell b (cell a c 0).toNat 0 < flT a (↑(cell a c 0).toNat:Int) (-1:Int) (0:Int) (0:Int) c+cell a c 1→Ob ((12:Int)=(0:Int))∧True)∧(¬cell b (cell a c 0).toNat 0 < flT a (↑(cell a c 0).toNat:Int) (-1:Int) (0:Int) (0:Int) c+cell a c 1→Ob (InR .i64 ((↑c:Int)+(1:Int)))∧∃(g:Nat),Ob (g≤a.length∧a.length-g < a.length-c)∧Ob (b.length=b.length)∧Ob (SV.lst e a.length 2 (Rv.elemOf I2 a)=SV.lst e a.length 2 (Rv.elemOf I2 a))∧Ob ((↑a.length:Int)=(↑a.length:Int))∧Ob ((↑c:Int)+(1:Int)=(↑g:Int))∧EqA b.length b.length (updL (El.fn fun(f:Nat)↦[SV.i .i64 (flT a (↑f:Int) (-1:Int) (0:Int) (0:Int) c)]) (cell a c 0).toNat 0 [SV.i .i64 (flT a (↑(cell a c 0).toNat:Int) (-1:Int) (0:Int) (0:Int) c+cell a c 1)]) (El.fn fun(f:Nat)↦[SV.i .i64 (flT a (↑f:Int) (-1:Int) (0:Int) (0:Int) g)])∧Ob (SV.lst d b.length 8 (Rv.elemOf [.i64,.i64,.i64,.i64,.i64,.i64,.i64,.i64] b)=SV.lst d b.length 8 (Rv.elemOf [.i64,.i64,.i64,.i64,.i64,.i64,.i64,.i64] b))∧Ob (SV.lst e a.length 2 (Rv.elemOf I2 a)=SV.lst e a.length 2 (Rv.elemOf I2 a))∧Ob (k=k)∧Ob (q=q)∧Ob (i=i)∧Ob (p=p)∧Ob (y=y)∧Ob (o=o)∧Ob (m=m)∧Ob (r=r)∧Ob (x=x)∧Ob (h=h)∧Ob (u=u)∧Ob (l=l)∧Ob (j=j)∧Ob (v=v)∧Ob (w=w)∧Ob (s=s)∧Ob (t=t)∧Ob (n=n)∧LsA B e I2 a∧Ob (PlainE b.length (El.fn fun(f:Nat)↦[SV.i .i64 (flT a (↑f:Int) (-1:Int) (0:Int) (0:Int) g)]))∧LsA B d [.i64,.i64,.i64,.i64,.i64,.i64,.i64,.i64] b∧LsA B e I2 a∧True))∧(¬(cell a c 0).toNat=(cell a c 0).toNat→LsA B d [.i64,.i64,.i64,.i64,.i64,.i64,.i64,.i64] b∧Ob ((0:Int)≤cell a c 0∧(cell a c 0).toNat < b.length∧IsLst B d b.length 8 (Rv.elemOf [.i64,.i64,.i64,.i64,.i64,.i64,.i64,.i64] b))∧Ob (IsLst B d b.length 8 (Rv.elemOf [.i64,.i64,.i64,.i64,.i64,.i64,.i64,.i64] b)∧(cell a c 0).toNat < b.length)∧Ob (IsLst B d b.length 8 (Rv.elemOf [.i64,.i64,.i64,.i64,.i64,.i64,.i64,.i64] b)∧(cell a c 0).toNat < b.length)∧Ob (IsLst B d b.length 8 (Rv.elemOf [.i64,.i64,.i64,.i64,.i64,.i64,.i64,.i64] b)∧(cell a c 0).toNat < b.length)∧(cell b (cell a c 0).toNat 0 < flT a (↑(cell a c 0).toNat:Int) (-1:Int) (0:Int) (0:Int) c→Ob ((12:Int)=(0:Int))∧True)∧(¬cell b (cell a c 0).toNat 0 < flT a (↑(cell a c 0).toNat:Int) (-1:Int) (0:Int) (0:Int) c→Ob (InR .i64 ((↑c:Int)+(1:Int)))∧∃(g:Nat),Ob (g≤a.length∧a.length-g < a.length-c)∧Ob (b.length=b.length)∧Ob (SV.lst e a.length 2 (Rv.elemOf I2 a)=SV.lst e a.length 2 (Rv.elemOf I2 a))∧Ob ((↑a.length:Int)=(↑a.length:Int))∧Ob ((↑c:Int)+(1:Int)=(↑g:Int))∧EqA b.length b.length (updL (El.fn fun(f:Nat)↦[SV.i .i64 (flT a (↑f:Int) (-1:Int) (0:Int) (0:Int) c)]) (cell a c 0).toNat 0 [SV.i .i64 (flT a (↑(cell a c 0).toNat:Int) (-1:Int) (0:Int) (0:Int) c+cell a c 1)]) (El.fn fun(f:Nat)↦[SV.i .i64 (flT a (↑f:Int) (-1:Int) (0:Int) (0:Int) g)])∧Ob (SV.lst d b.length 8 (Rv.elemOf [.i64,.i64,.i64,.i64,.i64,.i64,.i64,.i64] b)=SV.lst d b.length 8 (Rv.elemOf [.i64,.i64,.i64,.i64,.i64,.i64,.i64,.i64] b))∧Ob (SV.lst e a.length 2 (Rv.elemOf I2 a)=SV.lst e a.length 2 (Rv.elemOf I2 a))∧Ob (k=k)∧Ob (q=q)∧Ob (i=i)∧Ob (p=p)∧Ob (y=y)∧Ob (o=o)∧Ob (m=m)∧Ob (r=r)∧Ob (x=x)∧Ob (h=h)∧Ob (u=u)∧Ob (l=l)∧Ob (j=j)∧Ob (v=v)∧Ob (w=w)∧Ob (s=s)∧Ob (t=t)∧Ob (n=n)∧LsA B e I2 a∧Ob (PlainE b.length (El.fn fun(f:Nat)↦[SV.i .i64 (flT a (↑f:Int) (-1:Int) (0:Int) (0:Int) g)]))∧LsA B d [.i64,.i64,.i64,.i64,.i64,.i64,.i64,.i64] b∧LsA B e I2 a∧True)))))∧(¬(↑c:Int) < (↑a.length:Int)→Ob ((0:Int)=(0:Int))∧True))
set_option linter.unusedSimpArgs false in
set_option maxRecDepth 4000 in
set_option maxHeartbeats 4000000 in
theorem v_checkPumps:V_checkPumps:=by
 unfold V_checkPumps EqA I2 LsA
 intro B x T hx hox hrx y R hy hoy hry
 intro s1 s2 s3 s4 s5 s6 u1 u2 v1 v2 a1 a2 g1 g2 le mo w1 w2
 intro hok
 obtain⟨hn,ht,hm,hr,hf⟩:(1≤T.length∧T.length≤6)∧(∀i,i < T.length→TkOk T i)∧R.length≤8∧(∀i,i < R.length→(0≤cell R i 0∧cell R i 0 < T.length)∧0≤cell R i 1∧cell R i 1≤100000)∧∀i:Nat,i < T.length→flT R i (-1) 0 0 R.length≤cell T i 0:=⟨hok.n,hok.t,hok.m,hok.r,hok.f⟩
 simp only [Ob_iff,and_true,true_and]
 refine⟨hy,fun h=>by omega,fun _=>⟨hx,⟨by omega,by omega⟩,hy,⟨0,by omega,by omega,fun i _=>rfl,hy,plain_fn1' _ _,hx,hy⟩,?_⟩⟩
 intro k hk
 intros
 refine⟨fun h1=>?_,fun _=>trivial⟩
 have hk':k < R.length:=by omega
 obtain⟨c0,c1⟩:=hr k hk'
 obtain⟨t,et⟩:∃t:Nat,cell R k 0=t:=⟨(cell R k 0).toNat,by omega⟩
 have htn:(cell R k 0).toNat=t:=by omega
 have hT:t < T.length:=by omega
 simp only [htn]
 have b0:=flT_bd (R:=R) (nu:=t) (sp:=-1) (sf:=0) (h:=0) (k:=k) fun i hi=>(hr i (by omega)).2
 have st:=flA_step R t k
 rw [if_pos et]at st
 have mn:=flA_mono (R:=R) (nu:=t) (k:=k+1) (n:=R.length) (by omega) fun i hi=>(hr i hi).2.1
 have le:=hf t hT
 have tk:=(ht t hT).l
 refine⟨⟨by omega,hk',hy⟩,⟨hy,hk'⟩,hx,fun h=>absurd c0 h,fun _=>⟨fun h=>absurd c1 h,fun _=>⟨⟨by omega,hT⟩,hT,by simp only [InR]; omega,⟨by omega,hT⟩,⟨hT,rfl⟩,⟨by omega,hT⟩,hT,?_⟩⟩⟩
 refine⟨fun _=>⟨hx,⟨by omega,hT,hx⟩,⟨hx,hT⟩,⟨hx,hT⟩,⟨hx,hT⟩,fun h=>by omega,fun _=>⟨by simp only [InR]; omega,k+1,⟨hk',by omega⟩,by omega,?_,hy,plain_fn1' _ _,hx,hy⟩⟩,fun h=>(h (by trivial)).elim⟩
 intro i hi
 simp only [updL,El.at]
 by_cases e:i=t
 ·subst e
  simp [st]
 ·rw [if_neg e,flA_step R i k,if_neg (by omega)]
  simp
theorem e_checkPumps:V_checkPumps=needE P [F_isIndex,F_withinT] [] A_checkPumps F_checkPumps:=by kernel_rfl
theorem n_checkPumps:Ob (needE P [F_isIndex,F_withinT] [] A_checkPumps F_checkPumps):=by
 rw [← e_checkPumps]
 exact⟨v_checkPumps⟩
theorem b_checkPumps:((P.funcs[43]?).any fun fn=>fn.body.isSome)=true:=by kernel_rfl
theorem checkPumps_ok:FnE.Ok P F_checkPumps:=FnE.ok named (l:=[F_isIndex,F_withinT]) (es:=[]) (A:=A_checkPumps) (by rfl) (by rfl) (by rfl) (by
 intro F h
 simp only [List.mem_cons,List.not_mem_nil,or_false]at h
 rcases h with rfl | rfl
 ·exact isIndex_ok
 ·exact withinT_ok
) (by
 intro F h; simp at h) b_checkPumps (by
 rintro ds h o ho n sz e k z rfl
 simp only [F_checkPumps]at ho
 split at ho<;>simp at ho) n_checkPumps
noncomputable def F_Check:FnE:=⟨17,none,[.agg [.l [.i64,.i64,.i64,.i64,.i64,.i64,.i64,.i64],.l [.i64,.i64],.i .i64,.i .i64,.i .i64,.i .i64,.i .i64,.i .i64,.i .i64,.i .i64,.i .i64,.i .i64,.i .i64,.i .i64,.i .i64,.i .i64,.i .i64,.i .i64,.i .i64,.i .i64]],fun l=>match l with | [.l T,.l R,.z s1,.z s2,.z s3,.z s4,.z s5,.z s6,.z u1,.z u2,.z v1,.z v2,.z a1,.z a2,.z g1,.z g2,.z le,.z mo,.z w1,.z w2]=>(Pl.mk T R s1 s2 s3 s4 s5 s6 u1 u2 v1 v2 a1 a2 g1 g2 le mo w1 w2).Ok | _=>False,fun l=>match l with | [.l T,.l R,.z s1,.z s2,.z s3,.z s4,.z s5,.z s6,.z u1,.z u2,.z v1,.z v2,.z a1,.z a2,.z g1,.z g2,.z le,.z mo,.z w1,.z w2]=>[.i .i64 0] | _=>[],fun l=>match l with | [.l T,.l R,.z s1,.z s2,.z s3,.z s4,.z s5,.z s6,.z u1,.z u2,.z v1,.z v2,.z a1,.z a2,.z g1,.z g2,.z le,.z mo,.z w1,.z w2]=>[] | _=>[],fun l=>match l with | [.l T,.l R,.z s1,.z s2,.z s3,.z s4,.z s5,.z s6,.z u1,.z u2,.z v1,.z v2,.z a1,.z a2,.z g1,.z g2,.z le,.z mo,.z w1,.z w2]=>[] | _=>[],false,none,none⟩
noncomputable def A_Check:List SV→List Dat→Nat→List SV→Ann:=fun xs ds n ts=>match xs with
 | [.agg (.lst x _ _ _ :: .lst y _ _ _ :: _)]=>match ds with
  | [.l T,.l R,.z s1,.z s2,.z s3,.z s4,.z s5,.z s6,.z u1,.z u2,.z v1,.z v2,.z a1,.z a2,.z g1,.z g2,.z le,.z mo,.z w1,.z w2]=>match n with
   | 6=>⟨Nat,fun k=>([none,some (SV.ptr ((0:Nat)) ((0:Nat)))]++nN 16++[some (SV.lst x T.length ((8:Nat)) (Rv.elemOf [IntKind.i64,IntKind.i64,IntKind.i64,IntKind.i64,IntKind.i64,IntKind.i64,IntKind.i64,IntKind.i64] T)),some (SV.i IntKind.i64 (↑T.length:Int)),some (.i .i64 k)]++nN 16),fun k=>[SObj.cells [SV.lst x T.length ((8:Nat)) (Rv.elemOf [IntKind.i64,IntKind.i64,IntKind.i64,IntKind.i64,IntKind.i64,IntKind.i64,IntKind.i64,IntKind.i64] T),SV.lst y R.length ((2:Nat)) (Rv.elemOf [IntKind.i64,IntKind.i64] R),SV.i IntKind.i64 s1,SV.i IntKind.i64 s2,SV.i IntKind.i64 s3,SV.i IntKind.i64 s4,SV.i IntKind.i64 s5,SV.i IntKind.i64 s6,SV.i IntKind.i64 u1,SV.i IntKind.i64 u2,SV.i IntKind.i64 v1,SV.i IntKind.i64 v2,SV.i IntKind.i64 a1,SV.i IntKind.i64 a2,SV.i IntKind.i64 g1,SV.i IntKind.i64 g2,SV.i IntKind.i64 le,SV.i IntKind.i64 mo,SV.i IntKind.i64 w1,SV.i IntKind.i64 w2] Kd.ex],fun k=>k≤T.length,fun k=>T.length-k,0⟩
   | _=>noAnn
  | _=>noAnn
 | _=>noAnn
def V_Check:Prop:=
 ∀(B:RW) (c:RV) (a:List (List Int)),IsLst B c a.length 8 (Rv.elemOf [.i64,.i64,.i64,.i64,.i64,.i64,.i64,.i64] a)→oneB c=true→(∀row∈a,row.length=8)→∀(e:RV) (d:List (List Int)),IsLst B e d.length 2 (Rv.elemOf I2 d)→oneB e=true→(∀row∈d,row.length=2)→∀(i o g n w m k p v f s j h t u q r l:Int),F_Check.pre ([Dat.l a,Dat.l d,Dat.z i,Dat.z o,Dat.z g,Dat.z n,Dat.z w,Dat.z m,Dat.z k,Dat.z p,Dat.z v,Dat.z f,Dat.z s,Dat.z j,Dat.z h,Dat.z t,Dat.z u,Dat.z q,Dat.z r,Dat.z l]++[])→LsA B c [.i64,.i64,.i64,.i64,.i64,.i64,.i64,.i64] a∧((↑a.length:Int)=(0:Int)→Ob ((4:Int)=(0:Int))∧True)∧(¬(↑a.length:Int)=(0:Int)→LsA B c [.i64,.i64,.i64,.i64,.i64,.i64,.i64,.i64] a∧((6:Int) < (↑a.length:Int)→Ob ((5:Int)=(0:Int))∧True)∧(¬(6:Int) < (↑a.length:Int)→LsA B c [.i64,.i64,.i64,.i64,.i64,.i64,.i64,.i64] a∧(∃(b:Nat),Ob (b≤a.length)∧Ob (SV.lst c a.length 8 (Rv.elemOf [.i64,.i64,.i64,.i64,.i64,.i64,.i64,.i64] a)=SV.lst c a.length 8 (Rv.elemOf [.i64,.i64,.i64,.i64,.i64,.i64,.i64,.i64] a))∧Ob ((↑a.length:Int)=(↑a.length:Int))∧Ob ((0:Int)=(↑b:Int))∧Ob (SV.lst c a.length 8 (Rv.elemOf [.i64,.i64,.i64,.i64,.i64,.i64,.i64,.i64] a)=SV.lst c a.length 8 (Rv.elemOf [.i64,.i64,.i64,.i64,.i64,.i64,.i64,.i64] a))∧Ob (SV.lst e d.length 2 (Rv.elemOf I2 d)=SV.lst e d.length 2 (Rv.elemOf I2 d))∧Ob (i=i)∧Ob (o=o)∧Ob (g=g)∧Ob (n=n)∧Ob (w=w)∧Ob (m=m)∧Ob (k=k)∧Ob (p=p)∧Ob (v=v)∧Ob (f=f)∧Ob (s=s)∧Ob (j=j)∧Ob (h=h)∧Ob (t=t)∧Ob (u=u)∧Ob (q=q)∧Ob (r=r)∧Ob (l=l)∧LsA B c [.i64,.i64,.i64,.i64,.i64,.i64,.i64,.i64] a∧LsA B c [.i64,.i64,.i64,.i64,.i64,.i64,.i64,.i64] a∧LsA B e I2 d∧True)∧∀(b:Nat),b≤a.length→∀(_ _ _ _ _ _ _ _ _ _ _ _ _ _ _ _ _ _ _ _ _ _ _ _ _ _ _ _ _ _ _ _ _:Value),((↑b:Int) < (↑a.length:Int)→Ob ((0:Int)≤(↑b:Int)∧b < a.length∧IsLst B c a.length 8 (Rv.elemOf [.i64,.i64,.i64,.i64,.i64,.i64,.i64,.i64] a))∧Ob (IsLst B c a.length 8 (Rv.elemOf [.i64,.i64,.i64,.i64,.i64,.i64,.i64,.i64] a)∧b < a.length)∧Ob (((1:Int)≤cell a b 0∧cell a b 0≤(100000:Int))∧((0:Int)≤cell a b 1∧cell a b 1≤(10000000:Int))∧WaOk (cell a b 2) (cell a b 3) (cell a b 4) (cell a b 5) (cell a b 6) (cell a b 7))∧(¬(0:Int)=(0:Int)→Ob ((0:Int)=(0:Int))∧True)∧(¬¬(0:Int)=(0:Int)→Ob (InR .i64 ((↑b:Int)+(1:Int)))∧∃(x:Nat),Ob (x≤a.length∧a.length-x < a.length-b)∧Ob (SV.lst c a.length 8 (Rv.elemOf [.i64,.i64,.i64,.i64,.i64,.i64,.i64,.i64] a)=SV.lst c a.length 8 (Rv.elemOf [.i64,.i64,.i64,.i64,.i64,.i64,.i64,.i64] a))∧Ob ((↑a.length:Int)=(↑a.length:Int))∧Ob ((↑b:Int)+(1:Int)=(↑x:Int))∧Ob (SV.lst c a.length 8 (Rv.elemOf [.i64,.i64,.i64,.i64,.i64,.i64,.i64,.i64] a)=SV.lst c a.length 8 (Rv.elemOf [.i64,.i64,.i64,.i64,.i64,.i64,.i64,.i64] a))∧Ob (SV.lst e d.length 2 (Rv.elemOf I2 d)=SV.lst e d.length 2 (Rv.elemOf I2 d))∧Ob (i=i)∧Ob (o=o)∧Ob (g=g)∧Ob (n=n)∧Ob (w=w)∧Ob (m=m)∧Ob (k=k)∧Ob (p=p)∧Ob (v=v)∧Ob (f=f)∧Ob (s=s)∧Ob (j=j)∧Ob (h=h)∧Ob (t=t)∧Ob (u=u)∧Ob (q=q)∧Ob (r=r)∧Ob (l=l)∧LsA B c [.i64,.i64,.i64,.i64,.i64,.i64,.i64,.i64] a∧LsA B c [.i64,.i64,.i64,.i64,.i64,.i64,.i64,.i64] a∧LsA B e I2 d∧True))∧(¬(↑b:Int) < (↑a.length:Int)→RwB B c a.length 8 [.i64,.i64,.i64,.i64,.i64,.i64,.i64,.i64] a fun A=>RwB B e d.length 2 I2 d fun C=>Ob (F_checkPumps.pre ([Dat.l A,Dat.l C,Dat.z i,Dat.z o,Dat.z g,Dat.z n,Dat.z w,Dat.z m,Dat.z k,Dat.z p,Dat.z v,Dat.z f,Dat.z s,Dat.z j,Dat.z h,Dat.z t,Dat.z u,Dat.z q,Dat.z r,Dat.z l]++[]))∧(¬(0:Int)=(0:Int)→Ob ((0:Int)=(0:Int))∧True)∧(¬¬(0:Int)=(0:Int)→RwB B c a.length 8 [.i64,.i64,.i64,.i64,.i64,.i64,.i64,.i64] a fun y=>RwB B e d.length 2 I2 d fun z=>Ob (Pl.mk y z i o g n w m k p v f s j h t u q r l).Ok∧Ob ((0:Int)=(0:Int))∧True))))
set_option linter.unusedSimpArgs false in
set_option maxRecDepth 4000 in
set_option maxHeartbeats 400000 in
theorem v_Check:V_Check:=by
 unfold V_Check I2 LsA RwB
 intro B x T hx hox hrx y R hy hoy hry
 intro s1 s2 s3 s4 s5 s6 u1 u2 v1 v2 a1 a2 g1 g2 le mo w1 w2
 intro hok
 obtain⟨hn,ht⟩:(1≤T.length∧T.length≤6)∧(∀i,i < T.length→TkOk T i):=⟨hok.n,hok.t⟩
 simp only [Ob_iff,and_true,true_and]
 refine⟨hx,fun h=>by omega,fun _=>⟨hx,fun h=>by omega,fun _=>⟨hx,⟨0,by omega,by omega,hx,hx,hy⟩,?_⟩⟩⟩
 intro k hk
 intros
 refine⟨fun h1=>?_,fun h1=>?_⟩
 ·have hk':k < T.length:=by omega
  have c:=ht k hk'
  exact⟨⟨by omega,hk',hx⟩,⟨hx,hk'⟩,⟨c.l,c.g,c.w⟩,fun _=>by trivial,fun _=>⟨by simp only [InR]; omega,k+1,⟨hk',by omega⟩,by omega,hx,hx,hy⟩⟩
 ·exact⟨T,⟨hx,rfl,hrx,fun _ _=>rfl⟩,R,⟨hy,rfl,hry,fun _ _=>rfl⟩,hok,fun _=>by trivial,fun _=>⟨T,⟨hx,rfl,hrx,fun _ _=>rfl⟩,R,⟨hy,rfl,hry,fun _ _=>rfl⟩,hok⟩⟩
theorem e_Check:V_Check=needE P [F_checkTank,F_checkHours] [F_checkPumps] A_Check F_Check:=by kernel_rfl
theorem n_Check:Ob (needE P [F_checkTank,F_checkHours] [F_checkPumps] A_Check F_Check):=by
 rw [← e_Check]
 exact⟨v_Check⟩
theorem b_Check:((P.funcs[17]?).any fun fn=>fn.body.isSome)=true:=by kernel_rfl
theorem Check_ok:FnE.Ok P F_Check:=FnE.ok named (l:=[F_checkTank,F_checkHours]) (es:=[F_checkPumps]) (A:=A_Check) (by rfl) (by rfl) (by rfl) (by
 intro F h
 simp only [List.mem_cons,List.not_mem_nil,or_false]at h
 rcases h with rfl | rfl
 ·exact checkTank_ok
 ·exact checkHours_ok
) (by
 intro F h
 simp only [List.mem_cons,List.not_mem_nil,or_false]at h
 rcases h with rfl
 ·exact checkPumps_ok
) b_Check (by
 rintro ds h o ho n sz e k z rfl
 simp only [F_Check]at ho
 split at ho<;>simp at ho) n_Check
end Go.Proofs.Ytgoiegaobhfocaa.Sy
