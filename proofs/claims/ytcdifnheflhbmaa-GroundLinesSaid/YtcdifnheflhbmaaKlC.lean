import Derived.Test.YtcdifnheflhbmaaSyP4
import Derived.Test.YtcdifnheflhbmaaGrM
import Derived.Test.YtcdifnheflhbmaaStM
import Derived.Test.YtcdifnheflhbmaaKtT
import Derived.Test.YtcdifnheflhbmaaSyP2
import Derived.Test.YtcdifnheflhbmaaSyP4
import Derived.Test.YtcdifnheflhbmaaSyP4
import Derived.Test.YtcdifnheflhbmaaKbA
import Derived.Test.YtcdifnheflhbmaaKbB
import Derived.Test.YtcdifnheflhbmaaKbC
import Derived.Test.YtcdifnheflhbmaaKbD
import Derived.Test.YtcdifnheflhbmaaKbE
import Derived.Test.YtcdifnheflhbmaaKlA
import Derived.Test.YtcdifnheflhbmaaKlB
import Derived.KernelRfl
import Derived.Test.YtcdifnheflhbmaaProg
namespace Go.Proofs.Ytcdifnheflhbmaa.Sy
open Go Go.Rv
set_option linter.unusedVariables false
structure LnS where
 k:Nat
 j:Nat
 a:Int
 W:Int
 D:Int
 G:Int
 day:Int
 row:Int
 L:List Rows
 C:Rows
 R:List Rows
 xl:RV
 xc:RV
 xr:RV
 ys:Nat→RV
 yr:Nat→RV
structure LnI (v:LnS):Prop where
 b:BayOk 12 3 5 v.W v.D v.G v.L v.C
 d:0≤v.day∧v.day < 1095
 r:0≤v.row∧v.row < v.D
 n:v.R.length=v.L.length
 at_:∀i,i < v.L.length→(v.R.getD i []).length=v.D.toNat∧∀y:Nat,y < v.D.toNat→cell (v.R.getD i []) y 0=leftK v.W v.L v.C v.day y (i+1)
theorem leftK_in {W:Int} {L:List Rows} {C:Rows} {day row:Int} (hW:0≤W):∀k,0≤leftK W L C day row k∧leftK W L C day row k≤W
 | 0=>⟨Int.le_refl _,hW⟩
 | k+1=>by
  have ih:=leftK_in (L:=L) (C:=C) (day:=day) (row:=row) hW k
  rw [leftK]
  omega
theorem leftK_le {W:Int} {L:List Rows} {C:Rows} {day row:Int} (hW:0≤W) (k:Nat):leftK W L C day row k≤leftK W L C day row (k+1):=by
 have ih:=leftK_in (L:=L) (C:=C) (day:=day) (row:=row) hW k
 rw [leftK]
 omega
theorem holdK_at2 {W:Int} {L:List Rows} {C:Rows} {day x row:Int}:∀n,(0 < holdK W L C day x row n→leftK W L C day row (holdK W L C day x row n)≤x)∧(holdK W L C day x row n < n→x < leftK W L C day row (holdK W L C day x row n+1))
 | 0=>⟨fun h=>absurd h (Nat.lt_irrefl 0),fun h=>absurd h (Nat.not_lt_zero _)⟩
 | n+1=>by
  obtain⟨h1,h2⟩:=holdK_at2 (W:=W) (L:=L) (C:=C) (day:=day) (x:=x) (row:=row) n
  have h3:holdK W L C day x row n≤n:=holdK_le n
  rw [holdK]
  by_cases h:holdK W L C day x row n < n
  ·rw [if_pos h]
   exact⟨h1,fun _=>h2 h⟩
  ·have e:holdK W L C day x row n=n:=by omega
   rw [if_neg h]
   rw [e]at h1
   by_cases hx:x < leftK W L C day row (n+1)
   ·rw [if_pos hx]
    exact⟨h1,fun _=>hx⟩
   ·rw [if_neg hx]
    exact⟨fun _=>Int.not_lt.1 hx,fun q=>absurd q (Nat.lt_irrefl _)⟩
theorem whr_one {W:Int} {L:List Rows} {C:Rows} {day x row:Int} {k:Nat}:whrR W L C day x x row k=if k=hold W L C x row day then 1 else 2:=by
 have e:(x-x+1).toNat=1:=by omega
 have e2:x-x+1=1:=by omega
 have e3:cntH W L C day x row 1 k=0+if k=hold W L C (x+(0:Nat)) row day then 1 else 0:=rfl
 have e4:x+((0:Nat):Int)=x:=by omega
 rw [whrR,e,e2,e3,e4,verd]
 by_cases h:k=hold W L C x row day
 ·rw [if_pos h,if_pos h,if_pos (by decide)]
 ·rw [if_neg h,if_neg h,if_neg (by decide),if_pos (by decide)]
theorem ite12 {a b:Nat}:((if a=b then (1:Int)else 2)=1↔(a:Int)=b)∧((if a=b then (1:Int)else 2)=2↔¬ (a:Int)=b):=by
 by_cases h:a=b
 ·rw [if_pos h]
  exact⟨⟨fun _=>congrArg Nat.cast h,fun _=>rfl⟩,⟨fun q=>absurd q (by decide),fun q=>absurd (congrArg Nat.cast h) q⟩⟩
 ·rw [if_neg h]
  exact⟨⟨fun q=>absurd q (by decide),fun q=>absurd (Int.ofNat.inj q) h⟩,⟨fun _=>fun q=>h (Int.ofNat.inj q),fun _=>rfl⟩⟩
noncomputable def F_drawn:Fn0:=⟨9,[.agg [.i .i64,.i .i64,.i .i64,.ll [.i64],.l [.i64,.i64,.i64,.i64,.i64,.i64]],.one (.ll [.i64])],fun l=>match l with | [.z W,.z D,.z G,.ll L,.l C,.ll R]=>0≤D∧D≤1000∧1≤G∧G≤1000∧(R.length:Int)=G-1∧∀i,i < R.length→(R.getD i []).length=D.toNat | _=>False,fun l=>match l with | [.z W,.z D,.z G,.ll L,.l C,.ll R]=>.p True | _=>.v undef⟩
noncomputable def A_drawn:List SV→List Dat→Nat→List SV→Ann:=fun xs ds n ts=>match xs with
 | [.agg [_,_,_,.lst x _ _ xe,.lst y _ _ ye],.lst z _ _ ze]=>match ds with
  | [.z W,.z D,.z G,.ll L,.l C,.ll R]=>match n with
   | 2=>⟨Nat,fun k=>([none,some (SV.lst z R.length ((1:Nat)) ze),some (SV.ptr ((0:Nat)) ((0:Nat))),none,none,some (.i .i64 k)]++nN 20),fun k=>[SObj.cells [SV.i IntKind.i64 W,SV.i IntKind.i64 D,SV.i IntKind.i64 G,SV.lst x L.length ((1:Nat)) xe,SV.lst y C.length ((6:Nat)) ye] Kd.ex],fun k=>k≤R.length,fun k=>R.length-k,0⟩
   | _=>noAnn
  | _=>noAnn
 | _=>noAnn
def V_drawn:Prop:=
 ∀(B:RW) (h e d:Int) (g:RV) (ys:Nat→RV) (R:List (List (List Int))),IsLL B [.i64] g ys R→oneB g=true→∀(f:RV) (c:List (List Int)),IsLst B f c.length 6 (Rv.elemOf I6 c)→oneB f=true→(∀row∈c,row.length=6)→∀(b:RV) (ys_1:Nat→RV) (R_1:List (List (List Int))),IsLL B [.i64] b ys_1 R_1→oneB b=true→((0:Int)≤e∧e≤(1000:Int)∧(1:Int)≤d∧d≤(1000:Int)∧(↑R_1.length:Int)=d-(1:Int)∧∀(j:Nat),j < R_1.length→(R_1.getD j []).length=e.toNat)→(∃(a:Nat),Ob (a≤R_1.length)∧Ob (SV.lst b R_1.length 1 (llElem [.i64] ys_1 R_1)=SV.lst b R_1.length 1 (llElem [.i64] ys_1 R_1))∧Ob ((0:Int)=(↑a:Int))∧Ob (h=h)∧Ob (e=e)∧Ob (d=d)∧Ob (SV.lst g R.length 1 (llElem [.i64] ys R)=SV.lst g R.length 1 (llElem [.i64] ys R))∧Ob (SV.lst f c.length 6 (Rv.elemOf I6 c)=SV.lst f c.length 6 (Rv.elemOf I6 c))∧Ob (IsLst B b R_1.length 1 (llElem [.i64] ys_1 R_1))∧Ob (IsLst B g R.length 1 (llElem [.i64] ys R))∧LsA B f I6 c∧True)∧∀(a:Nat),a≤R_1.length→∀(_ _ _ _ _ _ _ _ _ _ _ _ _ _ _ _ _ _ _ _ _ _ _:Value),Ob (IsLst B b R_1.length 1 (llElem [.i64] ys_1 R_1))∧((↑a:Int) < (↑R_1.length:Int)→Ob (IsLst B b R_1.length 1 (llElem [.i64] ys_1 R_1))∧Ob ((0:Int)≤(↑a:Int)∧a < R_1.length∧IsLst B b R_1.length 1 (llElem [.i64] ys_1 R_1))∧Ob (IsLst B b R_1.length 1 (llElem [.i64] ys_1 R_1)∧a < R_1.length)∧Ob (IsLst B b R_1.length 1 (llElem [.i64] ys_1 R_1)∧a < R_1.length)∧Ob (IsLst B (ys_1 a) (R_1.getD a []).length 1 (Rv.elemOf [.i64] (R_1.getD a [])))∧Ob (IsLst B (ys_1 a) (R_1.getD a []).length 1 (Rv.elemOf [.i64] (R_1.getD a [])))∧(¬(↑(R_1.getD a []).length:Int)=e→Ob (false=true↔True)∧True)∧(¬¬(↑(R_1.getD a []).length:Int)=e→Ob (InR .i64 ((↑a:Int)+(1:Int)))∧∃(i:Nat),Ob (i≤R_1.length∧R_1.length-i < R_1.length-a)∧Ob (SV.lst b R_1.length 1 (llElem [.i64] ys_1 R_1)=SV.lst b R_1.length 1 (llElem [.i64] ys_1 R_1))∧Ob ((↑a:Int)+(1:Int)=(↑i:Int))∧Ob (h=h)∧Ob (e=e)∧Ob (d=d)∧Ob (SV.lst g R.length 1 (llElem [.i64] ys R)=SV.lst g R.length 1 (llElem [.i64] ys R))∧Ob (SV.lst f c.length 6 (Rv.elemOf I6 c)=SV.lst f c.length 6 (Rv.elemOf I6 c))∧Ob (IsLst B b R_1.length 1 (llElem [.i64] ys_1 R_1))∧Ob (IsLst B g R.length 1 (llElem [.i64] ys R))∧LsA B f I6 c∧True))∧(¬(↑a:Int) < (↑R_1.length:Int)→Ob (IsLst B b R_1.length 1 (llElem [.i64] ys_1 R_1))∧Ob (InR .i64 (d-(1:Int)))∧Ob ((↑R_1.length:Int)=d-(1:Int)↔True)∧True)
set_option linter.unusedSimpArgs false in
set_option maxRecDepth 4000 in
set_option maxHeartbeats 400000 in
theorem v_drawn:V_drawn:=by
 unfold V_drawn I6 LsA
 intro B W D G x ys L hx hox y C hy hoy hry z zs R hz hoz ⟨hD0,hD1,hG0,hG1,hRn,hRl⟩
 simp only [Ob_iff,and_true,true_and,implies_true,Classical.not_not,iff_true]
 refine⟨⟨0,Nat.zero_le _,rfl,hz.1,hx.1,hy⟩,?_⟩
 intro k hk
 intros
 refine⟨hz.1,fun h1=>?_,fun h1=>⟨hz.1,by simp only [InR]; omega,hRn⟩⟩
 have hkl:k < R.length:=by omega
 have hzk:=(hz.2 k hkl).1
 have he:(((R.getD k []).length:Nat):Int)=D:=by rw [hRl k hkl]; omega
 have i1:InR .i64 ((k:Int)+1):=by simp only [InR]; omega
 exact⟨hz.1,⟨Int.natCast_nonneg k,hkl,hz.1⟩,⟨hz.1,hkl⟩,⟨hz.1,hkl⟩,hzk,hzk,fun q=>absurd he q,fun _=>⟨i1,k+1,⟨hkl,by omega⟩,rfl,hz.1,hx.1,hy⟩⟩
theorem e_drawn:V_drawn=needF P [] A_drawn F_drawn:=by kernel_rfl
theorem n_drawn:Ob (needF P [] A_drawn F_drawn):=by
 rw [← e_drawn]
 exact⟨v_drawn⟩
theorem b_drawn:((P.funcs[9]?).any fun fn=>fn.body.isSome)=true:=by kernel_rfl
theorem drawn_ok:Fn0.Ok P F_drawn:=Fn0.ok named (l:=[]) (A:=A_drawn) (by rfl) (by
 intro F h; simp at h) b_drawn (by
 intro ds N
 simp only [F_drawn]
 split<;>rfl) n_drawn
noncomputable def F_spanL:Fn0:=⟨12,[i64,i64],fun _=>True,fun l=>match l with | [.z a,.z b]=>.agg [.i .i64 a,.i .i64 b] | _=>.v undef⟩
noncomputable def A_spanL:List SV→List Dat→Nat→List SV→Ann:=fun _ _ _ _=>noAnn
def V_spanL:Prop:=
 ∀(B:RW) (b a:Int),True→Ob (b=b)∧Ob (a=a)∧True
set_option linter.unusedSimpArgs false in
set_option maxRecDepth 4000 in
set_option maxHeartbeats 400000 in
theorem v_spanL:V_spanL:=by
 unfold V_spanL
 intro B a b _
 simp only [Ob_iff,and_true,true_and]
theorem e_spanL:V_spanL=needF P [] A_spanL F_spanL:=by kernel_rfl
theorem n_spanL:Ob (needF P [] A_spanL F_spanL):=by
 rw [← e_spanL]
 exact⟨v_spanL⟩
theorem b_spanL:((P.funcs[12]?).any fun fn=>fn.body.isSome)=true:=by kernel_rfl
theorem spanL_ok:Fn0.Ok P F_spanL:=Fn0.ok named (l:=[]) (A:=A_spanL) (by rfl) (by
 intro F h; simp at h) b_spanL (by
 intro ds N
 simp only [F_spanL]
 split<;>rfl) n_spanL
noncomputable def F_law:LawF:=⟨3,[.one (.l [.i64])],fun l=>match l with | [.l N]=>N.length≤9223372036854775807 | _=>False⟩
noncomputable def A_law:List SV→List Dat→Nat→List SV→AnG:=fun xs ds n ts=>match xs with
 | [.lst xz _ _ _]=>match ds with
  | [.l N]=>match n with
   | 8=>⟨LnS,fun v=>([none,none,none,none,some (SV.ptr ((1:Nat)) ((0:Nat))),some (.i .i64 v.day),some (.i .i64 v.row),some (.lst v.xr v.R.length 1 (llElem [.i64] v.yr v.R)),none,some (.i .i64 v.k)]++nN 192),fun v=>[.cells [.i .i64 v.W,.i .i64 v.D,.i .i64 v.G,.lst v.xl v.L.length 1 (llElem [.i64] v.ys v.L),.lst v.xc v.C.length 6 (Rv.elemOf [.i64,.i64,.i64,.i64,.i64,.i64] v.C)] .ex,.cells [.i .u64 v.a] .ex],fun B v=>LnI v∧IsLL B [.i64] v.xl v.ys v.L∧IsLst B v.xc v.C.length 6 (Rv.elemOf [.i64,.i64,.i64,.i64,.i64,.i64] v.C)∧IsLL B [.i64] v.xr v.yr v.R∧v.k≤v.L.length,fun v=>4-v.k,0,[]⟩
   | 11=>(match lget ts 9 with | some (SV.i q0 q1)=>⟨LnS,fun v=>([none,none,none,none,some (SV.ptr ((1:Nat)) ((0:Nat))),some (.i .i64 v.day),some (.i .i64 v.row),some (.lst v.xr v.R.length 1 (llElem [.i64] v.yr v.R)),none,some (.i .i64 v.k),some (.i .i64 v.j)]++nN 191),fun v=>[.cells [.i .i64 v.W,.i .i64 v.D,.i .i64 v.G,.lst v.xl v.L.length 1 (llElem [.i64] v.ys v.L),.lst v.xc v.C.length 6 (Rv.elemOf [.i64,.i64,.i64,.i64,.i64,.i64] v.C)] .ex,.cells [.i .u64 v.a] .ex],fun B v=>LnI v∧IsLL B [.i64] v.xl v.ys v.L∧IsLst B v.xc v.C.length 6 (Rv.elemOf [.i64,.i64,.i64,.i64,.i64,.i64] v.C)∧IsLL B [.i64] v.xr v.yr v.R∧v.k < v.L.length∧v.j≤v.D.toNat∧(v.k:Int)=q1,fun v=>v.D.toNat-v.j,0,[]⟩ | _=>noAnG)
   | 16=>⟨LnS,fun v=>([none,none,none,none,some (SV.ptr ((1:Nat)) ((0:Nat))),some (.i .i64 v.day),some (.i .i64 v.row),some (.lst v.xr v.R.length 1 (llElem [.i64] v.yr v.R)),none,none,none,some (.i .i64 v.k)]++nN 190),fun v=>[.cells [.i .i64 v.W,.i .i64 v.D,.i .i64 v.G,.lst v.xl v.L.length 1 (llElem [.i64] v.ys v.L),.lst v.xc v.C.length 6 (Rv.elemOf [.i64,.i64,.i64,.i64,.i64,.i64] v.C)] .ex,.cells [.i .u64 v.a] .ex],fun B v=>LnI v∧IsLL B [.i64] v.xl v.ys v.L∧IsLst B v.xc v.C.length 6 (Rv.elemOf [.i64,.i64,.i64,.i64,.i64,.i64] v.C)∧IsLL B [.i64] v.xr v.yr v.R∧v.k≤v.W.toNat,fun v=>12-v.k,0,[]⟩
   | 23=>(match lget ts 11 with | some (SV.i q0 q1)=>⟨LnS,fun v=>([none,none,none,none,some (SV.ptr ((1:Nat)) ((0:Nat))),some (.i .i64 v.day),some (.i .i64 v.row),some (.lst v.xr v.R.length 1 (llElem [.i64] v.yr v.R)),none,none,none,some (.i .i64 v.k),some (.i .i64 (hold v.W v.L v.C (v.k:Int) v.row v.day)),none,some (.gsl 2 v.G.toNat 1 false),none,some (.i .i64 v.j)]++nN 185),fun v=>[.gr v.G.toNat 1 (.fn fun i=>[SV.i .i64 (whrR v.W v.L v.C v.day (v.k:Int) (v.k:Int) v.row i)]) .ex false,.cells [.i .i64 v.W,.i .i64 v.D,.i .i64 v.G,.lst v.xl v.L.length 1 (llElem [.i64] v.ys v.L),.lst v.xc v.C.length 6 (Rv.elemOf [.i64,.i64,.i64,.i64,.i64,.i64] v.C)] .ex,.cells [.i .u64 v.a] .ex],fun B v=>LnI v∧IsLL B [.i64] v.xl v.ys v.L∧IsLst B v.xc v.C.length 6 (Rv.elemOf [.i64,.i64,.i64,.i64,.i64,.i64] v.C)∧IsLL B [.i64] v.xr v.yr v.R∧v.k < v.W.toNat∧v.j≤v.G.toNat∧(v.k:Int)=q1,fun v=>v.G.toNat-v.j,0,[]⟩ | _=>noAnG)
   | _=>noAnG
  | _=>noAnG
 | _=>noAnG
set_option maxRecDepth 10000 in
def V_law:Prop:=
 ∀(B:RW),hasTabs [] B→∀(n:RV) (h:List (List Int)),IsLst B n h.length 1 (Rv.elemOf [.i64] h)→oneB n=true→(∀row∈h,row.length=1)→h.length≤9223372036854775807→RwB B n h.length 1 [.i64] h fun w=>Ob (F_TideOf.pre [Dat.l w])∧Ob ((1:Int)≤(12:Int)∧(12:Int)≤(40:Int)∧(1:Int)≤(3:Int)∧(3:Int)≤(40:Int)∧(1:Int)≤(5:Int)∧(5:Int)≤(40:Int))∧∀(m:Int) (B':RW),Grow B B'→∀(q i o:Int) (k:RV) (ys:Nat→RV) (R:List (List (List Int))),IsLL B' [.i64] k ys R→oneB k=true→∀(l:RV) (g:List (List Int)),IsLst B' l g.length 6 (Rv.elemOf I6 g)→oneB l=true→(∀row∈g,row.length=6)→BayOk (12:Int) (3:Int) (5:Int) q i o R g→LsA B n [.i64] h∧LsA B n [.i64] h∧Ob (F_Below.pre ([Dat.z m]++[Dat.z (1095:Int)]))∧Ob (F_Below.pre ([Dat.z (belowA m (1095:Int))]++[Dat.z i]))∧∃(R_1:List (List (List Int))),∃(ys_1:Nat→RV),Ob (R_1.length=R.length∧(∀(e:Nat),e < R.length→llElem [.i64] ys R e=llElem [.i64] ys_1 R_1 e)∧IsLL B' [.i64] k ys_1 R_1)∧∃(p:List (List Int)),Ob (IsLst B' l g.length 6 (Rv.elemOf I6 g)∧p.length=g.length∧(∀r∈p,r.length=6)∧∀(e:Nat),e < g.length→Rv.elemOf I6 g e=Rv.elemOf I6 p e)∧Ob (BayOk (40:Int) (20:Int) (5:Int) q i o R_1 p∧(0:Int)≤belowV m (1095:Int)∧belowV m (1095:Int)≤(36499:Int))∧Ob (IsLst B' k R.length 1 (llElem [.i64] ys R))∧Ob (IsLst B' l g.length 6 (Rv.elemOf I6 g))∧∀(B'_1:RW),Grow B' B'_1→∀(s:RV) (ys_2:Nat→RV) (R_2:List (List (List Int))),IsLL B'_1 [.i64] s ys_2 R_2→oneB s=true→∀(t:Int),(t=(0:Int)∧R_2.length=R_1.length∧∀(e:Nat),e < R_1.length→(R_2.getD e []).length=i.toNat∧∀(v:Nat),v < i.toNat→cell (R_2.getD e []) v 0=leftK q R_1 p (belowV m (1095:Int)) (↑v:Int) (e+(1:Nat)))→Ob (IsLst B' n h.length 1 (Rv.elemOf [.i64] h))∧Ob (IsLst B' n h.length 1 (Rv.elemOf [.i64] h))∧Ob (IsLst B' k R.length 1 (llElem [.i64] ys R))∧Ob (IsLst B' l g.length 6 (Rv.elemOf I6 g))∧Ob (IsLst B' k R.length 1 (llElem [.i64] ys R))∧Ob (IsLst B' l g.length 6 (Rv.elemOf I6 g))∧(¬¬t=(0:Int)→∃(R_3:List (List (List Int))),∃(ys_3:Nat→RV),Ob (R_3.length=R.length∧(∀(e:Nat),e < R.length→llElem [.i64] ys R e=llElem [.i64] ys_3 R_3 e)∧IsLL B'_1 [.i64] k ys_3 R_3)∧∃(u:List (List Int)),Ob (IsLst B'_1 l g.length 6 (Rv.elemOf I6 g)∧u.length=g.length∧(∀r∈u,r.length=6)∧∀(e:Nat),e < g.length→Rv.elemOf I6 g e=Rv.elemOf I6 u e)∧∃(R_4:List (List (List Int))),∃(ys_4:Nat→RV),Ob (R_4.length=R_2.length∧(∀(e:Nat),e < R_2.length→llElem [.i64] ys_2 R_2 e=llElem [.i64] ys_4 R_4 e)∧IsLL B'_1 [.i64] s ys_4 R_4)∧Ob ((0:Int)≤i∧i≤(1000:Int)∧(1:Int)≤o∧o≤(1000:Int)∧(↑R_4.length:Int)=o-(1:Int)∧∀(e:Nat),e < R_4.length→(R_4.getD e []).length=i.toNat)∧(¬True→False)∧(¬¬True→(∃(d:LnS),Ob (LnI d∧IsLL B'_1 [.i64] d.xl d.ys d.L∧IsLst B'_1 d.xc (d.C.length) 6 (Rv.elemOf I6 d.C)∧IsLL B'_1 [.i64] d.xr d.yr d.R∧d.k≤d.L.length)∧Ob (belowV m (1095:Int)=d.day)∧Ob (belowV (belowA m (1095:Int)) i=d.row)∧Ob (SV.lst s R_2.length 1 (llElem [.i64] ys_2 R_2)=SV.lst d.xr d.R.length 1 (llElem [.i64] d.yr d.R))∧Ob ((0:Int)=(↑d.k:Int))∧Ob (q=d.W)∧Ob (i=d.D)∧Ob (o=d.G)∧Ob (SV.lst k R.length 1 (llElem [.i64] ys R)=SV.lst d.xl d.L.length 1 (llElem [.i64] d.ys d.L))∧Ob (SV.lst l g.length 6 (Rv.elemOf I6 g)=SV.lst d.xc (d.C.length) 6 (Rv.elemOf I6 d.C))∧Ob (belowA (belowA m (1095:Int)) i=d.a)∧Ob (IsLst B'_1 d.xr d.R.length 1 (llElem [.i64] d.yr d.R))∧Ob (IsLst B'_1 d.xl d.L.length 1 (llElem [.i64] d.ys d.L))∧Ob (IsLst B'_1 d.xc (d.C.length) 6 (Rv.elemOf I6 d.C))∧True)∧∀(B'_2:RW),Grow B'_1 B'_2→∀(d:LnS),LnI d∧IsLL B'_2 [.i64] d.xl d.ys d.L∧IsLst B'_2 d.xc (d.C.length) 6 (Rv.elemOf I6 d.C)∧IsLL B'_2 [.i64] d.xr d.yr d.R∧d.k≤d.L.length→∀(z z_1 z_2 z_3 z_4 z_5 z_6 z_7 z_8 z_9 z_10 z_11 z_12 z_13 z_14 z_15 z_16 z_17 z_18 z_19 z_20 z_21 z_22 z_23 z_24 z_25 z_26 z_27 z_28 z_29 z_30 z_31 z_32 z_33 z_34 z_35 z_36 z_37 z_38 z_39 z_40 z_41 z_42 z_43 z_44 z_45 z_46 z_47 z_48 z_49 z_50 z_51 z_52 z_53 z_54 z_55 z_56 z_57 z_58 z_59 z_60 z_61 z_62 z_63 z_64 z_65 z_66 z_67 z_68 z_69 z_70 z_71 z_72 z_73 z_74 z_75 z_76 z_77 z_78 z_79 z_80 z_81 z_82 z_83 z_84 z_85 z_86 z_87 z_88 z_89 z_90 z_91 z_92 z_93 z_94 z_95 z_96 z_97 z_98 z_99 z_100 z_101 z_102 z_103 z_104 z_105 z_106 z_107 z_108 z_109 z_110 z_111 z_112 z_113 z_114 z_115 z_116 z_117 z_118 z_119 z_120 z_121 z_122 z_123 z_124 z_125 z_126 z_127 z_128 z_129 z_130 z_131 z_132 z_133 z_134 z_135 z_136 z_137 z_138 z_139 z_140 z_141 z_142 z_143 z_144 z_145 z_146 z_147 z_148 z_149 z_150 z_151 z_152 z_153 z_154 z_155 z_156 z_157 z_158 z_159 z_160 z_161 z_162 z_163 z_164 z_165 z_166 z_167 z_168 z_169 z_170 z_171 z_172 z_173 z_174 z_175 z_176 z_177 z_178 z_179 z_180 z_181 z_182 z_183 z_184 z_185 z_186 z_187 z_188 z_189 z_190 z_191 z_192 z_193 z_194 z_195 z_196:Value),Ob (IsLst B'_2 d.xr d.R.length 1 (llElem [.i64] d.yr d.R))∧((↑d.k:Int) < (↑d.R.length:Int)→(∃(a:LnS),Ob (LnI a∧IsLL B'_2 [.i64] a.xl a.ys a.L∧IsLst B'_2 a.xc (a.C.length) 6 (Rv.elemOf I6 a.C)∧IsLL B'_2 [.i64] a.xr a.yr a.R∧a.k < a.L.length∧a.j≤a.D.toNat∧(↑a.k:Int)=(↑d.k:Int))∧Ob (d.day=a.day)∧Ob (d.row=a.row)∧Ob (SV.lst d.xr d.R.length 1 (llElem [.i64] d.yr d.R)=SV.lst a.xr a.R.length 1 (llElem [.i64] a.yr a.R))∧Ob ((↑d.k:Int)=(↑a.k:Int))∧Ob ((0:Int)=(↑a.j:Int))∧Ob (d.W=a.W)∧Ob (d.D=a.D)∧Ob (d.G=a.G)∧Ob (SV.lst d.xl d.L.length 1 (llElem [.i64] d.ys d.L)=SV.lst a.xl a.L.length 1 (llElem [.i64] a.ys a.L))∧Ob (SV.lst d.xc (d.C.length) 6 (Rv.elemOf I6 d.C)=SV.lst a.xc (a.C.length) 6 (Rv.elemOf I6 a.C))∧Ob (d.a=a.a)∧Ob (IsLst B'_2 a.xr a.R.length 1 (llElem [.i64] a.yr a.R))∧Ob (IsLst B'_2 a.xl a.L.length 1 (llElem [.i64] a.ys a.L))∧Ob (IsLst B'_2 a.xc (a.C.length) 6 (Rv.elemOf I6 a.C))∧True)∧∀(B'_3:RW),Grow B'_2 B'_3→∀(a:LnS),LnI a∧IsLL B'_3 [.i64] a.xl a.ys a.L∧IsLst B'_3 a.xc (a.C.length) 6 (Rv.elemOf I6 a.C)∧IsLL B'_3 [.i64] a.xr a.yr a.R∧a.k < a.L.length∧a.j≤a.D.toNat∧(↑a.k:Int)=(↑d.k:Int)→∀(_ _ _ _ _ _ _ _ _ _ _ _ _ _ _ _ _ _ _ _ _ _ _ _ _ _ _ _ _ _ _ _ _ _ _ _ _ _ _ _ _ _ _ _ _ _ _ _ _ _ _ _ _ _ _ _ _ _ _ _ _ _ _ _ _ _ _ _ _ _ _ _ _ _ _ _ _ _ _ _ _ _ _ _ _ _ _ _ _ _ _ _ _ _ _ _ _ _ _ _ _ _ _ _ _ _ _ _ _ _ _ _ _ _ _ _ _ _ _ _ _ _ _ _ _ _ _ _ _ _ _ _ _ _ _ _ _ _ _ _ _ _ _ _ _ _ _ _ _ _ _ _ _ _ _ _ _ _ _ _ _ _ _ _ _ _ _ _ _ _ _ _ _ _ _ _ _ _ _ _ _ _ _ _ _ _ _ _ _ _ _ _ _ _ _ _:Value),((↑a.j:Int) < a.D→Ob (IsLst B'_3 a.xr a.R.length 1 (llElem [.i64] a.yr a.R))∧Ob ((0:Int)≤(↑a.k:Int)∧a.k < a.R.length∧IsLst B'_3 a.xr a.R.length 1 (llElem [.i64] a.yr a.R))∧Ob (IsLst B'_3 a.xr a.R.length 1 (llElem [.i64] a.yr a.R)∧a.k < a.R.length)∧Ob (IsLst B'_3 a.xr a.R.length 1 (llElem [.i64] a.yr a.R)∧a.k < a.R.length)∧Ob (IsLst B'_3 (a.yr a.k) (a.R.getD a.k []).length 1 (Rv.elemOf [.i64] (a.R.getD a.k [])))∧Ob ((0:Int)≤(↑a.j:Int)∧a.j < (a.R.getD a.k []).length∧IsLst B'_3 (a.yr a.k) (a.R.getD a.k []).length 1 (Rv.elemOf [.i64] (a.R.getD a.k [])))∧Ob (IsLst B'_3 (a.yr a.k) (a.R.getD a.k []).length 1 (Rv.elemOf [.i64] (a.R.getD a.k []))∧a.j < (a.R.getD a.k []).length)∧Ob (IsLst B'_3 (a.yr a.k) (a.R.getD a.k []).length 1 (Rv.elemOf [.i64] (a.R.getD a.k []))∧a.j < (a.R.getD a.k []).length)∧(¬cell (a.R.getD a.k []) a.j 0 < (0:Int)→Ob (IsLst B'_3 a.xr a.R.length 1 (llElem [.i64] a.yr a.R))∧Ob ((0:Int)≤(↑a.k:Int)∧a.k < a.R.length∧IsLst B'_3 a.xr a.R.length 1 (llElem [.i64] a.yr a.R))∧Ob (IsLst B'_3 a.xr a.R.length 1 (llElem [.i64] a.yr a.R)∧a.k < a.R.length)∧Ob (IsLst B'_3 a.xr a.R.length 1 (llElem [.i64] a.yr a.R)∧a.k < a.R.length)∧Ob (IsLst B'_3 (a.yr a.k) (a.R.getD a.k []).length 1 (Rv.elemOf [.i64] (a.R.getD a.k [])))∧Ob ((0:Int)≤(↑a.j:Int)∧a.j < (a.R.getD a.k []).length∧IsLst B'_3 (a.yr a.k) (a.R.getD a.k []).length 1 (Rv.elemOf [.i64] (a.R.getD a.k [])))∧Ob (IsLst B'_3 (a.yr a.k) (a.R.getD a.k []).length 1 (Rv.elemOf [.i64] (a.R.getD a.k []))∧a.j < (a.R.getD a.k []).length)∧Ob (IsLst B'_3 (a.yr a.k) (a.R.getD a.k []).length 1 (Rv.elemOf [.i64] (a.R.getD a.k []))∧a.j < (a.R.getD a.k []).length)∧(¬a.W < cell (a.R.getD a.k []) a.j 0→((0:Int) < (↑a.k:Int)→Ob (IsLst B'_3 a.xr a.R.length 1 (llElem [.i64] a.yr a.R))∧Ob ((0:Int)≤(↑a.k:Int)∧a.k < a.R.length∧IsLst B'_3 a.xr a.R.length 1 (llElem [.i64] a.yr a.R))∧Ob (IsLst B'_3 a.xr a.R.length 1 (llElem [.i64] a.yr a.R)∧a.k < a.R.length)∧Ob (IsLst B'_3 a.xr a.R.length 1 (llElem [.i64] a.yr a.R)∧a.k < a.R.length)∧Ob (IsLst B'_3 (a.yr a.k) (a.R.getD a.k []).length 1 (Rv.elemOf [.i64] (a.R.getD a.k [])))∧Ob ((0:Int)≤(↑a.j:Int)∧a.j < (a.R.getD a.k []).length∧IsLst B'_3 (a.yr a.k) (a.R.getD a.k []).length 1 (Rv.elemOf [.i64] (a.R.getD a.k [])))∧Ob (IsLst B'_3 (a.yr a.k) (a.R.getD a.k []).length 1 (Rv.elemOf [.i64] (a.R.getD a.k []))∧a.j < (a.R.getD a.k []).length)∧Ob (IsLst B'_3 (a.yr a.k) (a.R.getD a.k []).length 1 (Rv.elemOf [.i64] (a.R.getD a.k []))∧a.j < (a.R.getD a.k []).length)∧Ob (IsLst B'_3 a.xr a.R.length 1 (llElem [.i64] a.yr a.R))∧Ob (InR .i64 ((↑a.k:Int)-(1:Int)))∧Ob ((0:Int)≤(↑a.k:Int)-(1:Int)∧((↑a.k:Int)-(1:Int)).toNat < a.R.length∧IsLst B'_3 a.xr a.R.length 1 (llElem [.i64] a.yr a.R))∧Ob (IsLst B'_3 a.xr a.R.length 1 (llElem [.i64] a.yr a.R)∧((↑a.k:Int)-(1:Int)).toNat < a.R.length)∧Ob (IsLst B'_3 a.xr a.R.length 1 (llElem [.i64] a.yr a.R)∧((↑a.k:Int)-(1:Int)).toNat < a.R.length)∧Ob (IsLst B'_3 (a.yr ((↑a.k:Int)-(1:Int)).toNat) (a.R.getD ((↑a.k:Int)-(1:Int)).toNat []).length 1 (Rv.elemOf [.i64] (a.R.getD ((↑a.k:Int)-(1:Int)).toNat [])))∧Ob ((0:Int)≤(↑a.j:Int)∧a.j < (a.R.getD ((↑a.k:Int)-(1:Int)).toNat []).length∧IsLst B'_3 (a.yr ((↑a.k:Int)-(1:Int)).toNat) (a.R.getD ((↑a.k:Int)-(1:Int)).toNat []).length 1 (Rv.elemOf [.i64] (a.R.getD ((↑a.k:Int)-(1:Int)).toNat [])))∧Ob (IsLst B'_3 (a.yr ((↑a.k:Int)-(1:Int)).toNat) (a.R.getD ((↑a.k:Int)-(1:Int)).toNat []).length 1 (Rv.elemOf [.i64] (a.R.getD ((↑a.k:Int)-(1:Int)).toNat []))∧a.j < (a.R.getD ((↑a.k:Int)-(1:Int)).toNat []).length)∧Ob (IsLst B'_3 (a.yr ((↑a.k:Int)-(1:Int)).toNat) (a.R.getD ((↑a.k:Int)-(1:Int)).toNat []).length 1 (Rv.elemOf [.i64] (a.R.getD ((↑a.k:Int)-(1:Int)).toNat []))∧a.j < (a.R.getD ((↑a.k:Int)-(1:Int)).toNat []).length)∧(cell (a.R.getD a.k []) a.j 0 < cell (a.R.getD ((↑a.k:Int)-(1:Int)).toNat []) a.j 0→False)∧(¬cell (a.R.getD a.k []) a.j 0 < cell (a.R.getD ((↑a.k:Int)-(1:Int)).toNat []) a.j 0→Ob (InR .i64 ((↑a.j:Int)+(1:Int)))∧∃(c:LnS),Ob ((LnI c∧IsLL B'_3 [.i64] c.xl c.ys c.L∧IsLst B'_3 c.xc (List.length c.C) 6 (Rv.elemOf I6 c.C)∧IsLL B'_3 [.i64] c.xr c.yr c.R∧c.k < c.L.length∧c.j≤c.D.toNat∧(↑c.k:Int)=(↑d.k:Int))∧c.D.toNat-c.j < a.D.toNat-a.j)∧Ob (a.day=c.day)∧Ob (a.row=c.row)∧Ob (SV.lst a.xr a.R.length 1 (llElem [.i64] a.yr a.R)=SV.lst c.xr c.R.length 1 (llElem [.i64] c.yr c.R))∧Ob ((↑a.k:Int)=(↑c.k:Int))∧Ob ((↑a.j:Int)+(1:Int)=(↑c.j:Int))∧Ob (a.W=c.W)∧Ob (a.D=c.D)∧Ob (a.G=c.G)∧Ob (SV.lst a.xl a.L.length 1 (llElem [.i64] a.ys a.L)=SV.lst c.xl c.L.length 1 (llElem [.i64] c.ys c.L))∧Ob (SV.lst a.xc (a.C.length) 6 (Rv.elemOf I6 a.C)=SV.lst c.xc (List.length c.C) 6 (Rv.elemOf I6 c.C))∧Ob (a.a=c.a)∧Ob (IsLst B'_3 c.xr c.R.length 1 (llElem [.i64] c.yr c.R))∧Ob (IsLst B'_3 c.xl c.L.length 1 (llElem [.i64] c.ys c.L))∧Ob (IsLst B'_3 c.xc (List.length c.C) 6 (Rv.elemOf I6 c.C))∧True))∧(¬(0:Int) < (↑a.k:Int)→Ob (InR .i64 ((↑a.j:Int)+(1:Int)))∧∃(c:LnS),Ob ((LnI c∧IsLL B'_3 [.i64] c.xl c.ys c.L∧IsLst B'_3 c.xc (List.length c.C) 6 (Rv.elemOf I6 c.C)∧IsLL B'_3 [.i64] c.xr c.yr c.R∧c.k < c.L.length∧c.j≤c.D.toNat∧(↑c.k:Int)=(↑d.k:Int))∧c.D.toNat-c.j < a.D.toNat-a.j)∧Ob (a.day=c.day)∧Ob (a.row=c.row)∧Ob (SV.lst a.xr a.R.length 1 (llElem [.i64] a.yr a.R)=SV.lst c.xr c.R.length 1 (llElem [.i64] c.yr c.R))∧Ob ((↑a.k:Int)=(↑c.k:Int))∧Ob ((↑a.j:Int)+(1:Int)=(↑c.j:Int))∧Ob (a.W=c.W)∧Ob (a.D=c.D)∧Ob (a.G=c.G)∧Ob (SV.lst a.xl a.L.length 1 (llElem [.i64] a.ys a.L)=SV.lst c.xl c.L.length 1 (llElem [.i64] c.ys c.L))∧Ob (SV.lst a.xc (a.C.length) 6 (Rv.elemOf I6 a.C)=SV.lst c.xc (List.length c.C) 6 (Rv.elemOf I6 c.C))∧Ob (a.a=c.a)∧Ob (IsLst B'_3 c.xr c.R.length 1 (llElem [.i64] c.yr c.R))∧Ob (IsLst B'_3 c.xl c.L.length 1 (llElem [.i64] c.ys c.L))∧Ob (IsLst B'_3 c.xc (List.length c.C) 6 (Rv.elemOf I6 c.C))∧True))∧(a.W < cell (a.R.getD a.k []) a.j 0→False))∧(cell (a.R.getD a.k []) a.j 0 < (0:Int)→False))∧(¬(↑a.j:Int) < a.D→Ob (InR .i64 ((↑a.k:Int)+(1:Int)))∧∃(c:LnS),Ob ((LnI c∧IsLL B'_3 [.i64] c.xl c.ys c.L∧IsLst B'_3 c.xc (List.length c.C) 6 (Rv.elemOf I6 c.C)∧IsLL B'_3 [.i64] c.xr c.yr c.R∧c.k≤c.L.length)∧(4:Nat)-c.k < 4-d.k)∧Ob (a.day=c.day)∧Ob (a.row=c.row)∧Ob (SV.lst a.xr a.R.length 1 (llElem [.i64] a.yr a.R)=SV.lst c.xr c.R.length 1 (llElem [.i64] c.yr c.R))∧Ob ((↑a.k:Int)+(1:Int)=(↑c.k:Int))∧Ob (a.W=c.W)∧Ob (a.D=c.D)∧Ob (a.G=c.G)∧Ob (SV.lst a.xl a.L.length 1 (llElem [.i64] a.ys a.L)=SV.lst c.xl c.L.length 1 (llElem [.i64] c.ys c.L))∧Ob (SV.lst a.xc (a.C.length) 6 (Rv.elemOf I6 a.C)=SV.lst c.xc (List.length c.C) 6 (Rv.elemOf I6 c.C))∧Ob (a.a=c.a)∧Ob (IsLst B'_3 c.xr c.R.length 1 (llElem [.i64] c.yr c.R))∧Ob (IsLst B'_3 c.xl c.L.length 1 (llElem [.i64] c.ys c.L))∧Ob (IsLst B'_3 c.xc (List.length c.C) 6 (Rv.elemOf I6 c.C))∧True))∧(¬(↑d.k:Int) < (↑d.R.length:Int)→(∃(a:LnS),Ob (LnI a∧IsLL B'_2 [.i64] a.xl a.ys a.L∧IsLst B'_2 a.xc (a.C.length) 6 (Rv.elemOf I6 a.C)∧IsLL B'_2 [.i64] a.xr a.yr a.R∧a.k≤a.W.toNat)∧Ob (d.day=a.day)∧Ob (d.row=a.row)∧Ob (SV.lst d.xr d.R.length 1 (llElem [.i64] d.yr d.R)=SV.lst a.xr a.R.length 1 (llElem [.i64] a.yr a.R))∧Ob ((0:Int)=(↑a.k:Int))∧Ob (d.W=a.W)∧Ob (d.D=a.D)∧Ob (d.G=a.G)∧Ob (SV.lst d.xl d.L.length 1 (llElem [.i64] d.ys d.L)=SV.lst a.xl a.L.length 1 (llElem [.i64] a.ys a.L))∧Ob (SV.lst d.xc (d.C.length) 6 (Rv.elemOf I6 d.C)=SV.lst a.xc (a.C.length) 6 (Rv.elemOf I6 a.C))∧Ob (d.a=a.a)∧Ob (IsLst B'_2 a.xr a.R.length 1 (llElem [.i64] a.yr a.R))∧Ob (IsLst B'_2 a.xl a.L.length 1 (llElem [.i64] a.ys a.L))∧Ob (IsLst B'_2 a.xc (a.C.length) 6 (Rv.elemOf I6 a.C))∧True)∧∀(B'_3:RW),Grow B'_2 B'_3→∀(a:LnS),LnI a∧IsLL B'_3 [.i64] a.xl a.ys a.L∧IsLst B'_3 a.xc (a.C.length) 6 (Rv.elemOf I6 a.C)∧IsLL B'_3 [.i64] a.xr a.yr a.R∧a.k≤a.W.toNat→∀(_ _ _ _ _ _ _ _ _ _ _ _ _ _ _ _ _ _ _ _ _ _ _ _ _ _ _ _ _ _ _ _ _ _ _ _ _ _ _ _ _ _ _ _ _ _ _ _ _ _ _ _ _ _ _ _ _ _ _ _ _ _ _ _ _ _ _ _ _ _ _ _ _ _ _ _ _ _ _ _ _ _ _ _ _ _ _ _ _ _ _ _ _ _ _ _ _ _ _ _ _ _ _ _ _ _ _ _ _ _ _ _ _ _ _ _ _ _ _ _ _ _ _ _ _ _ _ _ _ _ _ _ _ _ _ _ _ _ _ _ _ _ _ _ _ _ _ _ _ _ _ _ _ _ _ _ _ _ _ _ _ _ _ _ _ _ _ _ _ _ _ _ _ _ _ _ _ _ _ _ _ _ _ _ _ _ _ _ _ _ _ _ _ _ _ _ _:Value),((↑a.k:Int) < a.W→∃(R_5:List (List (List Int))),∃(ys_5:Nat→RV),Ob (R_5.length=a.L.length∧(∀(e:Nat),e < a.L.length→llElem [.i64] a.ys a.L e=llElem [.i64] ys_5 R_5 e)∧IsLL B'_3 [.i64] a.xl ys_5 R_5)∧∃(f:List (List Int)),Ob (IsLst B'_3 a.xc (a.C.length) 6 (Rv.elemOf I6 a.C)∧f.length=a.C.length∧(∀r∈f,r.length=6)∧∀(e:Nat),e < a.C.length→Rv.elemOf I6 a.C e=Rv.elemOf I6 f e)∧Ob (F_Holder.pre ([Dat.z a.W,Dat.z a.D,Dat.z a.G,Dat.ll R_5,Dat.l f]++[Dat.z a.day,Dat.z (↑a.k:Int),Dat.z a.row]))∧Ob (IsLst B'_3 a.xl a.L.length 1 (llElem [.i64] a.ys a.L))∧Ob (IsLst B'_3 a.xc (a.C.length) 6 (Rv.elemOf I6 a.C))∧Ob True∧∃(R_6:List (List (List Int))),∃(ys_6:Nat→RV),Ob (R_6.length=a.L.length∧(∀(e:Nat),e < a.L.length→llElem [.i64] a.ys a.L e=llElem [.i64] ys_6 R_6 e)∧IsLL B'_3 [.i64] a.xl ys_6 R_6)∧∃(j:List (List Int)),Ob (IsLst B'_3 a.xc (a.C.length) 6 (Rv.elemOf I6 a.C)∧j.length=a.C.length∧(∀r∈j,r.length=6)∧∀(e:Nat),e < a.C.length→Rv.elemOf I6 a.C e=Rv.elemOf I6 j e)∧Ob (F_Where.pre ([Dat.z a.W,Dat.z a.D,Dat.z a.G,Dat.ll R_6,Dat.l j]++Dat.z a.day :: ([Dat.z (↑a.k:Int),Dat.z (↑a.k:Int)]++[Dat.z a.row])))∧Ob (PlainE a.G.toNat (El.fn fun(e:Nat)↦[SV.i .i64 (whrR a.W R_6 j a.day (↑a.k:Int) (↑a.k:Int) a.row e)]))∧(¬¬(0:Int)=(0:Int)→(¬¬(0:Int)=(0:Int)→(¬(↑(hold a.W R_5 f (↑a.k:Int) a.row a.day):Int) < (0:Int)→(¬a.G≤(↑(hold a.W R_5 f (↑a.k:Int) a.row a.day):Int)→((0:Int) < (↑(hold a.W R_5 f (↑a.k:Int) a.row a.day):Int)→Ob (InR .i64 ((↑(hold a.W R_5 f (↑a.k:Int) a.row a.day):Int)-(1:Int)))∧Ob ((0:Int)≤(↑(hold a.W R_5 f (↑a.k:Int) a.row a.day):Int)-(1:Int)∧((↑(hold a.W R_5 f (↑a.k:Int) a.row a.day):Int)-(1:Int)).toNat < a.R.length∧IsLst B'_3 a.xr a.R.length 1 (llElem [.i64] a.yr a.R))∧Ob (IsLst B'_3 a.xr a.R.length 1 (llElem [.i64] a.yr a.R)∧((↑(hold a.W R_5 f (↑a.k:Int) a.row a.day):Int)-(1:Int)).toNat < a.R.length)∧Ob ((0:Int)≤a.row∧a.row.toNat < (a.R.getD ((↑(hold a.W R_5 f (↑a.k:Int) a.row a.day):Int)-(1:Int)).toNat []).length∧IsLst B'_3 (a.yr ((↑(hold a.W R_5 f (↑a.k:Int) a.row a.day):Int)-(1:Int)).toNat) (a.R.getD ((↑(hold a.W R_5 f (↑a.k:Int) a.row a.day):Int)-(1:Int)).toNat []).length 1 (Rv.elemOf [.i64] (a.R.getD ((↑(hold a.W R_5 f (↑a.k:Int) a.row a.day):Int)-(1:Int)).toNat [])))∧Ob (IsLst B'_3 (a.yr ((↑(hold a.W R_5 f (↑a.k:Int) a.row a.day):Int)-(1:Int)).toNat) (a.R.getD ((↑(hold a.W R_5 f (↑a.k:Int) a.row a.day):Int)-(1:Int)).toNat []).length 1 (Rv.elemOf [.i64] (a.R.getD ((↑(hold a.W R_5 f (↑a.k:Int) a.row a.day):Int)-(1:Int)).toNat []))∧a.row.toNat < (a.R.getD ((↑(hold a.W R_5 f (↑a.k:Int) a.row a.day):Int)-(1:Int)).toNat []).length)∧(¬(↑a.k:Int) < cell (a.R.getD ((↑(hold a.W R_5 f (↑a.k:Int) a.row a.day):Int)-(1:Int)).toNat []) a.row.toNat 0→Ob (IsLst B'_3 a.xr a.R.length 1 (llElem [.i64] a.yr a.R))∧((↑(hold a.W R_5 f (↑a.k:Int) a.row a.day):Int) < (↑a.R.length:Int)→Ob ((0:Int)≤(↑(hold a.W R_5 f (↑a.k:Int) a.row a.day):Int)∧(↑(hold a.W R_5 f (↑a.k:Int) a.row a.day):Int).toNat < a.R.length∧IsLst B'_3 a.xr a.R.length 1 (llElem [.i64] a.yr a.R))∧Ob (IsLst B'_3 a.xr a.R.length 1 (llElem [.i64] a.yr a.R)∧(↑(hold a.W R_5 f (↑a.k:Int) a.row a.day):Int).toNat < a.R.length)∧Ob ((0:Int)≤a.row∧a.row.toNat < (a.R.getD (↑(hold a.W R_5 f (↑a.k:Int) a.row a.day):Int).toNat []).length∧IsLst B'_3 (a.yr (↑(hold a.W R_5 f (↑a.k:Int) a.row a.day):Int).toNat) (a.R.getD (↑(hold a.W R_5 f (↑a.k:Int) a.row a.day):Int).toNat []).length 1 (Rv.elemOf [.i64] (a.R.getD (↑(hold a.W R_5 f (↑a.k:Int) a.row a.day):Int).toNat [])))∧Ob (IsLst B'_3 (a.yr (↑(hold a.W R_5 f (↑a.k:Int) a.row a.day):Int).toNat) (a.R.getD (↑(hold a.W R_5 f (↑a.k:Int) a.row a.day):Int).toNat []).length 1 (Rv.elemOf [.i64] (a.R.getD (↑(hold a.W R_5 f (↑a.k:Int) a.row a.day):Int).toNat []))∧a.row.toNat < (a.R.getD (↑(hold a.W R_5 f (↑a.k:Int) a.row a.day):Int).toNat []).length)∧(¬cell (a.R.getD (↑(hold a.W R_5 f (↑a.k:Int) a.row a.day):Int).toNat []) a.row.toNat 0≤(↑a.k:Int)→(¬(↑a.G.toNat:Int)=a.G→False)∧(¬¬(↑a.G.toNat:Int)=a.G→(∃(b:LnS),Ob (LnI b∧IsLL B'_3 [.i64] b.xl b.ys b.L∧IsLst B'_3 b.xc (b.C.length) 6 (Rv.elemOf I6 b.C)∧IsLL B'_3 [.i64] b.xr b.yr b.R∧b.k < b.W.toNat∧b.j≤b.G.toNat∧(↑b.k:Int)=(↑a.k:Int))∧Ob (a.day=b.day)∧Ob (a.row=b.row)∧Ob (SV.lst a.xr a.R.length 1 (llElem [.i64] a.yr a.R)=SV.lst b.xr b.R.length 1 (llElem [.i64] b.yr b.R))∧Ob ((↑a.k:Int)=(↑b.k:Int))∧Ob ((↑(hold a.W R_5 f (↑a.k:Int) a.row a.day):Int)=(↑(hold b.W b.L b.C (↑b.k:Int) b.row b.day):Int))∧Ob (a.G.toNat=b.G.toNat)∧Ob ((0:Int)=(↑b.j:Int))∧EqA a.G.toNat b.G.toNat (El.fn fun(e:Nat)↦[SV.i .i64 (whrR a.W R_6 j a.day (↑a.k:Int) (↑a.k:Int) a.row e)]) (El.fn fun(e:Nat)↦[SV.i .i64 (whrR b.W b.L b.C b.day (↑b.k:Int) (↑b.k:Int) b.row e)])∧Ob (a.W=b.W)∧Ob (a.D=b.D)∧Ob (a.G=b.G)∧Ob (SV.lst a.xl a.L.length 1 (llElem [.i64] a.ys a.L)=SV.lst b.xl b.L.length 1 (llElem [.i64] b.ys b.L))∧Ob (SV.lst a.xc (a.C.length) 6 (Rv.elemOf I6 a.C)=SV.lst b.xc (b.C.length) 6 (Rv.elemOf I6 b.C))∧Ob (a.a=b.a)∧Ob (IsLst B'_3 b.xr b.R.length 1 (llElem [.i64] b.yr b.R))∧Ob (PlainE b.G.toNat (El.fn fun(e:Nat)↦[SV.i .i64 (whrR b.W b.L b.C b.day (↑b.k:Int) (↑b.k:Int) b.row e)]))∧Ob (IsLst B'_3 b.xl b.L.length 1 (llElem [.i64] b.ys b.L))∧Ob (IsLst B'_3 b.xc (b.C.length) 6 (Rv.elemOf I6 b.C))∧True)∧∀(B'_4:RW),Grow B'_3 B'_4→∀(b:LnS),LnI b∧IsLL B'_4 [.i64] b.xl b.ys b.L∧IsLst B'_4 b.xc (b.C.length) 6 (Rv.elemOf I6 b.C)∧IsLL B'_4 [.i64] b.xr b.yr b.R∧b.k < b.W.toNat∧b.j≤b.G.toNat∧(↑b.k:Int)=(↑a.k:Int)→∀(_ _ _ _ _ _ _ _ _ _ _ _ _ _ _ _ _ _ _ _ _ _ _ _ _ _ _ _ _ _ _ _ _ _ _ _ _ _ _ _ _ _ _ _ _ _ _ _ _ _ _ _ _ _ _ _ _ _ _ _ _ _ _ _ _ _ _ _ _ _ _ _ _ _ _ _ _ _ _ _ _ _ _ _ _ _ _ _ _ _ _ _ _ _ _ _ _ _ _ _ _ _ _ _ _ _ _ _ _ _ _ _ _ _ _ _ _ _ _ _ _ _ _ _ _ _ _ _ _ _ _ _ _ _ _ _ _ _ _ _ _ _ _ _ _ _ _ _ _ _ _ _ _ _ _ _ _ _ _ _ _ _ _ _ _ _ _ _ _ _ _ _ _ _ _ _ _ _ _ _ _ _ _ _ _ _ _ _ _ _ _ _ _ _:Value),((↑b.j:Int) < (↑b.G.toNat:Int)→Ob ((0:Int)≤(↑b.j:Int)∧b.j < b.G.toNat)∧Ob (b.j < b.G.toNat)∧(¬¬(whrR b.W b.L b.C b.day (↑b.k:Int) (↑b.k:Int) b.row b.j=(1:Int)↔(↑b.j:Int)=(↑(hold b.W b.L b.C (↑b.k:Int) b.row b.day):Int))→Ob ((0:Int)≤(↑b.j:Int)∧b.j < b.G.toNat)∧Ob (b.j < b.G.toNat)∧(¬(whrR b.W b.L b.C b.day (↑b.k:Int) (↑b.k:Int) b.row b.j=(2:Int)↔¬(↑b.j:Int)=(↑(hold b.W b.L b.C (↑b.k:Int) b.row b.day):Int))→False)∧(¬¬(whrR b.W b.L b.C b.day (↑b.k:Int) (↑b.k:Int) b.row b.j=(2:Int)↔¬(↑b.j:Int)=(↑(hold b.W b.L b.C (↑b.k:Int) b.row b.day):Int))→Ob (InR .i64 ((↑b.j:Int)+(1:Int)))∧∃(c:LnS),Ob ((LnI c∧IsLL B'_4 [.i64] c.xl c.ys c.L∧IsLst B'_4 c.xc (List.length c.C) 6 (Rv.elemOf I6 c.C)∧IsLL B'_4 [.i64] c.xr c.yr c.R∧c.k < c.W.toNat∧c.j≤c.G.toNat∧(↑c.k:Int)=(↑a.k:Int))∧c.G.toNat-c.j < b.G.toNat-b.j)∧Ob (b.day=c.day)∧Ob (b.row=c.row)∧Ob (SV.lst b.xr b.R.length 1 (llElem [.i64] b.yr b.R)=SV.lst c.xr c.R.length 1 (llElem [.i64] c.yr c.R))∧Ob ((↑b.k:Int)=(↑c.k:Int))∧Ob ((↑(hold b.W b.L b.C (↑b.k:Int) b.row b.day):Int)=(↑(hold c.W c.L c.C (↑c.k:Int) c.row c.day):Int))∧Ob (b.G.toNat=c.G.toNat)∧Ob ((↑b.j:Int)+(1:Int)=(↑c.j:Int))∧EqA b.G.toNat c.G.toNat (El.fn fun(e:Nat)↦[SV.i .i64 (whrR b.W b.L b.C b.day (↑b.k:Int) (↑b.k:Int) b.row e)]) (El.fn fun(e:Nat)↦[SV.i .i64 (whrR c.W c.L c.C c.day (↑c.k:Int) (↑c.k:Int) c.row e)])∧Ob (b.W=c.W)∧Ob (b.D=c.D)∧Ob (b.G=c.G)∧Ob (SV.lst b.xl b.L.length 1 (llElem [.i64] b.ys b.L)=SV.lst c.xl c.L.length 1 (llElem [.i64] c.ys c.L))∧Ob (SV.lst b.xc (b.C.length) 6 (Rv.elemOf I6 b.C)=SV.lst c.xc (List.length c.C) 6 (Rv.elemOf I6 c.C))∧Ob (b.a=c.a)∧Ob (IsLst B'_4 c.xr c.R.length 1 (llElem [.i64] c.yr c.R))∧Ob (PlainE c.G.toNat (El.fn fun(e:Nat)↦[SV.i .i64 (whrR c.W c.L c.C c.day (↑c.k:Int) (↑c.k:Int) c.row e)]))∧Ob (IsLst B'_4 c.xl c.L.length 1 (llElem [.i64] c.ys c.L))∧Ob (IsLst B'_4 c.xc (List.length c.C) 6 (Rv.elemOf I6 c.C))∧True))∧(¬(whrR b.W b.L b.C b.day (↑b.k:Int) (↑b.k:Int) b.row b.j=(1:Int)↔(↑b.j:Int)=(↑(hold b.W b.L b.C (↑b.k:Int) b.row b.day):Int))→False))∧(¬(↑b.j:Int) < (↑b.G.toNat:Int)→Ob (InR .i64 ((↑b.k:Int)+(1:Int)))∧∃(c:LnS),Ob ((LnI c∧IsLL B'_4 [.i64] c.xl c.ys c.L∧IsLst B'_4 c.xc (List.length c.C) 6 (Rv.elemOf I6 c.C)∧IsLL B'_4 [.i64] c.xr c.yr c.R∧c.k≤c.W.toNat)∧(12:Nat)-c.k < 12-a.k)∧Ob (b.day=c.day)∧Ob (b.row=c.row)∧Ob (SV.lst b.xr b.R.length 1 (llElem [.i64] b.yr b.R)=SV.lst c.xr c.R.length 1 (llElem [.i64] c.yr c.R))∧Ob ((↑b.k:Int)+(1:Int)=(↑c.k:Int))∧Ob (b.W=c.W)∧Ob (b.D=c.D)∧Ob (b.G=c.G)∧Ob (SV.lst b.xl b.L.length 1 (llElem [.i64] b.ys b.L)=SV.lst c.xl c.L.length 1 (llElem [.i64] c.ys c.L))∧Ob (SV.lst b.xc (b.C.length) 6 (Rv.elemOf I6 b.C)=SV.lst c.xc (List.length c.C) 6 (Rv.elemOf I6 c.C))∧Ob (b.a=c.a)∧Ob (IsLst B'_4 c.xr c.R.length 1 (llElem [.i64] c.yr c.R))∧Ob (IsLst B'_4 c.xl c.L.length 1 (llElem [.i64] c.ys c.L))∧Ob (IsLst B'_4 c.xc (List.length c.C) 6 (Rv.elemOf I6 c.C))∧True)))∧(cell (a.R.getD (↑(hold a.W R_5 f (↑a.k:Int) a.row a.day):Int).toNat []) a.row.toNat 0≤(↑a.k:Int)→False))∧(¬(↑(hold a.W R_5 f (↑a.k:Int) a.row a.day):Int) < (↑a.R.length:Int)→(¬(↑a.G.toNat:Int)=a.G→False)∧(¬¬(↑a.G.toNat:Int)=a.G→(∃(b:LnS),Ob (LnI b∧IsLL B'_3 [.i64] b.xl b.ys b.L∧IsLst B'_3 b.xc (b.C.length) 6 (Rv.elemOf I6 b.C)∧IsLL B'_3 [.i64] b.xr b.yr b.R∧b.k < b.W.toNat∧b.j≤b.G.toNat∧(↑b.k:Int)=(↑a.k:Int))∧Ob (a.day=b.day)∧Ob (a.row=b.row)∧Ob (SV.lst a.xr a.R.length 1 (llElem [.i64] a.yr a.R)=SV.lst b.xr b.R.length 1 (llElem [.i64] b.yr b.R))∧Ob ((↑a.k:Int)=(↑b.k:Int))∧Ob ((↑(hold a.W R_5 f (↑a.k:Int) a.row a.day):Int)=(↑(hold b.W b.L b.C (↑b.k:Int) b.row b.day):Int))∧Ob (a.G.toNat=b.G.toNat)∧Ob ((0:Int)=(↑b.j:Int))∧EqA a.G.toNat b.G.toNat (El.fn fun(e:Nat)↦[SV.i .i64 (whrR a.W R_6 j a.day (↑a.k:Int) (↑a.k:Int) a.row e)]) (El.fn fun(e:Nat)↦[SV.i .i64 (whrR b.W b.L b.C b.day (↑b.k:Int) (↑b.k:Int) b.row e)])∧Ob (a.W=b.W)∧Ob (a.D=b.D)∧Ob (a.G=b.G)∧Ob (SV.lst a.xl a.L.length 1 (llElem [.i64] a.ys a.L)=SV.lst b.xl b.L.length 1 (llElem [.i64] b.ys b.L))∧Ob (SV.lst a.xc (a.C.length) 6 (Rv.elemOf I6 a.C)=SV.lst b.xc (b.C.length) 6 (Rv.elemOf I6 b.C))∧Ob (a.a=b.a)∧Ob (IsLst B'_3 b.xr b.R.length 1 (llElem [.i64] b.yr b.R))∧Ob (PlainE b.G.toNat (El.fn fun(e:Nat)↦[SV.i .i64 (whrR b.W b.L b.C b.day (↑b.k:Int) (↑b.k:Int) b.row e)]))∧Ob (IsLst B'_3 b.xl b.L.length 1 (llElem [.i64] b.ys b.L))∧Ob (IsLst B'_3 b.xc (b.C.length) 6 (Rv.elemOf I6 b.C))∧True)∧∀(B'_4:RW),Grow B'_3 B'_4→∀(b:LnS),LnI b∧IsLL B'_4 [.i64] b.xl b.ys b.L∧IsLst B'_4 b.xc (b.C.length) 6 (Rv.elemOf I6 b.C)∧IsLL B'_4 [.i64] b.xr b.yr b.R∧b.k < b.W.toNat∧b.j≤b.G.toNat∧(↑b.k:Int)=(↑a.k:Int)→∀(_ _ _ _ _ _ _ _ _ _ _ _ _ _ _ _ _ _ _ _ _ _ _ _ _ _ _ _ _ _ _ _ _ _ _ _ _ _ _ _ _ _ _ _ _ _ _ _ _ _ _ _ _ _ _ _ _ _ _ _ _ _ _ _ _ _ _ _ _ _ _ _ _ _ _ _ _ _ _ _ _ _ _ _ _ _ _ _ _ _ _ _ _ _ _ _ _ _ _ _ _ _ _ _ _ _ _ _ _ _ _ _ _ _ _ _ _ _ _ _ _ _ _ _ _ _ _ _ _ _ _ _ _ _ _ _ _ _ _ _ _ _ _ _ _ _ _ _ _ _ _ _ _ _ _ _ _ _ _ _ _ _ _ _ _ _ _ _ _ _ _ _ _ _ _ _ _ _ _ _ _ _ _ _ _ _ _ _ _ _ _ _ _ _:Value),((↑b.j:Int) < (↑b.G.toNat:Int)→Ob ((0:Int)≤(↑b.j:Int)∧b.j < b.G.toNat)∧Ob (b.j < b.G.toNat)∧(¬¬(whrR b.W b.L b.C b.day (↑b.k:Int) (↑b.k:Int) b.row b.j=(1:Int)↔(↑b.j:Int)=(↑(hold b.W b.L b.C (↑b.k:Int) b.row b.day):Int))→Ob ((0:Int)≤(↑b.j:Int)∧b.j < b.G.toNat)∧Ob (b.j < b.G.toNat)∧(¬(whrR b.W b.L b.C b.day (↑b.k:Int) (↑b.k:Int) b.row b.j=(2:Int)↔¬(↑b.j:Int)=(↑(hold b.W b.L b.C (↑b.k:Int) b.row b.day):Int))→False)∧(¬¬(whrR b.W b.L b.C b.day (↑b.k:Int) (↑b.k:Int) b.row b.j=(2:Int)↔¬(↑b.j:Int)=(↑(hold b.W b.L b.C (↑b.k:Int) b.row b.day):Int))→Ob (InR .i64 ((↑b.j:Int)+(1:Int)))∧∃(c:LnS),Ob ((LnI c∧IsLL B'_4 [.i64] c.xl c.ys c.L∧IsLst B'_4 c.xc (List.length c.C) 6 (Rv.elemOf I6 c.C)∧IsLL B'_4 [.i64] c.xr c.yr c.R∧c.k < c.W.toNat∧c.j≤c.G.toNat∧(↑c.k:Int)=(↑a.k:Int))∧c.G.toNat-c.j < b.G.toNat-b.j)∧Ob (b.day=c.day)∧Ob (b.row=c.row)∧Ob (SV.lst b.xr b.R.length 1 (llElem [.i64] b.yr b.R)=SV.lst c.xr c.R.length 1 (llElem [.i64] c.yr c.R))∧Ob ((↑b.k:Int)=(↑c.k:Int))∧Ob ((↑(hold b.W b.L b.C (↑b.k:Int) b.row b.day):Int)=(↑(hold c.W c.L c.C (↑c.k:Int) c.row c.day):Int))∧Ob (b.G.toNat=c.G.toNat)∧Ob ((↑b.j:Int)+(1:Int)=(↑c.j:Int))∧EqA b.G.toNat c.G.toNat (El.fn fun(e:Nat)↦[SV.i .i64 (whrR b.W b.L b.C b.day (↑b.k:Int) (↑b.k:Int) b.row e)]) (El.fn fun(e:Nat)↦[SV.i .i64 (whrR c.W c.L c.C c.day (↑c.k:Int) (↑c.k:Int) c.row e)])∧Ob (b.W=c.W)∧Ob (b.D=c.D)∧Ob (b.G=c.G)∧Ob (SV.lst b.xl b.L.length 1 (llElem [.i64] b.ys b.L)=SV.lst c.xl c.L.length 1 (llElem [.i64] c.ys c.L))∧Ob (SV.lst b.xc (b.C.length) 6 (Rv.elemOf I6 b.C)=SV.lst c.xc (List.length c.C) 6 (Rv.elemOf I6 c.C))∧Ob (b.a=c.a)∧Ob (IsLst B'_4 c.xr c.R.length 1 (llElem [.i64] c.yr c.R))∧Ob (PlainE c.G.toNat (El.fn fun(e:Nat)↦[SV.i .i64 (whrR c.W c.L c.C c.day (↑c.k:Int) (↑c.k:Int) c.row e)]))∧Ob (IsLst B'_4 c.xl c.L.length 1 (llElem [.i64] c.ys c.L))∧Ob (IsLst B'_4 c.xc (List.length c.C) 6 (Rv.elemOf I6 c.C))∧True))∧(¬(whrR b.W b.L b.C b.day (↑b.k:Int) (↑b.k:Int) b.row b.j=(1:Int)↔(↑b.j:Int)=(↑(hold b.W b.L b.C (↑b.k:Int) b.row b.day):Int))→False))∧(¬(↑b.j:Int) < (↑b.G.toNat:Int)→Ob (InR .i64 ((↑b.k:Int)+(1:Int)))∧∃(c:LnS),Ob ((LnI c∧IsLL B'_4 [.i64] c.xl c.ys c.L∧IsLst B'_4 c.xc (List.length c.C) 6 (Rv.elemOf I6 c.C)∧IsLL B'_4 [.i64] c.xr c.yr c.R∧c.k≤c.W.toNat)∧(12:Nat)-c.k < 12-a.k)∧Ob (b.day=c.day)∧Ob (b.row=c.row)∧Ob (SV.lst b.xr b.R.length 1 (llElem [.i64] b.yr b.R)=SV.lst c.xr c.R.length 1 (llElem [.i64] c.yr c.R))∧Ob ((↑b.k:Int)+(1:Int)=(↑c.k:Int))∧Ob (b.W=c.W)∧Ob (b.D=c.D)∧Ob (b.G=c.G)∧Ob (SV.lst b.xl b.L.length 1 (llElem [.i64] b.ys b.L)=SV.lst c.xl c.L.length 1 (llElem [.i64] c.ys c.L))∧Ob (SV.lst b.xc (b.C.length) 6 (Rv.elemOf I6 b.C)=SV.lst c.xc (List.length c.C) 6 (Rv.elemOf I6 c.C))∧Ob (b.a=c.a)∧Ob (IsLst B'_4 c.xr c.R.length 1 (llElem [.i64] c.yr c.R))∧Ob (IsLst B'_4 c.xl c.L.length 1 (llElem [.i64] c.ys c.L))∧Ob (IsLst B'_4 c.xc (List.length c.C) 6 (Rv.elemOf I6 c.C))∧True))))∧((↑a.k:Int) < cell (a.R.getD ((↑(hold a.W R_5 f (↑a.k:Int) a.row a.day):Int)-(1:Int)).toNat []) a.row.toNat 0→False))∧(¬(0:Int) < (↑(hold a.W R_5 f (↑a.k:Int) a.row a.day):Int)→Ob (IsLst B'_3 a.xr a.R.length 1 (llElem [.i64] a.yr a.R))∧((↑(hold a.W R_5 f (↑a.k:Int) a.row a.day):Int) < (↑a.R.length:Int)→Ob ((0:Int)≤(↑(hold a.W R_5 f (↑a.k:Int) a.row a.day):Int)∧(↑(hold a.W R_5 f (↑a.k:Int) a.row a.day):Int).toNat < a.R.length∧IsLst B'_3 a.xr a.R.length 1 (llElem [.i64] a.yr a.R))∧Ob (IsLst B'_3 a.xr a.R.length 1 (llElem [.i64] a.yr a.R)∧(↑(hold a.W R_5 f (↑a.k:Int) a.row a.day):Int).toNat < a.R.length)∧Ob ((0:Int)≤a.row∧a.row.toNat < (a.R.getD (↑(hold a.W R_5 f (↑a.k:Int) a.row a.day):Int).toNat []).length∧IsLst B'_3 (a.yr (↑(hold a.W R_5 f (↑a.k:Int) a.row a.day):Int).toNat) (a.R.getD (↑(hold a.W R_5 f (↑a.k:Int) a.row a.day):Int).toNat []).length 1 (Rv.elemOf [.i64] (a.R.getD (↑(hold a.W R_5 f (↑a.k:Int) a.row a.day):Int).toNat [])))∧Ob (IsLst B'_3 (a.yr (↑(hold a.W R_5 f (↑a.k:Int) a.row a.day):Int).toNat) (a.R.getD (↑(hold a.W R_5 f (↑a.k:Int) a.row a.day):Int).toNat []).length 1 (Rv.elemOf [.i64] (a.R.getD (↑(hold a.W R_5 f (↑a.k:Int) a.row a.day):Int).toNat []))∧a.row.toNat < (a.R.getD (↑(hold a.W R_5 f (↑a.k:Int) a.row a.day):Int).toNat []).length)∧(¬cell (a.R.getD (↑(hold a.W R_5 f (↑a.k:Int) a.row a.day):Int).toNat []) a.row.toNat 0≤(↑a.k:Int)→(¬(↑a.G.toNat:Int)=a.G→False)∧(¬¬(↑a.G.toNat:Int)=a.G→(∃(b:LnS),Ob (LnI b∧IsLL B'_3 [.i64] b.xl b.ys b.L∧IsLst B'_3 b.xc (b.C.length) 6 (Rv.elemOf I6 b.C)∧IsLL B'_3 [.i64] b.xr b.yr b.R∧b.k < b.W.toNat∧b.j≤b.G.toNat∧(↑b.k:Int)=(↑a.k:Int))∧Ob (a.day=b.day)∧Ob (a.row=b.row)∧Ob (SV.lst a.xr a.R.length 1 (llElem [.i64] a.yr a.R)=SV.lst b.xr b.R.length 1 (llElem [.i64] b.yr b.R))∧Ob ((↑a.k:Int)=(↑b.k:Int))∧Ob ((↑(hold a.W R_5 f (↑a.k:Int) a.row a.day):Int)=(↑(hold b.W b.L b.C (↑b.k:Int) b.row b.day):Int))∧Ob (a.G.toNat=b.G.toNat)∧Ob ((0:Int)=(↑b.j:Int))∧EqA a.G.toNat b.G.toNat (El.fn fun(e:Nat)↦[SV.i .i64 (whrR a.W R_6 j a.day (↑a.k:Int) (↑a.k:Int) a.row e)]) (El.fn fun(e:Nat)↦[SV.i .i64 (whrR b.W b.L b.C b.day (↑b.k:Int) (↑b.k:Int) b.row e)])∧Ob (a.W=b.W)∧Ob (a.D=b.D)∧Ob (a.G=b.G)∧Ob (SV.lst a.xl a.L.length 1 (llElem [.i64] a.ys a.L)=SV.lst b.xl b.L.length 1 (llElem [.i64] b.ys b.L))∧Ob (SV.lst a.xc (a.C.length) 6 (Rv.elemOf I6 a.C)=SV.lst b.xc (b.C.length) 6 (Rv.elemOf I6 b.C))∧Ob (a.a=b.a)∧Ob (IsLst B'_3 b.xr b.R.length 1 (llElem [.i64] b.yr b.R))∧Ob (PlainE b.G.toNat (El.fn fun(e:Nat)↦[SV.i .i64 (whrR b.W b.L b.C b.day (↑b.k:Int) (↑b.k:Int) b.row e)]))∧Ob (IsLst B'_3 b.xl b.L.length 1 (llElem [.i64] b.ys b.L))∧Ob (IsLst B'_3 b.xc (b.C.length) 6 (Rv.elemOf I6 b.C))∧True)∧∀(B'_4:RW),Grow B'_3 B'_4→∀(b:LnS),LnI b∧IsLL B'_4 [.i64] b.xl b.ys b.L∧IsLst B'_4 b.xc (b.C.length) 6 (Rv.elemOf I6 b.C)∧IsLL B'_4 [.i64] b.xr b.yr b.R∧b.k < b.W.toNat∧b.j≤b.G.toNat∧(↑b.k:Int)=(↑a.k:Int)→∀(_ _ _ _ _ _ _ _ _ _ _ _ _ _ _ _ _ _ _ _ _ _ _ _ _ _ _ _ _ _ _ _ _ _ _ _ _ _ _ _ _ _ _ _ _ _ _ _ _ _ _ _ _ _ _ _ _ _ _ _ _ _ _ _ _ _ _ _ _ _ _ _ _ _ _ _ _ _ _ _ _ _ _ _ _ _ _ _ _ _ _ _ _ _ _ _ _ _ _ _ _ _ _ _ _ _ _ _ _ _ _ _ _ _ _ _ _ _ _ _ _ _ _ _ _ _ _ _ _ _ _ _ _ _ _ _ _ _ _ _ _ _ _ _ _ _ _ _ _ _ _ _ _ _ _ _ _ _ _ _ _ _ _ _ _ _ _ _ _ _ _ _ _ _ _ _ _ _ _ _ _ _ _ _ _ _ _ _ _ _ _ _ _ _:Value),((↑b.j:Int) < (↑b.G.toNat:Int)→Ob ((0:Int)≤(↑b.j:Int)∧b.j < b.G.toNat)∧Ob (b.j < b.G.toNat)∧(¬¬(whrR b.W b.L b.C b.day (↑b.k:Int) (↑b.k:Int) b.row b.j=(1:Int)↔(↑b.j:Int)=(↑(hold b.W b.L b.C (↑b.k:Int) b.row b.day):Int))→Ob ((0:Int)≤(↑b.j:Int)∧b.j < b.G.toNat)∧Ob (b.j < b.G.toNat)∧(¬(whrR b.W b.L b.C b.day (↑b.k:Int) (↑b.k:Int) b.row b.j=(2:Int)↔¬(↑b.j:Int)=(↑(hold b.W b.L b.C (↑b.k:Int) b.row b.day):Int))→False)∧(¬¬(whrR b.W b.L b.C b.day (↑b.k:Int) (↑b.k:Int) b.row b.j=(2:Int)↔¬(↑b.j:Int)=(↑(hold b.W b.L b.C (↑b.k:Int) b.row b.day):Int))→Ob (InR .i64 ((↑b.j:Int)+(1:Int)))∧∃(c:LnS),Ob ((LnI c∧IsLL B'_4 [.i64] c.xl c.ys c.L∧IsLst B'_4 c.xc (List.length c.C) 6 (Rv.elemOf I6 c.C)∧IsLL B'_4 [.i64] c.xr c.yr c.R∧c.k < c.W.toNat∧c.j≤c.G.toNat∧(↑c.k:Int)=(↑a.k:Int))∧c.G.toNat-c.j < b.G.toNat-b.j)∧Ob (b.day=c.day)∧Ob (b.row=c.row)∧Ob (SV.lst b.xr b.R.length 1 (llElem [.i64] b.yr b.R)=SV.lst c.xr c.R.length 1 (llElem [.i64] c.yr c.R))∧Ob ((↑b.k:Int)=(↑c.k:Int))∧Ob ((↑(hold b.W b.L b.C (↑b.k:Int) b.row b.day):Int)=(↑(hold c.W c.L c.C (↑c.k:Int) c.row c.day):Int))∧Ob (b.G.toNat=c.G.toNat)∧Ob ((↑b.j:Int)+(1:Int)=(↑c.j:Int))∧EqA b.G.toNat c.G.toNat (El.fn fun(e:Nat)↦[SV.i .i64 (whrR b.W b.L b.C b.day (↑b.k:Int) (↑b.k:Int) b.row e)]) (El.fn fun(e:Nat)↦[SV.i .i64 (whrR c.W c.L c.C c.day (↑c.k:Int) (↑c.k:Int) c.row e)])∧Ob (b.W=c.W)∧Ob (b.D=c.D)∧Ob (b.G=c.G)∧Ob (SV.lst b.xl b.L.length 1 (llElem [.i64] b.ys b.L)=SV.lst c.xl c.L.length 1 (llElem [.i64] c.ys c.L))∧Ob (SV.lst b.xc (b.C.length) 6 (Rv.elemOf I6 b.C)=SV.lst c.xc (List.length c.C) 6 (Rv.elemOf I6 c.C))∧Ob (b.a=c.a)∧Ob (IsLst B'_4 c.xr c.R.length 1 (llElem [.i64] c.yr c.R))∧Ob (PlainE c.G.toNat (El.fn fun(e:Nat)↦[SV.i .i64 (whrR c.W c.L c.C c.day (↑c.k:Int) (↑c.k:Int) c.row e)]))∧Ob (IsLst B'_4 c.xl c.L.length 1 (llElem [.i64] c.ys c.L))∧Ob (IsLst B'_4 c.xc (List.length c.C) 6 (Rv.elemOf I6 c.C))∧True))∧(¬(whrR b.W b.L b.C b.day (↑b.k:Int) (↑b.k:Int) b.row b.j=(1:Int)↔(↑b.j:Int)=(↑(hold b.W b.L b.C (↑b.k:Int) b.row b.day):Int))→False))∧(¬(↑b.j:Int) < (↑b.G.toNat:Int)→Ob (InR .i64 ((↑b.k:Int)+(1:Int)))∧∃(c:LnS),Ob ((LnI c∧IsLL B'_4 [.i64] c.xl c.ys c.L∧IsLst B'_4 c.xc (List.length c.C) 6 (Rv.elemOf I6 c.C)∧IsLL B'_4 [.i64] c.xr c.yr c.R∧c.k≤c.W.toNat)∧(12:Nat)-c.k < 12-a.k)∧Ob (b.day=c.day)∧Ob (b.row=c.row)∧Ob (SV.lst b.xr b.R.length 1 (llElem [.i64] b.yr b.R)=SV.lst c.xr c.R.length 1 (llElem [.i64] c.yr c.R))∧Ob ((↑b.k:Int)+(1:Int)=(↑c.k:Int))∧Ob (b.W=c.W)∧Ob (b.D=c.D)∧Ob (b.G=c.G)∧Ob (SV.lst b.xl b.L.length 1 (llElem [.i64] b.ys b.L)=SV.lst c.xl c.L.length 1 (llElem [.i64] c.ys c.L))∧Ob (SV.lst b.xc (b.C.length) 6 (Rv.elemOf I6 b.C)=SV.lst c.xc (List.length c.C) 6 (Rv.elemOf I6 c.C))∧Ob (b.a=c.a)∧Ob (IsLst B'_4 c.xr c.R.length 1 (llElem [.i64] c.yr c.R))∧Ob (IsLst B'_4 c.xl c.L.length 1 (llElem [.i64] c.ys c.L))∧Ob (IsLst B'_4 c.xc (List.length c.C) 6 (Rv.elemOf I6 c.C))∧True)))∧(cell (a.R.getD (↑(hold a.W R_5 f (↑a.k:Int) a.row a.day):Int).toNat []) a.row.toNat 0≤(↑a.k:Int)→False))∧(¬(↑(hold a.W R_5 f (↑a.k:Int) a.row a.day):Int) < (↑a.R.length:Int)→(¬(↑a.G.toNat:Int)=a.G→False)∧(¬¬(↑a.G.toNat:Int)=a.G→(∃(b:LnS),Ob (LnI b∧IsLL B'_3 [.i64] b.xl b.ys b.L∧IsLst B'_3 b.xc (b.C.length) 6 (Rv.elemOf I6 b.C)∧IsLL B'_3 [.i64] b.xr b.yr b.R∧b.k < b.W.toNat∧b.j≤b.G.toNat∧(↑b.k:Int)=(↑a.k:Int))∧Ob (a.day=b.day)∧Ob (a.row=b.row)∧Ob (SV.lst a.xr a.R.length 1 (llElem [.i64] a.yr a.R)=SV.lst b.xr b.R.length 1 (llElem [.i64] b.yr b.R))∧Ob ((↑a.k:Int)=(↑b.k:Int))∧Ob ((↑(hold a.W R_5 f (↑a.k:Int) a.row a.day):Int)=(↑(hold b.W b.L b.C (↑b.k:Int) b.row b.day):Int))∧Ob (a.G.toNat=b.G.toNat)∧Ob ((0:Int)=(↑b.j:Int))∧EqA a.G.toNat b.G.toNat (El.fn fun(e:Nat)↦[SV.i .i64 (whrR a.W R_6 j a.day (↑a.k:Int) (↑a.k:Int) a.row e)]) (El.fn fun(e:Nat)↦[SV.i .i64 (whrR b.W b.L b.C b.day (↑b.k:Int) (↑b.k:Int) b.row e)])∧Ob (a.W=b.W)∧Ob (a.D=b.D)∧Ob (a.G=b.G)∧Ob (SV.lst a.xl a.L.length 1 (llElem [.i64] a.ys a.L)=SV.lst b.xl b.L.length 1 (llElem [.i64] b.ys b.L))∧Ob (SV.lst a.xc (a.C.length) 6 (Rv.elemOf I6 a.C)=SV.lst b.xc (b.C.length) 6 (Rv.elemOf I6 b.C))∧Ob (a.a=b.a)∧Ob (IsLst B'_3 b.xr b.R.length 1 (llElem [.i64] b.yr b.R))∧Ob (PlainE b.G.toNat (El.fn fun(e:Nat)↦[SV.i .i64 (whrR b.W b.L b.C b.day (↑b.k:Int) (↑b.k:Int) b.row e)]))∧Ob (IsLst B'_3 b.xl b.L.length 1 (llElem [.i64] b.ys b.L))∧Ob (IsLst B'_3 b.xc (b.C.length) 6 (Rv.elemOf I6 b.C))∧True)∧∀(B'_4:RW),Grow B'_3 B'_4→∀(b:LnS),LnI b∧IsLL B'_4 [.i64] b.xl b.ys b.L∧IsLst B'_4 b.xc (b.C.length) 6 (Rv.elemOf I6 b.C)∧IsLL B'_4 [.i64] b.xr b.yr b.R∧b.k < b.W.toNat∧b.j≤b.G.toNat∧(↑b.k:Int)=(↑a.k:Int)→∀(_ _ _ _ _ _ _ _ _ _ _ _ _ _ _ _ _ _ _ _ _ _ _ _ _ _ _ _ _ _ _ _ _ _ _ _ _ _ _ _ _ _ _ _ _ _ _ _ _ _ _ _ _ _ _ _ _ _ _ _ _ _ _ _ _ _ _ _ _ _ _ _ _ _ _ _ _ _ _ _ _ _ _ _ _ _ _ _ _ _ _ _ _ _ _ _ _ _ _ _ _ _ _ _ _ _ _ _ _ _ _ _ _ _ _ _ _ _ _ _ _ _ _ _ _ _ _ _ _ _ _ _ _ _ _ _ _ _ _ _ _ _ _ _ _ _ _ _ _ _ _ _ _ _ _ _ _ _ _ _ _ _ _ _ _ _ _ _ _ _ _ _ _ _ _ _ _ _ _ _ _ _ _ _ _ _ _ _ _ _ _ _ _ _:Value),((↑b.j:Int) < (↑b.G.toNat:Int)→Ob ((0:Int)≤(↑b.j:Int)∧b.j < b.G.toNat)∧Ob (b.j < b.G.toNat)∧(¬¬(whrR b.W b.L b.C b.day (↑b.k:Int) (↑b.k:Int) b.row b.j=(1:Int)↔(↑b.j:Int)=(↑(hold b.W b.L b.C (↑b.k:Int) b.row b.day):Int))→Ob ((0:Int)≤(↑b.j:Int)∧b.j < b.G.toNat)∧Ob (b.j < b.G.toNat)∧(¬(whrR b.W b.L b.C b.day (↑b.k:Int) (↑b.k:Int) b.row b.j=(2:Int)↔¬(↑b.j:Int)=(↑(hold b.W b.L b.C (↑b.k:Int) b.row b.day):Int))→False)∧(¬¬(whrR b.W b.L b.C b.day (↑b.k:Int) (↑b.k:Int) b.row b.j=(2:Int)↔¬(↑b.j:Int)=(↑(hold b.W b.L b.C (↑b.k:Int) b.row b.day):Int))→Ob (InR .i64 ((↑b.j:Int)+(1:Int)))∧∃(c:LnS),Ob ((LnI c∧IsLL B'_4 [.i64] c.xl c.ys c.L∧IsLst B'_4 c.xc (List.length c.C) 6 (Rv.elemOf I6 c.C)∧IsLL B'_4 [.i64] c.xr c.yr c.R∧c.k < c.W.toNat∧c.j≤c.G.toNat∧(↑c.k:Int)=(↑a.k:Int))∧c.G.toNat-c.j < b.G.toNat-b.j)∧Ob (b.day=c.day)∧Ob (b.row=c.row)∧Ob (SV.lst b.xr b.R.length 1 (llElem [.i64] b.yr b.R)=SV.lst c.xr c.R.length 1 (llElem [.i64] c.yr c.R))∧Ob ((↑b.k:Int)=(↑c.k:Int))∧Ob ((↑(hold b.W b.L b.C (↑b.k:Int) b.row b.day):Int)=(↑(hold c.W c.L c.C (↑c.k:Int) c.row c.day):Int))∧Ob (b.G.toNat=c.G.toNat)∧Ob ((↑b.j:Int)+(1:Int)=(↑c.j:Int))∧EqA b.G.toNat c.G.toNat (El.fn fun(e:Nat)↦[SV.i .i64 (whrR b.W b.L b.C b.day (↑b.k:Int) (↑b.k:Int) b.row e)]) (El.fn fun(e:Nat)↦[SV.i .i64 (whrR c.W c.L c.C c.day (↑c.k:Int) (↑c.k:Int) c.row e)])∧Ob (b.W=c.W)∧Ob (b.D=c.D)∧Ob (b.G=c.G)∧Ob (SV.lst b.xl b.L.length 1 (llElem [.i64] b.ys b.L)=SV.lst c.xl c.L.length 1 (llElem [.i64] c.ys c.L))∧Ob (SV.lst b.xc (b.C.length) 6 (Rv.elemOf I6 b.C)=SV.lst c.xc (List.length c.C) 6 (Rv.elemOf I6 c.C))∧Ob (b.a=c.a)∧Ob (IsLst B'_4 c.xr c.R.length 1 (llElem [.i64] c.yr c.R))∧Ob (PlainE c.G.toNat (El.fn fun(e:Nat)↦[SV.i .i64 (whrR c.W c.L c.C c.day (↑c.k:Int) (↑c.k:Int) c.row e)]))∧Ob (IsLst B'_4 c.xl c.L.length 1 (llElem [.i64] c.ys c.L))∧Ob (IsLst B'_4 c.xc (List.length c.C) 6 (Rv.elemOf I6 c.C))∧True))∧(¬(whrR b.W b.L b.C b.day (↑b.k:Int) (↑b.k:Int) b.row b.j=(1:Int)↔(↑b.j:Int)=(↑(hold b.W b.L b.C (↑b.k:Int) b.row b.day):Int))→False))∧(¬(↑b.j:Int) < (↑b.G.toNat:Int)→Ob (InR .i64 ((↑b.k:Int)+(1:Int)))∧∃(c:LnS),Ob ((LnI c∧IsLL B'_4 [.i64] c.xl c.ys c.L∧IsLst B'_4 c.xc (List.length c.C) 6 (Rv.elemOf I6 c.C)∧IsLL B'_4 [.i64] c.xr c.yr c.R∧c.k≤c.W.toNat)∧(12:Nat)-c.k < 12-a.k)∧Ob (b.day=c.day)∧Ob (b.row=c.row)∧Ob (SV.lst b.xr b.R.length 1 (llElem [.i64] b.yr b.R)=SV.lst c.xr c.R.length 1 (llElem [.i64] c.yr c.R))∧Ob ((↑b.k:Int)+(1:Int)=(↑c.k:Int))∧Ob (b.W=c.W)∧Ob (b.D=c.D)∧Ob (b.G=c.G)∧Ob (SV.lst b.xl b.L.length 1 (llElem [.i64] b.ys b.L)=SV.lst c.xl c.L.length 1 (llElem [.i64] c.ys c.L))∧Ob (SV.lst b.xc (b.C.length) 6 (Rv.elemOf I6 b.C)=SV.lst c.xc (List.length c.C) 6 (Rv.elemOf I6 c.C))∧Ob (b.a=c.a)∧Ob (IsLst B'_4 c.xr c.R.length 1 (llElem [.i64] c.yr c.R))∧Ob (IsLst B'_4 c.xl c.L.length 1 (llElem [.i64] c.ys c.L))∧Ob (IsLst B'_4 c.xc (List.length c.C) 6 (Rv.elemOf I6 c.C))∧True)))))∧(a.G≤(↑(hold a.W R_5 f (↑a.k:Int) a.row a.day):Int)→False))∧((↑(hold a.W R_5 f (↑a.k:Int) a.row a.day):Int) < (0:Int)→False))∧(¬(0:Int)=(0:Int)→False))∧(¬(0:Int)=(0:Int)→False))∧(¬(↑a.k:Int) < a.W→Ob (hasTabs [] B'_3)∧True))))∧(¬t=(0:Int)→False)
set_option linter.unusedSimpArgs false in
set_option maxRecDepth 4000 in
set_option maxHeartbeats 2000000 in
theorem v_law:V_law:=by
 unfold V_law EqA I6 LsA RwB
 intro B ht x N hx hox hr hN
 simp only [Ob_iff,and_true,true_and,implies_true,Classical.not_not,not_true_eq_false,F_TideOf,F_Below,F_Holder,F_Where,List.cons_append,List.nil_append,not_false_eq_true,true_implies,false_implies]
 refine⟨N,⟨hx,rfl,hr,fun i hi=>rfl⟩,hN,by decide,?_⟩
 intro a B1 g1 W D G xl ys L hl hol xc C hc hoc hcr hb
 have hw:=hb.w
 have hd:=hb.d
 have hg:=hb.g
 have hn:=hb.n
 have b1:=belowV_in a 1095
 have b2:=belowV_in (belowA a 1095) D
 generalize belowA (belowA a 1095) D=a2 at *
 generalize belowV (belowA a 1095) D=r0 at *
 generalize belowV a 1095=dy at *
 have hX:0≤dy∧dy < 1095:=by omega
 have hR0:0≤r0∧r0 < D:=by omega
 have hx1:=hx.up g1
 refine⟨hx,hx,by decide,by omega,L,ys,⟨rfl,fun i hi=>rfl,hl⟩,C,⟨hc,rfl,hcr,fun i hi=>rfl⟩,⟨hb.mono (by decide) (by decide) (by decide),hX.1,by omega⟩,hl.1,hc,?_⟩
 intro B2 g2 xr yr R hR hoR e ⟨he,hRn,hRa⟩
 have hl2:=hl.up g2
 have hc2:=hc.up g2
 have hI:LnI ⟨0,0,a2,W,D,G,dy,r0,L,C,R,xl,xc,xr,ys,yr⟩:=⟨hb,hX,hR0,hRn,hRa⟩
 refine⟨hx1,hx1,hl.1,hc,hl.1,hc,fun _=>⟨L,ys,⟨rfl,fun i hi=>rfl,hl2⟩,C,⟨hc2,rfl,hcr,fun i hi=>rfl⟩,R,yr,⟨rfl,fun i hi=>rfl,hR⟩,⟨by omega,by omega,by omega,by omega,by rw [hRn,hn],fun i hi=>(hRa i (by rw [← hRn]; exact hi)).1⟩,⟨⟨0,0,a2,W,D,G,dy,r0,L,C,R,xl,xc,xr,ys,yr⟩,⟨hI,hl2,hc2,hR,Nat.zero_le _⟩,rfl,rfl,rfl,rfl,rfl,rfl,rfl,rfl,rfl,rfl,hR.1,hl2.1,hc2⟩,?_⟩,fun q=>absurd he q⟩
 intro B3 g3 v ⟨hI,hll,hcc,hrr,hk⟩
 intros
 refine⟨hrr.1,fun h1=>⟨⟨⟨v.k,0,v.a,v.W,v.D,v.G,v.day,v.row,v.L,v.C,v.R,v.xl,v.xc,v.xr,v.ys,v.yr⟩,⟨⟨hI.b,hI.d,hI.r,hI.n,hI.at_⟩,hll,hcc,hrr,by have:=hI.n; show v.k < v.L.length; omega,Nat.zero_le _,rfl⟩,rfl,rfl,rfl,rfl,rfl,rfl,rfl,rfl,rfl,rfl,rfl,hrr.1,hll.1,hcc⟩,?_⟩,fun h1=>⟨⟨⟨0,0,v.a,v.W,v.D,v.G,v.day,v.row,v.L,v.C,v.R,v.xl,v.xc,v.xr,v.ys,v.yr⟩,⟨⟨hI.b,hI.d,hI.r,hI.n,hI.at_⟩,hll,hcc,hrr,Nat.zero_le _⟩,rfl,rfl,rfl,rfl,rfl,rfl,rfl,rfl,rfl,rfl,hrr.1,hll.1,hcc⟩,?_⟩⟩
 ·intro B4 g4 u ⟨hI,hll,hcc,hrr,hk,hj,hkq⟩
  intros
  have hn4:u.L.length≤4:=by have:=hI.b.n; have:=hI.b.g; omega
  have hD:=hI.b.d
  have nk:(0:Int)≤u.k:=Int.natCast_nonneg _
  refine⟨fun h2=>?_,fun h2=>?_⟩
  ·have hW:(0:Int)≤u.W:=by have:=hI.b.w; omega
   have hjD:u.j < u.D.toNat:=by omega
   have hkR:u.k < u.R.length:=by rw [hI.n]; exact hk
   have hy1:=(hrr.2 u.k hkR).1
   have hA:=hI.at_ u.k hk
   have hjl:u.j < (u.R.getD u.k []).length:=by rw [hA.1]; exact hjD
   have nj:(0:Int)≤u.j:=Int.natCast_nonneg _
   have c1:=hA.2 u.j hjD
   have c2:=leftK_in (L:=u.L) (C:=u.C) (day:=u.day) (row:=(u.j:Int)) hW (u.k+1)
   rw [← c1]at c2
   have i1:InR .i64 ((u.j:Int)+1):=by simp only [InR]; omega
   have i2:u.j+1≤u.D.toNat:=hjD
   have i3:u.D.toNat-(u.j+1) < u.D.toNat-u.j:=by omega
   refine⟨hrr.1,⟨nk,hkR,hrr.1⟩,⟨hrr.1,hkR⟩,⟨hrr.1,hkR⟩,hy1,⟨nj,hjl,hy1⟩,⟨hy1,hjl⟩,⟨hy1,hjl⟩,fun _=>⟨hrr.1,⟨nk,hkR,hrr.1⟩,⟨hrr.1,hkR⟩,⟨hrr.1,hkR⟩,hy1,⟨nj,hjl,hy1⟩,⟨hy1,hjl⟩,⟨hy1,hjl⟩,fun _=>⟨fun h3=>?_,fun _=>⟨i1,⟨u.k,u.j+1,u.a,u.W,u.D,u.G,u.day,u.row,u.L,u.C,u.R,u.xl,u.xc,u.xr,u.ys,u.yr⟩,⟨⟨⟨hI.b,hI.d,hI.r,hI.n,hI.at_⟩,hll,hcc,hrr,hk,i2,hkq⟩,i3⟩,rfl,rfl,rfl,rfl,rfl,rfl,rfl,rfl,rfl,rfl,rfl,hrr.1,hll.1,hcc⟩⟩,fun q=>absurd q (Int.not_lt.2 c2.2)⟩,fun q=>absurd q (Int.not_lt.2 c2.1)⟩
   have ik:InR .i64 ((u.k:Int)-1):=by simp only [InR]; omega
   have np:(0:Int)≤(u.k:Int)-1:=by omega
   obtain⟨p,hp⟩:∃p,u.k=p+1:=⟨u.k-1,by omega⟩
   have ep:((u.k:Int)-1).toNat=p:=by omega
   rw [ep]
   have hkp:p < u.R.length:=by omega
   have hyp:=(hrr.2 p hkp).1
   have hB:=hI.at_ p (by omega)
   have hjp:u.j < (u.R.getD p []).length:=by rw [hB.1]; exact hjD
   have c3:=hB.2 u.j hjD
   have c4:=leftK_le (L:=u.L) (C:=u.C) (day:=u.day) (row:=(u.j:Int)) hW (p+1)
   rw [← c3,← hp,← c1]at c4
   exact⟨hrr.1,⟨nk,hkR,hrr.1⟩,⟨hrr.1,hkR⟩,⟨hrr.1,hkR⟩,hy1,⟨nj,hjl,hy1⟩,⟨hy1,hjl⟩,⟨hy1,hjl⟩,hrr.1,ik,⟨np,hkp,hrr.1⟩,⟨hrr.1,hkp⟩,⟨hrr.1,hkp⟩,hyp,⟨nj,hjp,hyp⟩,⟨hyp,hjp⟩,⟨hyp,hjp⟩,fun q=>absurd q (Int.not_lt.2 c4),fun _=>⟨i1,⟨u.k,u.j+1,u.a,u.W,u.D,u.G,u.day,u.row,u.L,u.C,u.R,u.xl,u.xc,u.xr,u.ys,u.yr⟩,⟨⟨⟨hI.b,hI.d,hI.r,hI.n,hI.at_⟩,hll,hcc,hrr,hk,i2,hkq⟩,i3⟩,rfl,rfl,rfl,rfl,rfl,rfl,rfl,rfl,rfl,rfl,rfl,hrr.1,hll.1,hcc⟩⟩
  ·have i1:InR .i64 ((u.k:Int)+1):=by simp only [InR]; omega
   exact⟨i1,⟨u.k+1,0,u.a,u.W,u.D,u.G,u.day,u.row,u.L,u.C,u.R,u.xl,u.xc,u.xr,u.ys,u.yr⟩,⟨⟨⟨hI.b,hI.d,hI.r,hI.n,hI.at_⟩,hll,hcc,hrr,hk⟩,(show 4-(u.k+1) < 4-v.k by omega)⟩,rfl,rfl,rfl,rfl,rfl,rfl,rfl,rfl,rfl,rfl,hrr.1,hll.1,hcc⟩
 ·intro B4 g4 u ⟨hI,hll,hcc,hrr,hk⟩
  intros
  have hn4:(u.L.length:Int)=u.G-1:=hI.b.n
  have hg:=hI.b.g
  have hw:=hI.b.w
  refine⟨fun h2=>?_,fun h2=>?_⟩
  ·have hkW:u.k < u.W.toNat:=by omega
   have nk:(0:Int)≤u.k:=Int.natCast_nonneg _
   have hb6:BayOk 40 20 6 u.W u.D u.G u.L u.C:=hI.b.mono (by decide) (by decide) (by decide)
   have hdy:0≤u.day∧u.day≤36499:=⟨hI.d.1,by have:=hI.d.2; omega⟩
   have hgl:hold u.W u.L u.C (u.k:Int) u.row u.day≤u.L.length:=hold_le
   have hs1:0 < hold u.W u.L u.C (u.k:Int) u.row u.day→leftK u.W u.L u.C u.day u.row (hold u.W u.L u.C (u.k:Int) u.row u.day)≤u.k:=(holdK_at2 (W:=u.W) (L:=u.L) (C:=u.C) (day:=u.day) (x:=(u.k:Int)) (row:=u.row) u.L.length).1
   have hs2:hold u.W u.L u.C (u.k:Int) u.row u.day < u.L.length→(u.k:Int) < leftK u.W u.L u.C u.day u.row (hold u.W u.L u.C (u.k:Int) u.row u.day+1):=(holdK_at2 (W:=u.W) (L:=u.L) (C:=u.C) (day:=u.day) (x:=(u.k:Int)) (row:=u.row) u.L.length).2
   have eG:((u.G.toNat:Nat):Int)=u.G:=by omega
   have er:((u.row.toNat:Nat):Int)=u.row:=Int.toNat_of_nonneg hI.r.1
   have hrD:u.row.toNat < u.D.toNat:=by have:=hI.r; omega
   have hat:∀i,i < u.L.length→u.row.toNat < (u.R.getD i []).length∧cell (u.R.getD i []) u.row.toNat 0=leftK u.W u.L u.C u.day u.row (i+1):=fun i hi=>by
    have h:=hI.at_ i hi
    have h5:=h.2 u.row.toNat hrD
    rw [er]at h5
    exact⟨by rw [h.1]; exact hrD,h5⟩
   have hRn:=hI.n
   refine⟨u.L,u.ys,⟨rfl,fun i hi=>rfl,hll⟩,u.C,⟨hcc,rfl,hI.b.c.row,fun i hi=>rfl⟩,⟨hb6,hdy,⟨nk,h2⟩,hI.r⟩,hll.1,hcc,u.L,u.ys,⟨rfl,fun i hi=>rfl,hll⟩,u.C,⟨hcc,rfl,hI.b.c.row,fun i hi=>rfl⟩,⟨hb6,hdy,⟨nk,Int.le_refl _,h2⟩,hI.r⟩,plain_f1 _ _,?_⟩
   generalize hgd:hold u.W u.L u.C (u.k:Int) u.row u.day=g at *
   have hgn:(0:Int)≤g:=Int.natCast_nonneg g
   refine⟨fun _=>⟨fun _=>⟨fun h3=>?_,fun h3=>⟨hrr.1,fun h4=>?_,fun h4=>?_⟩⟩,fun q=>absurd q (by omega)⟩,fun q=>absurd q (by omega)⟩
   ·obtain⟨p,rfl⟩:∃p,g=p+1:=⟨g-1,by omega⟩
    have ep:(((p+1:Nat):Int)-1).toNat=p:=by omega
    have hpL:p < u.L.length:=by omega
    have hpR:p < u.R.length:=by omega
    have hyp:=(hrr.2 p hpR).1
    have hc1:=hs1 (by omega)
    rw [← (hat p hpL).2]at hc1
    have ig:InR .i64 (((p+1:Nat):Int)-1):=by simp only [InR]; omega
    have np:(0:Int)≤((p+1:Nat):Int)-1:=by omega
    rw [ep]
    refine⟨ig,⟨np,hpR,hrr.1⟩,⟨hrr.1,hpR⟩,⟨hI.r.1,(hat p hpL).1,hyp⟩,⟨hyp,(hat p hpL).1⟩,fun _=>⟨hrr.1,fun h4=>?_,fun h4=>?_⟩,fun q=>absurd q (Int.not_lt.2 hc1)⟩
    ·have hgL:(p+1) < u.L.length:=by omega
     have hgR:(p+1) < u.R.length:=by omega
     have hyg:=(hrr.2 (p+1) hgR).1
     have hc2:=hs2 hgL
     rw [← (hat (p+1) hgL).2]at hc2
     rw [Int.toNat_natCast]
     refine⟨⟨hgn,hgR,hrr.1⟩,⟨hrr.1,hgR⟩,⟨hI.r.1,(hat (p+1) hgL).1,hyg⟩,⟨hyg,(hat (p+1) hgL).1⟩,fun _=>⟨fun q=>absurd eG q,fun _=>⟨⟨⟨u.k,0,u.a,u.W,u.D,u.G,u.day,u.row,u.L,u.C,u.R,u.xl,u.xc,u.xr,u.ys,u.yr⟩,⟨⟨hI.b,hI.d,hI.r,hI.n,hI.at_⟩,hll,hcc,hrr,hkW,Nat.zero_le _,rfl⟩,rfl,rfl,rfl,rfl,congrArg Nat.cast hgd.symm,rfl,rfl,⟨rfl,fun i hi=>rfl⟩,rfl,rfl,rfl,rfl,rfl,rfl,hrr.1,plain_f1 _ _,hll.1,hcc⟩,?_⟩⟩,fun q=>absurd q (Int.not_le.2 hc2)⟩
     intro B5 g5 w ⟨hI,hll,hcc,hrr,hk,hj,hkq⟩
     intros
     have hg:=hI.b.g
     have hw:=hI.b.w
     have hv:whrR w.W w.L w.C w.day (w.k:Int) (w.k:Int) w.row w.j=if w.j=hold w.W w.L w.C (w.k:Int) w.row w.day then 1 else 2:=whr_one
     rw [hv]
     refine⟨fun h5=>?_,fun h5=>?_⟩
     ·have hjl:w.j < w.G.toNat:=Int.ofNat_lt.1 h5
      have nj:(0:Int)≤w.j:=Int.natCast_nonneg _
      have i1:InR .i64 ((w.j:Int)+1):=by simp only [InR]; omega
      have i2:w.j+1≤w.G.toNat∧w.G.toNat-(w.j+1) < w.G.toNat-w.j:=by omega
      exact⟨⟨nj,hjl⟩,hjl,fun _=>⟨⟨nj,hjl⟩,hjl,fun q=>q ite12.2,fun _=>⟨i1,⟨w.k,w.j+1,w.a,w.W,w.D,w.G,w.day,w.row,w.L,w.C,w.R,w.xl,w.xc,w.xr,w.ys,w.yr⟩,⟨⟨⟨hI.b,hI.d,hI.r,hI.n,hI.at_⟩,hll,hcc,hrr,hk,i2.1,hkq⟩,i2.2⟩,rfl,rfl,rfl,rfl,rfl,rfl,rfl,⟨rfl,fun i hi=>rfl⟩,rfl,rfl,rfl,rfl,rfl,rfl,hrr.1,plain_f1 _ _,hll.1,hcc⟩⟩,fun q=>q ite12.1⟩
     ·have i1:InR .i64 ((w.k:Int)+1):=by simp only [InR]; omega
      exact⟨i1,⟨w.k+1,0,w.a,w.W,w.D,w.G,w.day,w.row,w.L,w.C,w.R,w.xl,w.xc,w.xr,w.ys,w.yr⟩,⟨⟨⟨hI.b,hI.d,hI.r,hI.n,hI.at_⟩,hll,hcc,hrr,hk⟩,(show 12-(w.k+1) < 12-u.k by omega)⟩,rfl,rfl,rfl,rfl,rfl,rfl,rfl,rfl,rfl,rfl,hrr.1,hll.1,hcc⟩
    ·refine⟨fun q=>absurd eG q,fun _=>⟨⟨⟨u.k,0,u.a,u.W,u.D,u.G,u.day,u.row,u.L,u.C,u.R,u.xl,u.xc,u.xr,u.ys,u.yr⟩,⟨⟨hI.b,hI.d,hI.r,hI.n,hI.at_⟩,hll,hcc,hrr,hkW,Nat.zero_le _,rfl⟩,rfl,rfl,rfl,rfl,congrArg Nat.cast hgd.symm,rfl,rfl,⟨rfl,fun i hi=>rfl⟩,rfl,rfl,rfl,rfl,rfl,rfl,hrr.1,plain_f1 _ _,hll.1,hcc⟩,?_⟩⟩
     intro B5 g5 w ⟨hI,hll,hcc,hrr,hk,hj,hkq⟩
     intros
     have hg:=hI.b.g
     have hw:=hI.b.w
     have hv:whrR w.W w.L w.C w.day (w.k:Int) (w.k:Int) w.row w.j=if w.j=hold w.W w.L w.C (w.k:Int) w.row w.day then 1 else 2:=whr_one
     rw [hv]
     refine⟨fun h5=>?_,fun h5=>?_⟩
     ·have hjl:w.j < w.G.toNat:=Int.ofNat_lt.1 h5
      have nj:(0:Int)≤w.j:=Int.natCast_nonneg _
      have i1:InR .i64 ((w.j:Int)+1):=by simp only [InR]; omega
      have i2:w.j+1≤w.G.toNat∧w.G.toNat-(w.j+1) < w.G.toNat-w.j:=by omega
      exact⟨⟨nj,hjl⟩,hjl,fun _=>⟨⟨nj,hjl⟩,hjl,fun q=>q ite12.2,fun _=>⟨i1,⟨w.k,w.j+1,w.a,w.W,w.D,w.G,w.day,w.row,w.L,w.C,w.R,w.xl,w.xc,w.xr,w.ys,w.yr⟩,⟨⟨⟨hI.b,hI.d,hI.r,hI.n,hI.at_⟩,hll,hcc,hrr,hk,i2.1,hkq⟩,i2.2⟩,rfl,rfl,rfl,rfl,rfl,rfl,rfl,⟨rfl,fun i hi=>rfl⟩,rfl,rfl,rfl,rfl,rfl,rfl,hrr.1,plain_f1 _ _,hll.1,hcc⟩⟩,fun q=>q ite12.1⟩
     ·have i1:InR .i64 ((w.k:Int)+1):=by simp only [InR]; omega
      exact⟨i1,⟨w.k+1,0,w.a,w.W,w.D,w.G,w.day,w.row,w.L,w.C,w.R,w.xl,w.xc,w.xr,w.ys,w.yr⟩,⟨⟨⟨hI.b,hI.d,hI.r,hI.n,hI.at_⟩,hll,hcc,hrr,hk⟩,(show 12-(w.k+1) < 12-u.k by omega)⟩,rfl,rfl,rfl,rfl,rfl,rfl,rfl,rfl,rfl,rfl,hrr.1,hll.1,hcc⟩
   ·have hgL:g < u.L.length:=by omega
    have hgR:g < u.R.length:=by omega
    have hyg:=(hrr.2 g hgR).1
    have hc2:=hs2 hgL
    rw [← (hat g hgL).2]at hc2
    rw [Int.toNat_natCast]
    refine⟨⟨hgn,hgR,hrr.1⟩,⟨hrr.1,hgR⟩,⟨hI.r.1,(hat g hgL).1,hyg⟩,⟨hyg,(hat g hgL).1⟩,fun _=>⟨fun q=>absurd eG q,fun _=>⟨⟨⟨u.k,0,u.a,u.W,u.D,u.G,u.day,u.row,u.L,u.C,u.R,u.xl,u.xc,u.xr,u.ys,u.yr⟩,⟨⟨hI.b,hI.d,hI.r,hI.n,hI.at_⟩,hll,hcc,hrr,hkW,Nat.zero_le _,rfl⟩,rfl,rfl,rfl,rfl,congrArg Nat.cast hgd.symm,rfl,rfl,⟨rfl,fun i hi=>rfl⟩,rfl,rfl,rfl,rfl,rfl,rfl,hrr.1,plain_f1 _ _,hll.1,hcc⟩,?_⟩⟩,fun q=>absurd q (Int.not_le.2 hc2)⟩
    intro B5 g5 w ⟨hI,hll,hcc,hrr,hk,hj,hkq⟩
    intros
    have hg:=hI.b.g
    have hw:=hI.b.w
    have hv:whrR w.W w.L w.C w.day (w.k:Int) (w.k:Int) w.row w.j=if w.j=hold w.W w.L w.C (w.k:Int) w.row w.day then 1 else 2:=whr_one
    rw [hv]
    refine⟨fun h5=>?_,fun h5=>?_⟩
    ·have hjl:w.j < w.G.toNat:=Int.ofNat_lt.1 h5
     have nj:(0:Int)≤w.j:=Int.natCast_nonneg _
     have i1:InR .i64 ((w.j:Int)+1):=by simp only [InR]; omega
     have i2:w.j+1≤w.G.toNat∧w.G.toNat-(w.j+1) < w.G.toNat-w.j:=by omega
     exact⟨⟨nj,hjl⟩,hjl,fun _=>⟨⟨nj,hjl⟩,hjl,fun q=>q ite12.2,fun _=>⟨i1,⟨w.k,w.j+1,w.a,w.W,w.D,w.G,w.day,w.row,w.L,w.C,w.R,w.xl,w.xc,w.xr,w.ys,w.yr⟩,⟨⟨⟨hI.b,hI.d,hI.r,hI.n,hI.at_⟩,hll,hcc,hrr,hk,i2.1,hkq⟩,i2.2⟩,rfl,rfl,rfl,rfl,rfl,rfl,rfl,⟨rfl,fun i hi=>rfl⟩,rfl,rfl,rfl,rfl,rfl,rfl,hrr.1,plain_f1 _ _,hll.1,hcc⟩⟩,fun q=>q ite12.1⟩
    ·have i1:InR .i64 ((w.k:Int)+1):=by simp only [InR]; omega
     exact⟨i1,⟨w.k+1,0,w.a,w.W,w.D,w.G,w.day,w.row,w.L,w.C,w.R,w.xl,w.xc,w.xr,w.ys,w.yr⟩,⟨⟨⟨hI.b,hI.d,hI.r,hI.n,hI.at_⟩,hll,hcc,hrr,hk⟩,(show 12-(w.k+1) < 12-u.k by omega)⟩,rfl,rfl,rfl,rfl,rfl,rfl,rfl,rfl,rfl,rfl,hrr.1,hll.1,hcc⟩
   ·refine⟨fun q=>absurd eG q,fun _=>⟨⟨⟨u.k,0,u.a,u.W,u.D,u.G,u.day,u.row,u.L,u.C,u.R,u.xl,u.xc,u.xr,u.ys,u.yr⟩,⟨⟨hI.b,hI.d,hI.r,hI.n,hI.at_⟩,hll,hcc,hrr,hkW,Nat.zero_le _,rfl⟩,rfl,rfl,rfl,rfl,congrArg Nat.cast hgd.symm,rfl,rfl,⟨rfl,fun i hi=>rfl⟩,rfl,rfl,rfl,rfl,rfl,rfl,hrr.1,plain_f1 _ _,hll.1,hcc⟩,?_⟩⟩
    intro B5 g5 w ⟨hI,hll,hcc,hrr,hk,hj,hkq⟩
    intros
    have hg:=hI.b.g
    have hw:=hI.b.w
    have hv:whrR w.W w.L w.C w.day (w.k:Int) (w.k:Int) w.row w.j=if w.j=hold w.W w.L w.C (w.k:Int) w.row w.day then 1 else 2:=whr_one
    rw [hv]
    refine⟨fun h5=>?_,fun h5=>?_⟩
    ·have hjl:w.j < w.G.toNat:=Int.ofNat_lt.1 h5
     have nj:(0:Int)≤w.j:=Int.natCast_nonneg _
     have i1:InR .i64 ((w.j:Int)+1):=by simp only [InR]; omega
     have i2:w.j+1≤w.G.toNat∧w.G.toNat-(w.j+1) < w.G.toNat-w.j:=by omega
     exact⟨⟨nj,hjl⟩,hjl,fun _=>⟨⟨nj,hjl⟩,hjl,fun q=>q ite12.2,fun _=>⟨i1,⟨w.k,w.j+1,w.a,w.W,w.D,w.G,w.day,w.row,w.L,w.C,w.R,w.xl,w.xc,w.xr,w.ys,w.yr⟩,⟨⟨⟨hI.b,hI.d,hI.r,hI.n,hI.at_⟩,hll,hcc,hrr,hk,i2.1,hkq⟩,i2.2⟩,rfl,rfl,rfl,rfl,rfl,rfl,rfl,⟨rfl,fun i hi=>rfl⟩,rfl,rfl,rfl,rfl,rfl,rfl,hrr.1,plain_f1 _ _,hll.1,hcc⟩⟩,fun q=>q ite12.1⟩
    ·have i1:InR .i64 ((w.k:Int)+1):=by simp only [InR]; omega
     exact⟨i1,⟨w.k+1,0,w.a,w.W,w.D,w.G,w.day,w.row,w.L,w.C,w.R,w.xl,w.xc,w.xr,w.ys,w.yr⟩,⟨⟨⟨hI.b,hI.d,hI.r,hI.n,hI.at_⟩,hll,hcc,hrr,hk⟩,(show 12-(w.k+1) < 12-u.k by omega)⟩,rfl,rfl,rfl,rfl,rfl,rfl,rfl,rfl,rfl,rfl,hrr.1,hll.1,hcc⟩
  ·exact(((ht.up g1).up g2).up g3).up g4
theorem e_law:V_law=needLG P [F_drawn,F_spanL] [F_TideOf,F_Below,F_Holder,F_Where] [F_BayOf,F_Lines] 13 ([]:Tabs) A_law F_law:=by kernel_rfl
theorem n_law:Ob (needLG P [F_drawn,F_spanL] [F_TideOf,F_Below,F_Holder,F_Where] [F_BayOf,F_Lines] 13 ([]:Tabs) A_law F_law):=by
 rw [← e_law]
 exact⟨v_law⟩
theorem cg_law:∀F∈[F_BayOf,F_Lines],F.Ok P:=by
 intro F h
 simp only [List.mem_cons,List.not_mem_nil,or_false]at h
 rcases h with rfl | rfl
 ·exact BayOf_ok
 ·exact Lines_ok
theorem l_law:(([F_drawn,F_spanL]:List Fn0).all fun G=>!Nat.beq G.g 13)=true:=rfl
theorem le_law:([F_TideOf,F_Below,F_Holder,F_Where].all fun G=>!Nat.beq G.g 13)=true:=rfl
theorem c_law:∀F∈([F_drawn,F_spanL]:List Fn0),F.Ok P:=by
 intro F h
 simp only [List.mem_cons,List.not_mem_nil,or_false]at h
 rcases h with rfl | rfl
 ·exact drawn_ok
 ·exact spanL_ok
theorem ce_law:∀F∈[F_TideOf,F_Below,F_Holder,F_Where],F.Ok P:=by
 intro F h
 simp only [List.mem_cons,List.not_mem_nil,or_false]at h
 rcases h with rfl | rfl | rfl | rfl
 ·exact TideOf_ok
 ·exact Below_ok
 ·exact Holder_ok
 ·exact Where_ok
end Go.Proofs.Ytcdifnheflhbmaa.Sy
