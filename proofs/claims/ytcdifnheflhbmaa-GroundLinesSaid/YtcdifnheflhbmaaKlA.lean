import Derived.Test.YtcdifnheflhbmaaSyP4
import Derived.Test.YtcdifnheflhbmaaGrM
import Derived.Test.YtcdifnheflhbmaaStM
import Derived.Test.YtcdifnheflhbmaaKtT
import Derived.Test.YtcdifnheflhbmaaSyP2
import Derived.Test.YtcdifnheflhbmaaSyP4
import Derived.Test.YtcdifnheflhbmaaKbA
import Derived.Test.YtcdifnheflhbmaaKbB
import Derived.Test.YtcdifnheflhbmaaKbC
import Derived.Test.YtcdifnheflhbmaaKbD
import Derived.Test.YtcdifnheflhbmaaKbE
import Derived.KernelRfl
import Derived.Test.YtcdifnheflhbmaaProg
namespace Go.Proofs.Ytcdifnheflhbmaa.Sy
open Go Go.Rv
set_option linter.unusedVariables false
noncomputable def rowB (W:Int) (L:List Rows) (C:Rows) (day:Int) (r:Nat):Nat→List SObj
 | 0=>[]
 | 1=>[.gr r 1 (.fn fun y=>[SV.i .i64 (leftK W L C day (y:Int) 1)]) .gr true]
 | 2=>[.gr r 1 (.fn fun y=>[SV.i .i64 (leftK W L C day (y:Int) 2)]) .gr true,.gr r 1 (.fn fun y=>[SV.i .i64 (leftK W L C day (y:Int) 1)]) .gr true]
 | 3=>[.gr r 1 (.fn fun y=>[SV.i .i64 (leftK W L C day (y:Int) 3)]) .gr true,.gr r 1 (.fn fun y=>[SV.i .i64 (leftK W L C day (y:Int) 2)]) .gr true,.gr r 1 (.fn fun y=>[SV.i .i64 (leftK W L C day (y:Int) 1)]) .gr true]
 | _=>[.gr r 1 (.fn fun y=>[SV.i .i64 (leftK W L C day (y:Int) 4)]) .gr true,.gr r 1 (.fn fun y=>[SV.i .i64 (leftK W L C day (y:Int) 3)]) .gr true,.gr r 1 (.fn fun y=>[SV.i .i64 (leftK W L C day (y:Int) 2)]) .gr true,.gr r 1 (.fn fun y=>[SV.i .i64 (leftK W L C day (y:Int) 1)]) .gr true]
def rowC (r:Nat):Nat→List SV
 | 0=>[]
 | 1=>[.gsl 3 r 1 true]
 | 2=>[.gsl 3 r 1 true,.gsl 4 r 1 true]
 | 3=>[.gsl 3 r 1 true,.gsl 4 r 1 true,.gsl 5 r 1 true]
 | _=>[.gsl 3 r 1 true,.gsl 4 r 1 true,.gsl 5 r 1 true,.gsl 6 r 1 true]
noncomputable def colL (W:Int) (L:List Rows) (C:Rows) (day:Int) (i r:Nat):Rows:=(List.range r).map fun(y:Nat)=>[leftK W L C day (y:Int) i]
theorem colL_len {W:Int} {L:List Rows} {C:Rows} {day:Int} {i r:Nat}:(colL W L C day i r).length=r:=by simp [colL]
theorem colL_row {W:Int} {L:List Rows} {C:Rows} {day:Int} {i r:Nat}:∀q∈colL W L C day i r,q.length=1:=by
 intro q hq
 simp only [colL,List.mem_map]at hq
 obtain⟨y,_,rfl⟩:=hq
 rfl
theorem colL_cell {W:Int} {L:List Rows} {C:Rows} {day:Int} {i r y:Nat} (h:y < r):cell (colL W L C day i r) y 0=leftK W L C day (y:Int) i:=by
 unfold cell
 have e:(colL W L C day i r).getD y []=[leftK W L C day (y:Int) i]:=by
  rw [List.getD_eq_getElem?_getD,colL,List.getElem?_map,List.getElem?_range h]
  rfl
 rw [e]
 rfl
theorem colL_el {W:Int} {L:List Rows} {C:Rows} {day:Int} {i r y:Nat} (h:y < r):(El.fn fun(y:Nat)=>[SV.i .i64 (leftK W L C day (y:Int) i)]).at y=Rv.elemOf [.i64] (colL W L C day i r) y:=by
 show [SV.i .i64 (leftK W L C day (y:Int) i)]=[SV.i .i64 (cell (colL W L C day i r) y 0)]
 rw [colL_cell h]
theorem plain_f1 (n:Nat) (f:Nat→Int):PlainE n (.fn fun i=>[SV.i .i64 (f i)]):=by
 intro i _ y hy
 simp only [El.at,List.mem_cons,List.not_mem_nil,or_false]at hy
 subst hy
 trivial
theorem f1_snoc {f:Nat→Int} {a:Nat} {z:Int} (h:z=f a):∀i,i < a+1→(behind a (.fn fun y=>[SV.i .i64 (f y)]) 1 (litEl (symL [SV.i .i64 z]) 1 1)).at i=(El.fn fun y=>[SV.i .i64 (f y)]).at i:=by
 intro i hi
 show(El.snoc (.fn fun y=>[SV.i .i64 (f y)]) a [SV.i .i64 z]).at i=_
 simp only [El.at]
 by_cases e:i < a
 ·rw [if_pos e]
 ·have e2:i=a:=by omega
  rw [if_neg e,h,e2]
theorem plain_snoc {f:Nat→Int} {a:Nat} {z:Int} (h:z=f a):PlainE (a+1) (behind a (.fn fun y=>[SV.i .i64 (f y)]) 1 (litEl (symL [SV.i .i64 z]) 1 1)):=by
 intro i hi y hy
 rw [f1_snoc h i hi]at hy
 exact plain_f1 (a+1) f i hi y hy
noncomputable def F_Lines:FnG:=⟨8,none,[.agg [.i .i64,.i .i64,.i .i64,.ll [.i64],.l [.i64,.i64,.i64,.i64,.i64,.i64]],i64],fun l=>match l with | [.z W,.z D,.z G,.ll L,.l C,.z day]=>BayOk 40 20 5 W D G L C∧0≤day∧day≤36499 | _=>False,[.one (.ll [.i64]),.one (.i .i64)],fun l m=>match l with | [.z W,.z D,.z G,.ll L,.l C,.z day]=>(match m with | [.ll R,.z e]=>e=0∧R.length=L.length∧∀i,i < L.length→(R.getD i []).length=D.toNat∧∀y:Nat,y < D.toNat→cell (R.getD i []) y 0=leftK W L C day y (i+1) | _=>False) | _=>False,[(.c (.t 0) 0,.l [.i64]),(.c (.t 0) 1,.l [.i64]),(.c (.t 0) 2,.l [.i64]),(.c (.t 0) 3,.l [.i64]),(.t 0,.ll [.i64])]⟩
noncomputable def A_Lines:List SV→List Dat→Nat→List SV→AnG:=fun xs ds n ts=>match xs with
 | [.agg [_,_,_,.lst x _ _ xe,.lst y _ _ ye],_]=>match ds with
  | [.z W,.z D,.z G,.ll L,.l C,.z day]=>match n with
   | 6=>(match lget ts 20 with | some (SV.sl q0 q1 q2 q3)=>⟨Nat,fun r=>([none,some (SV.i IntKind.i64 day),some (SV.ptr ((0:Nat)) ((0:Nat))),none,some (SV.v (Value.slice none ((0:Nat)) ((0:Nat)))),some (SV.v (Value.int IntKind.i64 (0:Int))),none,some (SV.ptr ((2:Nat)) ((0:Nat)))]++nN 12++[some (.sl q0 q1 q2 q3),none,some (SV.i IntKind.i64 D),some (.i .i64 r)]++nN 20),fun r=>[]++rowB W L C day r q2++[.cells [.sl q0 q1 q2 q3] .ex,.cells (rowC r q2) .ex,SObj.cells [SV.i IntKind.i64 W,SV.i IntKind.i64 D,SV.i IntKind.i64 G,SV.lst x L.length ((1:Nat)) xe,SV.lst y C.length ((6:Nat)) ye] Kd.ex],fun B r=>(r:Int)≤D,fun r=>D.toNat-r,0,[]⟩ | _=>noAnG)
   | _=>noAnG
  | _=>noAnG
 | _=>noAnG
noncomputable def A_Lines_1:List SV→List Dat→List SV→List SObj→Nat→List SV→Ann:=fun _ _ _ _ _ _=>noAnn
noncomputable def A_Lines_2:List SV→List Dat→List SV→List SObj→Nat→List SV→Ann:=fun xs ds ar bs n ts=>match xs with
 | [.agg [_,_,_,.lst x _ _ xe,.lst y _ _ ye],_]=>match ds with
  | [.z W,.z D,.z G,.ll L,.l C,.z day]=>match n with
   | 2=>⟨Unit,fun _=>[],fun _=>[],fun _=>True,fun _=>0,6⟩
   | _=>noAnn
  | _=>noAnn
 | _=>noAnn
noncomputable def I_Lines:List SV→List Dat→List In:=fun xs ds=>[⟨23,A_Lines_1 xs ds⟩,⟨37,A_Lines_2 xs ds⟩]
set_option maxRecDepth 10000 in
def V_Lines:Prop:=
 ∀(B:RW) (e g m:Int) (j:RV) (ys:Nat→RV) (R:List (List (List Int))),IsLL B [.i64] j ys R→oneB j=true→∀(k:RV) (a:List (List Int)),IsLst B k a.length 6 (Rv.elemOf I6 a)→oneB k=true→(∀s∈a,s.length=6)→∀(d:Int),BayOk (40:Int) (20:Int) (5:Int) e g m R a∧(0:Int)≤d∧d≤(36499:Int)→∃(R_1:List (List (List Int))),∃(ys_1:Nat→RV),Ob (R_1.length=R.length∧(∀(f:Nat),f < R.length→llElem [.i64] ys R f=llElem [.i64] ys_1 R_1 f)∧IsLL B [.i64] j ys_1 R_1)∧RwB B k a.length 6 I6 a fun x=>Ob (BayOk (40:Int) (20:Int) (6:Int) e g m R_1 x∧(0:Int)≤d∧d≤(36499:Int))∧(¬(0:Int)=(0:Int)→False)∧(¬¬(0:Int)=(0:Int)→Ob (IsLst B j R.length 1 (llElem [.i64] ys R))∧Ob ((↑R.length:Int)=(↑R.length:Int)∧((0:Int)≤(↑R.length:Int)∧(↑R.length:Int)≤(4:Int))∧R.length*(25:Nat)≤1099511627776)∧(((((↑R.length:Int)=Int.ofNat 0→(∃(b:Nat),Ob ((↑b:Int)≤g)∧Ob (d=d)∧Ob (SV.v (Value.slice none 0 0)=SV.v (Value.slice none 0 0))∧Ob (Value.int .i64 (0:Int)=Value.int .i64 (0:Int))∧Ob (g=g)∧Ob ((0:Int)=(↑b:Int))∧Ob (e=e)∧Ob (g=g)∧Ob (m=m)∧Ob (SV.lst j R.length 1 (llElem [.i64] ys R)=SV.lst j R.length 1 (llElem [.i64] ys R))∧Ob (SV.lst k a.length 6 (Rv.elemOf I6 a)=SV.lst k a.length 6 (Rv.elemOf I6 a))∧Ob (IsLst B j R.length 1 (llElem [.i64] ys R))∧LsA B k I6 a∧True)∧∀(B':RW),Grow B B'→∀(b:Nat),(↑b:Int)≤g→∀(_ _ _ _ _ _ _ _ _ _ _ _ _ _ _ _ _ _ _ _ _ _ _ _ _ _ _ _ _ _ _ _ _ _ _ _:Value),((↑b:Int) < g→∀(R_2:LR),R_2.b=B'.n+(7:Nat)→Ob (IsLst B' j R.length 1 (llElem [.i64] ys R))∧((0:Int) < (↑R.length:Int)→Ob (IsLst B' j R.length 1 (llElem [.i64] ys R))∧Ob (IsLst B' k a.length 6 (Rv.elemOf I6 a))∧∃(R_3:List (List (List Int))),∃(ys_2:Nat→RV),Ob (R_3.length=R.length∧(∀(f:Nat),f < R.length→llElem [.i64] ys R f=llElem [.i64] ys_2 R_3 f)∧IsLL B' [.i64] j ys_2 R_3)∧∃(i:List (List Int)),Ob (IsLst B' k a.length 6 (Rv.elemOf I6 a)∧i.length=a.length∧(∀r∈i,r.length=6)∧∀(f:Nat),f < a.length→Rv.elemOf I6 a f=Rv.elemOf I6 i f)∧Ob (BayOk (40:Int) (40:Int) (40:Int) e g m R_3 i∧((0:Int)≤d∧d≤(1000000:Int))∧((0:Int)≤(0:Int)∧(0:Int) < (↑R_3.length:Int))∧(0:Int)≤(↑b:Int)∧(↑b:Int) < g)∧Ob (B'=B')∧Ob (R_2=R_2)∧False)∧(¬(0:Int) < (↑R.length:Int)→Ob (InR .i64 ((↑b:Int)+(1:Int)))∧∃(h:Nat),Ob ((↑h:Int)≤g∧g.toNat-h < g.toNat-b)∧Ob (d=d)∧Ob (SV.v (Value.slice none 0 0)=SV.v (Value.slice none 0 0))∧Ob (Value.int .i64 (0:Int)=Value.int .i64 (0:Int))∧Ob (g=g)∧Ob ((↑b:Int)+(1:Int)=(↑h:Int))∧Ob (e=e)∧Ob (g=g)∧Ob (m=m)∧Ob (SV.lst j R.length 1 (llElem [.i64] ys R)=SV.lst j R.length 1 (llElem [.i64] ys R))∧Ob (SV.lst k a.length 6 (Rv.elemOf I6 a)=SV.lst k a.length 6 (Rv.elemOf I6 a))∧Ob (IsLst B' j R.length 1 (llElem [.i64] ys R))∧Ob (IsLst B' k a.length 6 (Rv.elemOf I6 a))∧True))∧(¬(↑b:Int) < g→∃(R_2:List (List (List Int))),∃(ys_2:Nat→RV),Ob (R_2.length=(0:Nat)∧(∀(f:Nat),f < 0→(litEl (symL (rowC b 0)) 1 0).at f=llElem [.i64] ys_2 R_2 f)∧∀(f:Nat),f < 0→IsLst B' (ys_2 f) (R_2.getD f []).length 1 (Rv.elemOf [.i64] (R_2.getD f []))∧oneB (ys_2 f)=true∧∀(s:List Int),s∈R_2.getD f []→s.length=(1:Nat))∧∀(B'_1:RW),Grow B' B'_1→∀(o:RV),IsLL B'_1 [.i64] o ys_2 R_2→oneB o=true→Ob (IsLst B' j R.length 1 (llElem [.i64] ys R))∧Ob (IsLst B' k a.length 6 (Rv.elemOf I6 a))∧∃(R_3:List (List (List Int))),∃(ys_3:Nat→RV),Ob (R_3.length=R_2.length∧(∀(f:Nat),f < R_2.length→llElem [.i64] ys_2 R_2 f=llElem [.i64] ys_3 R_3 f)∧IsLL B'_1 [.i64] o ys_3 R_3)∧Ob ((0:Int)=(0:Int)∧R_3.length=R.length∧∀(f:Nat),f < R.length→(R_3.getD f []).length=g.toNat∧∀(c:Nat),c < g.toNat→cell (R_3.getD f []) c 0=leftK e R a d (↑c:Int) (f+(1:Nat)))))∧((↑R.length:Int)=Int.ofNat 1→(∃(b:Nat),Ob ((↑b:Int)≤g)∧Ob (d=d)∧Ob (SV.v (Value.slice none 0 0)=SV.v (Value.slice none 0 0))∧Ob (Value.int .i64 (0:Int)=Value.int .i64 (0:Int))∧Ob (g=g)∧Ob ((0:Int)=(↑b:Int))∧Ob (b=(0:Nat))∧Ob (b=(0:Nat))∧Ob (e=e)∧Ob (g=g)∧Ob (m=m)∧Ob (SV.lst j R.length 1 (llElem [.i64] ys R)=SV.lst j R.length 1 (llElem [.i64] ys R))∧Ob (SV.lst k a.length 6 (Rv.elemOf I6 a)=SV.lst k a.length 6 (Rv.elemOf I6 a))∧Ob (PlainE b (El.fn fun(c:Nat)↦[SV.i .i64 (leftK e R a d (↑c:Int) 1)]))∧Ob (IsLst B j R.length 1 (llElem [.i64] ys R))∧LsA B k I6 a∧True)∧∀(B':RW),Grow B B'→∀(b:Nat),(↑b:Int)≤g→∀(_ _ _ _ _ _ _ _ _ _ _ _ _ _ _ _ _ _ _ _ _ _ _ _ _ _ _ _ _ _ _ _ _ _ _ _:Value),((↑b:Int) < g→∀(R_2:LR),R_2.b=B'.n+(8:Nat)→Ob (IsLst B' j R.length 1 (llElem [.i64] ys R))∧((0:Int) < (↑R.length:Int)→Ob (IsLst B' j R.length 1 (llElem [.i64] ys R))∧Ob (IsLst B' k a.length 6 (Rv.elemOf I6 a))∧∃(R_3:List (List (List Int))),∃(ys_2:Nat→RV),Ob (R_3.length=R.length∧(∀(f:Nat),f < R.length→llElem [.i64] ys R f=llElem [.i64] ys_2 R_3 f)∧IsLL B' [.i64] j ys_2 R_3)∧∃(i:List (List Int)),Ob (IsLst B' k a.length 6 (Rv.elemOf I6 a)∧i.length=a.length∧(∀r∈i,r.length=6)∧∀(f:Nat),f < a.length→Rv.elemOf I6 a f=Rv.elemOf I6 i f)∧Ob (BayOk (40:Int) (40:Int) (40:Int) e g m R_3 i∧((0:Int)≤d∧d≤(1000000:Int))∧((0:Int)≤(0:Int)∧(0:Int) < (↑R_3.length:Int))∧(0:Int)≤(↑b:Int)∧(↑b:Int) < g)∧Ob (B'=B')∧Ob (R_2=R_2)∧Ob (b=b∧∀(f:Nat),f < b→((El.fn fun(c:Nat)↦[SV.i .i64 (leftK e R a d (↑c:Int) 1)]).at f).length=(1:Nat))∧Ob ((b+(1:Nat))*(2:Nat)*(9:Nat)≤1099511627776)∧Ob (b=b)∧Ob (PlainE (b+(1:Nat)) (behind b (El.fn fun(c:Nat)↦[SV.i .i64 (leftK e R a d (↑c:Int) 1)]) 1 (litEl (symL [SV.i .i64 (min (max (wishK R_3 i d (0:Int) (↑b:Int) i.length) (0:Int)) e)]) 1 1)))∧(Int.ofNat 1 < (↑R.length:Int)→Ob (IsLst B' j R.length 1 (llElem [.i64] ys R))∧Ob (IsLst B' k a.length 6 (Rv.elemOf I6 a))∧∃(R_4:List (List (List Int))),∃(ys_3:Nat→RV),Ob (R_4.length=R.length∧(∀(f:Nat),f < R.length→llElem [.i64] ys R f=llElem [.i64] ys_3 R_4 f)∧IsLL B' [.i64] j ys_3 R_4)∧∃(l:List (List Int)),Ob (IsLst B' k a.length 6 (Rv.elemOf I6 a)∧l.length=a.length∧(∀r∈l,r.length=6)∧∀(f:Nat),f < a.length→Rv.elemOf I6 a f=Rv.elemOf I6 l f)∧Ob (BayOk (40:Int) (40:Int) (40:Int) e g m R_4 l∧((0:Int)≤d∧d≤(1000000:Int))∧((0:Int)≤Int.ofNat 1∧Int.ofNat 1 < (↑R_4.length:Int))∧(0:Int)≤(↑b:Int)∧(↑b:Int) < g)∧Ob (B'=B')∧Ob (R_2=R_2)∧False)∧(¬Int.ofNat 1 < (↑R.length:Int)→Ob (InR .i64 ((↑b:Int)+(1:Int)))∧∃(h:Nat),Ob ((↑h:Int)≤g∧g.toNat-h < g.toNat-b)∧Ob (d=d)∧Ob (SV.v (Value.slice none 0 0)=SV.v (Value.slice none 0 0))∧Ob (Value.int .i64 (0:Int)=Value.int .i64 (0:Int))∧Ob (g=g)∧Ob ((↑b:Int)+(1:Int)=(↑h:Int))∧EqA (b+(1:Nat)) h (behind b (El.fn fun(c:Nat)↦[SV.i .i64 (leftK e R a d (↑c:Int) 1)]) 1 (litEl (symL [SV.i .i64 (min (max (wishK R_3 i d (0:Int) (↑b:Int) i.length) (0:Int)) e)]) 1 1)) (El.fn fun(c:Nat)↦[SV.i .i64 (leftK e R a d (↑c:Int) 1)])∧Ob (b+(1:Nat)=h)∧Ob (e=e)∧Ob (g=g)∧Ob (m=m)∧Ob (SV.lst j R.length 1 (llElem [.i64] ys R)=SV.lst j R.length 1 (llElem [.i64] ys R))∧Ob (SV.lst k a.length 6 (Rv.elemOf I6 a)=SV.lst k a.length 6 (Rv.elemOf I6 a))∧Ob (PlainE h (El.fn fun(c:Nat)↦[SV.i .i64 (leftK e R a d (↑c:Int) 1)]))∧Ob (IsLst B' j R.length 1 (llElem [.i64] ys R))∧Ob (IsLst B' k a.length 6 (Rv.elemOf I6 a))∧True))∧(¬(0:Int) < (↑R.length:Int)→Ob (InR .i64 ((↑b:Int)+(1:Int)))∧∃(h:Nat),Ob ((↑h:Int)≤g∧g.toNat-h < g.toNat-b)∧Ob (d=d)∧Ob (SV.v (Value.slice none 0 0)=SV.v (Value.slice none 0 0))∧Ob (Value.int .i64 (0:Int)=Value.int .i64 (0:Int))∧Ob (g=g)∧Ob ((↑b:Int)+(1:Int)=(↑h:Int))∧EqA b h (El.fn fun(c:Nat)↦[SV.i .i64 (leftK e R a d (↑c:Int) 1)]) (El.fn fun(c:Nat)↦[SV.i .i64 (leftK e R a d (↑c:Int) 1)])∧Ob (b=h)∧Ob (e=e)∧Ob (g=g)∧Ob (m=m)∧Ob (SV.lst j R.length 1 (llElem [.i64] ys R)=SV.lst j R.length 1 (llElem [.i64] ys R))∧Ob (SV.lst k a.length 6 (Rv.elemOf I6 a)=SV.lst k a.length 6 (Rv.elemOf I6 a))∧Ob (PlainE h (El.fn fun(c:Nat)↦[SV.i .i64 (leftK e R a d (↑c:Int) 1)]))∧Ob (IsLst B' j R.length 1 (llElem [.i64] ys R))∧Ob (IsLst B' k a.length 6 (Rv.elemOf I6 a))∧True))∧(¬(↑b:Int) < g→RwA b b 1 [.i64] ((El.fn fun(c:Nat)↦[SV.i .i64 (leftK e R a d (↑c:Int) 1)]).at) fun i=>∀(B'_1:RW),Grow B' B'_1→∀(o:RV),IsLst B'_1 o i.length 1 (Rv.elemOf [.i64] i)→oneB o=true→Ob (b=b)∧Ob (IsLst B' j R.length 1 (llElem [.i64] ys R))∧Ob (IsLst B' k a.length 6 (Rv.elemOf I6 a))∧∃(R_2:List (List (List Int))),∃(ys_2:Nat→RV),Ob (R_2.length=(1:Nat)∧(∀(f:Nat),f < 1→(litEl (symL [SV.lst o i.length 1 (Rv.elemOf [.i64] i)]) 1 1).at f=llElem [.i64] ys_2 R_2 f)∧∀(f:Nat),f < 1→IsLst B'_1 (ys_2 f) (R_2.getD f []).length 1 (Rv.elemOf [.i64] (R_2.getD f []))∧oneB (ys_2 f)=true∧∀(s:List Int),s∈R_2.getD f []→s.length=(1:Nat))∧∀(B'_2:RW),Grow B'_1 B'_2→∀(p:RV),IsLL B'_2 [.i64] p ys_2 R_2→oneB p=true→Ob (IsLst B'_1 j R.length 1 (llElem [.i64] ys R))∧Ob (IsLst B'_1 k a.length 6 (Rv.elemOf I6 a))∧∃(R_3:List (List (List Int))),∃(ys_3:Nat→RV),Ob (R_3.length=R_2.length∧(∀(f:Nat),f < R_2.length→llElem [.i64] ys_2 R_2 f=llElem [.i64] ys_3 R_3 f)∧IsLL B'_2 [.i64] p ys_3 R_3)∧Ob ((0:Int)=(0:Int)∧R_3.length=R.length∧∀(f:Nat),f < R.length→(R_3.getD f []).length=g.toNat∧∀(c:Nat),c < g.toNat→cell (R_3.getD f []) c 0=leftK e R a d (↑c:Int) (f+(1:Nat))))))∧((↑R.length:Int)=Int.ofNat 2→(∃(b:Nat),Ob ((↑b:Int)≤g)∧Ob (d=d)∧Ob (SV.v (Value.slice none 0 0)=SV.v (Value.slice none 0 0))∧Ob (Value.int .i64 (0:Int)=Value.int .i64 (0:Int))∧Ob (g=g)∧Ob ((0:Int)=(↑b:Int))∧Ob (b=(0:Nat))∧Ob (b=(0:Nat))∧Ob (b=(0:Nat))∧Ob (b=(0:Nat))∧Ob (e=e)∧Ob (g=g)∧Ob (m=m)∧Ob (SV.lst j R.length 1 (llElem [.i64] ys R)=SV.lst j R.length 1 (llElem [.i64] ys R))∧Ob (SV.lst k a.length 6 (Rv.elemOf I6 a)=SV.lst k a.length 6 (Rv.elemOf I6 a))∧Ob (PlainE b (El.fn fun(c:Nat)↦[SV.i .i64 (leftK e R a d (↑c:Int) 2)]))∧Ob (PlainE b (El.fn fun(c:Nat)↦[SV.i .i64 (leftK e R a d (↑c:Int) 1)]))∧Ob (IsLst B j R.length 1 (llElem [.i64] ys R))∧LsA B k I6 a∧True)∧∀(B':RW),Grow B B'→∀(b:Nat),(↑b:Int)≤g→∀(_ _ _ _ _ _ _ _ _ _ _ _ _ _ _ _ _ _ _ _ _ _ _ _ _ _ _ _ _ _ _ _ _ _ _ _:Value),((↑b:Int) < g→∀(R_2:LR),R_2.b=B'.n+(9:Nat)→Ob (IsLst B' j R.length 1 (llElem [.i64] ys R))∧((0:Int) < (↑R.length:Int)→Ob (IsLst B' j R.length 1 (llElem [.i64] ys R))∧Ob (IsLst B' k a.length 6 (Rv.elemOf I6 a))∧∃(R_3:List (List (List Int))),∃(ys_2:Nat→RV),Ob (R_3.length=R.length∧(∀(f:Nat),f < R.length→llElem [.i64] ys R f=llElem [.i64] ys_2 R_3 f)∧IsLL B' [.i64] j ys_2 R_3)∧∃(i:List (List Int)),Ob (IsLst B' k a.length 6 (Rv.elemOf I6 a)∧i.length=a.length∧(∀r∈i,r.length=6)∧∀(f:Nat),f < a.length→Rv.elemOf I6 a f=Rv.elemOf I6 i f)∧Ob (BayOk (40:Int) (40:Int) (40:Int) e g m R_3 i∧((0:Int)≤d∧d≤(1000000:Int))∧((0:Int)≤(0:Int)∧(0:Int) < (↑R_3.length:Int))∧(0:Int)≤(↑b:Int)∧(↑b:Int) < g)∧Ob (B'=B')∧Ob (R_2=R_2)∧Ob (b=b∧∀(f:Nat),f < b→((El.fn fun(c:Nat)↦[SV.i .i64 (leftK e R a d (↑c:Int) 1)]).at f).length=(1:Nat))∧Ob ((b+(1:Nat))*(2:Nat)*(9:Nat)≤1099511627776)∧Ob (b=b)∧Ob (PlainE (b+(1:Nat)) (behind b (El.fn fun(c:Nat)↦[SV.i .i64 (leftK e R a d (↑c:Int) 1)]) 1 (litEl (symL [SV.i .i64 (min (max (wishK R_3 i d (0:Int) (↑b:Int) i.length) (0:Int)) e)]) 1 1)))∧(Int.ofNat 1 < (↑R.length:Int)→Ob (IsLst B' j R.length 1 (llElem [.i64] ys R))∧Ob (IsLst B' k a.length 6 (Rv.elemOf I6 a))∧∃(R_4:List (List (List Int))),∃(ys_3:Nat→RV),Ob (R_4.length=R.length∧(∀(f:Nat),f < R.length→llElem [.i64] ys R f=llElem [.i64] ys_3 R_4 f)∧IsLL B' [.i64] j ys_3 R_4)∧∃(l:List (List Int)),Ob (IsLst B' k a.length 6 (Rv.elemOf I6 a)∧l.length=a.length∧(∀r∈l,r.length=6)∧∀(f:Nat),f < a.length→Rv.elemOf I6 a f=Rv.elemOf I6 l f)∧Ob (BayOk (40:Int) (40:Int) (40:Int) e g m R_4 l∧((0:Int)≤d∧d≤(1000000:Int))∧((0:Int)≤Int.ofNat 1∧Int.ofNat 1 < (↑R_4.length:Int))∧(0:Int)≤(↑b:Int)∧(↑b:Int) < g)∧Ob (B'=B')∧Ob (R_2=R_2)∧Ob (b=b∧∀(f:Nat),f < b→((El.fn fun(c:Nat)↦[SV.i .i64 (leftK e R a d (↑c:Int) 2)]).at f).length=(1:Nat))∧Ob ((b+(1:Nat))*(2:Nat)*(9:Nat)≤1099511627776)∧Ob (b=b)∧Ob (PlainE (b+(1:Nat)) (behind b (El.fn fun(c:Nat)↦[SV.i .i64 (leftK e R a d (↑c:Int) 2)]) 1 (litEl (symL [SV.i .i64 (min (max (wishK R_4 l d (Int.ofNat 1) (↑b:Int) l.length) (min (max (wishK R_3 i d (0:Int) (↑b:Int) i.length) (0:Int)) e)) e)]) 1 1)))∧(Int.ofNat 2 < (↑R.length:Int)→Ob (IsLst B' j R.length 1 (llElem [.i64] ys R))∧Ob (IsLst B' k a.length 6 (Rv.elemOf I6 a))∧∃(R_5:List (List (List Int))),∃(ys_4:Nat→RV),Ob (R_5.length=R.length∧(∀(f:Nat),f < R.length→llElem [.i64] ys R f=llElem [.i64] ys_4 R_5 f)∧IsLL B' [.i64] j ys_4 R_5)∧∃(n:List (List Int)),Ob (IsLst B' k a.length 6 (Rv.elemOf I6 a)∧n.length=a.length∧(∀r∈n,r.length=6)∧∀(f:Nat),f < a.length→Rv.elemOf I6 a f=Rv.elemOf I6 n f)∧Ob (BayOk (40:Int) (40:Int) (40:Int) e g m R_5 n∧((0:Int)≤d∧d≤(1000000:Int))∧((0:Int)≤Int.ofNat 2∧Int.ofNat 2 < (↑R_5.length:Int))∧(0:Int)≤(↑b:Int)∧(↑b:Int) < g)∧Ob (B'=B')∧Ob (R_2=R_2)∧False)∧(¬Int.ofNat 2 < (↑R.length:Int)→Ob (InR .i64 ((↑b:Int)+(1:Int)))∧∃(h:Nat),Ob ((↑h:Int)≤g∧g.toNat-h < g.toNat-b)∧Ob (d=d)∧Ob (SV.v (Value.slice none 0 0)=SV.v (Value.slice none 0 0))∧Ob (Value.int .i64 (0:Int)=Value.int .i64 (0:Int))∧Ob (g=g)∧Ob ((↑b:Int)+(1:Int)=(↑h:Int))∧EqA (b+(1:Nat)) h (behind b (El.fn fun(c:Nat)↦[SV.i .i64 (leftK e R a d (↑c:Int) 2)]) 1 (litEl (symL [SV.i .i64 (min (max (wishK R_4 l d (Int.ofNat 1) (↑b:Int) l.length) (min (max (wishK R_3 i d (0:Int) (↑b:Int) i.length) (0:Int)) e)) e)]) 1 1)) (El.fn fun(c:Nat)↦[SV.i .i64 (leftK e R a d (↑c:Int) 2)])∧EqA (b+(1:Nat)) h (behind b (El.fn fun(c:Nat)↦[SV.i .i64 (leftK e R a d (↑c:Int) 1)]) 1 (litEl (symL [SV.i .i64 (min (max (wishK R_3 i d (0:Int) (↑b:Int) i.length) (0:Int)) e)]) 1 1)) (El.fn fun(c:Nat)↦[SV.i .i64 (leftK e R a d (↑c:Int) 1)])∧Ob (b+(1:Nat)=h)∧Ob (b+(1:Nat)=h)∧Ob (e=e)∧Ob (g=g)∧Ob (m=m)∧Ob (SV.lst j R.length 1 (llElem [.i64] ys R)=SV.lst j R.length 1 (llElem [.i64] ys R))∧Ob (SV.lst k a.length 6 (Rv.elemOf I6 a)=SV.lst k a.length 6 (Rv.elemOf I6 a))∧Ob (PlainE h (El.fn fun(c:Nat)↦[SV.i .i64 (leftK e R a d (↑c:Int) 2)]))∧Ob (PlainE h (El.fn fun(c:Nat)↦[SV.i .i64 (leftK e R a d (↑c:Int) 1)]))∧Ob (IsLst B' j R.length 1 (llElem [.i64] ys R))∧Ob (IsLst B' k a.length 6 (Rv.elemOf I6 a))∧True))∧(¬Int.ofNat 1 < (↑R.length:Int)→Ob (InR .i64 ((↑b:Int)+(1:Int)))∧∃(h:Nat),Ob ((↑h:Int)≤g∧g.toNat-h < g.toNat-b)∧Ob (d=d)∧Ob (SV.v (Value.slice none 0 0)=SV.v (Value.slice none 0 0))∧Ob (Value.int .i64 (0:Int)=Value.int .i64 (0:Int))∧Ob (g=g)∧Ob ((↑b:Int)+(1:Int)=(↑h:Int))∧EqA b h (El.fn fun(c:Nat)↦[SV.i .i64 (leftK e R a d (↑c:Int) 2)]) (El.fn fun(c:Nat)↦[SV.i .i64 (leftK e R a d (↑c:Int) 2)])∧EqA (b+(1:Nat)) h (behind b (El.fn fun(c:Nat)↦[SV.i .i64 (leftK e R a d (↑c:Int) 1)]) 1 (litEl (symL [SV.i .i64 (min (max (wishK R_3 i d (0:Int) (↑b:Int) i.length) (0:Int)) e)]) 1 1)) (El.fn fun(c:Nat)↦[SV.i .i64 (leftK e R a d (↑c:Int) 1)])∧Ob (b+(1:Nat)=h)∧Ob (b=h)∧Ob (e=e)∧Ob (g=g)∧Ob (m=m)∧Ob (SV.lst j R.length 1 (llElem [.i64] ys R)=SV.lst j R.length 1 (llElem [.i64] ys R))∧Ob (SV.lst k a.length 6 (Rv.elemOf I6 a)=SV.lst k a.length 6 (Rv.elemOf I6 a))∧Ob (PlainE h (El.fn fun(c:Nat)↦[SV.i .i64 (leftK e R a d (↑c:Int) 2)]))∧Ob (PlainE h (El.fn fun(c:Nat)↦[SV.i .i64 (leftK e R a d (↑c:Int) 1)]))∧Ob (IsLst B' j R.length 1 (llElem [.i64] ys R))∧Ob (IsLst B' k a.length 6 (Rv.elemOf I6 a))∧True))∧(¬(0:Int) < (↑R.length:Int)→Ob (InR .i64 ((↑b:Int)+(1:Int)))∧∃(h:Nat),Ob ((↑h:Int)≤g∧g.toNat-h < g.toNat-b)∧Ob (d=d)∧Ob (SV.v (Value.slice none 0 0)=SV.v (Value.slice none 0 0))∧Ob (Value.int .i64 (0:Int)=Value.int .i64 (0:Int))∧Ob (g=g)∧Ob ((↑b:Int)+(1:Int)=(↑h:Int))∧EqA b h (El.fn fun(c:Nat)↦[SV.i .i64 (leftK e R a d (↑c:Int) 2)]) (El.fn fun(c:Nat)↦[SV.i .i64 (leftK e R a d (↑c:Int) 2)])∧EqA b h (El.fn fun(c:Nat)↦[SV.i .i64 (leftK e R a d (↑c:Int) 1)]) (El.fn fun(c:Nat)↦[SV.i .i64 (leftK e R a d (↑c:Int) 1)])∧Ob (b=h)∧Ob (b=h)∧Ob (e=e)∧Ob (g=g)∧Ob (m=m)∧Ob (SV.lst j R.length 1 (llElem [.i64] ys R)=SV.lst j R.length 1 (llElem [.i64] ys R))∧Ob (SV.lst k a.length 6 (Rv.elemOf I6 a)=SV.lst k a.length 6 (Rv.elemOf I6 a))∧Ob (PlainE h (El.fn fun(c:Nat)↦[SV.i .i64 (leftK e R a d (↑c:Int) 2)]))∧Ob (PlainE h (El.fn fun(c:Nat)↦[SV.i .i64 (leftK e R a d (↑c:Int) 1)]))∧Ob (IsLst B' j R.length 1 (llElem [.i64] ys R))∧Ob (IsLst B' k a.length 6 (Rv.elemOf I6 a))∧True))∧(¬(↑b:Int) < g→RwA b b 1 [.i64] ((El.fn fun(c:Nat)↦[SV.i .i64 (leftK e R a d (↑c:Int) 1)]).at) fun i=>∀(B'_1:RW),Grow B' B'_1→∀(o:RV),IsLst B'_1 o i.length 1 (Rv.elemOf [.i64] i)→oneB o=true→Ob (PlainE b (El.fn fun(c:Nat)↦[SV.i .i64 (leftK e R a d (↑c:Int) 2)]))∧Ob (b=b)∧Ob (IsLst B' j R.length 1 (llElem [.i64] ys R))∧Ob (IsLst B' k a.length 6 (Rv.elemOf I6 a))∧RwA b b 1 [.i64] ((El.fn fun(c:Nat)↦[SV.i .i64 (leftK e R a d (↑c:Int) 2)]).at) fun l=>∀(B'_2:RW),Grow B'_1 B'_2→∀(p:RV),IsLst B'_2 p l.length 1 (Rv.elemOf [.i64] l)→oneB p=true→Ob (IsLst B'_1 o i.length 1 (Rv.elemOf [.i64] i))∧Ob (b=b)∧Ob (IsLst B'_1 j R.length 1 (llElem [.i64] ys R))∧Ob (IsLst B'_1 k a.length 6 (Rv.elemOf I6 a))∧∃(R_2:List (List (List Int))),∃(ys_2:Nat→RV),Ob (R_2.length=(2:Nat)∧(∀(f:Nat),f < 2→(litEl (symL [SV.lst o i.length 1 (Rv.elemOf [.i64] i),SV.lst p l.length 1 (Rv.elemOf [.i64] l)]) 1 2).at f=llElem [.i64] ys_2 R_2 f)∧∀(f:Nat),f < 2→IsLst B'_2 (ys_2 f) (R_2.getD f []).length 1 (Rv.elemOf [.i64] (R_2.getD f []))∧oneB (ys_2 f)=true∧∀(s:List Int),s∈R_2.getD f []→s.length=(1:Nat))∧∀(B'_3:RW),Grow B'_2 B'_3→∀(t:RV),IsLL B'_3 [.i64] t ys_2 R_2→oneB t=true→Ob (IsLst B'_2 j R.length 1 (llElem [.i64] ys R))∧Ob (IsLst B'_2 k a.length 6 (Rv.elemOf I6 a))∧∃(R_3:List (List (List Int))),∃(ys_3:Nat→RV),Ob (R_3.length=R_2.length∧(∀(f:Nat),f < R_2.length→llElem [.i64] ys_2 R_2 f=llElem [.i64] ys_3 R_3 f)∧IsLL B'_3 [.i64] t ys_3 R_3)∧Ob ((0:Int)=(0:Int)∧R_3.length=R.length∧∀(f:Nat),f < R.length→(R_3.getD f []).length=g.toNat∧∀(c:Nat),c < g.toNat→cell (R_3.getD f []) c 0=leftK e R a d (↑c:Int) (f+(1:Nat))))))∧((↑R.length:Int)=Int.ofNat 3→(∃(b:Nat),Ob ((↑b:Int)≤g)∧Ob (d=d)∧Ob (SV.v (Value.slice none 0 0)=SV.v (Value.slice none 0 0))∧Ob (Value.int .i64 (0:Int)=Value.int .i64 (0:Int))∧Ob (g=g)∧Ob ((0:Int)=(↑b:Int))∧Ob (b=(0:Nat))∧Ob (b=(0:Nat))∧Ob (b=(0:Nat))∧Ob (b=(0:Nat))∧Ob (b=(0:Nat))∧Ob (b=(0:Nat))∧Ob (e=e)∧Ob (g=g)∧Ob (m=m)∧Ob (SV.lst j R.length 1 (llElem [.i64] ys R)=SV.lst j R.length 1 (llElem [.i64] ys R))∧Ob (SV.lst k a.length 6 (Rv.elemOf I6 a)=SV.lst k a.length 6 (Rv.elemOf I6 a))∧Ob (PlainE b (El.fn fun(c:Nat)↦[SV.i .i64 (leftK e R a d (↑c:Int) 3)]))∧Ob (PlainE b (El.fn fun(c:Nat)↦[SV.i .i64 (leftK e R a d (↑c:Int) 2)]))∧Ob (PlainE b (El.fn fun(c:Nat)↦[SV.i .i64 (leftK e R a d (↑c:Int) 1)]))∧Ob (IsLst B j R.length 1 (llElem [.i64] ys R))∧LsA B k I6 a∧True)∧∀(B':RW),Grow B B'→∀(b:Nat),(↑b:Int)≤g→∀(_ _ _ _ _ _ _ _ _ _ _ _ _ _ _ _ _ _ _ _ _ _ _ _ _ _ _ _ _ _ _ _ _ _ _ _:Value),((↑b:Int) < g→∀(R_2:LR),R_2.b=B'.n+(10:Nat)→Ob (IsLst B' j R.length 1 (llElem [.i64] ys R))∧((0:Int) < (↑R.length:Int)→Ob (IsLst B' j R.length 1 (llElem [.i64] ys R))∧Ob (IsLst B' k a.length 6 (Rv.elemOf I6 a))∧∃(R_3:List (List (List Int))),∃(ys_2:Nat→RV),Ob (R_3.length=R.length∧(∀(f:Nat),f < R.length→llElem [.i64] ys R f=llElem [.i64] ys_2 R_3 f)∧IsLL B' [.i64] j ys_2 R_3)∧∃(i:List (List Int)),Ob (IsLst B' k a.length 6 (Rv.elemOf I6 a)∧i.length=a.length∧(∀r∈i,r.length=6)∧∀(f:Nat),f < a.length→Rv.elemOf I6 a f=Rv.elemOf I6 i f)∧Ob (BayOk (40:Int) (40:Int) (40:Int) e g m R_3 i∧((0:Int)≤d∧d≤(1000000:Int))∧((0:Int)≤(0:Int)∧(0:Int) < (↑R_3.length:Int))∧(0:Int)≤(↑b:Int)∧(↑b:Int) < g)∧Ob (B'=B')∧Ob (R_2=R_2)∧Ob (b=b∧∀(f:Nat),f < b→((El.fn fun(c:Nat)↦[SV.i .i64 (leftK e R a d (↑c:Int) 1)]).at f).length=(1:Nat))∧Ob ((b+(1:Nat))*(2:Nat)*(9:Nat)≤1099511627776)∧Ob (b=b)∧Ob (PlainE (b+(1:Nat)) (behind b (El.fn fun(c:Nat)↦[SV.i .i64 (leftK e R a d (↑c:Int) 1)]) 1 (litEl (symL [SV.i .i64 (min (max (wishK R_3 i d (0:Int) (↑b:Int) i.length) (0:Int)) e)]) 1 1)))∧(Int.ofNat 1 < (↑R.length:Int)→Ob (IsLst B' j R.length 1 (llElem [.i64] ys R))∧Ob (IsLst B' k a.length 6 (Rv.elemOf I6 a))∧∃(R_4:List (List (List Int))),∃(ys_3:Nat→RV),Ob (R_4.length=R.length∧(∀(f:Nat),f < R.length→llElem [.i64] ys R f=llElem [.i64] ys_3 R_4 f)∧IsLL B' [.i64] j ys_3 R_4)∧∃(l:List (List Int)),Ob (IsLst B' k a.length 6 (Rv.elemOf I6 a)∧l.length=a.length∧(∀r∈l,r.length=6)∧∀(f:Nat),f < a.length→Rv.elemOf I6 a f=Rv.elemOf I6 l f)∧Ob (BayOk (40:Int) (40:Int) (40:Int) e g m R_4 l∧((0:Int)≤d∧d≤(1000000:Int))∧((0:Int)≤Int.ofNat 1∧Int.ofNat 1 < (↑R_4.length:Int))∧(0:Int)≤(↑b:Int)∧(↑b:Int) < g)∧Ob (B'=B')∧Ob (R_2=R_2)∧Ob (b=b∧∀(f:Nat),f < b→((El.fn fun(c:Nat)↦[SV.i .i64 (leftK e R a d (↑c:Int) 2)]).at f).length=(1:Nat))∧Ob ((b+(1:Nat))*(2:Nat)*(9:Nat)≤1099511627776)∧Ob (b=b)∧Ob (PlainE (b+(1:Nat)) (behind b (El.fn fun(c:Nat)↦[SV.i .i64 (leftK e R a d (↑c:Int) 2)]) 1 (litEl (symL [SV.i .i64 (min (max (wishK R_4 l d (Int.ofNat 1) (↑b:Int) l.length) (min (max (wishK R_3 i d (0:Int) (↑b:Int) i.length) (0:Int)) e)) e)]) 1 1)))∧(Int.ofNat 2 < (↑R.length:Int)→Ob (IsLst B' j R.length 1 (llElem [.i64] ys R))∧Ob (IsLst B' k a.length 6 (Rv.elemOf I6 a))∧∃(R_5:List (List (List Int))),∃(ys_4:Nat→RV),Ob (R_5.length=R.length∧(∀(f:Nat),f < R.length→llElem [.i64] ys R f=llElem [.i64] ys_4 R_5 f)∧IsLL B' [.i64] j ys_4 R_5)∧∃(n:List (List Int)),Ob (IsLst B' k a.length 6 (Rv.elemOf I6 a)∧n.length=a.length∧(∀r∈n,r.length=6)∧∀(f:Nat),f < a.length→Rv.elemOf I6 a f=Rv.elemOf I6 n f)∧Ob (BayOk (40:Int) (40:Int) (40:Int) e g m R_5 n∧((0:Int)≤d∧d≤(1000000:Int))∧((0:Int)≤Int.ofNat 2∧Int.ofNat 2 < (↑R_5.length:Int))∧(0:Int)≤(↑b:Int)∧(↑b:Int) < g)∧Ob (B'=B')∧Ob (R_2=R_2)∧Ob (b=b∧∀(f:Nat),f < b→((El.fn fun(c:Nat)↦[SV.i .i64 (leftK e R a d (↑c:Int) 3)]).at f).length=(1:Nat))∧Ob ((b+(1:Nat))*(2:Nat)*(9:Nat)≤1099511627776)∧Ob (b=b)∧Ob (PlainE (b+(1:Nat)) (behind b (El.fn fun(c:Nat)↦[SV.i .i64 (leftK e R a d (↑c:Int) 3)]) 1 (litEl (symL [SV.i .i64 (min (max (wishK R_5 n d (Int.ofNat 2) (↑b:Int) n.length) (min (max (wishK R_4 l d (Int.ofNat 1) (↑b:Int) l.length) (min (max (wishK R_3 i d (0:Int) (↑b:Int) i.length) (0:Int)) e)) e)) e)]) 1 1)))∧(Int.ofNat 3 < (↑R.length:Int)→Ob (IsLst B' j R.length 1 (llElem [.i64] ys R))∧Ob (IsLst B' k a.length 6 (Rv.elemOf I6 a))∧∃(R_6:List (List (List Int))),∃(ys_5:Nat→RV),Ob (R_6.length=R.length∧(∀(f:Nat),f < R.length→llElem [.i64] ys R f=llElem [.i64] ys_5 R_6 f)∧IsLL B' [.i64] j ys_5 R_6)∧∃(q:List (List Int)),Ob (IsLst B' k a.length 6 (Rv.elemOf I6 a)∧q.length=a.length∧(∀r∈q,r.length=6)∧∀(f:Nat),f < a.length→Rv.elemOf I6 a f=Rv.elemOf I6 q f)∧Ob (BayOk (40:Int) (40:Int) (40:Int) e g m R_6 q∧((0:Int)≤d∧d≤(1000000:Int))∧((0:Int)≤Int.ofNat 3∧Int.ofNat 3 < (↑R_6.length:Int))∧(0:Int)≤(↑b:Int)∧(↑b:Int) < g)∧Ob (B'=B')∧Ob (R_2=R_2)∧False)∧(¬Int.ofNat 3 < (↑R.length:Int)→Ob (InR .i64 ((↑b:Int)+(1:Int)))∧∃(h:Nat),Ob ((↑h:Int)≤g∧g.toNat-h < g.toNat-b)∧Ob (d=d)∧Ob (SV.v (Value.slice none 0 0)=SV.v (Value.slice none 0 0))∧Ob (Value.int .i64 (0:Int)=Value.int .i64 (0:Int))∧Ob (g=g)∧Ob ((↑b:Int)+(1:Int)=(↑h:Int))∧EqA (b+(1:Nat)) h (behind b (El.fn fun(c:Nat)↦[SV.i .i64 (leftK e R a d (↑c:Int) 3)]) 1 (litEl (symL [SV.i .i64 (min (max (wishK R_5 n d (Int.ofNat 2) (↑b:Int) n.length) (min (max (wishK R_4 l d (Int.ofNat 1) (↑b:Int) l.length) (min (max (wishK R_3 i d (0:Int) (↑b:Int) i.length) (0:Int)) e)) e)) e)]) 1 1)) (El.fn fun(c:Nat)↦[SV.i .i64 (leftK e R a d (↑c:Int) 3)])∧EqA (b+(1:Nat)) h (behind b (El.fn fun(c:Nat)↦[SV.i .i64 (leftK e R a d (↑c:Int) 2)]) 1 (litEl (symL [SV.i .i64 (min (max (wishK R_4 l d (Int.ofNat 1) (↑b:Int) l.length) (min (max (wishK R_3 i d (0:Int) (↑b:Int) i.length) (0:Int)) e)) e)]) 1 1)) (El.fn fun(c:Nat)↦[SV.i .i64 (leftK e R a d (↑c:Int) 2)])∧EqA (b+(1:Nat)) h (behind b (El.fn fun(c:Nat)↦[SV.i .i64 (leftK e R a d (↑c:Int) 1)]) 1 (litEl (symL [SV.i .i64 (min (max (wishK R_3 i d (0:Int) (↑b:Int) i.length) (0:Int)) e)]) 1 1)) (El.fn fun(c:Nat)↦[SV.i .i64 (leftK e R a d (↑c:Int) 1)])∧Ob (b+(1:Nat)=h)∧Ob (b+(1:Nat)=h)∧Ob (b+(1:Nat)=h)∧Ob (e=e)∧Ob (g=g)∧Ob (m=m)∧Ob (SV.lst j R.length 1 (llElem [.i64] ys R)=SV.lst j R.length 1 (llElem [.i64] ys R))∧Ob (SV.lst k a.length 6 (Rv.elemOf I6 a)=SV.lst k a.length 6 (Rv.elemOf I6 a))∧Ob (PlainE h (El.fn fun(c:Nat)↦[SV.i .i64 (leftK e R a d (↑c:Int) 3)]))∧Ob (PlainE h (El.fn fun(c:Nat)↦[SV.i .i64 (leftK e R a d (↑c:Int) 2)]))∧Ob (PlainE h (El.fn fun(c:Nat)↦[SV.i .i64 (leftK e R a d (↑c:Int) 1)]))∧Ob (IsLst B' j R.length 1 (llElem [.i64] ys R))∧Ob (IsLst B' k a.length 6 (Rv.elemOf I6 a))∧True))∧(¬Int.ofNat 2 < (↑R.length:Int)→Ob (InR .i64 ((↑b:Int)+(1:Int)))∧∃(h:Nat),Ob ((↑h:Int)≤g∧g.toNat-h < g.toNat-b)∧Ob (d=d)∧Ob (SV.v (Value.slice none 0 0)=SV.v (Value.slice none 0 0))∧Ob (Value.int .i64 (0:Int)=Value.int .i64 (0:Int))∧Ob (g=g)∧Ob ((↑b:Int)+(1:Int)=(↑h:Int))∧EqA b h (El.fn fun(c:Nat)↦[SV.i .i64 (leftK e R a d (↑c:Int) 3)]) (El.fn fun(c:Nat)↦[SV.i .i64 (leftK e R a d (↑c:Int) 3)])∧EqA (b+(1:Nat)) h (behind b (El.fn fun(c:Nat)↦[SV.i .i64 (leftK e R a d (↑c:Int) 2)]) 1 (litEl (symL [SV.i .i64 (min (max (wishK R_4 l d (Int.ofNat 1) (↑b:Int) l.length) (min (max (wishK R_3 i d (0:Int) (↑b:Int) i.length) (0:Int)) e)) e)]) 1 1)) (El.fn fun(c:Nat)↦[SV.i .i64 (leftK e R a d (↑c:Int) 2)])∧EqA (b+(1:Nat)) h (behind b (El.fn fun(c:Nat)↦[SV.i .i64 (leftK e R a d (↑c:Int) 1)]) 1 (litEl (symL [SV.i .i64 (min (max (wishK R_3 i d (0:Int) (↑b:Int) i.length) (0:Int)) e)]) 1 1)) (El.fn fun(c:Nat)↦[SV.i .i64 (leftK e R a d (↑c:Int) 1)])∧Ob (b+(1:Nat)=h)∧Ob (b+(1:Nat)=h)∧Ob (b=h)∧Ob (e=e)∧Ob (g=g)∧Ob (m=m)∧Ob (SV.lst j R.length 1 (llElem [.i64] ys R)=SV.lst j R.length 1 (llElem [.i64] ys R))∧Ob (SV.lst k a.length 6 (Rv.elemOf I6 a)=SV.lst k a.length 6 (Rv.elemOf I6 a))∧Ob (PlainE h (El.fn fun(c:Nat)↦[SV.i .i64 (leftK e R a d (↑c:Int) 3)]))∧Ob (PlainE h (El.fn fun(c:Nat)↦[SV.i .i64 (leftK e R a d (↑c:Int) 2)]))∧Ob (PlainE h (El.fn fun(c:Nat)↦[SV.i .i64 (leftK e R a d (↑c:Int) 1)]))∧Ob (IsLst B' j R.length 1 (llElem [.i64] ys R))∧Ob (IsLst B' k a.length 6 (Rv.elemOf I6 a))∧True))∧(¬Int.ofNat 1 < (↑R.length:Int)→Ob (InR .i64 ((↑b:Int)+(1:Int)))∧∃(h:Nat),Ob ((↑h:Int)≤g∧g.toNat-h < g.toNat-b)∧Ob (d=d)∧Ob (SV.v (Value.slice none 0 0)=SV.v (Value.slice none 0 0))∧Ob (Value.int .i64 (0:Int)=Value.int .i64 (0:Int))∧Ob (g=g)∧Ob ((↑b:Int)+(1:Int)=(↑h:Int))∧EqA b h (El.fn fun(c:Nat)↦[SV.i .i64 (leftK e R a d (↑c:Int) 3)]) (El.fn fun(c:Nat)↦[SV.i .i64 (leftK e R a d (↑c:Int) 3)])∧EqA b h (El.fn fun(c:Nat)↦[SV.i .i64 (leftK e R a d (↑c:Int) 2)]) (El.fn fun(c:Nat)↦[SV.i .i64 (leftK e R a d (↑c:Int) 2)])∧EqA (b+(1:Nat)) h (behind b (El.fn fun(c:Nat)↦[SV.i .i64 (leftK e R a d (↑c:Int) 1)]) 1 (litEl (symL [SV.i .i64 (min (max (wishK R_3 i d (0:Int) (↑b:Int) i.length) (0:Int)) e)]) 1 1)) (El.fn fun(c:Nat)↦[SV.i .i64 (leftK e R a d (↑c:Int) 1)])∧Ob (b+(1:Nat)=h)∧Ob (b=h)∧Ob (b=h)∧Ob (e=e)∧Ob (g=g)∧Ob (m=m)∧Ob (SV.lst j R.length 1 (llElem [.i64] ys R)=SV.lst j R.length 1 (llElem [.i64] ys R))∧Ob (SV.lst k a.length 6 (Rv.elemOf I6 a)=SV.lst k a.length 6 (Rv.elemOf I6 a))∧Ob (PlainE h (El.fn fun(c:Nat)↦[SV.i .i64 (leftK e R a d (↑c:Int) 3)]))∧Ob (PlainE h (El.fn fun(c:Nat)↦[SV.i .i64 (leftK e R a d (↑c:Int) 2)]))∧Ob (PlainE h (El.fn fun(c:Nat)↦[SV.i .i64 (leftK e R a d (↑c:Int) 1)]))∧Ob (IsLst B' j R.length 1 (llElem [.i64] ys R))∧Ob (IsLst B' k a.length 6 (Rv.elemOf I6 a))∧True))∧(¬(0:Int) < (↑R.length:Int)→Ob (InR .i64 ((↑b:Int)+(1:Int)))∧∃(h:Nat),Ob ((↑h:Int)≤g∧g.toNat-h < g.toNat-b)∧Ob (d=d)∧Ob (SV.v (Value.slice none 0 0)=SV.v (Value.slice none 0 0))∧Ob (Value.int .i64 (0:Int)=Value.int .i64 (0:Int))∧Ob (g=g)∧Ob ((↑b:Int)+(1:Int)=(↑h:Int))∧EqA b h (El.fn fun(c:Nat)↦[SV.i .i64 (leftK e R a d (↑c:Int) 3)]) (El.fn fun(c:Nat)↦[SV.i .i64 (leftK e R a d (↑c:Int) 3)])∧EqA b h (El.fn fun(c:Nat)↦[SV.i .i64 (leftK e R a d (↑c:Int) 2)]) (El.fn fun(c:Nat)↦[SV.i .i64 (leftK e R a d (↑c:Int) 2)])∧EqA b h (El.fn fun(c:Nat)↦[SV.i .i64 (leftK e R a d (↑c:Int) 1)]) (El.fn fun(c:Nat)↦[SV.i .i64 (leftK e R a d (↑c:Int) 1)])∧Ob (b=h)∧Ob (b=h)∧Ob (b=h)∧Ob (e=e)∧Ob (g=g)∧Ob (m=m)∧Ob (SV.lst j R.length 1 (llElem [.i64] ys R)=SV.lst j R.length 1 (llElem [.i64] ys R))∧Ob (SV.lst k a.length 6 (Rv.elemOf I6 a)=SV.lst k a.length 6 (Rv.elemOf I6 a))∧Ob (PlainE h (El.fn fun(c:Nat)↦[SV.i .i64 (leftK e R a d (↑c:Int) 3)]))∧Ob (PlainE h (El.fn fun(c:Nat)↦[SV.i .i64 (leftK e R a d (↑c:Int) 2)]))∧Ob (PlainE h (El.fn fun(c:Nat)↦[SV.i .i64 (leftK e R a d (↑c:Int) 1)]))∧Ob (IsLst B' j R.length 1 (llElem [.i64] ys R))∧Ob (IsLst B' k a.length 6 (Rv.elemOf I6 a))∧True))∧(¬(↑b:Int) < g→RwA b b 1 [.i64] ((El.fn fun(c:Nat)↦[SV.i .i64 (leftK e R a d (↑c:Int) 1)]).at) fun i=>∀(B'_1:RW),Grow B' B'_1→∀(o:RV),IsLst B'_1 o i.length 1 (Rv.elemOf [.i64] i)→oneB o=true→Ob (PlainE b (El.fn fun(c:Nat)↦[SV.i .i64 (leftK e R a d (↑c:Int) 3)]))∧Ob (PlainE b (El.fn fun(c:Nat)↦[SV.i .i64 (leftK e R a d (↑c:Int) 2)]))∧Ob (b=b)∧Ob (IsLst B' j R.length 1 (llElem [.i64] ys R))∧Ob (IsLst B' k a.length 6 (Rv.elemOf I6 a))∧RwA b b 1 [.i64] ((El.fn fun(c:Nat)↦[SV.i .i64 (leftK e R a d (↑c:Int) 2)]).at) fun l=>∀(B'_2:RW),Grow B'_1 B'_2→∀(p:RV),IsLst B'_2 p l.length 1 (Rv.elemOf [.i64] l)→oneB p=true→Ob (PlainE b (El.fn fun(c:Nat)↦[SV.i .i64 (leftK e R a d (↑c:Int) 3)]))∧Ob (IsLst B'_1 o i.length 1 (Rv.elemOf [.i64] i))∧Ob (b=b)∧Ob (IsLst B'_1 j R.length 1 (llElem [.i64] ys R))∧Ob (IsLst B'_1 k a.length 6 (Rv.elemOf I6 a))∧RwA b b 1 [.i64] ((El.fn fun(c:Nat)↦[SV.i .i64 (leftK e R a d (↑c:Int) 3)]).at) fun n=>∀(B'_3:RW),Grow B'_2 B'_3→∀(t:RV),IsLst B'_3 t n.length 1 (Rv.elemOf [.i64] n)→oneB t=true→Ob (IsLst B'_2 o i.length 1 (Rv.elemOf [.i64] i))∧Ob (IsLst B'_2 p l.length 1 (Rv.elemOf [.i64] l))∧Ob (b=b)∧Ob (IsLst B'_2 j R.length 1 (llElem [.i64] ys R))∧Ob (IsLst B'_2 k a.length 6 (Rv.elemOf I6 a))∧∃(R_2:List (List (List Int))),∃(ys_2:Nat→RV),Ob (R_2.length=(3:Nat)∧(∀(f:Nat),f < 3→(litEl (symL [SV.lst o i.length 1 (Rv.elemOf [.i64] i),SV.lst p l.length 1 (Rv.elemOf [.i64] l),SV.lst t n.length 1 (Rv.elemOf [.i64] n)]) 1 3).at f=llElem [.i64] ys_2 R_2 f)∧∀(f:Nat),f < 3→IsLst B'_3 (ys_2 f) (R_2.getD f []).length 1 (Rv.elemOf [.i64] (R_2.getD f []))∧oneB (ys_2 f)=true∧∀(s:List Int),s∈R_2.getD f []→s.length=(1:Nat))∧∀(B'_4:RW),Grow B'_3 B'_4→∀(u:RV),IsLL B'_4 [.i64] u ys_2 R_2→oneB u=true→Ob (IsLst B'_3 j R.length 1 (llElem [.i64] ys R))∧Ob (IsLst B'_3 k a.length 6 (Rv.elemOf I6 a))∧∃(R_3:List (List (List Int))),∃(ys_3:Nat→RV),Ob (R_3.length=R_2.length∧(∀(f:Nat),f < R_2.length→llElem [.i64] ys_2 R_2 f=llElem [.i64] ys_3 R_3 f)∧IsLL B'_4 [.i64] u ys_3 R_3)∧Ob ((0:Int)=(0:Int)∧R_3.length=R.length∧∀(f:Nat),f < R.length→(R_3.getD f []).length=g.toNat∧∀(c:Nat),c < g.toNat→cell (R_3.getD f []) c 0=leftK e R a d (↑c:Int) (f+(1:Nat))))))∧((↑R.length:Int)=Int.ofNat 4→(∃(b:Nat),Ob ((↑b:Int)≤g)∧Ob (d=d)∧Ob (SV.v (Value.slice none 0 0)=SV.v (Value.slice none 0 0))∧Ob (Value.int .i64 (0:Int)=Value.int .i64 (0:Int))∧Ob (g=g)∧Ob ((0:Int)=(↑b:Int))∧Ob (b=(0:Nat))∧Ob (b=(0:Nat))∧Ob (b=(0:Nat))∧Ob (b=(0:Nat))∧Ob (b=(0:Nat))∧Ob (b=(0:Nat))∧Ob (b=(0:Nat))∧Ob (b=(0:Nat))∧Ob (e=e)∧Ob (g=g)∧Ob (m=m)∧Ob (SV.lst j R.length 1 (llElem [.i64] ys R)=SV.lst j R.length 1 (llElem [.i64] ys R))∧Ob (SV.lst k a.length 6 (Rv.elemOf I6 a)=SV.lst k a.length 6 (Rv.elemOf I6 a))∧Ob (PlainE b (El.fn fun(c:Nat)↦[SV.i .i64 (leftK e R a d (↑c:Int) 4)]))∧Ob (PlainE b (El.fn fun(c:Nat)↦[SV.i .i64 (leftK e R a d (↑c:Int) 3)]))∧Ob (PlainE b (El.fn fun(c:Nat)↦[SV.i .i64 (leftK e R a d (↑c:Int) 2)]))∧Ob (PlainE b (El.fn fun(c:Nat)↦[SV.i .i64 (leftK e R a d (↑c:Int) 1)]))∧Ob (IsLst B j R.length 1 (llElem [.i64] ys R))∧LsA B k I6 a∧True)∧∀(B':RW),Grow B B'→∀(b:Nat),(↑b:Int)≤g→∀(_ _ _ _ _ _ _ _ _ _ _ _ _ _ _ _ _ _ _ _ _ _ _ _ _ _ _ _ _ _ _ _ _ _ _ _:Value),((↑b:Int) < g→∀(R_2:LR),R_2.b=B'.n+(11:Nat)→Ob (IsLst B' j R.length 1 (llElem [.i64] ys R))∧((0:Int) < (↑R.length:Int)→Ob (IsLst B' j R.length 1 (llElem [.i64] ys R))∧Ob (IsLst B' k a.length 6 (Rv.elemOf I6 a))∧∃(R_3:List (List (List Int))),∃(ys_2:Nat→RV),Ob (R_3.length=R.length∧(∀(f:Nat),f < R.length→llElem [.i64] ys R f=llElem [.i64] ys_2 R_3 f)∧IsLL B' [.i64] j ys_2 R_3)∧∃(i:List (List Int)),Ob (IsLst B' k a.length 6 (Rv.elemOf I6 a)∧i.length=a.length∧(∀r∈i,r.length=6)∧∀(f:Nat),f < a.length→Rv.elemOf I6 a f=Rv.elemOf I6 i f)∧Ob (BayOk (40:Int) (40:Int) (40:Int) e g m R_3 i∧((0:Int)≤d∧d≤(1000000:Int))∧((0:Int)≤(0:Int)∧(0:Int) < (↑R_3.length:Int))∧(0:Int)≤(↑b:Int)∧(↑b:Int) < g)∧Ob (B'=B')∧Ob (R_2=R_2)∧Ob (b=b∧∀(f:Nat),f < b→((El.fn fun(c:Nat)↦[SV.i .i64 (leftK e R a d (↑c:Int) 1)]).at f).length=(1:Nat))∧Ob ((b+(1:Nat))*(2:Nat)*(9:Nat)≤1099511627776)∧Ob (b=b)∧Ob (PlainE (b+(1:Nat)) (behind b (El.fn fun(c:Nat)↦[SV.i .i64 (leftK e R a d (↑c:Int) 1)]) 1 (litEl (symL [SV.i .i64 (min (max (wishK R_3 i d (0:Int) (↑b:Int) i.length) (0:Int)) e)]) 1 1)))∧(Int.ofNat 1 < (↑R.length:Int)→Ob (IsLst B' j R.length 1 (llElem [.i64] ys R))∧Ob (IsLst B' k a.length 6 (Rv.elemOf I6 a))∧∃(R_4:List (List (List Int))),∃(ys_3:Nat→RV),Ob (R_4.length=R.length∧(∀(f:Nat),f < R.length→llElem [.i64] ys R f=llElem [.i64] ys_3 R_4 f)∧IsLL B' [.i64] j ys_3 R_4)∧∃(l:List (List Int)),Ob (IsLst B' k a.length 6 (Rv.elemOf I6 a)∧l.length=a.length∧(∀r∈l,r.length=6)∧∀(f:Nat),f < a.length→Rv.elemOf I6 a f=Rv.elemOf I6 l f)∧Ob (BayOk (40:Int) (40:Int) (40:Int) e g m R_4 l∧((0:Int)≤d∧d≤(1000000:Int))∧((0:Int)≤Int.ofNat 1∧Int.ofNat 1 < (↑R_4.length:Int))∧(0:Int)≤(↑b:Int)∧(↑b:Int) < g)∧Ob (B'=B')∧Ob (R_2=R_2)∧Ob (b=b∧∀(f:Nat),f < b→((El.fn fun(c:Nat)↦[SV.i .i64 (leftK e R a d (↑c:Int) 2)]).at f).length=(1:Nat))∧Ob ((b+(1:Nat))*(2:Nat)*(9:Nat)≤1099511627776)∧Ob (b=b)∧Ob (PlainE (b+(1:Nat)) (behind b (El.fn fun(c:Nat)↦[SV.i .i64 (leftK e R a d (↑c:Int) 2)]) 1 (litEl (symL [SV.i .i64 (min (max (wishK R_4 l d (Int.ofNat 1) (↑b:Int) l.length) (min (max (wishK R_3 i d (0:Int) (↑b:Int) i.length) (0:Int)) e)) e)]) 1 1)))∧(Int.ofNat 2 < (↑R.length:Int)→Ob (IsLst B' j R.length 1 (llElem [.i64] ys R))∧Ob (IsLst B' k a.length 6 (Rv.elemOf I6 a))∧∃(R_5:List (List (List Int))),∃(ys_4:Nat→RV),Ob (R_5.length=R.length∧(∀(f:Nat),f < R.length→llElem [.i64] ys R f=llElem [.i64] ys_4 R_5 f)∧IsLL B' [.i64] j ys_4 R_5)∧∃(n:List (List Int)),Ob (IsLst B' k a.length 6 (Rv.elemOf I6 a)∧n.length=a.length∧(∀r∈n,r.length=6)∧∀(f:Nat),f < a.length→Rv.elemOf I6 a f=Rv.elemOf I6 n f)∧Ob (BayOk (40:Int) (40:Int) (40:Int) e g m R_5 n∧((0:Int)≤d∧d≤(1000000:Int))∧((0:Int)≤Int.ofNat 2∧Int.ofNat 2 < (↑R_5.length:Int))∧(0:Int)≤(↑b:Int)∧(↑b:Int) < g)∧Ob (B'=B')∧Ob (R_2=R_2)∧Ob (b=b∧∀(f:Nat),f < b→((El.fn fun(c:Nat)↦[SV.i .i64 (leftK e R a d (↑c:Int) 3)]).at f).length=(1:Nat))∧Ob ((b+(1:Nat))*(2:Nat)*(9:Nat)≤1099511627776)∧Ob (b=b)∧Ob (PlainE (b+(1:Nat)) (behind b (El.fn fun(c:Nat)↦[SV.i .i64 (leftK e R a d (↑c:Int) 3)]) 1 (litEl (symL [SV.i .i64 (min (max (wishK R_5 n d (Int.ofNat 2) (↑b:Int) n.length) (min (max (wishK R_4 l d (Int.ofNat 1) (↑b:Int) l.length) (min (max (wishK R_3 i d (0:Int) (↑b:Int) i.length) (0:Int)) e)) e)) e)]) 1 1)))∧(Int.ofNat 3 < (↑R.length:Int)→Ob (IsLst B' j R.length 1 (llElem [.i64] ys R))∧Ob (IsLst B' k a.length 6 (Rv.elemOf I6 a))∧∃(R_6:List (List (List Int))),∃(ys_5:Nat→RV),Ob (R_6.length=R.length∧(∀(f:Nat),f < R.length→llElem [.i64] ys R f=llElem [.i64] ys_5 R_6 f)∧IsLL B' [.i64] j ys_5 R_6)∧∃(q:List (List Int)),Ob (IsLst B' k a.length 6 (Rv.elemOf I6 a)∧q.length=a.length∧(∀r∈q,r.length=6)∧∀(f:Nat),f < a.length→Rv.elemOf I6 a f=Rv.elemOf I6 q f)∧Ob (BayOk (40:Int) (40:Int) (40:Int) e g m R_6 q∧((0:Int)≤d∧d≤(1000000:Int))∧((0:Int)≤Int.ofNat 3∧Int.ofNat 3 < (↑R_6.length:Int))∧(0:Int)≤(↑b:Int)∧(↑b:Int) < g)∧Ob (B'=B')∧Ob (R_2=R_2)∧Ob (b=b∧∀(f:Nat),f < b→((El.fn fun(c:Nat)↦[SV.i .i64 (leftK e R a d (↑c:Int) 4)]).at f).length=(1:Nat))∧Ob ((b+(1:Nat))*(2:Nat)*(9:Nat)≤1099511627776)∧Ob (b=b)∧Ob (PlainE (b+(1:Nat)) (behind b (El.fn fun(c:Nat)↦[SV.i .i64 (leftK e R a d (↑c:Int) 4)]) 1 (litEl (symL [SV.i .i64 (min (max (wishK R_6 q d (Int.ofNat 3) (↑b:Int) q.length) (min (max (wishK R_5 n d (Int.ofNat 2) (↑b:Int) n.length) (min (max (wishK R_4 l d (Int.ofNat 1) (↑b:Int) l.length) (min (max (wishK R_3 i d (0:Int) (↑b:Int) i.length) (0:Int)) e)) e)) e)) e)]) 1 1)))∧(Int.ofNat 4 < (↑R.length:Int)→Ob (IsLst B' j R.length 1 (llElem [.i64] ys R))∧Ob (IsLst B' k a.length 6 (Rv.elemOf I6 a))∧∃(R_7:List (List (List Int))),∃(ys_6:Nat→RV),Ob (R_7.length=R.length∧(∀(f:Nat),f < R.length→llElem [.i64] ys R f=llElem [.i64] ys_6 R_7 f)∧IsLL B' [.i64] j ys_6 R_7)∧∃(v:List (List Int)),Ob (IsLst B' k a.length 6 (Rv.elemOf I6 a)∧v.length=a.length∧(∀r∈v,r.length=6)∧∀(f:Nat),f < a.length→Rv.elemOf I6 a f=Rv.elemOf I6 v f)∧Ob (BayOk (40:Int) (40:Int) (40:Int) e g m R_7 v∧((0:Int)≤d∧d≤(1000000:Int))∧((0:Int)≤Int.ofNat 4∧Int.ofNat 4 < (↑R_7.length:Int))∧(0:Int)≤(↑b:Int)∧(↑b:Int) < g)∧Ob (B'=B')∧Ob (R_2=R_2)∧False)∧(¬Int.ofNat 4 < (↑R.length:Int)→Ob (InR .i64 ((↑b:Int)+(1:Int)))∧∃(h:Nat),Ob ((↑h:Int)≤g∧g.toNat-h < g.toNat-b)∧Ob (d=d)∧Ob (SV.v (Value.slice none 0 0)=SV.v (Value.slice none 0 0))∧Ob (Value.int .i64 (0:Int)=Value.int .i64 (0:Int))∧Ob (g=g)∧Ob ((↑b:Int)+(1:Int)=(↑h:Int))∧EqA (b+(1:Nat)) h (behind b (El.fn fun(c:Nat)↦[SV.i .i64 (leftK e R a d (↑c:Int) 4)]) 1 (litEl (symL [SV.i .i64 (min (max (wishK R_6 q d (Int.ofNat 3) (↑b:Int) q.length) (min (max (wishK R_5 n d (Int.ofNat 2) (↑b:Int) n.length) (min (max (wishK R_4 l d (Int.ofNat 1) (↑b:Int) l.length) (min (max (wishK R_3 i d (0:Int) (↑b:Int) i.length) (0:Int)) e)) e)) e)) e)]) 1 1)) (El.fn fun(c:Nat)↦[SV.i .i64 (leftK e R a d (↑c:Int) 4)])∧EqA (b+(1:Nat)) h (behind b (El.fn fun(c:Nat)↦[SV.i .i64 (leftK e R a d (↑c:Int) 3)]) 1 (litEl (symL [SV.i .i64 (min (max (wishK R_5 n d (Int.ofNat 2) (↑b:Int) n.length) (min (max (wishK R_4 l d (Int.ofNat 1) (↑b:Int) l.length) (min (max (wishK R_3 i d (0:Int) (↑b:Int) i.length) (0:Int)) e)) e)) e)]) 1 1)) (El.fn fun(c:Nat)↦[SV.i .i64 (leftK e R a d (↑c:Int) 3)])∧EqA (b+(1:Nat)) h (behind b (El.fn fun(c:Nat)↦[SV.i .i64 (leftK e R a d (↑c:Int) 2)]) 1 (litEl (symL [SV.i .i64 (min (max (wishK R_4 l d (Int.ofNat 1) (↑b:Int) l.length) (min (max (wishK R_3 i d (0:Int) (↑b:Int) i.length) (0:Int)) e)) e)]) 1 1)) (El.fn fun(c:Nat)↦[SV.i .i64 (leftK e R a d (↑c:Int) 2)])∧EqA (b+(1:Nat)) h (behind b (El.fn fun(c:Nat)↦[SV.i .i64 (leftK e R a d (↑c:Int) 1)]) 1 (litEl (symL [SV.i .i64 (min (max (wishK R_3 i d (0:Int) (↑b:Int) i.length) (0:Int)) e)]) 1 1)) (El.fn fun(c:Nat)↦[SV.i .i64 (leftK e R a d (↑c:Int) 1)])∧Ob (b+(1:Nat)=h)∧Ob (b+(1:Nat)=h)∧Ob (b+(1:Nat)=h)∧Ob (b+(1:Nat)=h)∧Ob (e=e)∧Ob (g=g)∧Ob (m=m)∧Ob (SV.lst j R.length 1 (llElem [.i64] ys R)=SV.lst j R.length 1 (llElem [.i64] ys R))∧Ob (SV.lst k a.length 6 (Rv.elemOf I6 a)=SV.lst k a.length 6 (Rv.elemOf I6 a))∧Ob (PlainE h (El.fn fun(c:Nat)↦[SV.i .i64 (leftK e R a d (↑c:Int) 4)]))∧Ob (PlainE h (El.fn fun(c:Nat)↦[SV.i .i64 (leftK e R a d (↑c:Int) 3)]))∧Ob (PlainE h (El.fn fun(c:Nat)↦[SV.i .i64 (leftK e R a d (↑c:Int) 2)]))∧Ob (PlainE h (El.fn fun(c:Nat)↦[SV.i .i64 (leftK e R a d (↑c:Int) 1)]))∧Ob (IsLst B' j R.length 1 (llElem [.i64] ys R))∧Ob (IsLst B' k a.length 6 (Rv.elemOf I6 a))∧True))∧(¬Int.ofNat 3 < (↑R.length:Int)→Ob (InR .i64 ((↑b:Int)+(1:Int)))∧∃(h:Nat),Ob ((↑h:Int)≤g∧g.toNat-h < g.toNat-b)∧Ob (d=d)∧Ob (SV.v (Value.slice none 0 0)=SV.v (Value.slice none 0 0))∧Ob (Value.int .i64 (0:Int)=Value.int .i64 (0:Int))∧Ob (g=g)∧Ob ((↑b:Int)+(1:Int)=(↑h:Int))∧EqA b h (El.fn fun(c:Nat)↦[SV.i .i64 (leftK e R a d (↑c:Int) 4)]) (El.fn fun(c:Nat)↦[SV.i .i64 (leftK e R a d (↑c:Int) 4)])∧EqA (b+(1:Nat)) h (behind b (El.fn fun(c:Nat)↦[SV.i .i64 (leftK e R a d (↑c:Int) 3)]) 1 (litEl (symL [SV.i .i64 (min (max (wishK R_5 n d (Int.ofNat 2) (↑b:Int) n.length) (min (max (wishK R_4 l d (Int.ofNat 1) (↑b:Int) l.length) (min (max (wishK R_3 i d (0:Int) (↑b:Int) i.length) (0:Int)) e)) e)) e)]) 1 1)) (El.fn fun(c:Nat)↦[SV.i .i64 (leftK e R a d (↑c:Int) 3)])∧EqA (b+(1:Nat)) h (behind b (El.fn fun(c:Nat)↦[SV.i .i64 (leftK e R a d (↑c:Int) 2)]) 1 (litEl (symL [SV.i .i64 (min (max (wishK R_4 l d (Int.ofNat 1) (↑b:Int) l.length) (min (max (wishK R_3 i d (0:Int) (↑b:Int) i.length) (0:Int)) e)) e)]) 1 1)) (El.fn fun(c:Nat)↦[SV.i .i64 (leftK e R a d (↑c:Int) 2)])∧EqA (b+(1:Nat)) h (behind b (El.fn fun(c:Nat)↦[SV.i .i64 (leftK e R a d (↑c:Int) 1)]) 1 (litEl (symL [SV.i .i64 (min (max (wishK R_3 i d (0:Int) (↑b:Int) i.length) (0:Int)) e)]) 1 1)) (El.fn fun(c:Nat)↦[SV.i .i64 (leftK e R a d (↑c:Int) 1)])∧Ob (b+(1:Nat)=h)∧Ob (b+(1:Nat)=h)∧Ob (b+(1:Nat)=h)∧Ob (b=h)∧Ob (e=e)∧Ob (g=g)∧Ob (m=m)∧Ob (SV.lst j R.length 1 (llElem [.i64] ys R)=SV.lst j R.length 1 (llElem [.i64] ys R))∧Ob (SV.lst k a.length 6 (Rv.elemOf I6 a)=SV.lst k a.length 6 (Rv.elemOf I6 a))∧Ob (PlainE h (El.fn fun(c:Nat)↦[SV.i .i64 (leftK e R a d (↑c:Int) 4)]))∧Ob (PlainE h (El.fn fun(c:Nat)↦[SV.i .i64 (leftK e R a d (↑c:Int) 3)]))∧Ob (PlainE h (El.fn fun(c:Nat)↦[SV.i .i64 (leftK e R a d (↑c:Int) 2)]))∧Ob (PlainE h (El.fn fun(c:Nat)↦[SV.i .i64 (leftK e R a d (↑c:Int) 1)]))∧Ob (IsLst B' j R.length 1 (llElem [.i64] ys R))∧Ob (IsLst B' k a.length 6 (Rv.elemOf I6 a))∧True))∧(¬Int.ofNat 2 < (↑R.length:Int)→Ob (InR .i64 ((↑b:Int)+(1:Int)))∧∃(h:Nat),Ob ((↑h:Int)≤g∧g.toNat-h < g.toNat-b)∧Ob (d=d)∧Ob (SV.v (Value.slice none 0 0)=SV.v (Value.slice none 0 0))∧Ob (Value.int .i64 (0:Int)=Value.int .i64 (0:Int))∧Ob (g=g)∧Ob ((↑b:Int)+(1:Int)=(↑h:Int))∧EqA b h (El.fn fun(c:Nat)↦[SV.i .i64 (leftK e R a d (↑c:Int) 4)]) (El.fn fun(c:Nat)↦[SV.i .i64 (leftK e R a d (↑c:Int) 4)])∧EqA b h (El.fn fun(c:Nat)↦[SV.i .i64 (leftK e R a d (↑c:Int) 3)]) (El.fn fun(c:Nat)↦[SV.i .i64 (leftK e R a d (↑c:Int) 3)])∧EqA (b+(1:Nat)) h (behind b (El.fn fun(c:Nat)↦[SV.i .i64 (leftK e R a d (↑c:Int) 2)]) 1 (litEl (symL [SV.i .i64 (min (max (wishK R_4 l d (Int.ofNat 1) (↑b:Int) l.length) (min (max (wishK R_3 i d (0:Int) (↑b:Int) i.length) (0:Int)) e)) e)]) 1 1)) (El.fn fun(c:Nat)↦[SV.i .i64 (leftK e R a d (↑c:Int) 2)])∧EqA (b+(1:Nat)) h (behind b (El.fn fun(c:Nat)↦[SV.i .i64 (leftK e R a d (↑c:Int) 1)]) 1 (litEl (symL [SV.i .i64 (min (max (wishK R_3 i d (0:Int) (↑b:Int) i.length) (0:Int)) e)]) 1 1)) (El.fn fun(c:Nat)↦[SV.i .i64 (leftK e R a d (↑c:Int) 1)])∧Ob (b+(1:Nat)=h)∧Ob (b+(1:Nat)=h)∧Ob (b=h)∧Ob (b=h)∧Ob (e=e)∧Ob (g=g)∧Ob (m=m)∧Ob (SV.lst j R.length 1 (llElem [.i64] ys R)=SV.lst j R.length 1 (llElem [.i64] ys R))∧Ob (SV.lst k a.length 6 (Rv.elemOf I6 a)=SV.lst k a.length 6 (Rv.elemOf I6 a))∧Ob (PlainE h (El.fn fun(c:Nat)↦[SV.i .i64 (leftK e R a d (↑c:Int) 4)]))∧Ob (PlainE h (El.fn fun(c:Nat)↦[SV.i .i64 (leftK e R a d (↑c:Int) 3)]))∧Ob (PlainE h (El.fn fun(c:Nat)↦[SV.i .i64 (leftK e R a d (↑c:Int) 2)]))∧Ob (PlainE h (El.fn fun(c:Nat)↦[SV.i .i64 (leftK e R a d (↑c:Int) 1)]))∧Ob (IsLst B' j R.length 1 (llElem [.i64] ys R))∧Ob (IsLst B' k a.length 6 (Rv.elemOf I6 a))∧True))∧(¬Int.ofNat 1 < (↑R.length:Int)→Ob (InR .i64 ((↑b:Int)+(1:Int)))∧∃(h:Nat),Ob ((↑h:Int)≤g∧g.toNat-h < g.toNat-b)∧Ob (d=d)∧Ob (SV.v (Value.slice none 0 0)=SV.v (Value.slice none 0 0))∧Ob (Value.int .i64 (0:Int)=Value.int .i64 (0:Int))∧Ob (g=g)∧Ob ((↑b:Int)+(1:Int)=(↑h:Int))∧EqA b h (El.fn fun(c:Nat)↦[SV.i .i64 (leftK e R a d (↑c:Int) 4)]) (El.fn fun(c:Nat)↦[SV.i .i64 (leftK e R a d (↑c:Int) 4)])∧EqA b h (El.fn fun(c:Nat)↦[SV.i .i64 (leftK e R a d (↑c:Int) 3)]) (El.fn fun(c:Nat)↦[SV.i .i64 (leftK e R a d (↑c:Int) 3)])∧EqA b h (El.fn fun(c:Nat)↦[SV.i .i64 (leftK e R a d (↑c:Int) 2)]) (El.fn fun(c:Nat)↦[SV.i .i64 (leftK e R a d (↑c:Int) 2)])∧EqA (b+(1:Nat)) h (behind b (El.fn fun(c:Nat)↦[SV.i .i64 (leftK e R a d (↑c:Int) 1)]) 1 (litEl (symL [SV.i .i64 (min (max (wishK R_3 i d (0:Int) (↑b:Int) i.length) (0:Int)) e)]) 1 1)) (El.fn fun(c:Nat)↦[SV.i .i64 (leftK e R a d (↑c:Int) 1)])∧Ob (b+(1:Nat)=h)∧Ob (b=h)∧Ob (b=h)∧Ob (b=h)∧Ob (e=e)∧Ob (g=g)∧Ob (m=m)∧Ob (SV.lst j R.length 1 (llElem [.i64] ys R)=SV.lst j R.length 1 (llElem [.i64] ys R))∧Ob (SV.lst k a.length 6 (Rv.elemOf I6 a)=SV.lst k a.length 6 (Rv.elemOf I6 a))∧Ob (PlainE h (El.fn fun(c:Nat)↦[SV.i .i64 (leftK e R a d (↑c:Int) 4)]))∧Ob (PlainE h (El.fn fun(c:Nat)↦[SV.i .i64 (leftK e R a d (↑c:Int) 3)]))∧Ob (PlainE h (El.fn fun(c:Nat)↦[SV.i .i64 (leftK e R a d (↑c:Int) 2)]))∧Ob (PlainE h (El.fn fun(c:Nat)↦[SV.i .i64 (leftK e R a d (↑c:Int) 1)]))∧Ob (IsLst B' j R.length 1 (llElem [.i64] ys R))∧Ob (IsLst B' k a.length 6 (Rv.elemOf I6 a))∧True))∧(¬(0:Int) < (↑R.length:Int)→Ob (InR .i64 ((↑b:Int)+(1:Int)))∧∃(h:Nat),Ob ((↑h:Int)≤g∧g.toNat-h < g.toNat-b)∧Ob (d=d)∧Ob (SV.v (Value.slice none 0 0)=SV.v (Value.slice none 0 0))∧Ob (Value.int .i64 (0:Int)=Value.int .i64 (0:Int))∧Ob (g=g)∧Ob ((↑b:Int)+(1:Int)=(↑h:Int))∧EqA b h (El.fn fun(c:Nat)↦[SV.i .i64 (leftK e R a d (↑c:Int) 4)]) (El.fn fun(c:Nat)↦[SV.i .i64 (leftK e R a d (↑c:Int) 4)])∧EqA b h (El.fn fun(c:Nat)↦[SV.i .i64 (leftK e R a d (↑c:Int) 3)]) (El.fn fun(c:Nat)↦[SV.i .i64 (leftK e R a d (↑c:Int) 3)])∧EqA b h (El.fn fun(c:Nat)↦[SV.i .i64 (leftK e R a d (↑c:Int) 2)]) (El.fn fun(c:Nat)↦[SV.i .i64 (leftK e R a d (↑c:Int) 2)])∧EqA b h (El.fn fun(c:Nat)↦[SV.i .i64 (leftK e R a d (↑c:Int) 1)]) (El.fn fun(c:Nat)↦[SV.i .i64 (leftK e R a d (↑c:Int) 1)])∧Ob (b=h)∧Ob (b=h)∧Ob (b=h)∧Ob (b=h)∧Ob (e=e)∧Ob (g=g)∧Ob (m=m)∧Ob (SV.lst j R.length 1 (llElem [.i64] ys R)=SV.lst j R.length 1 (llElem [.i64] ys R))∧Ob (SV.lst k a.length 6 (Rv.elemOf I6 a)=SV.lst k a.length 6 (Rv.elemOf I6 a))∧Ob (PlainE h (El.fn fun(c:Nat)↦[SV.i .i64 (leftK e R a d (↑c:Int) 4)]))∧Ob (PlainE h (El.fn fun(c:Nat)↦[SV.i .i64 (leftK e R a d (↑c:Int) 3)]))∧Ob (PlainE h (El.fn fun(c:Nat)↦[SV.i .i64 (leftK e R a d (↑c:Int) 2)]))∧Ob (PlainE h (El.fn fun(c:Nat)↦[SV.i .i64 (leftK e R a d (↑c:Int) 1)]))∧Ob (IsLst B' j R.length 1 (llElem [.i64] ys R))∧Ob (IsLst B' k a.length 6 (Rv.elemOf I6 a))∧True))∧(¬(↑b:Int) < g→RwA b b 1 [.i64] ((El.fn fun(c:Nat)↦[SV.i .i64 (leftK e R a d (↑c:Int) 1)]).at) fun i=>∀(B'_1:RW),Grow B' B'_1→∀(o:RV),IsLst B'_1 o i.length 1 (Rv.elemOf [.i64] i)→oneB o=true→Ob (PlainE b (El.fn fun(c:Nat)↦[SV.i .i64 (leftK e R a d (↑c:Int) 4)]))∧Ob (PlainE b (El.fn fun(c:Nat)↦[SV.i .i64 (leftK e R a d (↑c:Int) 3)]))∧Ob (PlainE b (El.fn fun(c:Nat)↦[SV.i .i64 (leftK e R a d (↑c:Int) 2)]))∧Ob (b=b)∧Ob (IsLst B' j R.length 1 (llElem [.i64] ys R))∧Ob (IsLst B' k a.length 6 (Rv.elemOf I6 a))∧RwA b b 1 [.i64] ((El.fn fun(c:Nat)↦[SV.i .i64 (leftK e R a d (↑c:Int) 2)]).at) fun l=>∀(B'_2:RW),Grow B'_1 B'_2→∀(p:RV),IsLst B'_2 p l.length 1 (Rv.elemOf [.i64] l)→oneB p=true→Ob (PlainE b (El.fn fun(c:Nat)↦[SV.i .i64 (leftK e R a d (↑c:Int) 4)]))∧Ob (PlainE b (El.fn fun(c:Nat)↦[SV.i .i64 (leftK e R a d (↑c:Int) 3)]))∧Ob (IsLst B'_1 o i.length 1 (Rv.elemOf [.i64] i))∧Ob (b=b)∧Ob (IsLst B'_1 j R.length 1 (llElem [.i64] ys R))∧Ob (IsLst B'_1 k a.length 6 (Rv.elemOf I6 a))∧RwA b b 1 [.i64] ((El.fn fun(c:Nat)↦[SV.i .i64 (leftK e R a d (↑c:Int) 3)]).at) fun n=>∀(B'_3:RW),Grow B'_2 B'_3→∀(t:RV),IsLst B'_3 t n.length 1 (Rv.elemOf [.i64] n)→oneB t=true→Ob (PlainE b (El.fn fun(c:Nat)↦[SV.i .i64 (leftK e R a d (↑c:Int) 4)]))∧Ob (IsLst B'_2 o i.length 1 (Rv.elemOf [.i64] i))∧Ob (IsLst B'_2 p l.length 1 (Rv.elemOf [.i64] l))∧Ob (b=b)∧Ob (IsLst B'_2 j R.length 1 (llElem [.i64] ys R))∧Ob (IsLst B'_2 k a.length 6 (Rv.elemOf I6 a))∧RwA b b 1 [.i64] ((El.fn fun(c:Nat)↦[SV.i .i64 (leftK e R a d (↑c:Int) 4)]).at) fun q=>∀(B'_4:RW),Grow B'_3 B'_4→∀(u:RV),IsLst B'_4 u q.length 1 (Rv.elemOf [.i64] q)→oneB u=true→Ob (IsLst B'_3 o i.length 1 (Rv.elemOf [.i64] i))∧Ob (IsLst B'_3 p l.length 1 (Rv.elemOf [.i64] l))∧Ob (IsLst B'_3 t n.length 1 (Rv.elemOf [.i64] n))∧Ob (b=b)∧Ob (IsLst B'_3 j R.length 1 (llElem [.i64] ys R))∧Ob (IsLst B'_3 k a.length 6 (Rv.elemOf I6 a))∧∃(R_2:List (List (List Int))),∃(ys_2:Nat→RV),Ob (R_2.length=(4:Nat)∧(∀(f:Nat),f < 4→(litEl (symL [SV.lst o i.length 1 (Rv.elemOf [.i64] i),SV.lst p l.length 1 (Rv.elemOf [.i64] l),SV.lst t n.length 1 (Rv.elemOf [.i64] n),SV.lst u q.length 1 (Rv.elemOf [.i64] q)]) 1 4).at f=llElem [.i64] ys_2 R_2 f)∧∀(f:Nat),f < 4→IsLst B'_4 (ys_2 f) (R_2.getD f []).length 1 (Rv.elemOf [.i64] (R_2.getD f []))∧oneB (ys_2 f)=true∧∀(s:List Int),s∈R_2.getD f []→s.length=(1:Nat))∧∀(B'_5:RW),Grow B'_4 B'_5→∀(w:RV),IsLL B'_5 [.i64] w ys_2 R_2→oneB w=true→Ob (IsLst B'_4 j R.length 1 (llElem [.i64] ys R))∧Ob (IsLst B'_4 k a.length 6 (Rv.elemOf I6 a))∧∃(R_3:List (List (List Int))),∃(ys_3:Nat→RV),Ob (R_3.length=R_2.length∧(∀(f:Nat),f < R_2.length→llElem [.i64] ys_2 R_2 f=llElem [.i64] ys_3 R_3 f)∧IsLL B'_5 [.i64] w ys_3 R_3)∧Ob ((0:Int)=(0:Int)∧R_3.length=R.length∧∀(f:Nat),f < R.length→(R_3.getD f []).length=g.toNat∧∀(c:Nat),c < g.toNat→cell (R_3.getD f []) c 0=leftK e R a d (↑c:Int) (f+(1:Nat))))))
set_option linter.unusedSimpArgs false in
set_option maxRecDepth 4000 in
set_option maxHeartbeats 4000000 in
theorem v_Lines:V_Lines:=by
 unfold V_Lines EqA I6 LsA RwA RwB
 intro B W D G x ys L hx hox y C hy hoy hry day ⟨hb,hd⟩
 simp only [Ob_iff,and_true,true_and,implies_true,Classical.not_not,not_true_eq_false]
 have hn:=hb.n
 have hg:=hb.g
 have hD:=hb.d
 refine⟨L,ys,⟨rfl,fun i hi=>rfl,hx⟩,C,⟨hy,rfl,hry,fun i hi=>rfl⟩,⟨hb.mono (by decide) (by decide) (by decide),hd⟩,fun q=>q.elim,fun _=>⟨hx.1,⟨⟨by omega,by omega⟩,by omega⟩,?_⟩⟩
 refine⟨⟨⟨⟨?_,?_⟩,?_⟩,?_⟩,?_⟩
 ·intro hq
  have hq:(L.length:Int)=0:=hq
  have hqn:L.length=0:=by omega
  refine⟨⟨0,by omega,rfl,hx.1,hy⟩,?_⟩
  intro B1 g1 a ha
  have hx:=hx.up g1
  have hy:=hy.up g1
  intros
  refine⟨fun h1=>?_,fun h1=>?_⟩
  ·intro R1 hR1
   refine⟨hx.1,?_⟩
   have i1:InR .i64 ((a:Int)+1):=by simp only [InR]; omega
   have i2:((a+1:Nat):Int)≤D∧D.toNat-(a+1) < D.toNat-a:=by omega
   have i3:(a+1)*2*9≤1099511627776:=by omega
   have i4:(0:Int)≤a:=Int.natCast_nonneg a
   refine⟨fun h=>absurd (show(0:Int) < L.length from h) (by omega),fun _=>⟨i1,a+1,i2,rfl,hx.1,hy⟩⟩
  ·have had:a=D.toNat:=by omega
   refine⟨[],fun _=>x,⟨rfl,fun i hi=>absurd hi (Nat.not_lt_zero _),fun i hi=>absurd hi (Nat.not_lt_zero _)⟩,?_⟩
   intro B9 g9 x9 hx9 hox9
   exact⟨hx.1,hy,[],_,⟨rfl,fun i hi=>rfl,hx9⟩,hqn.symm,fun i hi=>absurd hi (by omega)⟩
 ·intro hq
  have hq:(L.length:Int)=1:=hq
  have hqn:L.length=1:=by omega
  refine⟨⟨0,by omega,rfl,rfl,rfl,plain_f1 _ _,hx.1,hy⟩,?_⟩
  intro B1 g1 a ha
  have hx:=hx.up g1
  have hy:=hy.up g1
  intros
  refine⟨fun h1=>?_,fun h1=>?_⟩
  ·intro R1 hR1
   refine⟨hx.1,?_⟩
   have w0:leftK W L C day (a:Int) 1=min (max (wishK L C day (Int.ofNat 0) (a:Int) C.length) (leftK W L C day (a:Int) 0)) W:=rfl
   have v0:(min (max (wishK L C day (0:Int) (a:Int) C.length) (0:Int)) W)=(fun(y:Nat)=>leftK W L C day (y:Int) 1) a:=by
    rfl
   have i1:InR .i64 ((a:Int)+1):=by simp only [InR]; omega
   have i2:((a+1:Nat):Int)≤D∧D.toNat-(a+1) < D.toNat-a:=by omega
   have i3:(a+1)*2*9≤1099511627776:=by omega
   have i4:(0:Int)≤a:=Int.natCast_nonneg a
   refine⟨fun _=>?_,fun h=>absurd (show(0:Int) < L.length by omega) h⟩
   refine⟨hx.1,hy,L,ys,⟨rfl,fun i hi=>rfl,hx⟩,C,⟨hy,rfl,hry,fun i hi=>rfl⟩,⟨hb.mono (by decide) (by decide) (by decide),⟨hd.1,Int.le_trans hd.2 (by decide)⟩,⟨by decide,show(0:Int) < L.length by omega⟩,i4,h1⟩,fun i hi=>rfl,i3,plain_snoc v0,?_⟩
   refine⟨fun h=>absurd (show(1:Int) < L.length from h) (by omega),fun _=>⟨i1,a+1,i2,rfl,⟨rfl,f1_snoc v0⟩,rfl,plain_f1 _ _,hx.1,hy⟩⟩
  ·have had:a=D.toNat:=by omega
   refine⟨colL W L C day 1 a,⟨colL_len,colL_row,fun i hi=>colL_el hi⟩,?_⟩
   intro B2 g2 x2 hx2 hox2
   refine⟨hx.1,hy,?_⟩
   have hx:=hx.up g2
   have hy:=hy.up g2
   refine⟨[colL W L C day 1 a],fun i=>match i with  | _=>x2,⟨rfl,?_,?_⟩,?_⟩
   ·intro i hi
    match i,hi with
    | 0,_=>rfl
   ·intro i hi
    match i,hi with
    | 0,_=>exact⟨hx2,hox2,colL_row⟩
   intro B9 g9 x9 hx9 hox9
   refine⟨hx.1,hy,[colL W L C day 1 a],_,⟨rfl,fun i hi=>rfl,hx9⟩,hqn.symm,fun i hi=>?_⟩
   rw [hqn]at hi
   match i,hi with
   | 0,_=>exact⟨colL_len.trans had,fun y hy=>colL_cell (by omega)⟩
 ·intro hq
  have hq:(L.length:Int)=2:=hq
  have hqn:L.length=2:=by omega
  refine⟨⟨0,by omega,rfl,rfl,rfl,rfl,rfl,plain_f1 _ _,plain_f1 _ _,hx.1,hy⟩,?_⟩
  intro B1 g1 a ha
  have hx:=hx.up g1
  have hy:=hy.up g1
  intros
  refine⟨fun h1=>?_,fun h1=>?_⟩
  ·intro R1 hR1
   refine⟨hx.1,?_⟩
   have w0:leftK W L C day (a:Int) 1=min (max (wishK L C day (Int.ofNat 0) (a:Int) C.length) (leftK W L C day (a:Int) 0)) W:=rfl
   have w1:leftK W L C day (a:Int) 2=min (max (wishK L C day (Int.ofNat 1) (a:Int) C.length) (leftK W L C day (a:Int) 1)) W:=rfl
   have v0:(min (max (wishK L C day (0:Int) (a:Int) C.length) (0:Int)) W)=(fun(y:Nat)=>leftK W L C day (y:Int) 1) a:=by
    rfl
   have v1:(min (max (wishK L C day (Int.ofNat 1) (a:Int) C.length) (min (max (wishK L C day (0:Int) (a:Int) C.length) (0:Int)) W)) W)=(fun(y:Nat)=>leftK W L C day (y:Int) 2) a:=by
    rfl
   have i1:InR .i64 ((a:Int)+1):=by simp only [InR]; omega
   have i2:((a+1:Nat):Int)≤D∧D.toNat-(a+1) < D.toNat-a:=by omega
   have i3:(a+1)*2*9≤1099511627776:=by omega
   have i4:(0:Int)≤a:=Int.natCast_nonneg a
   refine⟨fun _=>?_,fun h=>absurd (show(0:Int) < L.length by omega) h⟩
   refine⟨hx.1,hy,L,ys,⟨rfl,fun i hi=>rfl,hx⟩,C,⟨hy,rfl,hry,fun i hi=>rfl⟩,⟨hb.mono (by decide) (by decide) (by decide),⟨hd.1,Int.le_trans hd.2 (by decide)⟩,⟨by decide,show(0:Int) < L.length by omega⟩,i4,h1⟩,fun i hi=>rfl,i3,plain_snoc v0,?_⟩
   refine⟨fun _=>?_,fun h=>absurd (show(1:Int) < L.length by omega) h⟩
   refine⟨hx.1,hy,L,ys,⟨rfl,fun i hi=>rfl,hx⟩,C,⟨hy,rfl,hry,fun i hi=>rfl⟩,⟨hb.mono (by decide) (by decide) (by decide),⟨hd.1,Int.le_trans hd.2 (by decide)⟩,⟨by decide,show(1:Int) < L.length by omega⟩,i4,h1⟩,fun i hi=>rfl,i3,plain_snoc v1,?_⟩
   refine⟨fun h=>absurd (show(2:Int) < L.length from h) (by omega),fun _=>⟨i1,a+1,i2,rfl,⟨rfl,f1_snoc v1⟩,⟨rfl,f1_snoc v0⟩,rfl,rfl,plain_f1 _ _,plain_f1 _ _,hx.1,hy⟩⟩
  ·have had:a=D.toNat:=by omega
   refine⟨colL W L C day 1 a,⟨colL_len,colL_row,fun i hi=>colL_el hi⟩,?_⟩
   intro B2 g2 x2 hx2 hox2
   refine⟨plain_f1 _ _,hx.1,hy,?_⟩
   have hx:=hx.up g2
   have hy:=hy.up g2
   refine⟨colL W L C day 2 a,⟨colL_len,colL_row,fun i hi=>colL_el hi⟩,?_⟩
   intro B3 g3 x3 hx3 hox3
   refine⟨hx2,hx.1,hy,?_⟩
   have hx2:=hx2.up g3
   have hx:=hx.up g3
   have hy:=hy.up g3
   refine⟨[colL W L C day 1 a,colL W L C day 2 a],fun i=>match i with | 0=>x2 | _=>x3,⟨rfl,?_,?_⟩,?_⟩
   ·intro i hi
    match i,hi with
    | 0,_=>rfl
    | 1,_=>rfl
   ·intro i hi
    match i,hi with
    | 0,_=>exact⟨hx2,hox2,colL_row⟩
    | 1,_=>exact⟨hx3,hox3,colL_row⟩
   intro B9 g9 x9 hx9 hox9
   refine⟨hx.1,hy,[colL W L C day 1 a,colL W L C day 2 a],_,⟨rfl,fun i hi=>rfl,hx9⟩,hqn.symm,fun i hi=>?_⟩
   rw [hqn]at hi
   match i,hi with
   | 0,_=>exact⟨colL_len.trans had,fun y hy=>colL_cell (by omega)⟩
   | 1,_=>exact⟨colL_len.trans had,fun y hy=>colL_cell (by omega)⟩
 ·intro hq
  have hq:(L.length:Int)=3:=hq
  have hqn:L.length=3:=by omega
  refine⟨⟨0,by omega,rfl,rfl,rfl,rfl,rfl,rfl,rfl,plain_f1 _ _,plain_f1 _ _,plain_f1 _ _,hx.1,hy⟩,?_⟩
  intro B1 g1 a ha
  have hx:=hx.up g1
  have hy:=hy.up g1
  intros
  refine⟨fun h1=>?_,fun h1=>?_⟩
  ·intro R1 hR1
   refine⟨hx.1,?_⟩
   have w0:leftK W L C day (a:Int) 1=min (max (wishK L C day (Int.ofNat 0) (a:Int) C.length) (leftK W L C day (a:Int) 0)) W:=rfl
   have w1:leftK W L C day (a:Int) 2=min (max (wishK L C day (Int.ofNat 1) (a:Int) C.length) (leftK W L C day (a:Int) 1)) W:=rfl
   have w2:leftK W L C day (a:Int) 3=min (max (wishK L C day (Int.ofNat 2) (a:Int) C.length) (leftK W L C day (a:Int) 2)) W:=rfl
   have v0:(min (max (wishK L C day (0:Int) (a:Int) C.length) (0:Int)) W)=(fun(y:Nat)=>leftK W L C day (y:Int) 1) a:=by
    rfl
   have v1:(min (max (wishK L C day (Int.ofNat 1) (a:Int) C.length) (min (max (wishK L C day (0:Int) (a:Int) C.length) (0:Int)) W)) W)=(fun(y:Nat)=>leftK W L C day (y:Int) 2) a:=by
    rfl
   have v2:(min (max (wishK L C day (Int.ofNat 2) (a:Int) C.length) (min (max (wishK L C day (Int.ofNat 1) (a:Int) C.length) (min (max (wishK L C day (0:Int) (a:Int) C.length) (0:Int)) W)) W)) W)=(fun(y:Nat)=>leftK W L C day (y:Int) 3) a:=by
    rfl
   have i1:InR .i64 ((a:Int)+1):=by simp only [InR]; omega
   have i2:((a+1:Nat):Int)≤D∧D.toNat-(a+1) < D.toNat-a:=by omega
   have i3:(a+1)*2*9≤1099511627776:=by omega
   have i4:(0:Int)≤a:=Int.natCast_nonneg a
   refine⟨fun _=>?_,fun h=>absurd (show(0:Int) < L.length by omega) h⟩
   refine⟨hx.1,hy,L,ys,⟨rfl,fun i hi=>rfl,hx⟩,C,⟨hy,rfl,hry,fun i hi=>rfl⟩,⟨hb.mono (by decide) (by decide) (by decide),⟨hd.1,Int.le_trans hd.2 (by decide)⟩,⟨by decide,show(0:Int) < L.length by omega⟩,i4,h1⟩,fun i hi=>rfl,i3,plain_snoc v0,?_⟩
   refine⟨fun _=>?_,fun h=>absurd (show(1:Int) < L.length by omega) h⟩
   refine⟨hx.1,hy,L,ys,⟨rfl,fun i hi=>rfl,hx⟩,C,⟨hy,rfl,hry,fun i hi=>rfl⟩,⟨hb.mono (by decide) (by decide) (by decide),⟨hd.1,Int.le_trans hd.2 (by decide)⟩,⟨by decide,show(1:Int) < L.length by omega⟩,i4,h1⟩,fun i hi=>rfl,i3,plain_snoc v1,?_⟩
   refine⟨fun _=>?_,fun h=>absurd (show(2:Int) < L.length by omega) h⟩
   refine⟨hx.1,hy,L,ys,⟨rfl,fun i hi=>rfl,hx⟩,C,⟨hy,rfl,hry,fun i hi=>rfl⟩,⟨hb.mono (by decide) (by decide) (by decide),⟨hd.1,Int.le_trans hd.2 (by decide)⟩,⟨by decide,show(2:Int) < L.length by omega⟩,i4,h1⟩,fun i hi=>rfl,i3,plain_snoc v2,?_⟩
   refine⟨fun h=>absurd (show(3:Int) < L.length from h) (by omega),fun _=>⟨i1,a+1,i2,rfl,⟨rfl,f1_snoc v2⟩,⟨rfl,f1_snoc v1⟩,⟨rfl,f1_snoc v0⟩,rfl,rfl,rfl,plain_f1 _ _,plain_f1 _ _,plain_f1 _ _,hx.1,hy⟩⟩
  ·have had:a=D.toNat:=by omega
   refine⟨colL W L C day 1 a,⟨colL_len,colL_row,fun i hi=>colL_el hi⟩,?_⟩
   intro B2 g2 x2 hx2 hox2
   refine⟨plain_f1 _ _,plain_f1 _ _,hx.1,hy,?_⟩
   have hx:=hx.up g2
   have hy:=hy.up g2
   refine⟨colL W L C day 2 a,⟨colL_len,colL_row,fun i hi=>colL_el hi⟩,?_⟩
   intro B3 g3 x3 hx3 hox3
   refine⟨plain_f1 _ _,hx2,hx.1,hy,?_⟩
   have hx2:=hx2.up g3
   have hx:=hx.up g3
   have hy:=hy.up g3
   refine⟨colL W L C day 3 a,⟨colL_len,colL_row,fun i hi=>colL_el hi⟩,?_⟩
   intro B4 g4 x4 hx4 hox4
   refine⟨hx2,hx3,hx.1,hy,?_⟩
   have hx2:=hx2.up g4
   have hx3:=hx3.up g4
   have hx:=hx.up g4
   have hy:=hy.up g4
   refine⟨[colL W L C day 1 a,colL W L C day 2 a,colL W L C day 3 a],fun i=>match i with | 0=>x2 | 1=>x3 | _=>x4,⟨rfl,?_,?_⟩,?_⟩
   ·intro i hi
    match i,hi with
    | 0,_=>rfl
    | 1,_=>rfl
    | 2,_=>rfl
   ·intro i hi
    match i,hi with
    | 0,_=>exact⟨hx2,hox2,colL_row⟩
    | 1,_=>exact⟨hx3,hox3,colL_row⟩
    | 2,_=>exact⟨hx4,hox4,colL_row⟩
   intro B9 g9 x9 hx9 hox9
   refine⟨hx.1,hy,[colL W L C day 1 a,colL W L C day 2 a,colL W L C day 3 a],_,⟨rfl,fun i hi=>rfl,hx9⟩,hqn.symm,fun i hi=>?_⟩
   rw [hqn]at hi
   match i,hi with
   | 0,_=>exact⟨colL_len.trans had,fun y hy=>colL_cell (by omega)⟩
   | 1,_=>exact⟨colL_len.trans had,fun y hy=>colL_cell (by omega)⟩
   | 2,_=>exact⟨colL_len.trans had,fun y hy=>colL_cell (by omega)⟩
 ·intro hq
  have hq:(L.length:Int)=4:=hq
  have hqn:L.length=4:=by omega
  refine⟨⟨0,by omega,rfl,rfl,rfl,rfl,rfl,rfl,rfl,rfl,rfl,plain_f1 _ _,plain_f1 _ _,plain_f1 _ _,plain_f1 _ _,hx.1,hy⟩,?_⟩
  intro B1 g1 a ha
  have hx:=hx.up g1
  have hy:=hy.up g1
  intros
  refine⟨fun h1=>?_,fun h1=>?_⟩
  ·intro R1 hR1
   refine⟨hx.1,?_⟩
   have w0:leftK W L C day (a:Int) 1=min (max (wishK L C day (Int.ofNat 0) (a:Int) C.length) (leftK W L C day (a:Int) 0)) W:=rfl
   have w1:leftK W L C day (a:Int) 2=min (max (wishK L C day (Int.ofNat 1) (a:Int) C.length) (leftK W L C day (a:Int) 1)) W:=rfl
   have w2:leftK W L C day (a:Int) 3=min (max (wishK L C day (Int.ofNat 2) (a:Int) C.length) (leftK W L C day (a:Int) 2)) W:=rfl
   have w3:leftK W L C day (a:Int) 4=min (max (wishK L C day (Int.ofNat 3) (a:Int) C.length) (leftK W L C day (a:Int) 3)) W:=rfl
   have v0:(min (max (wishK L C day (0:Int) (a:Int) C.length) (0:Int)) W)=(fun(y:Nat)=>leftK W L C day (y:Int) 1) a:=by
    rfl
   have v1:(min (max (wishK L C day (Int.ofNat 1) (a:Int) C.length) (min (max (wishK L C day (0:Int) (a:Int) C.length) (0:Int)) W)) W)=(fun(y:Nat)=>leftK W L C day (y:Int) 2) a:=by
    rfl
   have v2:(min (max (wishK L C day (Int.ofNat 2) (a:Int) C.length) (min (max (wishK L C day (Int.ofNat 1) (a:Int) C.length) (min (max (wishK L C day (0:Int) (a:Int) C.length) (0:Int)) W)) W)) W)=(fun(y:Nat)=>leftK W L C day (y:Int) 3) a:=by
    rfl
   have v3:(min (max (wishK L C day (Int.ofNat 3) (a:Int) C.length) (min (max (wishK L C day (Int.ofNat 2) (a:Int) C.length) (min (max (wishK L C day (Int.ofNat 1) (a:Int) C.length) (min (max (wishK L C day (0:Int) (a:Int) C.length) (0:Int)) W)) W)) W)) W)=(fun(y:Nat)=>leftK W L C day (y:Int) 4) a:=by
    rfl
   have i1:InR .i64 ((a:Int)+1):=by simp only [InR]; omega
   have i2:((a+1:Nat):Int)≤D∧D.toNat-(a+1) < D.toNat-a:=by omega
   have i3:(a+1)*2*9≤1099511627776:=by omega
   have i4:(0:Int)≤a:=Int.natCast_nonneg a
   refine⟨fun _=>?_,fun h=>absurd (show(0:Int) < L.length by omega) h⟩
   refine⟨hx.1,hy,L,ys,⟨rfl,fun i hi=>rfl,hx⟩,C,⟨hy,rfl,hry,fun i hi=>rfl⟩,⟨hb.mono (by decide) (by decide) (by decide),⟨hd.1,Int.le_trans hd.2 (by decide)⟩,⟨by decide,show(0:Int) < L.length by omega⟩,i4,h1⟩,fun i hi=>rfl,i3,plain_snoc v0,?_⟩
   refine⟨fun _=>?_,fun h=>absurd (show(1:Int) < L.length by omega) h⟩
   refine⟨hx.1,hy,L,ys,⟨rfl,fun i hi=>rfl,hx⟩,C,⟨hy,rfl,hry,fun i hi=>rfl⟩,⟨hb.mono (by decide) (by decide) (by decide),⟨hd.1,Int.le_trans hd.2 (by decide)⟩,⟨by decide,show(1:Int) < L.length by omega⟩,i4,h1⟩,fun i hi=>rfl,i3,plain_snoc v1,?_⟩
   refine⟨fun _=>?_,fun h=>absurd (show(2:Int) < L.length by omega) h⟩
   refine⟨hx.1,hy,L,ys,⟨rfl,fun i hi=>rfl,hx⟩,C,⟨hy,rfl,hry,fun i hi=>rfl⟩,⟨hb.mono (by decide) (by decide) (by decide),⟨hd.1,Int.le_trans hd.2 (by decide)⟩,⟨by decide,show(2:Int) < L.length by omega⟩,i4,h1⟩,fun i hi=>rfl,i3,plain_snoc v2,?_⟩
   refine⟨fun _=>?_,fun h=>absurd (show(3:Int) < L.length by omega) h⟩
   refine⟨hx.1,hy,L,ys,⟨rfl,fun i hi=>rfl,hx⟩,C,⟨hy,rfl,hry,fun i hi=>rfl⟩,⟨hb.mono (by decide) (by decide) (by decide),⟨hd.1,Int.le_trans hd.2 (by decide)⟩,⟨by decide,show(3:Int) < L.length by omega⟩,i4,h1⟩,fun i hi=>rfl,i3,plain_snoc v3,?_⟩
   refine⟨fun h=>absurd (show(4:Int) < L.length from h) (by omega),fun _=>⟨i1,a+1,i2,rfl,⟨rfl,f1_snoc v3⟩,⟨rfl,f1_snoc v2⟩,⟨rfl,f1_snoc v1⟩,⟨rfl,f1_snoc v0⟩,rfl,rfl,rfl,rfl,plain_f1 _ _,plain_f1 _ _,plain_f1 _ _,plain_f1 _ _,hx.1,hy⟩⟩
  ·have had:a=D.toNat:=by omega
   refine⟨colL W L C day 1 a,⟨colL_len,colL_row,fun i hi=>colL_el hi⟩,?_⟩
   intro B2 g2 x2 hx2 hox2
   refine⟨plain_f1 _ _,plain_f1 _ _,plain_f1 _ _,hx.1,hy,?_⟩
   have hx:=hx.up g2
   have hy:=hy.up g2
   refine⟨colL W L C day 2 a,⟨colL_len,colL_row,fun i hi=>colL_el hi⟩,?_⟩
   intro B3 g3 x3 hx3 hox3
   refine⟨plain_f1 _ _,plain_f1 _ _,hx2,hx.1,hy,?_⟩
   have hx2:=hx2.up g3
   have hx:=hx.up g3
   have hy:=hy.up g3
   refine⟨colL W L C day 3 a,⟨colL_len,colL_row,fun i hi=>colL_el hi⟩,?_⟩
   intro B4 g4 x4 hx4 hox4
   refine⟨plain_f1 _ _,hx2,hx3,hx.1,hy,?_⟩
   have hx2:=hx2.up g4
   have hx3:=hx3.up g4
   have hx:=hx.up g4
   have hy:=hy.up g4
   refine⟨colL W L C day 4 a,⟨colL_len,colL_row,fun i hi=>colL_el hi⟩,?_⟩
   intro B5 g5 x5 hx5 hox5
   refine⟨hx2,hx3,hx4,hx.1,hy,?_⟩
   have hx2:=hx2.up g5
   have hx3:=hx3.up g5
   have hx4:=hx4.up g5
   have hx:=hx.up g5
   have hy:=hy.up g5
   refine⟨[colL W L C day 1 a,colL W L C day 2 a,colL W L C day 3 a,colL W L C day 4 a],fun i=>match i with | 0=>x2 | 1=>x3 | 2=>x4 | _=>x5,⟨rfl,?_,?_⟩,?_⟩
   ·intro i hi
    match i,hi with
    | 0,_=>rfl
    | 1,_=>rfl
    | 2,_=>rfl
    | 3,_=>rfl
   ·intro i hi
    match i,hi with
    | 0,_=>exact⟨hx2,hox2,colL_row⟩
    | 1,_=>exact⟨hx3,hox3,colL_row⟩
    | 2,_=>exact⟨hx4,hox4,colL_row⟩
    | 3,_=>exact⟨hx5,hox5,colL_row⟩
   intro B9 g9 x9 hx9 hox9
   refine⟨hx.1,hy,[colL W L C day 1 a,colL W L C day 2 a,colL W L C day 3 a,colL W L C day 4 a],_,⟨rfl,fun i hi=>rfl,hx9⟩,hqn.symm,fun i hi=>?_⟩
   rw [hqn]at hi
   match i,hi with
   | 0,_=>exact⟨colL_len.trans had,fun y hy=>colL_cell (by omega)⟩
   | 1,_=>exact⟨colL_len.trans had,fun y hy=>colL_cell (by omega)⟩
   | 2,_=>exact⟨colL_len.trans had,fun y hy=>colL_cell (by omega)⟩
   | 3,_=>exact⟨colL_len.trans had,fun y hy=>colL_cell (by omega)⟩
theorem e_Lines:V_Lines=needGI P [F_checkDay,F_wish] [] [] I_Lines A_Lines F_Lines:=by kernel_rfl
theorem n_Lines:Ob (needGI P [F_checkDay,F_wish] [] [] I_Lines A_Lines F_Lines):=by
 rw [← e_Lines]
 exact⟨v_Lines⟩
theorem b_Lines:((P.funcs[8]?).any fun fn=>fn.body.isSome)=true:=by kernel_rfl
theorem Lines_ok:FnG.Ok P F_Lines:=FnG.okI named (l:=[F_checkDay,F_wish]) (es:=[]) (gs:=[]) (I:=I_Lines) (A:=A_Lines) (by rfl) (by rfl) (by rfl) (by
 intro F h
 simp only [List.mem_cons,List.not_mem_nil,or_false]at h
 rcases h with rfl | rfl
 ·exact checkDay_ok
 ·exact wish_ok
) (by
 intro F h; simp at h) (by
 intro F h; simp at h) b_Lines rfl n_Lines
end Go.Proofs.Ytcdifnheflhbmaa.Sy
