import Derived.Test.YtcdifnheflhbmaaSyP4
import Derived.Test.YtcdifnheflhbmaaGrM
import Derived.Test.YtcdifnheflhbmaaStM
import Derived.Test.YtcdifnheflhbmaaKtT
import Derived.Test.YtcdifnheflhbmaaSyP2
import Derived.Test.YtcdifnheflhbmaaKbA
import Derived.Test.YtcdifnheflhbmaaKbB
import Derived.Test.YtcdifnheflhbmaaKbC
import Derived.Test.YtcdifnheflhbmaaKbD
import Derived.Test.YtcdifnheflhbmaaKbE
import Derived.KernelRfl
import Derived.Test.YtcdifnheflhbmaaProg
namespace Go.Proofs.Ytcdifnheflhbmaa.Sy
open Go Go.Rv
set_option linter.unusedVariables false
noncomputable def cntH (W:Int) (L:List Rows) (C:Rows) (day a row:Int):Nat→Nat→Int
 | 0,_=>0
 | n+1,k=>cntH W L C day a row n k+if k=hold W L C (a+n) row day then 1 else 0
def verd (so all:Int):Int:=if so=all then 1 else if so=0 then 2 else 3
noncomputable def whrR (W:Int) (L:List Rows) (C:Rows) (day a b row:Int) (k:Nat):Int:=verd (cntH W L C day a row (b-a+1).toNat k) (b-a+1)
noncomputable def whrL (W:Int) (L:List Rows) (C:Rows) (day a b row:Int) (j:Nat) (k:Nat):Int:=if k < j then whrR W L C day a b row k else 0
theorem cntH_nn {W:Int} {L:List Rows} {C:Rows} {day a row:Int}:∀n k,0≤cntH W L C day a row n k∧cntH W L C day a row n k≤n
 | 0,k=>⟨Int.le_refl _,Int.le_refl _⟩
 | n+1,k=>by
  have ih:=cntH_nn (W:=W) (L:=L) (C:=C) (day:=day) (a:=a) (row:=row) n k
  rw [cntH]
  split<;>omega
theorem plain_fn1 (n:Nat) (f:Nat→Int):PlainE n (.fn fun i=>[SV.i .i64 (f i)]):=by
 intro i _ y hy
 simp only [El.at,List.mem_cons,List.not_mem_nil,or_false]at hy
 subst hy
 trivial
theorem upd_one {f:Nat→Int} {p k:Nat} {z:Int}:(updL (El.fn fun k=>[SV.i .i64 (f k)]) p 0 [SV.i .i64 z]).at k=[SV.i .i64 (if k=p then z else f k)]:=by
 simp only [updL,El.at]
 by_cases h:k=p
 ·subst h; simp
 ·simp [h]
theorem upd_cnt {W:Int} {L:List Rows} {C:Rows} {day a row:Int} {k p:Nat} (e:p=holdK W L C day (a+k) row L.length) (i:Nat):(updL (El.fn fun i=>[SV.i .i64 (cntH W L C day a row k i)]) p 0 [SV.i .i64 (cntH W L C day a row k p+1)]).at i=(El.fn fun i=>[SV.i .i64 (cntH W L C day a row (k+1) i)]).at i:=by
 rw [upd_one]
 show _=[SV.i .i64 (cntH W L C day a row k i+if i=hold W L C (a+k) row day then 1 else 0)]
 have ch:hold W L C (a+k) row day=p:=e.symm
 rw [ch]
 by_cases h:i=p
 ·rw [if_pos h,if_pos h,h]
 ·rw [if_neg h,if_neg h,Int.add_zero]
theorem upd_whr {W:Int} {L:List Rows} {C:Rows} {day a b row:Int} {j:Nat} (i:Nat):(updL (El.fn fun i=>[SV.i .i64 (whrL W L C day a b row j i)]) j 0 [SV.i .i64 (verd (cntH W L C day a row (b-a+1).toNat j) (b-a+1))]).at i=(El.fn fun i=>[SV.i .i64 (whrL W L C day a b row (j+1) i)]).at i:=by
 rw [upd_one]
 show _=[SV.i .i64 (whrL W L C day a b row (j+1) i)]
 rw [whrL,whrL,whrR]
 by_cases h:i=j
 ·rw [if_pos h,if_pos (by omega),h]
 ·rw [if_neg h]
  by_cases h2:i < j
  ·rw [if_pos h2,if_pos (by omega)]
  ·rw [if_neg h2,if_neg (by omega)]
noncomputable def F_verdict:Fn0:=⟨26,[i64,i64],fun _=>True,fun l=>match l with | [.z so,.z all]=>.i .i64 (verd so all) | _=>.v undef⟩
noncomputable def A_verdict:List SV→List Dat→Nat→List SV→Ann:=fun _ _ _ _=>noAnn
def V_verdict:Prop:=
 ∀(B:RW) (a b:Int),True→(a=b→Ob ((1:Int)=verd a b)∧True)∧(¬a=b→(a=(0:Int)→Ob ((2:Int)=verd a b)∧True)∧(¬a=(0:Int)→Ob ((3:Int)=verd a b)∧True))
set_option linter.unusedSimpArgs false in
set_option maxRecDepth 4000 in
set_option maxHeartbeats 400000 in
theorem v_verdict:V_verdict:=by
 unfold V_verdict
 intro B so all _
 simp only [Ob_iff,and_true,true_and]
 unfold verd
 refine⟨fun h=>?_,fun h=>⟨fun h2=>?_,fun h2=>?_⟩⟩
 ·rw [if_pos h]
 ·rw [if_neg h,if_pos h2]
 ·rw [if_neg h,if_neg h2]
theorem e_verdict:V_verdict=needF P [] A_verdict F_verdict:=by kernel_rfl
theorem n_verdict:Ob (needF P [] A_verdict F_verdict):=by
 rw [← e_verdict]
 exact⟨v_verdict⟩
theorem b_verdict:((P.funcs[26]?).any fun fn=>fn.body.isSome)=true:=by kernel_rfl
theorem verdict_ok:Fn0.Ok P F_verdict:=Fn0.ok named (l:=[]) (A:=A_verdict) (by rfl) (by
 intro F h; simp at h) b_verdict (by
 intro ds N
 simp only [F_verdict]
 split<;>rfl) n_verdict
noncomputable def F_Where:FnE:=⟨11,none,[.agg [.i .i64,.i .i64,.i .i64,.ll [.i64],.l [.i64,.i64,.i64,.i64,.i64,.i64]],i64,.agg [.i .i64,.i .i64],i64],fun l=>match l with | [.z W,.z D,.z G,.ll L,.l C,.z day,.z a,.z b,.z row]=>BayOk 40 20 6 W D G L C∧(0≤day∧day≤36499)∧(0≤a∧a≤b∧b < W)∧0≤row∧row < D | _=>False,fun l=>match l with | [.z W,.z D,.z G,.ll L,.l C,.z day,.z a,.z b,.z row]=>[.gsl 0 G.toNat 1 false,.i .i64 0] | _=>[],fun l=>match l with | [.z W,.z D,.z G,.ll L,.l C,.z day,.z a,.z b,.z row]=>[.gr G.toNat 1 (.fn fun i=>[SV.i .i64 (whrR W L C day a b row i)]) .ex false] | _=>[],fun l=>match l with | [.z W,.z D,.z G,.ll L,.l C,.z day,.z a,.z b,.z row]=>[] | _=>[],false,none,none⟩
noncomputable def A_Where:List SV→List Dat→Nat→List SV→Ann:=fun xs ds n ts=>match xs with
 | [.agg [_,_,_,.lst x _ _ xe,.lst y _ _ ye],_,_,_]=>match ds with
  | [.z W,.z D,.z G,.ll L,.l C,.z day,.z a,.z b,.z row]=>match n with
   | 10=>⟨Nat,fun k=>([none,some (SV.i IntKind.i64 day),none,some (SV.i IntKind.i64 row),some (SV.ptr ((0:Nat)) ((0:Nat))),none,some (SV.ptr ((1:Nat)) ((0:Nat))),none,some (SV.v (Value.slice none ((0:Nat)) ((0:Nat)))),some (SV.v (Value.int IntKind.i64 (0:Int))),none,some (SV.gsl ((2:Nat)) G.toNat ((1:Nat)) false),some (.i .i64 (a+k))]++nN 72),fun k=>[.gr G.toNat 1 (.fn fun i=>[SV.i .i64 (cntH W L C day a row k i)]) .ex false,SObj.cells [SV.i IntKind.i64 a,SV.i IntKind.i64 b] Kd.ex,SObj.cells [SV.i IntKind.i64 W,SV.i IntKind.i64 D,SV.i IntKind.i64 G,SV.lst x L.length ((1:Nat)) xe,SV.lst y C.length ((6:Nat)) ye] Kd.ex],fun k=>k≤(b-a+1).toNat,fun k=>(b-a+1).toNat-k,0⟩
   | 15=>⟨Nat,fun k=>([none,none,none,none,none,none,some (SV.ptr ((1:Nat)) ((0:Nat))),none,some (SV.v (Value.slice none ((0:Nat)) ((0:Nat)))),some (SV.v (Value.int IntKind.i64 (0:Int))),none,none,none,some (SV.gsl ((3:Nat)) G.toNat ((1:Nat)) false)]++nN 51++[some (SV.gsl ((2:Nat)) G.toNat ((1:Nat)) false),some (SV.i IntKind.i64 (↑G.toNat:Int)),some (.i .i64 k)]++nN 17),fun k=>[.gr G.toNat 1 (.fn fun i=>[SV.i .i64 (whrL W L C day a b row k i)]) .ex false,.gr G.toNat 1 (.fn fun i=>[SV.i .i64 (cntH W L C day a row (b-a+1).toNat i)]) .ex false,SObj.cells [SV.i IntKind.i64 a,SV.i IntKind.i64 b] Kd.ex,SObj.cells [SV.i IntKind.i64 W,SV.i IntKind.i64 D,SV.i IntKind.i64 G,SV.lst x L.length ((1:Nat)) xe,SV.lst y C.length ((6:Nat)) ye] Kd.ex],fun k=>k≤G.toNat,fun k=>G.toNat-k,0⟩
   | _=>noAnn
  | _=>noAnn
 | _=>noAnn
def V_Where:Prop:=
 ∀(B:RW) (e m a:Int) (k:RV) (ys:Nat→RV) (R:List (List (List Int))),IsLL B [.i64] k ys R→oneB k=true→∀(l:RV) (d:List (List Int)),IsLst B l d.length 6 (Rv.elemOf I6 d)→oneB l=true→(∀row∈d,row.length=6)→∀(g b h f:Int),F_Where.pre ([Dat.z e,Dat.z m,Dat.z a,Dat.ll R,Dat.l d]++([Dat.z g]++([Dat.z b,Dat.z h]++([Dat.z f]++[]))))→∃(R_1:List (List (List Int))),∃(ys_1:Nat→RV),Ob (R_1.length=R.length∧(∀(c:Nat),c < R.length→llElem [.i64] ys R c=llElem [.i64] ys_1 R_1 c)∧IsLL B [.i64] k ys_1 R_1)∧RwB B l d.length 6 I6 d fun p=>Ob (BayOk (40:Int) (20:Int) (6:Int) e m a R_1 p∧(0:Int)≤g∧g≤(36499:Int))∧(¬(0:Int)=(0:Int)→False)∧(¬¬(0:Int)=(0:Int)→∃(R_2:List (List (List Int))),∃(ys_2:Nat→RV),Ob (R_2.length=R.length∧(∀(c:Nat),c < R.length→llElem [.i64] ys R c=llElem [.i64] ys_2 R_2 c)∧IsLL B [.i64] k ys_2 R_2)∧RwB B l d.length 6 I6 d fun q=>Ob True∧(¬¬(((0:Int)≤b∧b < e)∧(0:Int)≤f∧f < m)→∃(R_3:List (List (List Int))),∃(ys_3:Nat→RV),Ob (R_3.length=R.length∧(∀(c:Nat),c < R.length→llElem [.i64] ys R c=llElem [.i64] ys_3 R_3 c)∧IsLL B [.i64] k ys_3 R_3)∧RwB B l d.length 6 I6 d fun r=>Ob True∧(¬(((0:Int)≤h∧h < e)∧(0:Int)≤f∧f < m)→False)∧(¬¬(((0:Int)≤h∧h < e)∧(0:Int)≤f∧f < m)→(h < b→False)∧(¬h < b→Ob (a=a∧(0:Int)≤a∧a.toNat*(9:Nat)≤1099511627776)∧(∃(i:Nat),Ob (i≤(h-b+(1:Int)).toNat)∧Ob (g=g)∧Ob (f=f)∧Ob (SV.v (Value.slice none 0 0)=SV.v (Value.slice none 0 0))∧Ob (Value.int .i64 (0:Int)=Value.int .i64 (0:Int))∧Ob (a.toNat=a.toNat)∧Ob (b=b+(↑i:Int))∧EqA a.toNat a.toNat (El.fn fun(k:Nat)↦symL (List.map SV.v (Value.int .i64 (0:Int)).cells.toList)) (El.fn fun(c:Nat)↦[SV.i .i64 (cntH e R d g b f i c)])∧Ob (b=b)∧Ob (h=h)∧Ob (e=e)∧Ob (m=m)∧Ob (a=a)∧Ob (SV.lst k R.length 1 (llElem [.i64] ys R)=SV.lst k R.length 1 (llElem [.i64] ys R))∧Ob (SV.lst l d.length 6 (Rv.elemOf I6 d)=SV.lst l d.length 6 (Rv.elemOf I6 d))∧Ob (PlainE a.toNat (El.fn fun(c:Nat)↦[SV.i .i64 (cntH e R d g b f i c)]))∧Ob (IsLst B k R.length 1 (llElem [.i64] ys R))∧LsA B l I6 d∧True)∧∀(i:Nat),i≤(h-b+(1:Int)).toNat→∀(_ _ _ _ _ _ _ _ _ _ _ _ _ _ _ _ _ _ _ _ _ _ _ _ _ _ _ _ _ _ _ _ _ _ _ _ _ _ _ _ _ _ _ _ _ _ _ _ _ _ _ _ _ _ _ _ _ _ _ _ _ _ _ _ _ _ _ _ _ _ _ _ _ _ _ _ _:Value),(b+(↑i:Int)≤h→∃(R_4:List (List (List Int))),∃(ys_4:Nat→RV),Ob (R_4.length=R.length∧(∀(c:Nat),c < R.length→llElem [.i64] ys R c=llElem [.i64] ys_4 R_4 c)∧IsLL B [.i64] k ys_4 R_4)∧RwB B l d.length 6 I6 d fun o=>Ob (F_holder.pre ([Dat.z e,Dat.z m,Dat.z a,Dat.ll R_4,Dat.l o]++[Dat.z g,Dat.z (b+(↑i:Int)),Dat.z f]))∧Ob ((0:Int)≤(↑(holdK e R_4 o g (b+(↑i:Int)) f R_4.length):Int)∧(↑(holdK e R_4 o g (b+(↑i:Int)) f R_4.length):Int).toNat < a.toNat)∧Ob ((↑(holdK e R_4 o g (b+(↑i:Int)) f R_4.length):Int).toNat < a.toNat)∧Ob (InR .i64 (cntH e R d g b f i (↑(holdK e R_4 o g (b+(↑i:Int)) f R_4.length):Int).toNat+(1:Int)))∧Ob ((0:Int)≤(↑(holdK e R_4 o g (b+(↑i:Int)) f R_4.length):Int)∧(↑(holdK e R_4 o g (b+(↑i:Int)) f R_4.length):Int).toNat < a.toNat)∧Ob ((↑(holdK e R_4 o g (b+(↑i:Int)) f R_4.length):Int).toNat < a.toNat∧((El.fn fun(c:Nat)↦[SV.i .i64 (cntH e R d g b f i c)]).at (↑(holdK e R_4 o g (b+(↑i:Int)) f R_4.length):Int).toNat).length=(1:Nat))∧Ob (InR .i64 (b+(↑i:Int)+(1:Int)))∧∃(n:Nat),Ob (n≤(h-b+(1:Int)).toNat∧(h-b+(1:Int)).toNat-n < (h-b+(1:Int)).toNat-i)∧Ob (g=g)∧Ob (f=f)∧Ob (SV.v (Value.slice none 0 0)=SV.v (Value.slice none 0 0))∧Ob (Value.int .i64 (0:Int)=Value.int .i64 (0:Int))∧Ob (a.toNat=a.toNat)∧Ob (b+(↑i:Int)+(1:Int)=b+(↑n:Int))∧EqA a.toNat a.toNat (updL (El.fn fun(c:Nat)↦[SV.i .i64 (cntH e R d g b f i c)]) (↑(holdK e R_4 o g (b+(↑i:Int)) f R_4.length):Int).toNat 0 [SV.i .i64 (cntH e R d g b f i (↑(holdK e R_4 o g (b+(↑i:Int)) f R_4.length):Int).toNat+(1:Int))]) (El.fn fun(c:Nat)↦[SV.i .i64 (cntH e R d g b f n c)])∧Ob (b=b)∧Ob (h=h)∧Ob (e=e)∧Ob (m=m)∧Ob (a=a)∧Ob (SV.lst k R.length 1 (llElem [.i64] ys R)=SV.lst k R.length 1 (llElem [.i64] ys R))∧Ob (SV.lst l d.length 6 (Rv.elemOf I6 d)=SV.lst l d.length 6 (Rv.elemOf I6 d))∧Ob (PlainE a.toNat (El.fn fun(c:Nat)↦[SV.i .i64 (cntH e R d g b f n c)]))∧Ob (IsLst B k R.length 1 (llElem [.i64] ys R))∧LsA B l I6 d∧True)∧(¬b+(↑i:Int)≤h→Ob (a=a∧(0:Int)≤a∧a.toNat*(9:Nat)≤1099511627776)∧(∃(j:Nat),Ob (j≤a.toNat)∧Ob (SV.v (Value.slice none 0 0)=SV.v (Value.slice none 0 0))∧Ob (Value.int .i64 (0:Int)=Value.int .i64 (0:Int))∧Ob (a.toNat=a.toNat)∧Ob (a.toNat=a.toNat)∧Ob ((↑a.toNat:Int)=(↑a.toNat:Int))∧Ob ((0:Int)=(↑j:Int))∧EqA a.toNat a.toNat (El.fn fun(k:Nat)↦symL (List.map SV.v (Value.int .i64 (0:Int)).cells.toList)) (El.fn fun(c:Nat)↦[SV.i .i64 (whrL e R d g b h f j c)])∧EqA a.toNat a.toNat (El.fn fun(c:Nat)↦[SV.i .i64 (cntH e R d g b f i c)]) (El.fn fun(c:Nat)↦[SV.i .i64 (cntH e R d g b f (h-b+(1:Int)).toNat c)])∧Ob (b=b)∧Ob (h=h)∧Ob (e=e)∧Ob (m=m)∧Ob (a=a)∧Ob (SV.lst k R.length 1 (llElem [.i64] ys R)=SV.lst k R.length 1 (llElem [.i64] ys R))∧Ob (SV.lst l d.length 6 (Rv.elemOf I6 d)=SV.lst l d.length 6 (Rv.elemOf I6 d))∧Ob (PlainE a.toNat (El.fn fun(c:Nat)↦[SV.i .i64 (whrL e R d g b h f j c)]))∧Ob (PlainE a.toNat (El.fn fun(c:Nat)↦[SV.i .i64 (cntH e R d g b f (h-b+(1:Int)).toNat c)]))∧Ob (IsLst B k R.length 1 (llElem [.i64] ys R))∧LsA B l I6 d∧True)∧∀(j:Nat),j≤a.toNat→∀(_ _ _ _ _ _ _ _ _ _ _ _ _ _ _ _ _ _ _ _ _ _ _ _ _ _ _ _ _ _ _ _ _ _ _ _ _ _ _ _ _ _ _ _ _ _ _ _ _ _ _ _ _ _ _ _ _ _ _ _ _ _ _ _ _ _ _ _ _ _ _ _ _ _ _ _ _ _:Value),((↑j:Int) < (↑a.toNat:Int)→Ob ((0:Int)≤(↑j:Int)∧j < a.toNat)∧Ob (j < a.toNat)∧Ob (InR .i64 (h-b))∧Ob (InR .i64 (h-b+(1:Int)))∧Ob True∧Ob ((0:Int)≤(↑j:Int)∧j < a.toNat)∧Ob (j < a.toNat∧((El.fn fun(c:Nat)↦[SV.i .i64 (whrL e R d g b h f j c)]).at j).length=(1:Nat))∧Ob (InR .i64 ((↑j:Int)+(1:Int)))∧∃(n:Nat),Ob (n≤a.toNat∧a.toNat-n < a.toNat-j)∧Ob (SV.v (Value.slice none 0 0)=SV.v (Value.slice none 0 0))∧Ob (Value.int .i64 (0:Int)=Value.int .i64 (0:Int))∧Ob (a.toNat=a.toNat)∧Ob (a.toNat=a.toNat)∧Ob ((↑a.toNat:Int)=(↑a.toNat:Int))∧Ob ((↑j:Int)+(1:Int)=(↑n:Int))∧EqA a.toNat a.toNat (updL (El.fn fun(c:Nat)↦[SV.i .i64 (whrL e R d g b h f j c)]) j 0 [SV.i .i64 (verd (cntH e R d g b f (h-b+(1:Int)).toNat j) (h-b+(1:Int)))]) (El.fn fun(c:Nat)↦[SV.i .i64 (whrL e R d g b h f n c)])∧EqA a.toNat a.toNat (El.fn fun(c:Nat)↦[SV.i .i64 (cntH e R d g b f (h-b+(1:Int)).toNat c)]) (El.fn fun(c:Nat)↦[SV.i .i64 (cntH e R d g b f (h-b+(1:Int)).toNat c)])∧Ob (b=b)∧Ob (h=h)∧Ob (e=e)∧Ob (m=m)∧Ob (a=a)∧Ob (SV.lst k R.length 1 (llElem [.i64] ys R)=SV.lst k R.length 1 (llElem [.i64] ys R))∧Ob (SV.lst l d.length 6 (Rv.elemOf I6 d)=SV.lst l d.length 6 (Rv.elemOf I6 d))∧Ob (PlainE a.toNat (El.fn fun(c:Nat)↦[SV.i .i64 (whrL e R d g b h f n c)]))∧Ob (PlainE a.toNat (El.fn fun(c:Nat)↦[SV.i .i64 (cntH e R d g b f (h-b+(1:Int)).toNat c)]))∧Ob (IsLst B k R.length 1 (llElem [.i64] ys R))∧LsA B l I6 d∧True)∧(¬(↑j:Int) < (↑a.toNat:Int)→Ob (a.toNat=a.toNat)∧Ob ((0:Int)=(0:Int))∧EqA a.toNat a.toNat (El.fn fun(c:Nat)↦[SV.i .i64 (whrL e R d g b h f j c)]) (El.fn fun(c:Nat)↦[SV.i .i64 (whrR e R d g b h f c)])∧Ob (PlainE a.toNat (El.fn fun(c:Nat)↦[SV.i .i64 (whrR e R d g b h f c)]))∧True)))))∧(¬(((0:Int)≤b∧b < e)∧(0:Int)≤f∧f < m)→False))
set_option linter.unusedSimpArgs false in
set_option maxRecDepth 4000 in
set_option maxHeartbeats 400000 in
theorem v_Where:V_Where:=by
 unfold V_Where EqA I6 LsA RwB
 intro B W D G x ys L hx hox y C hy hoy hry day a b row hpre
 obtain⟨hb,hd,hab,hr⟩:BayOk 40 20 6 W D G L C∧(0≤day∧day≤36499)∧(0≤a∧a≤b∧b < W)∧0≤row∧row < D:=hpre
 simp only [Ob_iff,and_true,true_and,implies_true,Classical.not_not,not_true_eq_false]
 have hn:=hb.n
 have hg:=hb.g
 have hw:=hb.w
 have ca:(0≤a∧a < W)∧0≤row∧row < D:=⟨⟨hab.1,by omega⟩,hr⟩
 have cb:(0≤b∧b < W)∧0≤row∧row < D:=⟨⟨by omega,hab.2.2⟩,hr⟩
 refine⟨L,ys,⟨rfl,fun i hi=>rfl,hx⟩,C,⟨hy,rfl,hry,fun i hi=>rfl⟩,⟨hb,hd⟩,fun q=>q.elim,fun _=>⟨L,ys,⟨rfl,fun i hi=>rfl,hx⟩,C,⟨hy,rfl,hry,fun i hi=>rfl⟩,fun _=>⟨L,ys,⟨rfl,fun i hi=>rfl,hx⟩,C,⟨hy,rfl,hry,fun i hi=>rfl⟩,fun q=>absurd cb q,fun _=>⟨fun q=>absurd q (by omega),fun _=>⟨⟨by omega,by omega⟩,⟨0,Nat.zero_le _,by omega,fun i hi=>rfl,plain_fn1 _ _,hx.1,hy⟩,?_⟩⟩⟩,fun q=>absurd ca q⟩⟩
 intro k hk
 intros
 refine⟨fun h1=>?_,fun h1=>?_⟩
 ·have hh:holdK W L C day (a+k) row L.length≤L.length:=holdK_le _
  have ch:hold W L C (a+k) row day=holdK W L C day (a+k) row L.length:=rfl
  have cn:=(cntH_nn (W:=W) (L:=L) (C:=C) (day:=day) (a:=a) (row:=row) k (holdK W L C day (a+k) row L.length))
  have e:((holdK W L C day (a+k) row L.length:Nat):Int).toNat=holdK W L C day (a+k) row L.length:=Int.toNat_natCast _
  have lt:((holdK W L C day (a+k) row L.length:Nat):Int).toNat < G.toNat:=by rw [e]; omega
  have nn:(0:Int)≤((holdK W L C day (a+k) row L.length:Nat):Int):=Int.natCast_nonneg _
  have i1:InR .i64 (cntH W L C day a row k ((holdK W L C day (a+k) row L.length:Nat):Int).toNat+1):=by
   rw [e]
   simp only [InR]
   omega
  have i2:InR .i64 (a+k+1):=by simp only [InR]; omega
  have hp:BayOk 40 40 40 W D G L C∧(0≤day∧day≤1000000)∧0≤row∧row < D:=⟨hb.mono (by decide) (by decide) (by decide),⟨hd.1,Int.le_trans hd.2 (by decide)⟩,hr⟩
  have i3:k+1≤(b-a+1).toNat∧(b-a+1).toNat-(k+1) < (b-a+1).toNat-k:=by omega
  have i4:a+k+1=a+((k+1:Nat):Int):=by omega
  exact⟨L,ys,⟨rfl,fun i hi=>rfl,hx⟩,C,⟨hy,rfl,hry,fun i hi=>rfl⟩,hp,⟨nn,lt⟩,lt,i1,⟨nn,lt⟩,⟨lt,rfl⟩,i2,k+1,i3,i4,fun i hi=>upd_cnt e i,plain_fn1 _ _,hx.1,hy⟩
 ·have hk2:k=(b-a+1).toNat:=by omega
  refine⟨⟨by omega,by omega⟩,⟨0,Nat.zero_le _,rfl,fun i hi=>?_,fun i hi=>by rw [hk2],plain_fn1 _ _,plain_fn1 _ _,hx.1,hy⟩,?_⟩
  ·show [SV.i .i64 0]=[SV.i .i64 (whrL W L C day a b row 0 i)]
   rw [whrL,if_neg (Nat.not_lt_zero _)]
  ·intro j hj
   intros
   refine⟨fun h2=>?_,fun h2=>?_⟩
   ·have hjl:j < G.toNat:=by omega
    have i0:(0:Int)≤j:=Int.natCast_nonneg j
    have i1:InR .i64 (b-a):=by simp only [InR]; omega
    have i2:InR .i64 (b-a+1):=by simp only [InR]; omega
    have i3:InR .i64 ((j:Int)+1):=by simp only [InR]; omega
    have i4:j+1≤G.toNat∧G.toNat-(j+1) < G.toNat-j:=by omega
    exact⟨⟨i0,hjl⟩,hjl,i1,i2,⟨i0,hjl⟩,⟨hjl,rfl⟩,i3,j+1,i4,rfl,fun i hi=>upd_whr i,plain_fn1 _ _,plain_fn1 _ _,hx.1,hy⟩
   ·have hjl:j=G.toNat:=by omega
    refine⟨fun i hi=>?_,plain_fn1 _ _⟩
    show [SV.i .i64 (whrL W L C day a b row j i)]=[SV.i .i64 (whrR W L C day a b row i)]
    rw [whrL,if_pos (by omega)]
theorem e_Where:V_Where=needE P [F_checkDay,F_isCell,F_verdict] [F_holder] A_Where F_Where:=by kernel_rfl
theorem n_Where:Ob (needE P [F_checkDay,F_isCell,F_verdict] [F_holder] A_Where F_Where):=by
 rw [← e_Where]
 exact⟨v_Where⟩
theorem b_Where:((P.funcs[11]?).any fun fn=>fn.body.isSome)=true:=by kernel_rfl
theorem Where_ok:FnE.Ok P F_Where:=FnE.ok named (l:=[F_checkDay,F_isCell,F_verdict]) (es:=[F_holder]) (A:=A_Where) (by rfl) (by rfl) (by rfl) (by
 intro F h
 simp only [List.mem_cons,List.not_mem_nil,or_false]at h
 rcases h with rfl | rfl | rfl
 ·exact checkDay_ok
 ·exact isCell_ok
 ·exact verdict_ok
) (by
 intro F h
 simp only [List.mem_cons,List.not_mem_nil,or_false]at h
 rcases h with rfl
 ·exact holder_ok
) b_Where (by
 intro ds h o ho n sz e k z he
 subst he
 simp only [F_Where]at ho
 split at ho
 ·simp only [List.mem_cons,List.not_mem_nil,or_false,SObj.gr.injEq]at ho
  obtain⟨rfl,rfl,rfl,rfl,rfl⟩:=ho
  exact plain_fn1 _ _
 ·simp at ho) n_Where
end Go.Proofs.Ytcdifnheflhbmaa.Sy
