import Derived.Test.YtcdifnheflhbmaaSyP4
import Derived.Test.YtcdifnheflhbmaaGrM
import Derived.Test.YtcdifnheflhbmaaStM
import Derived.Test.YtcdifnheflhbmaaKtT
import Derived.Test.YtcdifnheflhbmaaSyP2
import Derived.Test.YtcdifnheflhbmaaKbA
import Derived.KernelRfl
import Derived.Test.YtcdifnheflhbmaaProg
namespace Go.Proofs.Ytcdifnheflhbmaa.Sy
open Go Go.Rv
set_option linter.unusedVariables false
def custHit (C:Rows) (day line row:Int) (k:Nat):Prop:=cell C k 0=line∧(cell C k 1≤row∧row≤cell C k 2)∧cell C k 3≤day.tmod 365∧day.tmod 365≤cell C k 4
noncomputable def wishK (L:List Rows) (C:Rows) (day line row:Int):Nat→Int
 | 0=>lnX L line.toNat row.toNat
 | k+1=>@ite _ (custHit C day line row k) (Classical.propDecidable _) (wishK L C day line row k+cell C k 5) (wishK L C day line row k)
theorem wishK_hit {L:List Rows} {C:Rows} {day line row:Int} {k:Nat} (h:custHit C day line row k):wishK L C day line row (k+1)=wishK L C day line row k+cell C k 5:=if_pos h
theorem wishK_not {L:List Rows} {C:Rows} {day line row:Int} {k:Nat} (h:¬ custHit C day line row k):wishK L C day line row (k+1)=wishK L C day line row k:=if_neg h
theorem wishK_bd {W D G:Int} {L:List Rows} {C:Rows} {day line row:Int} (h:BayOk 40 40 40 W D G L C) (hl:0≤line∧line < L.length) (hr:0≤row∧row < D):∀k,k≤C.length→-40*(k:Int)≤wishK L C day line row k∧wishK L C day line row k≤40*(k:Int)+40
 | 0,_=>by
  have h1:=h.l.nn line.toNat (by omega) row.toNat (by omega)
  have h2:=(h.l.at_ line.toNat (by omega) row.toNat (by omega)).2
  have hw:=h.w
  show _≤lnX L line.toNat row.toNat∧lnX L line.toNat row.toNat≤_
  omega
 | k+1,hk=>by
  have ih:=wishK_bd (day:=day) h hl hr k (by omega)
  have hc:=(h.c.at_ k (by omega)).2.2.2.2.2.2.2.2
  have hw:=h.w
  rcases Classical.em (custHit C day line row k)with q | q
  ·rw [wishK_hit q]; omega
  ·rw [wishK_not q]; omega
noncomputable def F_within:Fn0:=⟨46,[i64,i64,i64],fun _=>True,fun l=>match l with | [.z n,.z a,.z b]=>.p (a≤n∧n≤b) | _=>.v undef⟩
noncomputable def A_within:List SV→List Dat→Nat→List SV→Ann:=fun _ _ _ _=>noAnn
def V_within:Prop:=
 ∀(B:RW) (a b c:Int),True→(b≤a→Ob (a≤c↔b≤a∧a≤c)∧True)∧(¬b≤a→Ob (false=true↔b≤a∧a≤c)∧True)
set_option linter.unusedSimpArgs false in
set_option maxRecDepth 4000 in
set_option maxHeartbeats 400000 in
theorem v_within:V_within:=by
 unfold V_within
 intro B n a b _
 simp only [Ob_iff,and_true]
 exact⟨fun h=>by omega,fun h=>by simp; omega⟩
theorem e_within:V_within=needF P [] A_within F_within:=by kernel_rfl
theorem n_within:Ob (needF P [] A_within F_within):=by
 rw [← e_within]
 exact⟨v_within⟩
theorem b_within:((P.funcs[46]?).any fun fn=>fn.body.isSome)=true:=by kernel_rfl
theorem within_ok:Fn0.Ok P F_within:=Fn0.ok named (l:=[]) (A:=A_within) (by rfl) (by
 intro F h; simp at h) b_within (by
 intro ds N
 simp only [F_within]
 split<;>rfl) n_within
noncomputable def F_isIndex:Fn0:=⟨39,[i64,i64],fun _=>True,fun l=>match l with | [.z n,.z m]=>.p (0≤n∧n < m) | _=>.v undef⟩
noncomputable def A_isIndex:List SV→List Dat→Nat→List SV→Ann:=fun _ _ _ _=>noAnn
def V_isIndex:Prop:=
 ∀(B:RW) (a b:Int),True→((0:Int)≤a→Ob (a < b↔(0:Int)≤a∧a < b)∧True)∧(¬(0:Int)≤a→Ob (false=true↔(0:Int)≤a∧a < b)∧True)
set_option linter.unusedSimpArgs false in
set_option maxRecDepth 4000 in
set_option maxHeartbeats 400000 in
theorem v_isIndex:V_isIndex:=by
 unfold V_isIndex
 intro B n m _
 simp only [Ob_iff,and_true]
 exact⟨fun h=>by omega,fun h=>by simp; omega⟩
theorem e_isIndex:V_isIndex=needF P [] A_isIndex F_isIndex:=by kernel_rfl
theorem n_isIndex:Ob (needF P [] A_isIndex F_isIndex):=by
 rw [← e_isIndex]
 exact⟨v_isIndex⟩
theorem b_isIndex:((P.funcs[39]?).any fun fn=>fn.body.isSome)=true:=by kernel_rfl
theorem isIndex_ok:Fn0.Ok P F_isIndex:=Fn0.ok named (l:=[]) (A:=A_isIndex) (by rfl) (by
 intro F h; simp at h) b_isIndex (by
 intro ds N
 simp only [F_isIndex]
 split<;>rfl) n_isIndex
noncomputable def F_isDay:Fn0:=⟨36,[i64],fun _=>True,fun l=>match l with | [.z n]=>.p (0≤n∧n≤36499) | _=>.v undef⟩
noncomputable def A_isDay:List SV→List Dat→Nat→List SV→Ann:=fun _ _ _ _=>noAnn
def V_isDay:Prop:=
 ∀(B:RW) (a:Int),True→Ob True∧Ob ((0:Int)≤a∧a≤(36499:Int)↔(0:Int)≤a∧a≤(36499:Int))∧True
set_option linter.unusedSimpArgs false in
set_option maxRecDepth 4000 in
set_option maxHeartbeats 400000 in
theorem v_isDay:V_isDay:=by
 unfold V_isDay
 intro B n _
 simp only [Ob_iff,and_true,iff_self]
theorem e_isDay:V_isDay=needF P [F_within] A_isDay F_isDay:=by kernel_rfl
theorem n_isDay:Ob (needF P [F_within] A_isDay F_isDay):=by
 rw [← e_isDay]
 exact⟨v_isDay⟩
theorem b_isDay:((P.funcs[36]?).any fun fn=>fn.body.isSome)=true:=by kernel_rfl
theorem isDay_ok:Fn0.Ok P F_isDay:=Fn0.ok named (l:=[F_within]) (A:=A_isDay) (by rfl) (by
 intro F h
 simp only [List.mem_cons,List.not_mem_nil,or_false]at h
 rcases h with rfl
 ·exact within_ok
) b_isDay (by
 intro ds N
 simp only [F_isDay]
 split<;>rfl) n_isDay
noncomputable def F_inYear:Fn0:=⟨43,[i64,.agg [.i .i64,.i .i64]],fun l=>match l with | [.z n,.z a,.z b]=>0≤n∧n≤1000000 | _=>False,fun l=>match l with | [.z n,.z a,.z b]=>.p (a≤n.tmod 365∧n.tmod 365≤b) | _=>.v undef⟩
noncomputable def A_inYear:List SV→List Dat→Nat→List SV→Ann:=fun _ _ _ _=>noAnn
def V_inYear:Prop:=
 ∀(B:RW) (a c b:Int),(0:Int)≤a∧a≤(1000000:Int)→Ob ((0:Int) < (365:Int)∧InR .i64 (a.tmod (365:Int)))∧Ob True∧Ob (c≤a.tmod (365:Int)∧a.tmod (365:Int)≤b↔c≤a.tmod (365:Int)∧a.tmod (365:Int)≤b)∧True
set_option linter.unusedSimpArgs false in
set_option maxRecDepth 4000 in
set_option maxHeartbeats 400000 in
theorem v_inYear:V_inYear:=by
 unfold V_inYear
 intro B n a b h
 simp only [Ob_iff,and_true,iff_self]
 rw [Int.tmod_eq_emod_of_nonneg h.1]
 simp only [InR]
 omega
theorem e_inYear:V_inYear=needF P [F_within] A_inYear F_inYear:=by kernel_rfl
theorem n_inYear:Ob (needF P [F_within] A_inYear F_inYear):=by
 rw [← e_inYear]
 exact⟨v_inYear⟩
theorem b_inYear:((P.funcs[43]?).any fun fn=>fn.body.isSome)=true:=by kernel_rfl
theorem inYear_ok:Fn0.Ok P F_inYear:=Fn0.ok named (l:=[F_within]) (A:=A_inYear) (by rfl) (by
 intro F h
 simp only [List.mem_cons,List.not_mem_nil,or_false]at h
 rcases h with rfl
 ·exact within_ok
) b_inYear (by
 intro ds N
 simp only [F_inYear]
 split<;>rfl) n_inYear
noncomputable def F_isCell:Fn0:=⟨24,[.agg [.i .i64,.i .i64,.i .i64,.ll [.i64],.l [.i64,.i64,.i64,.i64,.i64,.i64]],i64,i64],fun _=>True,fun l=>match l with | [.z W,.z D,.z G,.ll L,.l C,.z x,.z row]=>.p ((0≤x∧x < W)∧0≤row∧row < D) | _=>.v undef⟩
noncomputable def A_isCell:List SV→List Dat→Nat→List SV→Ann:=fun _ _ _ _=>noAnn
def V_isCell:Prop:=
 ∀(B:RW) (c e h:Int) (g:RV) (ys:Nat→RV) (R:List (List (List Int))),IsLL B [.i64] g ys R→oneB g=true→∀(f:RV) (d:List (List Int)),IsLst B f d.length 6 (Rv.elemOf I6 d)→oneB f=true→(∀row∈d,row.length=6)→∀(a b:Int),True→Ob True∧((0:Int)≤a∧a < c→Ob True∧Ob ((0:Int)≤b∧b < e↔((0:Int)≤a∧a < c)∧(0:Int)≤b∧b < e)∧True)∧(¬((0:Int)≤a∧a < c)→Ob (false=true↔((0:Int)≤a∧a < c)∧(0:Int)≤b∧b < e)∧True)
set_option linter.unusedSimpArgs false in
set_option maxRecDepth 4000 in
set_option maxHeartbeats 400000 in
theorem v_isCell:V_isCell:=by
 unfold V_isCell I6
 intro B W D G x ys L hx hox y C hy hoy hry x0 row _
 simp only [Ob_iff,and_true,true_and]
 exact⟨fun h=>⟨fun q=>⟨h,q⟩,fun q=>q.2⟩,fun h=>⟨fun q=>(by cases q),fun q=>absurd q.1 h⟩⟩
theorem e_isCell:V_isCell=needF P [F_isIndex] A_isCell F_isCell:=by kernel_rfl
theorem n_isCell:Ob (needF P [F_isIndex] A_isCell F_isCell):=by
 rw [← e_isCell]
 exact⟨v_isCell⟩
theorem b_isCell:((P.funcs[24]?).any fun fn=>fn.body.isSome)=true:=by kernel_rfl
theorem isCell_ok:Fn0.Ok P F_isCell:=Fn0.ok named (l:=[F_isIndex]) (A:=A_isCell) (by rfl) (by
 intro F h
 simp only [List.mem_cons,List.not_mem_nil,or_false]at h
 rcases h with rfl
 ·exact isIndex_ok
) b_isCell (by
 intro ds N
 simp only [F_isCell]
 split<;>rfl) n_isCell
noncomputable def F_wish:Fn0:=⟨38,[.agg [.i .i64,.i .i64,.i .i64,.ll [.i64],.l [.i64,.i64,.i64,.i64,.i64,.i64]],i64,i64,i64],fun l=>match l with | [.z W,.z D,.z G,.ll L,.l C,.z day,.z line,.z row]=>BayOk 40 40 40 W D G L C∧(0≤day∧day≤1000000)∧(0≤line∧line < L.length)∧0≤row∧row < D | _=>False,fun l=>match l with | [.z W,.z D,.z G,.ll L,.l C,.z day,.z line,.z row]=>.i .i64 (wishK L C day line row C.length) | _=>.v undef⟩
noncomputable def A_wish:List SV→List Dat→Nat→List SV→Ann:=fun xs ds n ts=>match xs with
 | [.agg [_,_,_,.lst x _ _ xe,.lst y _ _ ye],_,_,_]=>match ds with
  | [.z W,.z D,.z G,.ll L,.l C,.z day,.z line,.z row]=>match n with
   | 3=>⟨Nat,fun k=>([none,some (SV.i IntKind.i64 day),some (SV.i IntKind.i64 line),some (SV.i IntKind.i64 row),none,none,none,none,some (SV.v (Value.int IntKind.i64 (0:Int))),some (.i .i64 (wishK L C day line row k))]++nN 11++[some (SV.lst y C.length ((6:Nat)) ye),some (SV.i IntKind.i64 (↑C.length:Int)),some (.i .i64 k)]++nN 29),fun k=>[SObj.cells [SV.i IntKind.i64 W,SV.i IntKind.i64 D,SV.i IntKind.i64 G,SV.lst x L.length ((1:Nat)) xe,SV.lst y C.length ((6:Nat)) ye] Kd.ex],fun k=>k≤C.length,fun k=>C.length-k,0⟩
   | _=>noAnn
  | _=>noAnn
 | _=>noAnn
def V_wish:Prop:=
 ∀(B:RW) (k i j:Int) (h:RV) (ys:Nat→RV) (R:List (List (List Int))),IsLL B [.i64] h ys R→oneB h=true→∀(d:RV) (a:List (List Int)),IsLst B d a.length 6 (Rv.elemOf I6 a)→oneB d=true→(∀row∈a,row.length=6)→∀(f c e:Int),BayOk (40:Int) (40:Int) (40:Int) k i j R a∧((0:Int)≤f∧f≤(1000000:Int))∧((0:Int)≤c∧c < (↑R.length:Int))∧(0:Int)≤e∧e < i→Ob ((0:Int)≤c∧c.toNat < R.length∧IsLst B h R.length 1 (llElem [.i64] ys R))∧Ob (IsLst B h R.length 1 (llElem [.i64] ys R)∧c.toNat < R.length)∧Ob ((0:Int)≤e∧e.toNat < (R.getD c.toNat []).length∧IsLst B (ys c.toNat) (R.getD c.toNat []).length 1 (Rv.elemOf [.i64] (R.getD c.toNat [])))∧Ob (IsLst B (ys c.toNat) (R.getD c.toNat []).length 1 (Rv.elemOf [.i64] (R.getD c.toNat []))∧e.toNat < (R.getD c.toNat []).length)∧LsA B d I6 a∧(∃(b:Nat),Ob (b≤a.length)∧Ob (f=f)∧Ob (c=c)∧Ob (e=e)∧Ob (Value.int .i64 (0:Int)=Value.int .i64 (0:Int))∧Ob (cell (R.getD c.toNat []) e.toNat 0=wishK R a f c e b)∧Ob (SV.lst d a.length 6 (Rv.elemOf I6 a)=SV.lst d a.length 6 (Rv.elemOf I6 a))∧Ob ((↑a.length:Int)=(↑a.length:Int))∧Ob ((0:Int)=(↑b:Int))∧Ob (k=k)∧Ob (i=i)∧Ob (j=j)∧Ob (SV.lst h R.length 1 (llElem [.i64] ys R)=SV.lst h R.length 1 (llElem [.i64] ys R))∧Ob (SV.lst d a.length 6 (Rv.elemOf I6 a)=SV.lst d a.length 6 (Rv.elemOf I6 a))∧LsA B d I6 a∧Ob (IsLst B h R.length 1 (llElem [.i64] ys R))∧LsA B d I6 a∧True)∧∀(b:Nat),b≤a.length→∀(_ _ _ _ _ _ _ _ _ _ _ _ _ _ _ _ _ _ _ _ _ _ _ _ _ _ _ _ _ _ _ _ _ _ _ _ _ _ _ _ _ _ _ _ _:Value),((↑b:Int) < (↑a.length:Int)→Ob ((0:Int)≤(↑b:Int)∧b < a.length∧IsLst B d a.length 6 (Rv.elemOf I6 a))∧Ob (IsLst B d a.length 6 (Rv.elemOf I6 a)∧b < a.length)∧(cell a b 0=c→Ob True∧(cell a b 1≤e∧e≤cell a b 2→Ob ((0:Int)≤f∧f≤(1000000:Int))∧(cell a b 3≤f.tmod (365:Int)∧f.tmod (365:Int)≤cell a b 4→Ob (InR .i64 (wishK R a f c e b+cell a b 5))∧Ob (InR .i64 ((↑b:Int)+(1:Int)))∧∃(g:Nat),Ob (g≤a.length∧a.length-g < a.length-b)∧Ob (f=f)∧Ob (c=c)∧Ob (e=e)∧Ob (Value.int .i64 (0:Int)=Value.int .i64 (0:Int))∧Ob (wishK R a f c e b+cell a b 5=wishK R a f c e g)∧Ob (SV.lst d a.length 6 (Rv.elemOf I6 a)=SV.lst d a.length 6 (Rv.elemOf I6 a))∧Ob ((↑a.length:Int)=(↑a.length:Int))∧Ob ((↑b:Int)+(1:Int)=(↑g:Int))∧Ob (k=k)∧Ob (i=i)∧Ob (j=j)∧Ob (SV.lst h R.length 1 (llElem [.i64] ys R)=SV.lst h R.length 1 (llElem [.i64] ys R))∧Ob (SV.lst d a.length 6 (Rv.elemOf I6 a)=SV.lst d a.length 6 (Rv.elemOf I6 a))∧LsA B d I6 a∧Ob (IsLst B h R.length 1 (llElem [.i64] ys R))∧LsA B d I6 a∧True)∧(¬(cell a b 3≤f.tmod (365:Int)∧f.tmod (365:Int)≤cell a b 4)→Ob (InR .i64 ((↑b:Int)+(1:Int)))∧∃(g:Nat),Ob (g≤a.length∧a.length-g < a.length-b)∧Ob (f=f)∧Ob (c=c)∧Ob (e=e)∧Ob (Value.int .i64 (0:Int)=Value.int .i64 (0:Int))∧Ob (wishK R a f c e b=wishK R a f c e g)∧Ob (SV.lst d a.length 6 (Rv.elemOf I6 a)=SV.lst d a.length 6 (Rv.elemOf I6 a))∧Ob ((↑a.length:Int)=(↑a.length:Int))∧Ob ((↑b:Int)+(1:Int)=(↑g:Int))∧Ob (k=k)∧Ob (i=i)∧Ob (j=j)∧Ob (SV.lst h R.length 1 (llElem [.i64] ys R)=SV.lst h R.length 1 (llElem [.i64] ys R))∧Ob (SV.lst d a.length 6 (Rv.elemOf I6 a)=SV.lst d a.length 6 (Rv.elemOf I6 a))∧LsA B d I6 a∧Ob (IsLst B h R.length 1 (llElem [.i64] ys R))∧LsA B d I6 a∧True))∧(¬(cell a b 1≤e∧e≤cell a b 2)→Ob (InR .i64 ((↑b:Int)+(1:Int)))∧∃(g:Nat),Ob (g≤a.length∧a.length-g < a.length-b)∧Ob (f=f)∧Ob (c=c)∧Ob (e=e)∧Ob (Value.int .i64 (0:Int)=Value.int .i64 (0:Int))∧Ob (wishK R a f c e b=wishK R a f c e g)∧Ob (SV.lst d a.length 6 (Rv.elemOf I6 a)=SV.lst d a.length 6 (Rv.elemOf I6 a))∧Ob ((↑a.length:Int)=(↑a.length:Int))∧Ob ((↑b:Int)+(1:Int)=(↑g:Int))∧Ob (k=k)∧Ob (i=i)∧Ob (j=j)∧Ob (SV.lst h R.length 1 (llElem [.i64] ys R)=SV.lst h R.length 1 (llElem [.i64] ys R))∧Ob (SV.lst d a.length 6 (Rv.elemOf I6 a)=SV.lst d a.length 6 (Rv.elemOf I6 a))∧LsA B d I6 a∧Ob (IsLst B h R.length 1 (llElem [.i64] ys R))∧LsA B d I6 a∧True))∧(¬cell a b 0=c→Ob (InR .i64 ((↑b:Int)+(1:Int)))∧∃(g:Nat),Ob (g≤a.length∧a.length-g < a.length-b)∧Ob (f=f)∧Ob (c=c)∧Ob (e=e)∧Ob (Value.int .i64 (0:Int)=Value.int .i64 (0:Int))∧Ob (wishK R a f c e b=wishK R a f c e g)∧Ob (SV.lst d a.length 6 (Rv.elemOf I6 a)=SV.lst d a.length 6 (Rv.elemOf I6 a))∧Ob ((↑a.length:Int)=(↑a.length:Int))∧Ob ((↑b:Int)+(1:Int)=(↑g:Int))∧Ob (k=k)∧Ob (i=i)∧Ob (j=j)∧Ob (SV.lst h R.length 1 (llElem [.i64] ys R)=SV.lst h R.length 1 (llElem [.i64] ys R))∧Ob (SV.lst d a.length 6 (Rv.elemOf I6 a)=SV.lst d a.length 6 (Rv.elemOf I6 a))∧LsA B d I6 a∧Ob (IsLst B h R.length 1 (llElem [.i64] ys R))∧LsA B d I6 a∧True))∧(¬(↑b:Int) < (↑a.length:Int)→Ob (wishK R a f c e b=wishK R a f c e a.length)∧True)
set_option linter.unusedSimpArgs false in
set_option maxRecDepth 4000 in
set_option maxHeartbeats 400000 in
theorem v_wish:V_wish:=by
 unfold V_wish I6 LsA
 intro B W D G x ys L hx hox y C hy hoy hry day line row ⟨hb,hd,hl,hr⟩
 simp only [Ob_iff,and_true,true_and]
 have hlen:=hb.l.len line.toNat (by omega)
 have hln:line.toNat < L.length:=by omega
 have hrn:row.toNat < (L.getD line.toNat []).length:=by omega
 have hy1:=(hx.2 line.toNat hln).1
 have hC:=hb.c.len
 have hw:=hb.w
 refine⟨⟨hl.1,hln,hx.1⟩,⟨hx.1,hln⟩,⟨hr.1,hrn,hy1⟩,⟨hy1,hrn⟩,hy,⟨0,Nat.zero_le _,rfl,rfl,hy,hx.1,hy⟩,?_⟩
 intro k hk
 intros
 refine⟨fun h1=>?_,fun h1=>?_⟩
 ·have hkc:k < C.length:=by omega
  have i1:InR .i64 ((k:Int)+1):=by simp only [InR]; omega
  have i2:C.length-(k+1) < C.length-k:=by omega
  have bd:=wishK_bd (day:=day) hb hl hr k hk
  have hc5:=(hb.c.at_ k hkc).2.2.2.2.2.2.2.2
  have i3:InR .i64 (wishK L C day line row k+cell C k 5):=by simp only [InR]; omega
  refine⟨⟨by omega,hkc,hy⟩,⟨hy,hkc⟩,fun h0=>⟨fun h2=>⟨hd,fun h3=>?_,fun h3=>?_⟩,fun h2=>?_⟩,fun h0=>?_⟩
  ·have hh:custHit C day line row k:=⟨h0,h2,h3⟩
   exact⟨i3,i1,k+1,⟨hkc,i2⟩,(wishK_hit hh).symm,rfl,hy,hx.1,hy⟩
  ·have hh:¬ custHit C day line row k:=fun q=>h3 q.2.2
   exact⟨i1,k+1,⟨hkc,i2⟩,(wishK_not hh).symm,rfl,hy,hx.1,hy⟩
  ·have hh:¬ custHit C day line row k:=fun q=>h2 q.2.1
   exact⟨i1,k+1,⟨hkc,i2⟩,(wishK_not hh).symm,rfl,hy,hx.1,hy⟩
  ·have hh:¬ custHit C day line row k:=fun q=>h0 q.1
   exact⟨i1,k+1,⟨hkc,i2⟩,(wishK_not hh).symm,rfl,hy,hx.1,hy⟩
 ·have e:k=C.length:=by omega
  rw [e]
theorem e_wish:V_wish=needF P [F_within,F_inYear] A_wish F_wish:=by kernel_rfl
theorem n_wish:Ob (needF P [F_within,F_inYear] A_wish F_wish):=by
 rw [← e_wish]
 exact⟨v_wish⟩
theorem b_wish:((P.funcs[38]?).any fun fn=>fn.body.isSome)=true:=by kernel_rfl
theorem wish_ok:Fn0.Ok P F_wish:=Fn0.ok named (l:=[F_within,F_inYear]) (A:=A_wish) (by rfl) (by
 intro F h
 simp only [List.mem_cons,List.not_mem_nil,or_false]at h
 rcases h with rfl | rfl
 ·exact within_ok
 ·exact inYear_ok
) b_wish (by
 intro ds N
 simp only [F_wish]
 split<;>rfl) n_wish
end Go.Proofs.Ytcdifnheflhbmaa.Sy
