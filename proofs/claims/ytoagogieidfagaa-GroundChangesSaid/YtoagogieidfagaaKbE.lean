import Derived.Test.YtoagogieidfagaaSyP4
import Derived.Test.YtoagogieidfagaaGrM
import Derived.Test.YtoagogieidfagaaStM
import Derived.Test.YtoagogieidfagaaKtT
import Derived.Test.YtoagogieidfagaaSyP2
import Derived.Test.YtoagogieidfagaaKbA
import Derived.Test.YtoagogieidfagaaKbB
import Derived.Test.YtoagogieidfagaaKbC
import Derived.Test.YtoagogieidfagaaKbD
import Derived.KernelRfl
import Derived.Test.YtoagogieidfagaaProg
namespace Go.Proofs.Ytoagogieidfagaa.Sy
open Go Go.Rv
set_option linter.unusedVariables false
noncomputable def hold (W:Int) (L:List Rows) (C:Rows) (x row day:Int):Nat:=holdK W L C day x row L.length
noncomputable def holdB (W:Int) (L:List Rows) (C:Rows) (x row:Int):Nat→Nat
 | 0=>hold W L C x row 364
 | k+1=>hold W L C x row k
noncomputable def chL (W:Int) (L:List Rows) (C:Rows) (x row:Int):Nat→Rows
 | 0=>[]
 | k+1=>if hold W L C x row k=holdB W L C x row k then chL W L C x row k else chL W L C x row k++[[(k:Int)]]
theorem chL_same {W:Int} {L:List Rows} {C:Rows} {x row:Int} {k:Nat} (h:hold W L C x row k=holdB W L C x row k):chL W L C x row (k+1)=chL W L C x row k:=if_pos h
theorem chL_new {W:Int} {L:List Rows} {C:Rows} {x row:Int} {k:Nat} (h:¬ hold W L C x row k=holdB W L C x row k):chL W L C x row (k+1)=chL W L C x row k++[[(k:Int)]]:=if_neg h
theorem chL_le {W:Int} {L:List Rows} {C:Rows} {x row:Int}:∀k,(chL W L C x row k).length≤k
 | 0=>Nat.le_refl _
 | k+1=>by
  have ih:=chL_le (W:=W) (L:=L) (C:=C) (x:=x) (row:=row) k
  rw [chL]
  split
  ·omega
  ·simp only [List.length_append,List.length_singleton]; omega
noncomputable def F_checkDay:Fn0:=⟨25,[.agg [.i .i64,.i .i64,.i .i64,.ll [.i64],.l [.i64,.i64,.i64,.i64,.i64,.i64]],i64],fun l=>match l with | [.z W,.z D,.z G,.ll L,.l C,.z day]=>BayOk 40 20 6 W D G L C∧0≤day∧day≤36499 | _=>False,fun l=>match l with | [.z W,.z D,.z G,.ll L,.l C,.z day]=>.i .i64 0 | _=>.v undef⟩
noncomputable def A_checkDay:List SV→List Dat→Nat→List SV→Ann:=fun _ _ _ _=>noAnn
def V_checkDay:Prop:=
 ∀(B:RW) (f h g:Int) (c:RV) (ys:Nat→RV) (R:List (List (List Int))),IsLL B [.i64] c ys R→oneB c=true→∀(d:RV) (b:List (List Int)),IsLst B d b.length 6 (Rv.elemOf I6 b)→oneB d=true→(∀row∈b,row.length=6)→∀(a:Int),BayOk (40:Int) (20:Int) (6:Int) f h g R b∧(0:Int)≤a∧a≤(36499:Int)→∃(R_1:List (List (List Int))),∃(ys_1:Nat→RV),Ob (R_1.length=R.length∧(∀(e:Nat),e < R.length→llElem [.i64] ys R e=llElem [.i64] ys_1 R_1 e)∧IsLL B [.i64] c ys_1 R_1)∧RwB B d b.length 6 I6 b fun i=>Ob (BayOk (40:Int) (20:Int) (6:Int) f h g R_1 i)∧(¬(0:Int)=(0:Int)→Ob ((0:Int)=(0:Int))∧True)∧(¬¬(0:Int)=(0:Int)→Ob True∧(¬((0:Int)≤a∧a≤(36499:Int))→Ob ((1:Int)=(0:Int))∧True)∧(¬¬((0:Int)≤a∧a≤(36499:Int))→Ob ((0:Int)=(0:Int))∧True))
set_option linter.unusedSimpArgs false in
set_option maxRecDepth 4000 in
set_option maxHeartbeats 400000 in
theorem v_checkDay:V_checkDay:=by
 unfold V_checkDay I6 RwB
 intro B W D G x ys L hx hox y C hy hoy hry day ⟨hb,hd⟩
 simp only [Ob_iff,and_true,true_and,implies_true,Classical.not_not,not_true_eq_false]
 exact⟨L,ys,⟨rfl,fun i hi=>rfl,hx⟩,C,⟨hy,rfl,hry,fun i hi=>rfl⟩,hb,fun _=>fun q=>absurd hd q⟩
theorem e_checkDay:V_checkDay=needF P [F_isDay,F_Check] A_checkDay F_checkDay:=by kernel_rfl
theorem n_checkDay:Ob (needF P [F_isDay,F_Check] A_checkDay F_checkDay):=by
 rw [← e_checkDay]
 exact⟨v_checkDay⟩
theorem b_checkDay:((P.funcs[25]?).any fun fn=>fn.body.isSome)=true:=by kernel_rfl
theorem checkDay_ok:Fn0.Ok P F_checkDay:=Fn0.ok named (l:=[F_isDay,F_Check]) (A:=A_checkDay) (by rfl) (by
 intro F h
 simp only [List.mem_cons,List.not_mem_nil,or_false]at h
 rcases h with rfl | rfl
 ·exact isDay_ok
 ·exact Check_ok
) b_checkDay (by
 intro ds N
 simp only [F_checkDay]
 split<;>rfl) n_checkDay
noncomputable def F_Holder:FnE:=⟨10,none,[.agg [.i .i64,.i .i64,.i .i64,.ll [.i64],.l [.i64,.i64,.i64,.i64,.i64,.i64]],i64,i64,i64],fun l=>match l with | [.z W,.z D,.z G,.ll L,.l C,.z day,.z x0,.z row]=>BayOk 40 20 6 W D G L C∧(0≤day∧day≤36499)∧(0≤x0∧x0 < W)∧0≤row∧row < D | _=>False,fun l=>match l with | [.z W,.z D,.z G,.ll L,.l C,.z day,.z x0,.z row]=>[.i .i64 (hold W L C x0 row day),.i .i64 0] | _=>[],fun l=>match l with | [.z W,.z D,.z G,.ll L,.l C,.z day,.z x0,.z row]=>[] | _=>[],fun l=>match l with | [.z W,.z D,.z G,.ll L,.l C,.z day,.z x0,.z row]=>[] | _=>[],false,none,none⟩
noncomputable def A_Holder:List SV→List Dat→Nat→List SV→Ann:=fun _ _ _ _=>noAnn
def V_Holder:Prop:=
 ∀(B:RW) (e i j:Int) (g:RV) (ys:Nat→RV) (R:List (List (List Int))),IsLL B [.i64] g ys R→oneB g=true→∀(h:RV) (a:List (List Int)),IsLst B h a.length 6 (Rv.elemOf I6 a)→oneB h=true→(∀row∈a,row.length=6)→∀(f d c:Int),F_Holder.pre ([Dat.z e,Dat.z i,Dat.z j,Dat.ll R,Dat.l a]++([Dat.z f]++([Dat.z d]++([Dat.z c]++[]))))→∃(R_1:List (List (List Int))),∃(ys_1:Nat→RV),Ob (R_1.length=R.length∧(∀(b:Nat),b < R.length→llElem [.i64] ys R b=llElem [.i64] ys_1 R_1 b)∧IsLL B [.i64] g ys_1 R_1)∧RwB B h a.length 6 I6 a fun l=>Ob (BayOk (40:Int) (20:Int) (6:Int) e i j R_1 l∧(0:Int)≤f∧f≤(36499:Int))∧(¬(0:Int)=(0:Int)→Ob ((0:Int)=(↑(hold e R a d c f):Int))∧Ob ((0:Int)=(0:Int))∧True)∧(¬¬(0:Int)=(0:Int)→∃(R_2:List (List (List Int))),∃(ys_2:Nat→RV),Ob (R_2.length=R.length∧(∀(b:Nat),b < R.length→llElem [.i64] ys R b=llElem [.i64] ys_2 R_2 b)∧IsLL B [.i64] g ys_2 R_2)∧RwB B h a.length 6 I6 a fun m=>Ob True∧(¬(((0:Int)≤d∧d < e)∧(0:Int)≤c∧c < i)→Ob ((0:Int)=(↑(hold e R a d c f):Int))∧Ob ((1:Int)=(0:Int))∧True)∧(¬¬(((0:Int)≤d∧d < e)∧(0:Int)≤c∧c < i)→∃(R_3:List (List (List Int))),∃(ys_3:Nat→RV),Ob (R_3.length=R.length∧(∀(b:Nat),b < R.length→llElem [.i64] ys R b=llElem [.i64] ys_3 R_3 b)∧IsLL B [.i64] g ys_3 R_3)∧RwB B h a.length 6 I6 a fun k=>Ob (F_holder.pre ([Dat.z e,Dat.z i,Dat.z j,Dat.ll R_3,Dat.l k]++[Dat.z f,Dat.z d,Dat.z c]))∧Ob ((↑(holdK e R_3 k f d c R_3.length):Int)=(↑(hold e R a d c f):Int))∧Ob ((0:Int)=(0:Int))∧True))
set_option linter.unusedSimpArgs false in
set_option maxRecDepth 4000 in
set_option maxHeartbeats 400000 in
theorem v_Holder:V_Holder:=by
 unfold V_Holder I6 RwB
 intro B W D G x ys L hx hox y C hy hoy hry day x0 row ⟨hb,hd,h0,hr⟩
 simp only [Ob_iff,and_true,true_and,implies_true,Classical.not_not,not_true_eq_false]
 refine⟨L,ys,⟨rfl,fun i hi=>rfl,hx⟩,C,⟨hy,rfl,hry,fun i hi=>rfl⟩,⟨hb,hd⟩,fun q=>q.elim,fun _=>⟨L,ys,⟨rfl,fun i hi=>rfl,hx⟩,C,⟨hy,rfl,hry,fun i hi=>rfl⟩,fun q=>absurd ⟨h0,hr⟩ q,fun _=>⟨L,ys,⟨rfl,fun i hi=>rfl,hx⟩,C,⟨hy,rfl,hry,fun i hi=>rfl⟩,⟨hb.mono (by decide) (by decide) (by decide),⟨hd.1,Int.le_trans hd.2 (by decide)⟩,hr⟩,rfl⟩⟩⟩
theorem e_Holder:V_Holder=needE P [F_checkDay,F_isCell] [F_holder] A_Holder F_Holder:=by kernel_rfl
theorem n_Holder:Ob (needE P [F_checkDay,F_isCell] [F_holder] A_Holder F_Holder):=by
 rw [← e_Holder]
 exact⟨v_Holder⟩
theorem b_Holder:((P.funcs[10]?).any fun fn=>fn.body.isSome)=true:=by kernel_rfl
theorem Holder_ok:FnE.Ok P F_Holder:=FnE.ok named (l:=[F_checkDay,F_isCell]) (es:=[F_holder]) (A:=A_Holder) (by rfl) (by rfl) (by rfl) (by
 intro F h
 simp only [List.mem_cons,List.not_mem_nil,or_false]at h
 rcases h with rfl | rfl
 ·exact checkDay_ok
 ·exact isCell_ok
) (by
 intro F h
 simp only [List.mem_cons,List.not_mem_nil,or_false]at h
 rcases h with rfl
 ·exact holder_ok
) b_Holder (by
 rintro ds h o ho n sz e k z rfl
 simp only [F_Holder]at ho
 split at ho<;>simp at ho) n_Holder
noncomputable def F_Changes:FnE:=⟨9,none,[.agg [.i .i64,.i .i64,.i .i64,.ll [.i64],.l [.i64,.i64,.i64,.i64,.i64,.i64]],i64,i64],fun l=>match l with | [.z W,.z D,.z G,.ll L,.l C,.z x0,.z row]=>BayOk 40 20 6 W D G L C∧(0≤x0∧x0 < W)∧0≤row∧row < D | _=>False,fun l=>match l with | [.z W,.z D,.z G,.ll L,.l C,.z x0,.z row]=>[.gsl 0 (chL W L C x0 row 365).length 1 true,.i .i64 0] | _=>[],fun l=>match l with | [.z W,.z D,.z G,.ll L,.l C,.z x0,.z row]=>[.gr (chL W L C x0 row 365).length 1 (.fn (Rv.elemOf [.i64] (chL W L C x0 row 365))) .gr true] | _=>[],fun l=>match l with | [.z W,.z D,.z G,.ll L,.l C,.z x0,.z row]=>[] | _=>[],false,none,none⟩
noncomputable def A_Changes:List SV→List Dat→Nat→List SV→Ann:=fun xs ds n ts=>match xs with
 | [.agg [_,_,_,.lst x _ _ xe,.lst y _ _ ye],_,_]=>match ds with
  | [.z W,.z D,.z G,.ll L,.l C,.z x0,.z row]=>match n with
   | 9=>⟨Nat,fun k=>([none,some (SV.i IntKind.i64 x0),some (SV.i IntKind.i64 row),some (SV.ptr ((0:Nat)) ((0:Nat))),none,none,some (SV.v (Value.slice none ((0:Nat)) ((0:Nat)))),some (SV.v (Value.int IntKind.i64 (0:Int))),none,some (.gsl 1 (chL W L C x0 row k).length 1 true),some (.i .i64 (holdB W L C x0 row k))]++nN 16++[some (.i .i64 k)]++nN 17),fun k=>[.gr (chL W L C x0 row k).length 1 (.fn (Rv.elemOf [.i64] (chL W L C x0 row k))) .gr true,SObj.cells [SV.i IntKind.i64 W,SV.i IntKind.i64 D,SV.i IntKind.i64 G,SV.lst x L.length ((1:Nat)) xe,SV.lst y C.length ((6:Nat)) ye] Kd.ex],fun k=>k≤365,fun k=>365-k,0⟩
   | _=>noAnn
  | _=>noAnn
 | _=>noAnn
def V_Changes:Prop:=
 ∀(B:RW) (d j k:Int) (h:RV) (ys:Nat→RV) (R:List (List (List Int))),IsLL B [.i64] h ys R→oneB h=true→∀(i:RV) (a:List (List Int)),IsLst B i a.length 6 (Rv.elemOf I6 a)→oneB i=true→(∀row∈a,row.length=6)→∀(b c:Int),F_Changes.pre ([Dat.z d,Dat.z j,Dat.z k,Dat.ll R,Dat.l a]++([Dat.z b]++([Dat.z c]++[])))→∃(R_1:List (List (List Int))),∃(ys_1:Nat→RV),Ob (R_1.length=R.length∧(∀(f:Nat),f < R.length→llElem [.i64] ys R f=llElem [.i64] ys_1 R_1 f)∧IsLL B [.i64] h ys_1 R_1)∧RwB B i a.length 6 I6 a fun n=>Ob (BayOk (40:Int) (20:Int) (6:Int) d j k R_1 n)∧(¬(0:Int)=(0:Int)→Ob (List.length (chL d R a b c 365)=(0:Nat))∧Ob ((0:Int)=(0:Int))∧Ob (List.length (chL d R a b c 365)=(0:Nat))∧PlA [.i64] (chL d R a b c 365)∧True)∧(¬¬(0:Int)=(0:Int)→∃(R_2:List (List (List Int))),∃(ys_2:Nat→RV),Ob (R_2.length=R.length∧(∀(f:Nat),f < R.length→llElem [.i64] ys R f=llElem [.i64] ys_2 R_2 f)∧IsLL B [.i64] h ys_2 R_2)∧RwB B i a.length 6 I6 a fun o=>Ob True∧(¬(((0:Int)≤b∧b < d)∧(0:Int)≤c∧c < j)→Ob (List.length (chL d R a b c 365)=(0:Nat))∧Ob ((1:Int)=(0:Int))∧Ob (List.length (chL d R a b c 365)=(0:Nat))∧PlA [.i64] (chL d R a b c 365)∧True)∧(¬¬(((0:Int)≤b∧b < d)∧(0:Int)≤c∧c < j)→∃(R_3:List (List (List Int))),∃(ys_3:Nat→RV),Ob (R_3.length=R.length∧(∀(f:Nat),f < R.length→llElem [.i64] ys R f=llElem [.i64] ys_3 R_3 f)∧IsLL B [.i64] h ys_3 R_3)∧RwB B i a.length 6 I6 a fun m=>Ob (F_holder.pre ([Dat.z d,Dat.z j,Dat.z k,Dat.ll R_3,Dat.l m]++[Dat.z (364:Int),Dat.z b,Dat.z c]))∧(∃(e:Nat),Ob (e≤365)∧Ob (b=b)∧Ob (c=c)∧Ob (SV.v (Value.slice none 0 0)=SV.v (Value.slice none 0 0))∧Ob (Value.int .i64 (0:Int)=Value.int .i64 (0:Int))∧Ob (List.length (chL d R a b c e)=(0:Nat))∧Ob ((↑(holdK d R_3 m (364:Int) b c R_3.length):Int)=(↑(holdB d R a b c e):Int))∧Ob ((0:Int)=(↑e:Int))∧Ob (List.length (chL d R a b c e)=(0:Nat))∧Ob (d=d)∧Ob (j=j)∧Ob (k=k)∧Ob (SV.lst h R.length 1 (llElem [.i64] ys R)=SV.lst h R.length 1 (llElem [.i64] ys R))∧Ob (SV.lst i a.length 6 (Rv.elemOf I6 a)=SV.lst i a.length 6 (Rv.elemOf I6 a))∧PlA [.i64] (chL d R a b c e)∧Ob (IsLst B h R.length 1 (llElem [.i64] ys R))∧LsA B i I6 a∧True)∧∀(e:Nat),e≤365→∀(_ _ _ _ _ _ _ _ _ _ _ _ _ _ _ _ _ _ _ _ _ _ _ _ _ _ _ _ _ _ _ _ _ _ _ _ _:Value),((↑e:Int) < (365:Int)→∃(R_4:List (List (List Int))),∃(ys_4:Nat→RV),Ob (R_4.length=R.length∧(∀(f:Nat),f < R.length→llElem [.i64] ys R f=llElem [.i64] ys_4 R_4 f)∧IsLL B [.i64] h ys_4 R_4)∧RwB B i a.length 6 I6 a fun l=>Ob (F_holder.pre ([Dat.z d,Dat.z j,Dat.z k,Dat.ll R_4,Dat.l l]++[Dat.z (↑e:Int),Dat.z b,Dat.z c]))∧(¬(↑(holdK d R_4 l (↑e:Int) b c R_4.length):Int)=(↑(holdB d R a b c e):Int)→Ob (List.length (chL d R a b c e)=List.length (chL d R a b c e)∧∀(f:Nat),f < List.length (chL d R a b c e)→((El.fn (Rv.elemOf [.i64] (chL d R a b c e))).at f).length=(1:Nat))∧Ob ((List.length (chL d R a b c e)+(1:Nat))*(2:Nat)*(9:Nat)≤1099511627776)∧Ob (List.length (chL d R a b c e)=List.length (chL d R a b c e))∧Ob (InR .i64 ((↑e:Int)+(1:Int)))∧∃(g:Nat),Ob (g≤365∧(365:Nat)-g < 365-e)∧Ob (b=b)∧Ob (c=c)∧Ob (SV.v (Value.slice none 0 0)=SV.v (Value.slice none 0 0))∧Ob (Value.int .i64 (0:Int)=Value.int .i64 (0:Int))∧Ob (List.length (chL d R a b c e)+(1:Nat)=List.length (chL d R a b c g))∧Ob ((↑(holdK d R_4 l (↑e:Int) b c R_4.length):Int)=(↑(holdB d R a b c g):Int))∧Ob ((↑e:Int)+(1:Int)=(↑g:Int))∧EqA (List.length (chL d R a b c e)+(1:Nat)) (List.length (chL d R a b c g)) (behind (List.length (chL d R a b c e)) (El.fn (Rv.elemOf [.i64] (chL d R a b c e))) 1 (litEl (symL [SV.i .i64 (↑e:Int)]) 1 1)) (El.fn (Rv.elemOf [.i64] (chL d R a b c g)))∧Ob (d=d)∧Ob (j=j)∧Ob (k=k)∧Ob (SV.lst h R.length 1 (llElem [.i64] ys R)=SV.lst h R.length 1 (llElem [.i64] ys R))∧Ob (SV.lst i a.length 6 (Rv.elemOf I6 a)=SV.lst i a.length 6 (Rv.elemOf I6 a))∧PlA [.i64] (chL d R a b c g)∧Ob (IsLst B h R.length 1 (llElem [.i64] ys R))∧LsA B i I6 a∧True)∧(¬¬(↑(holdK d R_4 l (↑e:Int) b c R_4.length):Int)=(↑(holdB d R a b c e):Int)→Ob (InR .i64 ((↑e:Int)+(1:Int)))∧∃(g:Nat),Ob (g≤365∧(365:Nat)-g < 365-e)∧Ob (b=b)∧Ob (c=c)∧Ob (SV.v (Value.slice none 0 0)=SV.v (Value.slice none 0 0))∧Ob (Value.int .i64 (0:Int)=Value.int .i64 (0:Int))∧Ob (List.length (chL d R a b c e)=List.length (chL d R a b c g))∧Ob ((↑(holdK d R_4 l (↑e:Int) b c R_4.length):Int)=(↑(holdB d R a b c g):Int))∧Ob ((↑e:Int)+(1:Int)=(↑g:Int))∧EqR [.i64] (chL d R a b c e) (chL d R a b c g)∧Ob (d=d)∧Ob (j=j)∧Ob (k=k)∧Ob (SV.lst h R.length 1 (llElem [.i64] ys R)=SV.lst h R.length 1 (llElem [.i64] ys R))∧Ob (SV.lst i a.length 6 (Rv.elemOf I6 a)=SV.lst i a.length 6 (Rv.elemOf I6 a))∧PlA [.i64] (chL d R a b c g)∧Ob (IsLst B h R.length 1 (llElem [.i64] ys R))∧LsA B i I6 a∧True))∧(¬(↑e:Int) < (365:Int)→Ob (List.length (chL d R a b c e)=List.length (chL d R a b c 365))∧Ob ((0:Int)=(0:Int))∧EqR [.i64] (chL d R a b c e) (chL d R a b c 365)∧PlA [.i64] (chL d R a b c 365)∧True)))
set_option linter.unusedSimpArgs false in
set_option maxRecDepth 4000 in
set_option maxHeartbeats 400000 in
theorem v_Changes:V_Changes:=by
 unfold V_Changes EqA EqR I6 LsA PlA RwB
 intro B W D G x ys L hx hox y C hy hoy hry x0 row ⟨hb,h0,hr⟩
 simp only [Ob_iff,and_true,true_and,implies_true,Classical.not_not,not_true_eq_false]
 refine⟨L,ys,⟨rfl,fun i hi=>rfl,hx⟩,C,⟨hy,rfl,hry,fun i hi=>rfl⟩,hb,fun q=>q.elim,fun _=>⟨L,ys,⟨rfl,fun i hi=>rfl,hx⟩,C,⟨hy,rfl,hry,fun i hi=>rfl⟩,fun q=>absurd ⟨h0,hr⟩ q,fun _=>⟨L,ys,⟨rfl,fun i hi=>rfl,hx⟩,C,⟨hy,rfl,hry,fun i hi=>rfl⟩,⟨hb.mono (by decide) (by decide) (by decide),by decide,hr⟩,?_⟩⟩⟩
 refine⟨⟨0,by decide,rfl,rfl,rfl,rfl,plain_elemOf _ _ _,hx.1,hy⟩,?_⟩
 intro k hk
 intros
 refine⟨fun h1=>?_,fun h1=>?_⟩
 ·have hle:=chL_le (W:=W) (L:=L) (C:=C) (x:=x0) (row:=row) k
  have i1:InR .i64 ((k:Int)+1):=by simp only [InR]; omega
  have i2:k+1≤365∧365-(k+1) < 365-k:=by omega
  have i3:((chL W L C x0 row k).length+1)*2*9≤1099511627776:=by
   generalize (chL W L C x0 row k).length=q at *
   omega
  have hd:(0:Int)≤k∧(k:Int)≤1000000:=by clear hle i3; omega
  refine⟨L,ys,⟨rfl,fun i hi=>rfl,hx⟩,C,⟨hy,rfl,hry,fun i hi=>rfl⟩,⟨hb.mono (by decide) (by decide) (by decide),hd,hr⟩,fun h2=>?_,fun h2=>?_⟩
  ·have e:chL W L C x0 row (k+1)=chL W L C x0 row k++[[(k:Int)]]:=chL_new (fun q=>h2 (congrArg Nat.cast q))
   have el:(chL W L C x0 row k).length+1=(chL W L C x0 row (k+1)).length:=by rw [e]; simp
   refine⟨fun i hi=>rfl,i3,i1,k+1,i2,el,rfl,rfl,⟨el,fun i hi=>?_⟩,plain_elemOf _ _ _,hx.1,hy⟩
   rw [e]
   exact snoc1 rfl i (by rw [el]; exact hi)
  ·have e:chL W L C x0 row (k+1)=chL W L C x0 row k:=chL_same (Int.ofNat.inj h2)
   refine⟨i1,k+1,i2,by rw [e],rfl,rfl,⟨by rw [e],fun i hi=>by rw [e]⟩,plain_elemOf _ _ _,hx.1,hy⟩
 ·have e:k=365:=by omega
  subst e
  exact⟨rfl,⟨rfl,fun i hi=>rfl⟩,plain_elemOf _ _ _⟩
theorem e_Changes:V_Changes=needE P [F_Check,F_isCell] [F_holder] A_Changes F_Changes:=by kernel_rfl
theorem n_Changes:Ob (needE P [F_Check,F_isCell] [F_holder] A_Changes F_Changes):=by
 rw [← e_Changes]
 exact⟨v_Changes⟩
theorem b_Changes:((P.funcs[9]?).any fun fn=>fn.body.isSome)=true:=by kernel_rfl
theorem Changes_ok:FnE.Ok P F_Changes:=FnE.ok named (l:=[F_Check,F_isCell]) (es:=[F_holder]) (A:=A_Changes) (by rfl) (by rfl) (by rfl) (by
 intro F h
 simp only [List.mem_cons,List.not_mem_nil,or_false]at h
 rcases h with rfl | rfl
 ·exact Check_ok
 ·exact isCell_ok
) (by
 intro F h
 simp only [List.mem_cons,List.not_mem_nil,or_false]at h
 rcases h with rfl
 ·exact holder_ok
) b_Changes (by
 intro ds h o ho n sz e k z he
 subst he
 simp only [F_Changes]at ho
 split at ho
 ·simp only [List.mem_cons,List.not_mem_nil,or_false,SObj.gr.injEq]at ho
  obtain⟨rfl,rfl,rfl,rfl,rfl⟩:=ho
  exact plain_elemOf _ _ _
 ·simp at ho) n_Changes
end Go.Proofs.Ytoagogieidfagaa.Sy
