import Derived.Test.YtfebjikidfcbcaaSyP2
import Derived.Test.YtfebjikidfcbcaaGrM
import Derived.Test.YtfebjikidfcbcaaStM
import Derived.Test.YtfebjikidfcbcaaKtT
import Derived.Test.YtfebjikidfcbcaaKtA
import Derived.Test.YtfebjikidfcbcaaKtB
import Derived.Test.YtfebjikidfcbcaaKwA
import Derived.Test.YtfebjikidfcbcaaSyP2
import Derived.KernelRfl
import Derived.Test.YtfebjikidfcbcaaProg
namespace Go.Proofs.Ytfebjikidfcbcaa.Sy
open Go Go.Rv
set_option linter.unusedVariables false
theorem small_of {A:Rows} {till:Int} (hl:A.length≤12) (ha:∀k,k < A.length→accAt A k) (ht:mny till):Small A till:=by
 refine⟨by omega,fun i hi=>?_,?_⟩
 ·have h:=ha i hi
  unfold accAt mny at h
  omega
 ·unfold mny at ht
  omega
structure CoopOk (fee itr pri cre:Int) (A:Rows) (till:Int):Prop where
 r:(0≤fee∧fee≤1000000)∧(0≤itr∧itr≤1000000)∧(0≤pri∧pri≤1000)∧mny cre
 l:1≤A.length∧A.length≤12
 a:∀k,k < A.length→accAt A k
 t:mny till
 s:0≤surp A till
theorem coop_ok {fee itr pri cre:Int} {A:Rows} {till:Int} (h:coopErr fee itr pri cre A till=0):CoopOk fee itr pri cre A till:=by
 unfold coopErr at h
 split at h
 ·rename_i h1
  split at h
  ·omega
  ·split at h
   ·omega
   ·split at h
    ·rename_i h4
     split at h
     ·rename_i h5
      split at h
      ·omega
      ·exact⟨h1,by omega,h4,h5,by omega⟩
     ·omega
    ·omega
 ·omega
theorem CoopOk.small {fee itr pri cre:Int} {A:Rows} {till:Int} (h:CoopOk fee itr pri cre A till):Small A till:=small_of h.l.2 h.a h.t
theorem coop_zero {fee itr pri cre:Int} {A:Rows} {till:Int} (h:CoopOk fee itr pri cre A till):coopErr fee itr pri cre A till=0:=by
 have hl:=h.l
 have hs:=h.s
 unfold coopErr
 rw [if_pos h.r,if_neg (by omega),if_neg (by omega),if_pos h.a,if_pos h.t,if_neg (by omega)]
noncomputable def F_surplus:FnE:=⟨45,none,[.agg [.i .i64,.i .i64,.i .i64,.i .i64,.l [.i64,.i64,.i64],.i .i64]],fun l=>match l with | [.z fee,.z itr,.z pri,.z cre,.l A,.z till]=>Small A till | _=>False,fun l=>match l with | [.z fee,.z itr,.z pri,.z cre,.l A,.z till]=>[.i .i64 (surp A till)] | _=>[],fun l=>match l with | [.z fee,.z itr,.z pri,.z cre,.l A,.z till]=>[] | _=>[],fun l=>match l with | [.z fee,.z itr,.z pri,.z cre,.l A,.z till]=>[] | _=>[],false,none,none⟩
noncomputable def A_surplus:List SV→List Dat→Nat→List SV→Ann:=fun _ _ _ _=>noAnn
def V_surplus:Prop:=∀(B:RW) (n n_1 n_2 n_3:Int) (x:RV) (rows:List (List Int)),IsLst B x rows.length 3 (Rv.elemOf [.i64,.i64,.i64] rows)→oneB x=true→(∀row∈rows,row.length=3)→∀(n_4:Int),F_surplus.pre ([Dat.z n,Dat.z n_1,Dat.z n_2,Dat.z n_3,Dat.l rows,Dat.z n_4]++[])→Ob (IsLst B x rows.length 3 (Rv.elemOf [.i64,.i64,.i64] rows))∧∃(l1:List (List Int)),Ob (IsLst B x rows.length 3 (Rv.elemOf [.i64,.i64,.i64] rows)∧l1.length=rows.length∧(∀r∈l1,r.length=3)∧∀(i:Nat),i < rows.length→Rv.elemOf [.i64,.i64,.i64] rows i=Rv.elemOf [.i64,.i64,.i64] l1 i)∧Ob (F_each.pre ([Dat.z n,Dat.z n_1,Dat.z n_2,Dat.z n_3,Dat.l l1,Dat.z n_4]++[Dat.z (Int.ofNat 65)]))∧Ob (PlainE l1.length (El.fn (Rv.elemOf [.i64] (colO 1 l1 l1.length))))∧∃(l2:List (List Int)),Ob (l1.length=l1.length∧l2.length=l1.length∧(∀r∈l2,r.length=1)∧∀(i:Nat),i < l1.length→(El.fn (Rv.elemOf [.i64] (colO 1 l1 l1.length))).at i=Rv.elemOf [.i64] l2 i)∧Ob (l2.length≤100∧∀(i:Nat),i < l2.length→(-1000000000000000:Int)≤cell l2 i 0∧cell l2 i 0≤(1000000000000000:Int))∧Ob (IsLst B x rows.length 3 (Rv.elemOf [.i64,.i64,.i64] rows))∧∃(l3:List (List Int)),Ob (IsLst B x rows.length 3 (Rv.elemOf [.i64,.i64,.i64] rows)∧l3.length=rows.length∧(∀r∈l3,r.length=3)∧∀(i:Nat),i < rows.length→Rv.elemOf [.i64,.i64,.i64] rows i=Rv.elemOf [.i64,.i64,.i64] l3 i)∧Ob (F_each.pre ([Dat.z n,Dat.z n_1,Dat.z n_2,Dat.z n_3,Dat.l l3,Dat.z n_4]++[Dat.z (Int.ofNat 66)]))∧Ob (PlainE l3.length (El.fn (Rv.elemOf [.i64] (colO 0 l3 l3.length))))∧∃(l4:List (List Int)),Ob (l3.length=l3.length∧l4.length=l3.length∧(∀r∈l4,r.length=1)∧∀(i:Nat),i < l3.length→(El.fn (Rv.elemOf [.i64] (colO 0 l3 l3.length))).at i=Rv.elemOf [.i64] l4 i)∧Ob (l4.length≤100∧∀(i:Nat),i < l4.length→(-1000000000000000:Int)≤cell l4 i 0∧cell l4 i 0≤(1000000000000000:Int))∧Ob (InR .i64 ((0:Int)-totTo l4 l4.length))∧Ob ([[n_4],[totTo l2 l2.length],[(0:Int)-totTo l4 l4.length]].length≤100∧∀(i:Nat),i < [[n_4],[totTo l2 l2.length],[(0:Int)-totTo l4 l4.length]].length→(-1000000000000000:Int)≤cell [[n_4],[totTo l2 l2.length],[(0:Int)-totTo l4 l4.length]] i 0∧cell [[n_4],[totTo l2 l2.length],[(0:Int)-totTo l4 l4.length]] i 0≤(1000000000000000:Int))∧Ob (totTo [[n_4],[totTo l2 l2.length],[(0:Int)-totTo l4 l4.length]] [[n_4],[totTo l2 l2.length],[(0:Int)-totTo l4 l4.length]].length=surp rows n_4)∧True
set_option linter.unusedSimpArgs false in
set_option maxRecDepth 4000 in
set_option maxHeartbeats 400000 in
theorem v_surplus:V_surplus:=by
 unfold V_surplus
 intro B fee itr pri cre x A hx hox hrx till hS
 have hS:Small A till:=hS
 have hl:=hS.l
 simp only [Ob_iff,and_true,true_and]
 have cl:∀c,(colO c A A.length).length=A.length:=fun c=>colO_len c A _
 have cb:∀c,c < 3→(colO c A A.length).length≤100∧∀i,i < (colO c A A.length).length→-1000000000000000≤cell (colO c A A.length) i 0∧cell (colO c A A.length) i 0≤1000000000000000:=fun c hc=>⟨by rw [cl]; exact hl,fun i hi=>by
  rw [cl]at hi
  rw [colO_cell c A hi]
  have:=hS.col hc i hi
  omega⟩
 have t1:totTo (colO 1 A A.length) (colO 1 A A.length).length=colS 1 A A.length:=by rw [cl,tot_col 1 A _ _ (Nat.le_refl _)]
 have t0:totTo (colO 0 A A.length) (colO 0 A A.length).length=colS 0 A A.length:=by rw [cl,tot_col 0 A _ _ (Nat.le_refl _)]
 have b1:=hS.sum (c:=1) (by omega) (Nat.le_refl _)
 have b0:=hS.sum (c:=0) (by omega) (Nat.le_refl _)
 have bt:=hS.t
 refine⟨hx,A,⟨hx,rfl,hrx,fun _ _=>rfl⟩,by show A.length≤4000000; omega,plain_elemOf _ _ _,colO 1 A A.length,⟨cl 1,colO_row _ _ _,fun _ _=>rfl⟩,cb 1 (by omega),hx,A,⟨hx,rfl,hrx,fun _ _=>rfl⟩,by show A.length≤4000000; omega,plain_elemOf _ _ _,colO 0 A A.length,⟨cl 0,colO_row _ _ _,fun _ _=>rfl⟩,cb 0 (by omega),?_⟩
 rw [t1,t0]
 refine⟨by simp only [InR]; omega,⟨by show 3≤100; omega,fun i hi=>?_⟩,?_⟩
 ·have hi:i < 3:=hi
  have:i=0∨i=1∨i=2:=by omega
  rcases this with rfl | rfl | rfl
  ·show -1000000000000000≤till∧till≤1000000000000000
   omega
  ·show -1000000000000000≤colS 1 A A.length∧colS 1 A A.length≤1000000000000000
   omega
  ·show -1000000000000000≤0-colS 0 A A.length∧0-colS 0 A A.length≤1000000000000000
   omega
 ·show 0+till+colS 1 A A.length+(0-colS 0 A A.length)=surp A till
  unfold surp
  omega
theorem e_surplus:V_surplus=needE P [F_sum] [F_each] A_surplus F_surplus:=by kernel_rfl
theorem n_surplus:Ob (needE P [F_sum] [F_each] A_surplus F_surplus):=by
 rw [← e_surplus]
 exact⟨v_surplus⟩
theorem b_surplus:((P.funcs[45]?).any fun fn=>fn.body.isSome)=true:=by kernel_rfl
theorem surplus_ok:FnE.Ok P F_surplus:=FnE.ok named (l:=[F_sum]) (es:=[F_each]) (A:=A_surplus) (by rfl) (by rfl) (by rfl) (by
 intro F h
 simp only [List.mem_cons,List.not_mem_nil,or_false]at h
 rcases h with rfl
 ·exact sum_ok
) (by
 intro F h
 simp only [List.mem_cons,List.not_mem_nil,or_false]at h
 rcases h with rfl
 ·exact each_ok
) b_surplus (by
 rintro ds h o ho n sz e k z rfl
 simp only [F_surplus]at ho
 split at ho<;>simp at ho) n_surplus
noncomputable def F_CheckC:FnE:=⟨22,none,[.agg [.i .i64,.i .i64,.i .i64,.i .i64,.l [.i64,.i64,.i64],.i .i64]],fun l=>match l with | [.z fee,.z itr,.z pri,.z cre,.l A,.z till]=>A.length≤4000000 | _=>False,fun l=>match l with | [.z fee,.z itr,.z pri,.z cre,.l A,.z till]=>[.i .i64 (coopErr fee itr pri cre A till)] | _=>[],fun l=>match l with | [.z fee,.z itr,.z pri,.z cre,.l A,.z till]=>[] | _=>[],fun l=>match l with | [.z fee,.z itr,.z pri,.z cre,.l A,.z till]=>[] | _=>[],false,none,none⟩
noncomputable def A_CheckC:List SV→List Dat→Nat→List SV→Ann:=fun xs ds n ts=>match xs with
 | [.agg [_,_,_,_,.lst x _ _ _,_]]=>match ds with
  | [.z fee,.z itr,.z pri,.z cre,.l A,.z till]=>match n with
   | 10=>⟨Nat,fun k=>[none,some (SV.ptr ((0:Nat)) ((0:Nat))),none,none,none,none,none,none,none,none,none,none,none,none,none,none,none,none,none,none,none,none,none,none,none,none,none,none,none,none,none,none,none,none,none,none,none,none,none,none,none,none,none,some (SV.lst x A.length ((3:Nat)) (Rv.elemOf [IntKind.i64,IntKind.i64,IntKind.i64] A)),some (SV.i IntKind.i64 (↑A.length:Int)),some (.i .i64 k),none,none,none,none,none,none,none,none,none,none,none,none,none,none,none,none,none,none,none,none,none,none,none,none,none,none,none,none,none],fun k=>[SObj.cells [SV.i IntKind.i64 fee,SV.i IntKind.i64 itr,SV.i IntKind.i64 pri,SV.i IntKind.i64 cre,SV.lst x A.length ((3:Nat)) (Rv.elemOf [IntKind.i64,IntKind.i64,IntKind.i64] A),SV.i IntKind.i64 till] Kd.ex],fun k=>k≤A.length∧∀i,i < k→accAt A i,fun k=>A.length-k,0⟩
   | _=>noAnn
  | _=>noAnn
 | _=>noAnn
def V_CheckC:Prop:=∀(B:RW) (n n_1 n_2 n_3:Int) (x:RV) (rows:List (List Int)),IsLst B x rows.length 3 (Rv.elemOf [.i64,.i64,.i64] rows)→oneB x=true→(∀row∈rows,row.length=3)→∀(n_4:Int),F_CheckC.pre ([Dat.z n,Dat.z n_1,Dat.z n_2,Dat.z n_3,Dat.l rows,Dat.z n_4]++[])→Ob True∧(¬¬((0:Int)≤n∧n≤(1000000:Int))→Ob True∧(¬((0:Int)≤n_1∧n_1≤(1000000:Int))→Ob ((1:Int)=coopErr n n_1 n_2 n_3 rows n_4)∧True)∧(¬¬((0:Int)≤n_1∧n_1≤(1000000:Int))→Ob True∧(¬¬((0:Int)≤n_2∧n_2≤(1000:Int))→Ob True∧(¬mny n_3→Ob ((1:Int)=coopErr n n_1 n_2 n_3 rows n_4)∧True)∧(¬¬mny n_3→Ob (IsLst B x rows.length 3 (Rv.elemOf [.i64,.i64,.i64] rows))∧((↑rows.length:Int)=(0:Int)→Ob ((4:Int)=coopErr n n_1 n_2 n_3 rows n_4)∧True)∧(¬(↑rows.length:Int)=(0:Int)→Ob (IsLst B x rows.length 3 (Rv.elemOf [.i64,.i64,.i64] rows))∧((12:Int) < (↑rows.length:Int)→Ob ((5:Int)=coopErr n n_1 n_2 n_3 rows n_4)∧True)∧(¬(12:Int) < (↑rows.length:Int)→Ob (IsLst B x rows.length 3 (Rv.elemOf [.i64,.i64,.i64] rows))∧(∃(a:Nat),Ob (a≤rows.length∧∀(i:Nat),i < a→accAt rows i)∧Ob (SV.lst x rows.length 3 (Rv.elemOf [.i64,.i64,.i64] rows)=SV.lst x rows.length 3 (Rv.elemOf [.i64,.i64,.i64] rows))∧Ob ((↑rows.length:Int)=(↑rows.length:Int))∧Ob ((0:Int)=(↑a:Int))∧Ob (n=n)∧Ob (n_1=n_1)∧Ob (n_2=n_2)∧Ob (n_3=n_3)∧Ob (SV.lst x rows.length 3 (Rv.elemOf [.i64,.i64,.i64] rows)=SV.lst x rows.length 3 (Rv.elemOf [.i64,.i64,.i64] rows))∧Ob (n_4=n_4)∧Ob (IsLst B x rows.length 3 (Rv.elemOf [.i64,.i64,.i64] rows))∧Ob (IsLst B x rows.length 3 (Rv.elemOf [.i64,.i64,.i64] rows))∧True)∧∀(a:Nat),(a≤rows.length∧∀(i:Nat),i < a→accAt rows i)→∀(_ _ _ _ _ _ _ _ _ _ _ _ _ _ _ _ _ _ _ _ _ _ _ _ _ _ _ _ _ _ _ _ _ _ _ _ _ _ _ _ _ _ _ _ _ _ _ _ _ _ _ _ _ _ _ _ _ _ _ _ _ _ _ _ _ _ _ _ _ _ _:Value),((↑a:Int) < (↑rows.length:Int)→Ob ((0:Int)≤(↑a:Int)∧a < rows.length∧IsLst B x rows.length 3 (Rv.elemOf [.i64,.i64,.i64] rows))∧Ob (IsLst B x rows.length 3 (Rv.elemOf [.i64,.i64,.i64] rows)∧a < rows.length)∧Ob True∧(¬¬mny (cell rows a 0)→Ob True∧(¬¬mny (cell rows a 1)→Ob True∧(¬mny (cell rows a 2)→Ob ((1:Int)=coopErr n n_1 n_2 n_3 rows n_4)∧True)∧(¬¬mny (cell rows a 2)→Ob (InR .i64 ((↑a:Int)+(1:Int)))∧∃(a':Nat),Ob ((a'≤rows.length∧∀(i:Nat),i < a'→accAt rows i)∧rows.length-a' < rows.length-a)∧Ob (SV.lst x rows.length 3 (Rv.elemOf [.i64,.i64,.i64] rows)=SV.lst x rows.length 3 (Rv.elemOf [.i64,.i64,.i64] rows))∧Ob ((↑rows.length:Int)=(↑rows.length:Int))∧Ob ((↑a:Int)+(1:Int)=(↑a':Int))∧Ob (n=n)∧Ob (n_1=n_1)∧Ob (n_2=n_2)∧Ob (n_3=n_3)∧Ob (SV.lst x rows.length 3 (Rv.elemOf [.i64,.i64,.i64] rows)=SV.lst x rows.length 3 (Rv.elemOf [.i64,.i64,.i64] rows))∧Ob (n_4=n_4)∧Ob (IsLst B x rows.length 3 (Rv.elemOf [.i64,.i64,.i64] rows))∧Ob (IsLst B x rows.length 3 (Rv.elemOf [.i64,.i64,.i64] rows))∧True))∧(¬mny (cell rows a 1)→Ob ((1:Int)=coopErr n n_1 n_2 n_3 rows n_4)∧True))∧(¬mny (cell rows a 0)→Ob ((1:Int)=coopErr n n_1 n_2 n_3 rows n_4)∧True))∧(¬(↑a:Int) < (↑rows.length:Int)→Ob True∧(¬mny n_4→Ob ((1:Int)=coopErr n n_1 n_2 n_3 rows n_4)∧True)∧(¬¬mny n_4→∃(l1:List (List Int)),Ob (IsLst B x rows.length 3 (Rv.elemOf [.i64,.i64,.i64] rows)∧l1.length=rows.length∧(∀r∈l1,r.length=3)∧∀(i:Nat),i < rows.length→Rv.elemOf [.i64,.i64,.i64] rows i=Rv.elemOf [.i64,.i64,.i64] l1 i)∧Ob (F_surplus.pre ([Dat.z n,Dat.z n_1,Dat.z n_2,Dat.z n_3,Dat.l l1,Dat.z n_4]++[]))∧(surp l1 n_4 < (0:Int)→Ob ((9:Int)=coopErr n n_1 n_2 n_3 rows n_4)∧True)∧(¬surp l1 n_4 < (0:Int)→Ob ((0:Int)=coopErr n n_1 n_2 n_3 rows n_4)∧True)))))))∧(¬((0:Int)≤n_2∧n_2≤(1000:Int))→Ob ((1:Int)=coopErr n n_1 n_2 n_3 rows n_4)∧True)))∧(¬((0:Int)≤n∧n≤(1000000:Int))→Ob ((1:Int)=coopErr n n_1 n_2 n_3 rows n_4)∧True)
set_option linter.unusedSimpArgs false in
set_option maxRecDepth 4000 in
set_option maxHeartbeats 400000 in
theorem v_CheckC:V_CheckC:=by
 unfold V_CheckC
 intro B fee itr pri cre x A hx hox hrx till hA
 have hA:A.length≤4000000:=hA
 simp only [Ob_iff,and_true,true_and,Classical.not_not]
 have bad:¬ ((0≤fee∧fee≤1000000)∧(0≤itr∧itr≤1000000)∧(0≤pri∧pri≤1000)∧mny cre)→1=coopErr fee itr pri cre A till:=fun h=>by
  unfold coopErr
  rw [if_neg h]
 refine⟨fun h1=>⟨fun h2=>bad fun h=>h2 h.2.1,fun h2=>⟨fun h3=>⟨fun h4=>bad fun h=>h4 h.2.2.2,fun h4=>?_⟩,fun h3=>bad fun h=>h3 h.2.2.1⟩⟩,fun h1=>bad fun h=>h1 h.1⟩
 have hr:(0≤fee∧fee≤1000000)∧(0≤itr∧itr≤1000000)∧(0≤pri∧pri≤1000)∧mny cre:=⟨h1,h2,h3,h4⟩
 refine⟨hx,fun h5=>?_,fun h5=>⟨hx,fun h6=>?_,fun h6=>?_⟩⟩
 ·unfold coopErr
  rw [if_pos hr,if_pos (by omega)]
 ·unfold coopErr
  rw [if_pos hr,if_neg (by omega),if_pos (by omega)]
 have l0:¬ A.length=0:=by omega
 have l1:¬ 12 < A.length:=by omega
 refine⟨hx,⟨0,⟨Nat.zero_le _,fun i hi=>absurd hi (Nat.not_lt_zero _)⟩,rfl,hx,hx⟩,?_⟩
 intro k ⟨hk,hk2⟩
 intros
 refine⟨fun h7=>?_,fun h7=>?_⟩
 ·have hk':k < A.length:=by omega
  have badk:¬ accAt A k→1=coopErr fee itr pri cre A till:=fun h=>by
   unfold coopErr
   rw [if_pos hr,if_neg l0,if_neg l1,if_neg fun hh=>h (hh k hk')]
  refine⟨⟨by omega,hk',hx⟩,⟨hx,hk'⟩,fun h8=>⟨fun h9=>⟨fun h10=>badk fun h=>h10 h.2.2,fun h10=>?_⟩,fun h9=>badk fun h=>h9 h.2.1⟩,fun h8=>badk fun h=>h8 h.1⟩
  refine⟨by simp only [InR]; omega,k+1,⟨⟨hk',fun i hi=>?_⟩,by omega⟩,by omega,hx,hx⟩
  by_cases e:i=k
  ·subst e; exact⟨h8,h9,h10⟩
  ·exact hk2 i (by omega)
 have ek:k=A.length:=by omega
 subst ek
 refine⟨fun h8=>?_,fun h8=>?_⟩
 ·unfold coopErr
  rw [if_pos hr,if_neg l0,if_neg l1,if_pos hk2,if_neg h8]
 refine⟨A,⟨hx,rfl,hrx,fun _ _=>rfl⟩,small_of (by omega) hk2 h8,fun h9=>?_,fun h9=>?_⟩
 ·unfold coopErr
  rw [if_pos hr,if_neg l0,if_neg l1,if_pos hk2,if_pos h8,if_pos h9]
 ·unfold coopErr
  rw [if_pos hr,if_neg l0,if_neg l1,if_pos hk2,if_pos h8,if_neg h9]
theorem e_CheckC:V_CheckC=needE P [F_within,F_isPart,F_isMoney] [F_surplus] A_CheckC F_CheckC:=by kernel_rfl
theorem n_CheckC:Ob (needE P [F_within,F_isPart,F_isMoney] [F_surplus] A_CheckC F_CheckC):=by
 rw [← e_CheckC]
 exact⟨v_CheckC⟩
theorem b_CheckC:((P.funcs[22]?).any fun fn=>fn.body.isSome)=true:=by kernel_rfl
theorem CheckC_ok:FnE.Ok P F_CheckC:=FnE.ok named (l:=[F_within,F_isPart,F_isMoney]) (es:=[F_surplus]) (A:=A_CheckC) (by rfl) (by rfl) (by rfl) (by
 intro F h
 simp only [List.mem_cons,List.not_mem_nil,or_false]at h
 rcases h with rfl | rfl | rfl
 ·exact within_ok
 ·exact isPart_ok
 ·exact isMoney_ok
) (by
 intro F h
 simp only [List.mem_cons,List.not_mem_nil,or_false]at h
 rcases h with rfl
 ·exact surplus_ok
) b_CheckC (by
 rintro ds h o ho n sz e k z rfl
 simp only [F_CheckC]at ho
 split at ho<;>simp at ho) n_CheckC
end Go.Proofs.Ytfebjikidfcbcaa.Sy
