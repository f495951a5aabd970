import Derived.Test.YtfebjikidfcbcaaSyP2
import Derived.Test.YtfebjikidfcbcaaGrM
import Derived.Test.YtfebjikidfcbcaaStM
import Derived.Test.YtfebjikidfcbcaaKtT
import Derived.Test.YtfebjikidfcbcaaKtA
import Derived.Test.YtfebjikidfcbcaaKtB
import Derived.Test.YtfebjikidfcbcaaKwA
import Derived.Test.YtfebjikidfcbcaaSyP2
import Derived.KernelRfl
import Derived.Test.YtfebjikidfcbcaaProg
namespace Go.Proofs.Ytfebjikidfcbcaa.Sy
open Go Go.Rv
set_option linter.unusedVariables false
theorem small_of {A:Rows} {till:Int} (hl:A.length≤12) (ha:∀k,k < A.length→accAt A k) (ht:mny till):Small A till:=by
 refine⟨by omega,fun i hi=>?_,?_⟩
 ·have h:=ha i hi
  unfold accAt mny at h
  omega
 ·unfold mny at ht
  omega
structure CoopOk (fee itr pri cre:Int) (A:Rows) (till:Int):Prop where
 r:(0≤fee∧fee≤1000000)∧(0≤itr∧itr≤1000000)∧(0≤pri∧pri≤1000)∧mny cre
 l:1≤A.length∧A.length≤12
 a:∀k,k < A.length→accAt A k
 t:mny till
 s:0≤surp A till
theorem coop_ok {fee itr pri cre:Int} {A:Rows} {till:Int} (h:coopErr fee itr pri cre A till=0):CoopOk fee itr pri cre A till:=by
 unfold coopErr at h
 split at h
 ·rename_i h1
  split at h
  ·omega
  ·split at h
   ·omega
   ·split at h
    ·rename_i h4
     split at h
     ·rename_i h5
      split at h
      ·omega
      ·exact⟨h1,by omega,h4,h5,by omega⟩
     ·omega
    ·omega
 ·omega
theorem CoopOk.small {fee itr pri cre:Int} {A:Rows} {till:Int} (h:CoopOk fee itr pri cre A till):Small A till:=small_of h.l.2 h.a h.t
theorem coop_zero {fee itr pri cre:Int} {A:Rows} {till:Int} (h:CoopOk fee itr pri cre A till):coopErr fee itr pri cre A till=0:=by
 have hl:=h.l
 have hs:=h.s
 unfold coopErr
 rw [if_pos h.r,if_neg (by omega),if_neg (by omega),if_pos h.a,if_pos h.t,if_neg (by omega)]
noncomputable def F_surplus:FnE:=⟨45,none,[.agg [.i .i64,.i .i64,.i .i64,.i .i64,.l [.i64,.i64,.i64],.i .i64]],fun l=>match l with | [.z fee,.z itr,.z pri,.z cre,.l A,.z till]=>Small A till | _=>False,fun l=>match l with | [.z fee,.z itr,.z pri,.z cre,.l A,.z till]=>[.i .i64 (surp A till)] | _=>[],fun l=>match l with | [.z fee,.z itr,.z pri,.z cre,.l A,.z till]=>[] | _=>[],fun l=>match l with | [.z fee,.z itr,.z pri,.z cre,.l A,.z till]=>[] | _=>[],false,none,none⟩
noncomputable def A_surplus:List SV→List Dat→Nat→List SV→Ann:=fun _ _ _ _=>noAnn
def V_surplus:Prop:=
 ∀(B:RW) (i j l k:Int) (h:RV) (c:List (List Int)),IsLst B h c.length 3 (Rv.elemOf I3 c)→oneB h=true→(∀row∈c,row.length=3)→∀(e:Int),F_surplus.pre ([Dat.z i,Dat.z j,Dat.z l,Dat.z k,Dat.l c,Dat.z e]++[])→LsA B h I3 c∧RwB B h c.length 3 I3 c fun f=>Ob (F_each.pre ([Dat.z i,Dat.z j,Dat.z l,Dat.z k,Dat.l f,Dat.z e]++[Dat.z (Int.ofNat 65)]))∧Ob (PlainE f.length (El.fn (Rv.elemOf [.i64] (colO 1 f f.length))))∧RwA f.length f.length 1 [.i64] ((El.fn (Rv.elemOf [.i64] (colO 1 f f.length))).at) fun b=>Ob (b.length≤100∧∀(d:Nat),d < b.length→(-1000000000000000:Int)≤cell b d 0∧cell b d 0≤(1000000000000000:Int))∧LsA B h I3 c∧RwB B h c.length 3 I3 c fun g=>Ob (F_each.pre ([Dat.z i,Dat.z j,Dat.z l,Dat.z k,Dat.l g,Dat.z e]++[Dat.z (Int.ofNat 66)]))∧Ob (PlainE g.length (El.fn (Rv.elemOf [.i64] (colO 0 g g.length))))∧RwA g.length g.length 1 [.i64] ((El.fn (Rv.elemOf [.i64] (colO 0 g g.length))).at) fun a=>Ob (a.length≤100∧∀(d:Nat),d < a.length→(-1000000000000000:Int)≤cell a d 0∧cell a d 0≤(1000000000000000:Int))∧Ob (InR .i64 ((0:Int)-totTo a a.length))∧Ob ([[e],[totTo b b.length],[(0:Int)-totTo a a.length]].length≤100∧∀(d:Nat),d < [[e],[totTo b b.length],[(0:Int)-totTo a a.length]].length→(-1000000000000000:Int)≤cell [[e],[totTo b b.length],[(0:Int)-totTo a a.length]] d 0∧cell [[e],[totTo b b.length],[(0:Int)-totTo a a.length]] d 0≤(1000000000000000:Int))∧Ob (totTo [[e],[totTo b b.length],[(0:Int)-totTo a a.length]] [[e],[totTo b b.length],[(0:Int)-totTo a a.length]].length=surp c e)∧True
set_option linter.unusedSimpArgs false in
set_option maxRecDepth 4000 in
set_option maxHeartbeats 400000 in
theorem v_surplus:V_surplus:=by
 unfold V_surplus I3 LsA RwA RwB
 intro B fee itr pri cre x A hx hox hrx till hS
 have hS:Small A till:=hS
 have hl:=hS.l
 simp only [Ob_iff,and_true,true_and]
 have cl:∀c,(colO c A A.length).length=A.length:=fun c=>colO_len c A _
 have cb:∀c,c < 3→(colO c A A.length).length≤100∧∀i,i < (colO c A A.length).length→-1000000000000000≤cell (colO c A A.length) i 0∧cell (colO c A A.length) i 0≤1000000000000000:=fun c hc=>⟨by rw [cl]; exact hl,fun i hi=>by
  rw [cl]at hi
  rw [colO_cell c A hi]
  have:=hS.col hc i hi
  omega⟩
 have t1:totTo (colO 1 A A.length) (colO 1 A A.length).length=colS 1 A A.length:=by rw [cl,tot_col 1 A _ _ (Nat.le_refl _)]
 have t0:totTo (colO 0 A A.length) (colO 0 A A.length).length=colS 0 A A.length:=by rw [cl,tot_col 0 A _ _ (Nat.le_refl _)]
 have b1:=hS.sum (c:=1) (by omega) (Nat.le_refl _)
 have b0:=hS.sum (c:=0) (by omega) (Nat.le_refl _)
 have bt:=hS.t
 refine⟨hx,A,⟨hx,rfl,hrx,fun _ _=>rfl⟩,by show A.length≤4000000; omega,plain_elemOf _ _ _,colO 1 A A.length,⟨cl 1,colO_row _ _ _,fun _ _=>rfl⟩,cb 1 (by omega),hx,A,⟨hx,rfl,hrx,fun _ _=>rfl⟩,by show A.length≤4000000; omega,plain_elemOf _ _ _,colO 0 A A.length,⟨cl 0,colO_row _ _ _,fun _ _=>rfl⟩,cb 0 (by omega),?_⟩
 rw [t1,t0]
 refine⟨by simp only [InR]; omega,⟨by show 3≤100; omega,fun i hi=>?_⟩,?_⟩
 ·have hi:i < 3:=hi
  have:i=0∨i=1∨i=2:=by omega
  rcases this with rfl | rfl | rfl
  ·show -1000000000000000≤till∧till≤1000000000000000
   omega
  ·show -1000000000000000≤colS 1 A A.length∧colS 1 A A.length≤1000000000000000
   omega
  ·show -1000000000000000≤0-colS 0 A A.length∧0-colS 0 A A.length≤1000000000000000
   omega
 ·show 0+till+colS 1 A A.length+(0-colS 0 A A.length)=surp A till
  unfold surp
  omega
theorem e_surplus:V_surplus=needE P [F_sum] [F_each] A_surplus F_surplus:=by kernel_rfl
theorem n_surplus:Ob (needE P [F_sum] [F_each] A_surplus F_surplus):=by
 rw [← e_surplus]
 exact⟨v_surplus⟩
theorem b_surplus:((P.funcs[45]?).any fun fn=>fn.body.isSome)=true:=by kernel_rfl
theorem surplus_ok:FnE.Ok P F_surplus:=FnE.ok named (l:=[F_sum]) (es:=[F_each]) (A:=A_surplus) (by rfl) (by rfl) (by rfl) (by
 intro F h
 simp only [List.mem_cons,List.not_mem_nil,or_false]at h
 rcases h with rfl
 ·exact sum_ok
) (by
 intro F h
 simp only [List.mem_cons,List.not_mem_nil,or_false]at h
 rcases h with rfl
 ·exact each_ok
) b_surplus (by
 rintro ds h o ho n sz e k z rfl
 simp only [F_surplus]at ho
 split at ho<;>simp at ho) n_surplus
noncomputable def F_CheckC:FnE:=⟨22,none,[.agg [.i .i64,.i .i64,.i .i64,.i .i64,.l [.i64,.i64,.i64],.i .i64]],fun l=>match l with | [.z fee,.z itr,.z pri,.z cre,.l A,.z till]=>A.length≤4000000 | _=>False,fun l=>match l with | [.z fee,.z itr,.z pri,.z cre,.l A,.z till]=>[.i .i64 (coopErr fee itr pri cre A till)] | _=>[],fun l=>match l with | [.z fee,.z itr,.z pri,.z cre,.l A,.z till]=>[] | _=>[],fun l=>match l with | [.z fee,.z itr,.z pri,.z cre,.l A,.z till]=>[] | _=>[],false,none,none⟩
noncomputable def A_CheckC:List SV→List Dat→Nat→List SV→Ann:=fun xs ds n ts=>match xs with
 | [.agg [_,_,_,_,.lst x _ _ _,_]]=>match ds with
  | [.z fee,.z itr,.z pri,.z cre,.l A,.z till]=>match n with
   | 10=>⟨Nat,fun k=>([none,some (SV.ptr ((0:Nat)) ((0:Nat)))]++nN 41++[some (SV.lst x A.length ((3:Nat)) (Rv.elemOf [IntKind.i64,IntKind.i64,IntKind.i64] A)),some (SV.i IntKind.i64 (↑A.length:Int)),some (.i .i64 k)]++nN 29),fun k=>[SObj.cells [SV.i IntKind.i64 fee,SV.i IntKind.i64 itr,SV.i IntKind.i64 pri,SV.i IntKind.i64 cre,SV.lst x A.length ((3:Nat)) (Rv.elemOf [IntKind.i64,IntKind.i64,IntKind.i64] A),SV.i IntKind.i64 till] Kd.ex],fun k=>k≤A.length∧∀i,i < k→accAt A i,fun k=>A.length-k,0⟩
   | _=>noAnn
  | _=>noAnn
 | _=>noAnn
def V_CheckC:Prop:=
 ∀(B:RW) (c d e g:Int) (f:RV) (a:List (List Int)),IsLst B f a.length 3 (Rv.elemOf I3 a)→oneB f=true→(∀row∈a,row.length=3)→∀(b:Int),F_CheckC.pre ([Dat.z c,Dat.z d,Dat.z e,Dat.z g,Dat.l a,Dat.z b]++[])→Ob True∧(¬¬((0:Int)≤c∧c≤(1000000:Int))→Ob True∧(¬((0:Int)≤d∧d≤(1000000:Int))→Ob ((1:Int)=coopErr c d e g a b)∧True)∧(¬¬((0:Int)≤d∧d≤(1000000:Int))→Ob True∧(¬¬((0:Int)≤e∧e≤(1000:Int))→Ob True∧(¬mny g→Ob ((1:Int)=coopErr c d e g a b)∧True)∧(¬¬mny g→LsA B f I3 a∧((↑a.length:Int)=(0:Int)→Ob ((4:Int)=coopErr c d e g a b)∧True)∧(¬(↑a.length:Int)=(0:Int)→LsA B f I3 a∧((12:Int) < (↑a.length:Int)→Ob ((5:Int)=coopErr c d e g a b)∧True)∧(¬(12:Int) < (↑a.length:Int)→LsA B f I3 a∧(∃(h:Nat),Ob (h≤a.length∧∀(i:Nat),i < h→accAt a i)∧Ob (SV.lst f a.length 3 (Rv.elemOf I3 a)=SV.lst f a.length 3 (Rv.elemOf I3 a))∧Ob ((↑a.length:Int)=(↑a.length:Int))∧Ob ((0:Int)=(↑h:Int))∧Ob (c=c)∧Ob (d=d)∧Ob (e=e)∧Ob (g=g)∧Ob (SV.lst f a.length 3 (Rv.elemOf I3 a)=SV.lst f a.length 3 (Rv.elemOf I3 a))∧Ob (b=b)∧LsA B f I3 a∧LsA B f I3 a∧True)∧∀(h:Nat),(h≤a.length∧∀(i:Nat),i < h→accAt a i)→∀(_ _ _ _ _ _ _ _ _ _ _ _ _ _ _ _ _ _ _ _ _ _ _ _ _ _ _ _ _ _ _ _ _ _ _ _ _ _ _ _ _ _ _ _ _ _ _ _ _ _ _ _ _ _ _ _ _ _ _ _ _ _ _ _ _ _ _ _ _ _ _:Value),((↑h:Int) < (↑a.length:Int)→Ob ((0:Int)≤(↑h:Int)∧h < a.length∧IsLst B f a.length 3 (Rv.elemOf I3 a))∧Ob (IsLst B f a.length 3 (Rv.elemOf I3 a)∧h < a.length)∧Ob True∧(¬¬mny (cell a h 0)→Ob True∧(¬¬mny (cell a h 1)→Ob True∧(¬mny (cell a h 2)→Ob ((1:Int)=coopErr c d e g a b)∧True)∧(¬¬mny (cell a h 2)→Ob (InR .i64 ((↑h:Int)+(1:Int)))∧∃(j:Nat),Ob ((j≤a.length∧∀(i:Nat),i < j→accAt a i)∧a.length-j < a.length-h)∧Ob (SV.lst f a.length 3 (Rv.elemOf I3 a)=SV.lst f a.length 3 (Rv.elemOf I3 a))∧Ob ((↑a.length:Int)=(↑a.length:Int))∧Ob ((↑h:Int)+(1:Int)=(↑j:Int))∧Ob (c=c)∧Ob (d=d)∧Ob (e=e)∧Ob (g=g)∧Ob (SV.lst f a.length 3 (Rv.elemOf I3 a)=SV.lst f a.length 3 (Rv.elemOf I3 a))∧Ob (b=b)∧LsA B f I3 a∧LsA B f I3 a∧True))∧(¬mny (cell a h 1)→Ob ((1:Int)=coopErr c d e g a b)∧True))∧(¬mny (cell a h 0)→Ob ((1:Int)=coopErr c d e g a b)∧True))∧(¬(↑h:Int) < (↑a.length:Int)→Ob True∧(¬mny b→Ob ((1:Int)=coopErr c d e g a b)∧True)∧(¬¬mny b→RwB B f a.length 3 I3 a fun k=>Ob (F_surplus.pre ([Dat.z c,Dat.z d,Dat.z e,Dat.z g,Dat.l k,Dat.z b]++[]))∧(surp k b < (0:Int)→Ob ((9:Int)=coopErr c d e g a b)∧True)∧(¬surp k b < (0:Int)→Ob ((0:Int)=coopErr c d e g a b)∧True)))))))∧(¬((0:Int)≤e∧e≤(1000:Int))→Ob ((1:Int)=coopErr c d e g a b)∧True)))∧(¬((0:Int)≤c∧c≤(1000000:Int))→Ob ((1:Int)=coopErr c d e g a b)∧True)
set_option linter.unusedSimpArgs false in
set_option maxRecDepth 4000 in
set_option maxHeartbeats 400000 in
theorem v_CheckC:V_CheckC:=by
 unfold V_CheckC I3 LsA RwB
 intro B fee itr pri cre x A hx hox hrx till hA
 have hA:A.length≤4000000:=hA
 simp only [Ob_iff,and_true,true_and,Classical.not_not]
 have bad:¬ ((0≤fee∧fee≤1000000)∧(0≤itr∧itr≤1000000)∧(0≤pri∧pri≤1000)∧mny cre)→1=coopErr fee itr pri cre A till:=fun h=>by
  unfold coopErr
  rw [if_neg h]
 refine⟨fun h1=>⟨fun h2=>bad fun h=>h2 h.2.1,fun h2=>⟨fun h3=>⟨fun h4=>bad fun h=>h4 h.2.2.2,fun h4=>?_⟩,fun h3=>bad fun h=>h3 h.2.2.1⟩⟩,fun h1=>bad fun h=>h1 h.1⟩
 have hr:(0≤fee∧fee≤1000000)∧(0≤itr∧itr≤1000000)∧(0≤pri∧pri≤1000)∧mny cre:=⟨h1,h2,h3,h4⟩
 refine⟨hx,fun h5=>?_,fun h5=>⟨hx,fun h6=>?_,fun h6=>?_⟩⟩
 ·unfold coopErr
  rw [if_pos hr,if_pos (by omega)]
 ·unfold coopErr
  rw [if_pos hr,if_neg (by omega),if_pos (by omega)]
 have l0:¬ A.length=0:=by omega
 have l1:¬ 12 < A.length:=by omega
 refine⟨hx,⟨0,⟨Nat.zero_le _,fun i hi=>absurd hi (Nat.not_lt_zero _)⟩,rfl,hx,hx⟩,?_⟩
 intro k ⟨hk,hk2⟩
 intros
 refine⟨fun h7=>?_,fun h7=>?_⟩
 ·have hk':k < A.length:=by omega
  have badk:¬ accAt A k→1=coopErr fee itr pri cre A till:=fun h=>by
   unfold coopErr
   rw [if_pos hr,if_neg l0,if_neg l1,if_neg fun hh=>h (hh k hk')]
  refine⟨⟨by omega,hk',hx⟩,⟨hx,hk'⟩,fun h8=>⟨fun h9=>⟨fun h10=>badk fun h=>h10 h.2.2,fun h10=>?_⟩,fun h9=>badk fun h=>h9 h.2.1⟩,fun h8=>badk fun h=>h8 h.1⟩
  refine⟨by simp only [InR]; omega,k+1,⟨⟨hk',fun i hi=>?_⟩,by omega⟩,by omega,hx,hx⟩
  by_cases e:i=k
  ·subst e; exact⟨h8,h9,h10⟩
  ·exact hk2 i (by omega)
 have ek:k=A.length:=by omega
 subst ek
 refine⟨fun h8=>?_,fun h8=>?_⟩
 ·unfold coopErr
  rw [if_pos hr,if_neg l0,if_neg l1,if_pos hk2,if_neg h8]
 refine⟨A,⟨hx,rfl,hrx,fun _ _=>rfl⟩,small_of (by omega) hk2 h8,fun h9=>?_,fun h9=>?_⟩
 ·unfold coopErr
  rw [if_pos hr,if_neg l0,if_neg l1,if_pos hk2,if_pos h8,if_pos h9]
 ·unfold coopErr
  rw [if_pos hr,if_neg l0,if_neg l1,if_pos hk2,if_pos h8,if_neg h9]
theorem e_CheckC:V_CheckC=needE P [F_within,F_isPart,F_isMoney] [F_surplus] A_CheckC F_CheckC:=by kernel_rfl
theorem n_CheckC:Ob (needE P [F_within,F_isPart,F_isMoney] [F_surplus] A_CheckC F_CheckC):=by
 rw [← e_CheckC]
 exact⟨v_CheckC⟩
theorem b_CheckC:((P.funcs[22]?).any fun fn=>fn.body.isSome)=true:=by kernel_rfl
theorem CheckC_ok:FnE.Ok P F_CheckC:=FnE.ok named (l:=[F_within,F_isPart,F_isMoney]) (es:=[F_surplus]) (A:=A_CheckC) (by rfl) (by rfl) (by rfl) (by
 intro F h
 simp only [List.mem_cons,List.not_mem_nil,or_false]at h
 rcases h with rfl | rfl | rfl
 ·exact within_ok
 ·exact isPart_ok
 ·exact isMoney_ok
) (by
 intro F h
 simp only [List.mem_cons,List.not_mem_nil,or_false]at h
 rcases h with rfl
 ·exact surplus_ok
) b_CheckC (by
 rintro ds h o ho n sz e k z rfl
 simp only [F_CheckC]at ho
 split at ho<;>simp at ho) n_CheckC
end Go.Proofs.Ytfebjikidfcbcaa.Sy
