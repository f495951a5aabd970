import Derived.Test.YtimcjjekohfokaaSyP4
import Derived.Test.YtimcjjekohfokaaGrM
import Derived.Test.YtimcjjekohfokaaStM
import Derived.Test.YtimcjjekohfokaaKtT
import Derived.Test.YtimcjjekohfokaaSyP2
import Derived.Test.YtimcjjekohfokaaKwU
import Derived.Test.YtimcjjekohfokaaKhA
import Derived.Test.YtimcjjekohfokaaKhB
import Derived.Test.YtimcjjekohfokaaKhC
import Derived.Test.YtimcjjekohfokaaKhD
import Derived.Test.YtimcjjekohfokaaKhE
import Derived.KernelRfl
import Derived.Test.YtimcjjekohfokaaProg
namespace Go.Proofs.Ytimcjjekohfokaa.Sy
open Go Go.Rv
set_option linter.unusedVariables false
theorem TourOk.mono {a b:Nat} {en ta pr ba:Int} {S:Rows} {L:List Rows} (h:TourOk a en ta pr ba S L) (hab:a≤b):TourOk b en ta pr ba S L:=⟨h.en,h.ta,h.pr,h.ba,Nat.le_trans h.n hab,h.s,h.m,h.l⟩
theorem late_nn {st en ta ba:Int} {S:Rows} {L:List Rows} {P:Rows}:0≤late st en ta ba S L P:=Int.natCast_nonneg _
theorem late_is {st en ta ba d:Int} {S:Rows} {L:List Rows} {P:Rows} (h:runE st en ta ba S L P=0) (hd:0≤d∧d≤late st en ta ba S L P):runE (st+d) en ta ba S L P=0:=by
 obtain⟨n,rfl⟩:=Int.eq_ofNat_of_zero_le hd.1
 exact lateN_le _ st n h (Int.ofNat_le.1 hd.2)
theorem late_no {st en ta ba:Int} {S:Rows} {L:List Rows} {P:Rows}:runE (st+(late st en ta ba S L P+1)) en ta ba S L P≠0:=by
 have:=lateN_gt (en:=en) (ta:=ta) (ba:=ba) (S:=S) (L:=L) (P:=P) (1441-st).toNat st (by omega)
 rw [← Int.add_assoc]
 exact this
noncomputable def F_law:LawF:=⟨3,[.one (.l [.i64])],fun l=>match l with | [.l N]=>N.length≤9223372036854775807 | _=>False⟩
noncomputable def A_law:List SV→List Dat→Nat→List SV→AnG:=fun xs ds n ts=>match xs with
 | [.lst xz _ _ _]=>match ds with
  | [.l N]=>match n with
   | 14=>⟨Unit,fun _=>[],fun _=>[],fun _ _=>True,fun _=>0,4,[]⟩
   | _=>noAnG
  | _=>noAnG
 | _=>noAnG
def V_law:Prop:=
 ∀(B:RW),hasTabs [] B→∀(o:RV) (k:List (List Int)),IsLst B o k.length 1 (Rv.elemOf [.i64] k)→oneB o=true→(∀row∈k,row.length=1)→k.length≤9223372036854775807→RwB B o k.length 1 [.i64] k fun A=>Ob (F_TideOf.pre [Dat.l A])∧Ob ((0:Int)≤(6:Int)∧(6:Int)≤(8:Int))∧∀(C:Int) (B':RW),Grow B B'→∀(a c d w e:Int) (m:RV) (h:List (List Int)),IsLst B' m h.length 6 (Rv.elemOf I6 h)→oneB m=true→(∀row∈h,row.length=6)→∀(l:RV) (ys:Nat→RV) (R:List (List (List Int))),IsLL B' I2 l ys R→oneB l=true→((0:Int)≤a∧a≤c)∧TourOk 6 c d w e h R→LsA B o [.i64] k∧LsA B o [.i64] k∧∃(z:List (List Int)),Ob (IsLst B' m h.length 6 (Rv.elemOf I6 h)∧z.length=h.length∧(∀j∈z,j.length=6)∧∀(b:Nat),b < h.length→Rv.elemOf I6 h b=Rv.elemOf I6 z b)∧∃(R_1:List (List (List Int))),∃(ys_1:Nat→RV),Ob (R_1.length=R.length∧(∀(b:Nat),b < R.length→llElem I2 ys R b=llElem I2 ys_1 R_1 b)∧IsLL B' I2 l ys_1 R_1)∧Ob (z.length≤1000)∧∀(y:Int),Ob (IsLst B' m h.length 6 (Rv.elemOf I6 h))∧Ob (IsLst B' l R.length 1 (llElem I2 ys R))∧∀(B'_1:RW),Grow B' B'_1→∀(n:RV) (i:List (List Int)),IsLst B'_1 n i.length 1 (Rv.elemOf [.i64] i)→oneB n=true→(∀row∈i,row.length=1)→(i.length≤z.length∧∀(j:List Int),j∈i→j.length=(1:Nat))→Ob (IsLst B' o k.length 1 (Rv.elemOf [.i64] k))∧Ob (IsLst B' o k.length 1 (Rv.elemOf [.i64] k))∧Ob (IsLst B' m h.length 6 (Rv.elemOf I6 h))∧Ob (IsLst B' l R.length 1 (llElem I2 ys R))∧Ob (IsLst B' m h.length 6 (Rv.elemOf I6 h))∧Ob (IsLst B' l R.length 1 (llElem I2 ys R))∧∃(g:List (List Int)),Ob (IsLst B'_1 m h.length 6 (Rv.elemOf I6 h)∧g.length=h.length∧(∀j∈g,j.length=6)∧∀(b:Nat),b < h.length→Rv.elemOf I6 h b=Rv.elemOf I6 g b)∧∃(R_2:List (List (List Int))),∃(ys_2:Nat→RV),Ob (R_2.length=R.length∧(∀(b:Nat),b < R.length→llElem I2 ys R b=llElem I2 ys_2 R_2 b)∧IsLL B'_1 I2 l ys_2 R_2)∧∃(f:List (List Int)),Ob (IsLst B'_1 n i.length 1 (Rv.elemOf [.i64] i)∧f.length=i.length∧(∀j∈f,j.length=1)∧∀(b:Nat),b < i.length→Rv.elemOf [.i64] i b=Rv.elemOf [.i64] f b)∧Ob (F_Late.pre ([Dat.z a,Dat.z c,Dat.z d,Dat.z w,Dat.z e,Dat.l g,Dat.ll R_2]++[Dat.l f]))∧∃(q:List (List Int)),Ob (IsLst B'_1 m h.length 6 (Rv.elemOf I6 h)∧q.length=h.length∧(∀j∈q,j.length=6)∧∀(b:Nat),b < h.length→Rv.elemOf I6 h b=Rv.elemOf I6 q b)∧∃(R_3:List (List (List Int))),∃(ys_3:Nat→RV),Ob (R_3.length=R.length∧(∀(b:Nat),b < R.length→llElem I2 ys R b=llElem I2 ys_3 R_3 b)∧IsLL B'_1 I2 l ys_3 R_3)∧∃(u:List (List Int)),Ob (IsLst B'_1 n i.length 1 (Rv.elemOf [.i64] i)∧u.length=i.length∧(∀j∈u,j.length=1)∧∀(b:Nat),b < i.length→Rv.elemOf [.i64] i b=Rv.elemOf [.i64] u b)∧Ob (F_Run.pre ([Dat.z a,Dat.z c,Dat.z d,Dat.z w,Dat.z e,Dat.l q,Dat.ll R_3]++[Dat.l u]))∧(¬runE a c d e g R_2 f=runE a c d e q R_3 u→False)∧(¬¬runE a c d e g R_2 f=runE a c d e q R_3 u→(¬runE a c d e g R_2 f=(0:Int)→(z0 (runE a c d e g R_2 f) (late a c d e g R_2 f)=(0:Int)→Ob (hasTabs [] B'_1)∧True)∧(¬z0 (runE a c d e g R_2 f) (late a c d e g R_2 f)=(0:Int)→False))∧(¬¬runE a c d e g R_2 f=(0:Int)→(¬z0 (runE a c d e g R_2 f) (late a c d e g R_2 f) < (0:Int)→Ob (InR .i64 (c-a))∧(c-a < z0 (runE a c d e g R_2 f) (late a c d e g R_2 f)→False)∧(¬c-a < z0 (runE a c d e g R_2 f) (late a c d e g R_2 f)→Ob (InR .i64 (z0 (runE a c d e g R_2 f) (late a c d e g R_2 f)+(1:Int)))∧Ob (F_Below.pre ([Dat.z y]++[Dat.z (z0 (runE a c d e g R_2 f) (late a c d e g R_2 f)+(1:Int))]))∧Ob (InR .i64 (z0 (runE a c d e g R_2 f) (late a c d e g R_2 f)+(1:Int)))∧Ob (InR .i64 (a+z0 (runE a c d e g R_2 f) (late a c d e g R_2 f)))∧∃(x:List (List Int)),Ob (IsLst B'_1 m h.length 6 (Rv.elemOf I6 h)∧x.length=h.length∧(∀j∈x,j.length=6)∧∀(b:Nat),b < h.length→Rv.elemOf I6 h b=Rv.elemOf I6 x b)∧∃(R_4:List (List (List Int))),∃(ys_4:Nat→RV),Ob (R_4.length=R.length∧(∀(b:Nat),b < R.length→llElem I2 ys R b=llElem I2 ys_4 R_4 b)∧IsLL B'_1 I2 l ys_4 R_4)∧∃(s:List (List Int)),Ob (IsLst B'_1 n i.length 1 (Rv.elemOf [.i64] i)∧s.length=i.length∧(∀j∈s,j.length=1)∧∀(b:Nat),b < i.length→Rv.elemOf [.i64] i b=Rv.elemOf [.i64] s b)∧Ob (F_earns.pre ([Dat.z (a+z0 (runE a c d e g R_2 f) (late a c d e g R_2 f)),Dat.z c,Dat.z d,Dat.z w,Dat.z e,Dat.l x,Dat.ll R_4]++[Dat.l s]))∧(¬(runE (a+z0 (runE a c d e g R_2 f) (late a c d e g R_2 f)) c d e x R_4 s=(0:Int)↔true=true)→False)∧(¬¬(runE (a+z0 (runE a c d e g R_2 f) (late a c d e g R_2 f)) c d e x R_4 s=(0:Int)↔true=true)→Ob (InR .i64 (a+belowV y (z0 (runE a c d e g R_2 f) (late a c d e g R_2 f)+(1:Int))))∧∃(t:List (List Int)),Ob (IsLst B'_1 m h.length 6 (Rv.elemOf I6 h)∧t.length=h.length∧(∀j∈t,j.length=6)∧∀(b:Nat),b < h.length→Rv.elemOf I6 h b=Rv.elemOf I6 t b)∧∃(R_5:List (List (List Int))),∃(ys_5:Nat→RV),Ob (R_5.length=R.length∧(∀(b:Nat),b < R.length→llElem I2 ys R b=llElem I2 ys_5 R_5 b)∧IsLL B'_1 I2 l ys_5 R_5)∧∃(v:List (List Int)),Ob (IsLst B'_1 n i.length 1 (Rv.elemOf [.i64] i)∧v.length=i.length∧(∀j∈v,j.length=1)∧∀(b:Nat),b < i.length→Rv.elemOf [.i64] i b=Rv.elemOf [.i64] v b)∧Ob (F_earns.pre ([Dat.z (a+belowV y (z0 (runE a c d e g R_2 f) (late a c d e g R_2 f)+(1:Int))),Dat.z c,Dat.z d,Dat.z w,Dat.z e,Dat.l t,Dat.ll R_5]++[Dat.l v]))∧(¬(runE (a+belowV y (z0 (runE a c d e g R_2 f) (late a c d e g R_2 f)+(1:Int))) c d e t R_5 v=(0:Int)↔true=true)→False)∧(¬¬(runE (a+belowV y (z0 (runE a c d e g R_2 f) (late a c d e g R_2 f)+(1:Int))) c d e t R_5 v=(0:Int)↔true=true)→Ob (InR .i64 (a+(z0 (runE a c d e g R_2 f) (late a c d e g R_2 f)+(1:Int))))∧∃(r:List (List Int)),Ob (IsLst B'_1 m h.length 6 (Rv.elemOf I6 h)∧r.length=h.length∧(∀j∈r,j.length=6)∧∀(b:Nat),b < h.length→Rv.elemOf I6 h b=Rv.elemOf I6 r b)∧∃(R_6:List (List (List Int))),∃(ys_6:Nat→RV),Ob (R_6.length=R.length∧(∀(b:Nat),b < R.length→llElem I2 ys R b=llElem I2 ys_6 R_6 b)∧IsLL B'_1 I2 l ys_6 R_6)∧∃(p:List (List Int)),Ob (IsLst B'_1 n i.length 1 (Rv.elemOf [.i64] i)∧p.length=i.length∧(∀j∈p,j.length=1)∧∀(b:Nat),b < i.length→Rv.elemOf [.i64] i b=Rv.elemOf [.i64] p b)∧Ob (F_earns.pre ([Dat.z (a+(z0 (runE a c d e g R_2 f) (late a c d e g R_2 f)+(1:Int))),Dat.z c,Dat.z d,Dat.z w,Dat.z e,Dat.l r,Dat.ll R_6]++[Dat.l p]))∧(¬(runE (a+(z0 (runE a c d e g R_2 f) (late a c d e g R_2 f)+(1:Int))) c d e r R_6 p=(0:Int)↔false=true)→False)∧(¬¬(runE (a+(z0 (runE a c d e g R_2 f) (late a c d e g R_2 f)+(1:Int))) c d e r R_6 p=(0:Int)↔false=true)→Ob (hasTabs [] B'_1)∧True)))))∧(z0 (runE a c d e g R_2 f) (late a c d e g R_2 f) < (0:Int)→False)))
set_option linter.unusedSimpArgs false in
set_option maxRecDepth 4000 in
set_option maxHeartbeats 2000000 in
theorem v_law:V_law:=by
 unfold V_law I2 I6 LsA RwB
 intro B ht x N hx hox hr hN
 simp only [Ob_iff,and_true,true_and,implies_true,Classical.not_not,not_true_eq_false,F_TideOf,F_Below,F_TourOf,F_PlanOf,List.cons_append,List.nil_append,not_false_eq_true,true_implies,false_implies]
 refine⟨N,⟨hx,rfl,hr,fun i hi=>rfl⟩,hN,by decide,?_⟩
 intro a B1 g1 st en ta pr ba xs S hS hoS hSr xl ys L hL hoL ⟨hst,hT⟩
 have hen:=hT.en
 have hn:=hT.n
 refine⟨hx,hx,S,⟨hS,rfl,hSr,fun i hi=>rfl⟩,L,ys,⟨rfl,fun i hi=>rfl,hL⟩,by omega,?_⟩
 intro a2
 refine⟨hS,hL.1,?_⟩
 intro B2 g2 xp P hP hoP hPr ⟨hPl,_⟩
 have hx2:=hx.up g1
 have hSb:=hS
 have hLb:=hL
 have hS:=hS.up g2
 have hL:=hL.up g2
 have hT8:TourOk 8 en ta pr ba S L:=hT.mono (by decide)
 have hP1:P.length≤1000:=by omega
 refine⟨hx2,hx2,hSb,hLb.1,hSb,hLb.1,S,⟨hS,rfl,hSr,fun i hi=>rfl⟩,L,ys,⟨rfl,fun i hi=>rfl,hL⟩,P,⟨hP,rfl,hPr,fun i hi=>rfl⟩,⟨⟨hst.1,by omega⟩,hT8,hP1⟩,S,⟨hS,rfl,hSr,fun i hi=>rfl⟩,L,ys,⟨rfl,fun i hi=>rfl,hL⟩,P,⟨hP,rfl,hPr,fun i hi=>rfl⟩,⟨⟨hst.1,by omega⟩,hT8,hP1⟩,fun h=>h rfl,fun _=>⟨fun h1=>⟨fun _=>(ht.up g1).up g2,fun h2=>h2 (if_neg h1)⟩,fun h1=>?_⟩⟩
 have ez:z0 (runE st en ta ba S L P) (late st en ta ba S L P)=late st en ta ba S L P:=if_pos h1
 rw [ez]
 have hl0:=late_nn (st:=st) (en:=en) (ta:=ta) (ba:=ba) (S:=S) (L:=L) (P:=P)
 have hl1:=(runE_st (late_is h1 ⟨hl0,Int.le_refl _⟩)).1
 have hb:=belowV_in a2 (late st en ta ba S L P+1)
 have hz:=late_no (st:=st) (en:=en) (ta:=ta) (ba:=ba) (S:=S) (L:=L) (P:=P)
 have hd:∀d,0≤d∧d≤late st en ta ba S L P→runE (st+d) en ta ba S L P=0:=fun d hd=>late_is h1 hd
 generalize late st en ta ba S L P=l at *
 generalize belowV a2 (l+1)=b at *
 refine⟨fun h2=>⟨by simp only [InR]; omega,fun h3=>by omega,fun h3=>⟨by simp only [InR]; omega,by omega,by simp only [InR]; omega,by simp only [InR]; omega,S,⟨hS,rfl,hSr,fun i hi=>rfl⟩,L,ys,⟨rfl,fun i hi=>rfl,hL⟩,P,⟨hP,rfl,hPr,fun i hi=>rfl⟩,⟨⟨by omega,by omega⟩,hT8,hP1⟩,fun h4=>h4 ⟨fun _=>trivial,fun _=>hd l (by omega)⟩,fun _=>⟨by simp only [InR]; omega,S,⟨hS,rfl,hSr,fun i hi=>rfl⟩,L,ys,⟨rfl,fun i hi=>rfl,hL⟩,P,⟨hP,rfl,hPr,fun i hi=>rfl⟩,⟨⟨by omega,by omega⟩,hT8,hP1⟩,fun h4=>h4 ⟨fun _=>trivial,fun _=>hd b (by omega)⟩,fun _=>⟨by simp only [InR]; omega,S,⟨hS,rfl,hSr,fun i hi=>rfl⟩,L,ys,⟨rfl,fun i hi=>rfl,hL⟩,P,⟨hP,rfl,hPr,fun i hi=>rfl⟩,⟨⟨by omega,by omega⟩,hT8,hP1⟩,fun h4=>h4 ⟨fun q=>absurd q hz,fun q=>absurd q (by decide)⟩,fun _=>(ht.up g1).up g2⟩⟩⟩⟩,fun h2=>by omega⟩
theorem e_law:V_law=needLG P [] [F_TideOf,F_Below,F_Run,F_Late,F_earns] [F_TourOf,F_PlanOf] 10 ([]:Tabs) A_law F_law:=by kernel_rfl
theorem n_law:Ob (needLG P [] [F_TideOf,F_Below,F_Run,F_Late,F_earns] [F_TourOf,F_PlanOf] 10 ([]:Tabs) A_law F_law):=by
 rw [← e_law]
 exact⟨v_law⟩
theorem cg_law:∀F∈[F_TourOf,F_PlanOf],F.Ok P:=by
 intro F h
 simp only [List.mem_cons,List.not_mem_nil,or_false]at h
 rcases h with rfl | rfl
 ·exact TourOf_ok
 ·exact PlanOf_ok
theorem l_law:(([]:List Fn0).all fun G=>!Nat.beq G.g 10)=true:=rfl
theorem le_law:([F_TideOf,F_Below,F_Run,F_Late,F_earns].all fun G=>!Nat.beq G.g 10)=true:=rfl
theorem c_law:∀F∈([]:List Fn0),F.Ok P:=by
 intro F h; simp at h
theorem ce_law:∀F∈[F_TideOf,F_Below,F_Run,F_Late,F_earns],F.Ok P:=by
 intro F h
 simp only [List.mem_cons,List.not_mem_nil,or_false]at h
 rcases h with rfl | rfl | rfl | rfl | rfl
 ·exact TideOf_ok
 ·exact Below_ok
 ·exact Run_ok
 ·exact Late_ok
 ·exact earns_ok
end Go.Proofs.Ytimcjjekohfokaa.Sy
