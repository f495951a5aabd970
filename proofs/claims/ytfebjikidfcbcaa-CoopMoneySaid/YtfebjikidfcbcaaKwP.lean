import Derived.Test.YtfebjikidfcbcaaSyP2
import Derived.Test.YtfebjikidfcbcaaGrM
import Derived.Test.YtfebjikidfcbcaaStM
import Derived.Test.YtfebjikidfcbcaaLrM
import Derived.Test.YtfebjikidfcbcaaDhM
import Derived.Test.YtfebjikidfcbcaaKtT
import Derived.Test.YtfebjikidfcbcaaKtA
import Derived.Test.YtfebjikidfcbcaaKtB
import Derived.Test.YtfebjikidfcbcaaKwA
import Derived.Test.YtfebjikidfcbcaaKwB
import Derived.Test.YtfebjikidfcbcaaKwC
import Derived.Test.YtfebjikidfcbcaaKwD
import Derived.Test.YtfebjikidfcbcaaKwE
import Derived.Test.YtfebjikidfcbcaaKwF
import Derived.Test.YtfebjikidfcbcaaKwH
import Derived.Test.YtfebjikidfcbcaaKwI
import Derived.Test.YtfebjikidfcbcaaKwJ
import Derived.Test.YtfebjikidfcbcaaKwK
import Derived.Test.YtfebjikidfcbcaaKwM
import Derived.Test.YtfebjikidfcbcaaKwN
import Derived.Test.YtfebjikidfcbcaaKwO
import Derived.Test.YtfebjikidfcbcaaKwQ
import Derived.Test.YtfebjikidfcbcaaSyP2
import Derived.KernelRfl
import Derived.Test.YtfebjikidfcbcaaProg
namespace Go.Proofs.Ytfebjikidfcbcaa.Sy
open Go Go.Rv
set_option linter.unusedVariables false
structure Mst where
 q:Int
 fee:Int
 itr:Int
 pri:Int
 cre:Int
 till:Int
 A:Rows
 D:Rows
structure Mst.Ok (v:Mst):Prop where
 c:CoopOk v.fee v.itr v.pri v.cre v.A v.till
 a:∀r∈v.A,r.length=3
 l:v.D.length≤30
 d:∀r∈v.D,r.length=4
structure Mlt where
 m:Mst
 k:Nat
noncomputable def mgS (v:Mst) (k:Nat):Int:=surp (rnA v.fee v.itr v.pri v.cre v.A v.till v.D k) (rnT v.fee v.itr v.pri v.cre v.A v.till v.D k)-surp v.A v.till
theorem mgS_yes {v:Mst} (h:v.Ok) {k:Nat} (h0:rnE v.fee v.itr v.pri v.cre v.A v.till v.D k=0):mgS v k+gnD v.fee v.itr v.pri (cell v.D k 0) (cell v.D k 3)=mgS v (k+1)∧dT (rnT v.fee v.itr v.pri v.cre v.A v.till v.D k) (cell v.D k 0) (cell v.D k 3)=rnT v.fee v.itr v.pri v.cre v.A v.till v.D (k+1)∧(1≤cell v.D k 0∧cell v.D k 0≤8)∧1≤cell v.D k 3∧cell v.D k 3≤1000000000:=by
 have hv:=rn_ok h.c (D:=v.D) k
 have hl:=hv.l
 obtain⟨h1,h2,h3⟩:=afE_ok h0
 obtain⟨e1,e2⟩:=rn_yes h0
 have hs:=surp_step hv h1 h2
 obtain⟨g1,g2,g3,g4⟩:=dchk_ok (by omega) h1
 refine⟨?_,e2.symm,g1,g3⟩
 unfold mgS
 rw [e1,e2,hs]
 omega
theorem mgS_no {v:Mst} {k:Nat} (h0:¬ rnE v.fee v.itr v.pri v.cre v.A v.till v.D k=0):mgS v k=mgS v (k+1)∧rnT v.fee v.itr v.pri v.cre v.A v.till v.D k=rnT v.fee v.itr v.pri v.cre v.A v.till v.D (k+1):=by
 obtain⟨e1,e2⟩:=rn_no h0
 unfold mgS
 rw [e1,e2]
 exact⟨rfl,rfl⟩
theorem surp_in {fee itr pri cre:Int} {A:Rows} {till:Int} (h:CoopOk fee itr pri cre A till):0≤surp A till∧surp A till≤100000000000000:=by
 have h1:=h.s
 have hs:=h.small
 have b0:=hs.sum (c:=0) (by omega) (Nat.le_refl _)
 have b1:=hs.sum (c:=1) (by omega) (Nat.le_refl _)
 have ht:=h.t
 have ha:∀k,k≤A.length→0≤colS 0 A k∧colS 1 A k≤1000000000*k:=by
  intro k
  induction k with
  | zero=>intro _; exact⟨Int.le_refl _,Int.le_refl _⟩
  | succ k ih =>
   intro hk
   have h2:=ih (by omega)
   have h3:=h.a k (by omega)
   unfold accAt mny at h3
   have e0:colS 0 A (k+1)=colS 0 A k+cell A k 0:=rfl
   have e1:colS 1 A (k+1)=colS 1 A k+cell A k 1:=rfl
   omega
 have h2:=ha _ (Nat.le_refl _)
 have hl:=h.l
 unfold mny at ht
 refine⟨h1,?_⟩
 unfold surp
 omega
noncomputable def F_law:LawF:=⟨4,[.one (.l [.i64])],fun l=>match l with | [.l N]=>N.length≤9223372036854775807 | _=>False⟩
noncomputable def A_law:List SV→List Dat→Nat→List SV→Ann:=fun xs ds n ts=>match xs with
 | [.lst xz _ _ _]=>match ds with
  | [.l N]=>match n with
   | 4=>⟨Mst,fun v=>[none,none,none,none,some (.ptr 0 0),some (.gsl 2 v.D.length 4 true),none,none,none,none,none,none,none,none,none,none,none,none,none,none,none,none,none,none,none,none,none,none,none,none,none,none,none,none,none,none,none,none,none,none,none,none,none,none,none,none,none,none,none,none,none,none,none,none,none,none,none,none,none,none,none,none,none,none,none,none,none,none,none,none,none,none,none,none,none,none,none,none,none,none,none,none,none,none,none,none,none,none,none,none,none,none,none,none,none,none,none,none,none,none,none,none,none,none,none,none,none,none,none,none,none,none,none,none,none,none,none,none,none,none,none,none,none,none,none,none,none,none,none,none,none,none,none,none,none,none,none,none,none,none,none,none,none,none,none,none,none,none,none,none,none,none,none,none,none,none,none,none,none,none,none,none,none,none,none,none,none,none],fun v=>[.gr v.D.length 4 (.fn (Rv.elemOf [.i64,.i64,.i64,.i64] v.D)) .gr true,.gr v.A.length 3 (.fn (Rv.elemOf [.i64,.i64,.i64] v.A)) .gr true,.cells [.i .i64 v.fee,.i .i64 v.itr,.i .i64 v.pri,.i .i64 v.cre,.gsl 1 v.A.length 3 true,.i .i64 v.till] .ex],fun v=>v.Ok,fun _=>0,1000000⟩
   | 9=>⟨Mlt,fun v=>[none,none,none,none,some (.ptr 0 0),some (.gsl 2 v.m.D.length 4 true),some (.ptr 5 0),some (.gsl 4 v.m.D.length 1 true),none,some (.i .i64 (rnT v.m.fee v.m.itr v.m.pri v.m.cre v.m.A v.m.till v.m.D v.k)),some (.i .i64 (mgS v.m v.k)),some (.i .i64 v.k),none,none,none,none,none,none,none,none,none,none,none,none,none,none,none,none,none,none,none,none,none,none,none,none,none,none,none,none,none,none,none,none,none,none,none,none,none,none,none,none,none,none,none,none,none,none,none,none,none,none,none,none,none,none,none,none,none,none,none,none,none,none,none,none,none,none,none,none,none,none,none,none,none,none,none,none,none,none,none,none,none,none,none,none,none,none,none,none,none,none,none,none,none,none,none,none,none,none,none,none,none,none,none,none,none,none,none,none,none,none,none,none,none,none,none,none,none,none,none,none,none,none,none,none,none,none,none,none,none,none,none,none,none,none,none,none,none,none,none,none,none,none,none,none,none,none,none,none,none,none,none,none,none,none,none,none],fun v=>[.cells [.i .i64 v.m.fee,.i .i64 v.m.itr,.i .i64 v.m.pri,.i .i64 v.m.cre,.gsl 3 v.m.A.length 3 false,.i .i64 (rnT v.m.fee v.m.itr v.m.pri v.m.cre v.m.A v.m.till v.m.D v.m.D.length)] .ex,.gr v.m.D.length 1 (.fn (Rv.elemOf [.i64] (erL v.m.fee v.m.itr v.m.pri v.m.cre v.m.A v.m.till v.m.D v.m.D.length))) .gr true,.gr v.m.A.length 3 (.fn (Rv.elemOf [.i64,.i64,.i64] (rnA v.m.fee v.m.itr v.m.pri v.m.cre v.m.A v.m.till v.m.D v.m.D.length))) .gr false,.gr v.m.D.length 4 (.fn (Rv.elemOf [.i64,.i64,.i64,.i64] v.m.D)) .gr true,.gr v.m.A.length 3 (.fn (Rv.elemOf [.i64,.i64,.i64] v.m.A)) .gr true,.cells [.i .i64 v.m.fee,.i .i64 v.m.itr,.i .i64 v.m.pri,.i .i64 v.m.cre,.gsl 1 v.m.A.length 3 true,.i .i64 v.m.till] .ex],fun v=>v.m.Ok∧v.k≤v.m.D.length,fun v=>v.m.D.length-v.k,0⟩
   | _=>noAnn
  | _=>noAnn
 | _=>noAnn
set_option maxRecDepth 10000 in
def V_law:Prop:=∀(B:RW),hasTabs [] B→∀(x:RV) (rows:List (List Int)),IsLst B x rows.length 1 (Rv.elemOf [.i64] rows)→oneB x=true→(∀row∈rows,row.length=1)→rows.length≤9223372036854775807→∃(l1:List (List Int)),Ob (IsLst B x rows.length 1 (Rv.elemOf [.i64] rows)∧l1.length=rows.length∧(∀r∈l1,r.length=1)∧∀(i:Nat),i < rows.length→Rv.elemOf [.i64] rows i=Rv.elemOf [.i64] l1 i)∧Ob (F_TideOf.named.pre [Dat.l l1])∧Ob (F_CoopOf.named.pre ([Dat.z (tideK l1 l1.length)]++[Dat.z (5:Int)]))∧∀(v:Int),v=coAE (tideK l1 l1.length) (5:Int)→∀(v_1:Int),v_1=coF (tideK l1 l1.length)→∀(v_2:Int),v_2=coI (tideK l1 l1.length)→∀(v_3:Int),v_3=coP (tideK l1 l1.length)→∀(v_4:Int),v_4=coC (tideK l1 l1.length)→∀(v_5:Int),v_5=coT (tideK l1 l1.length) (5:Int)→(∃(l2:List (List Int)),Ob ((coN (tideK l1 l1.length) (5:Int)).toNat=(coN (tideK l1 l1.length) (5:Int)).toNat∧l2.length=(coN (tideK l1 l1.length) (5:Int)).toNat∧(∀r∈l2,r.length=3)∧∀(i:Nat),i < (coN (tideK l1 l1.length) (5:Int)).toNat→(El.fn (Rv.elemOf [.i64,.i64,.i64] (coR (tideK l1 l1.length) (5:Int) (coN (tideK l1 l1.length) (5:Int)).toNat))).at i=Rv.elemOf [.i64,.i64,.i64] l2 i)∧Ob (F_DealsOf.named.pre ([Dat.z v]++([Dat.z v_1,Dat.z v_2,Dat.z v_3,Dat.z v_4,Dat.l l2,Dat.z v_5]++[Dat.z (30:Int)])))∧∀(v_6:Int),v_6=itQ (dsQ (↑l2.length:Int)) (belowA v ((30:Int)+(1:Int))) (belowV v ((30:Int)+(1:Int))).toNat→∃(a:Mst),Ob a.Ok∧Ob ((belowV v ((30:Int)+(1:Int))).toNat=a.D.length)∧Ob ((belowV v ((30:Int)+(1:Int))).toNat=a.D.length∧∀(i:Nat),i < a.D.length→(El.fn (Rv.elemOf [.i64,.i64,.i64,.i64] (itR (dsQ (↑l2.length:Int)) (dsR (↑l2.length:Int)) (belowA v ((30:Int)+(1:Int))) (belowV v ((30:Int)+(1:Int))).toNat))).at i=(El.fn (Rv.elemOf [.i64,.i64,.i64,.i64] a.D)).at i)∧Ob ((coN (tideK l1 l1.length) (5:Int)).toNat=a.A.length∧∀(i:Nat),i < a.A.length→(El.fn (Rv.elemOf [.i64,.i64,.i64] (coR (tideK l1 l1.length) (5:Int) (coN (tideK l1 l1.length) (5:Int)).toNat))).at i=(El.fn (Rv.elemOf [.i64,.i64,.i64] a.A)).at i)∧Ob (v_1=a.fee)∧Ob (v_2=a.itr)∧Ob (v_3=a.pri)∧Ob (v_4=a.cre)∧Ob ((coN (tideK l1 l1.length) (5:Int)).toNat=a.A.length)∧Ob (v_5=a.till)∧Ob (PlainE (a.D.length) (El.fn (Rv.elemOf [.i64,.i64,.i64,.i64] a.D)))∧Ob (PlainE (a.A.length) (El.fn (Rv.elemOf [.i64,.i64,.i64] a.A)))∧True)∧∀(a:Mst),a.Ok→∀(_ _ _ _ _ _ _ _ _ _ _ _ _ _ _ _ _ _ _ _ _ _ _ _ _ _ _ _ _ _ _ _ _ _ _ _ _ _ _ _ _ _ _ _ _ _ _ _ _ _ _ _ _ _ _ _ _ _ _ _ _ _ _ _ _ _ _ _ _ _ _ _ _ _ _ _ _ _ _ _ _ _ _ _ _ _ _ _ _ _ _ _ _ _ _ _ _ _ _ _ _ _ _ _ _ _ _ _ _ _ _ _ _ _ _ _ _ _ _ _ _ _ _ _ _ _ _ _ _ _ _ _ _ _ _ _ _ _ _ _ _ _ _ _ _ _ _ _ _ _ _ _ _ _ _ _ _ _ _ _ _ _ _ _ _ _:Value),∃(l2:List (List Int)),Ob (a.A.length=a.A.length∧l2.length=a.A.length∧(∀r∈l2,r.length=3)∧∀(i:Nat),i < a.A.length→(El.fn (Rv.elemOf [.i64,.i64,.i64] a.A)).at i=Rv.elemOf [.i64,.i64,.i64] l2 i)∧∃(l3:List (List Int)),Ob (a.D.length=a.D.length∧l3.length=a.D.length∧(∀r∈l3,r.length=4)∧∀(i:Nat),i < a.D.length→(El.fn (Rv.elemOf [.i64,.i64,.i64,.i64] a.D)).at i=Rv.elemOf [.i64,.i64,.i64,.i64] l3 i)∧Ob (F_RunV.named.pre ([Dat.z a.fee,Dat.z a.itr,Dat.z a.pri,Dat.z a.cre,Dat.l l2,Dat.z a.till]++[Dat.l l3]))∧∀(v_6:Int),v_6=a.fee→∀(v_7:Int),v_7=a.itr→∀(v_8:Int),v_8=a.pri→∀(v_9:Int),v_9=a.cre→∀(v_10:Int),v_10=rnT a.fee a.itr a.pri a.cre l2 a.till l3 l3.length→(¬¬(↑l3.length:Int)=(↑(a.D.length):Int)→∃(l4:List (List Int)),Ob (l2.length=l2.length∧l4.length=l2.length∧(∀r∈l4,r.length=3)∧∀(i:Nat),i < l2.length→(El.fn (Rv.elemOf [.i64,.i64,.i64] (rnA a.fee a.itr a.pri a.cre l2 a.till l3 l3.length))).at i=Rv.elemOf [.i64,.i64,.i64] l4 i)∧Ob (F_CheckC.named.pre ([Dat.z v_6,Dat.z v_7,Dat.z v_8,Dat.z v_9,Dat.l l4,Dat.z v_10]++[]))∧∀(v_11:Int),v_11=coopErr v_6 v_7 v_8 v_9 l4 v_10→(¬¬v_11=(0:Int)→(¬¬(↑l2.length:Int)=(↑(a.A.length):Int)→(¬(v_6=a.fee∧v_7=a.itr∧v_8=a.pri∧v_9=a.cre∧True)→False)∧(¬¬(v_6=a.fee∧v_7=a.itr∧v_8=a.pri∧v_9=a.cre∧True)→(∃(a_1:Mlt),Ob (a_1.m.Ok∧a_1.k≤List.length a_1.m.D)∧Ob (a.D.length=List.length a_1.m.D)∧Ob (l3.length=List.length a_1.m.D)∧Ob (a.till=rnT a_1.m.fee a_1.m.itr a_1.m.pri a_1.m.cre a_1.m.A a_1.m.till a_1.m.D a_1.k)∧Ob ((0:Int)=mgS a_1.m a_1.k)∧Ob ((0:Int)=(↑a_1.k:Int))∧Ob (v_6=a_1.m.fee)∧Ob (v_7=a_1.m.itr)∧Ob (v_8=a_1.m.pri)∧Ob (v_9=a_1.m.cre)∧Ob (l2.length=List.length a_1.m.A)∧Ob (v_10=rnT a_1.m.fee a_1.m.itr a_1.m.pri a_1.m.cre a_1.m.A a_1.m.till a_1.m.D (List.length a_1.m.D))∧Ob (l3.length=List.length a_1.m.D∧∀(i:Nat),i < List.length a_1.m.D→(El.fn (Rv.elemOf [.i64] (erL a.fee a.itr a.pri a.cre l2 a.till l3 l3.length))).at i=(El.fn (Rv.elemOf [.i64] (erL a_1.m.fee a_1.m.itr a_1.m.pri a_1.m.cre a_1.m.A a_1.m.till a_1.m.D (List.length a_1.m.D)))).at i)∧Ob (l2.length=List.length a_1.m.A∧∀(i:Nat),i < List.length a_1.m.A→(El.fn (Rv.elemOf [.i64,.i64,.i64] (rnA a.fee a.itr a.pri a.cre l2 a.till l3 l3.length))).at i=(El.fn (Rv.elemOf [.i64,.i64,.i64] (rnA a_1.m.fee a_1.m.itr a_1.m.pri a_1.m.cre a_1.m.A a_1.m.till a_1.m.D (List.length a_1.m.D)))).at i)∧Ob (a.D.length=List.length a_1.m.D∧∀(i:Nat),i < List.length a_1.m.D→(El.fn (Rv.elemOf [.i64,.i64,.i64,.i64] a.D)).at i=(El.fn (Rv.elemOf [.i64,.i64,.i64,.i64] a_1.m.D)).at i)∧Ob (a.A.length=List.length a_1.m.A∧∀(i:Nat),i < List.length a_1.m.A→(El.fn (Rv.elemOf [.i64,.i64,.i64] a.A)).at i=(El.fn (Rv.elemOf [.i64,.i64,.i64] a_1.m.A)).at i)∧Ob (a.fee=a_1.m.fee)∧Ob (a.itr=a_1.m.itr)∧Ob (a.pri=a_1.m.pri)∧Ob (a.cre=a_1.m.cre)∧Ob (a.A.length=List.length a_1.m.A)∧Ob (a.till=a_1.m.till)∧Ob (PlainE (List.length a_1.m.D) (El.fn (Rv.elemOf [.i64] (erL a_1.m.fee a_1.m.itr a_1.m.pri a_1.m.cre a_1.m.A a_1.m.till a_1.m.D (List.length a_1.m.D)))))∧Ob (PlainE (List.length a_1.m.A) (El.fn (Rv.elemOf [.i64,.i64,.i64] (rnA a_1.m.fee a_1.m.itr a_1.m.pri a_1.m.cre a_1.m.A a_1.m.till a_1.m.D (List.length a_1.m.D)))))∧Ob (PlainE (List.length a_1.m.D) (El.fn (Rv.elemOf [.i64,.i64,.i64,.i64] a_1.m.D)))∧Ob (PlainE (List.length a_1.m.A) (El.fn (Rv.elemOf [.i64,.i64,.i64] a_1.m.A)))∧True)∧∀(a_1:Mlt),a_1.m.Ok∧a_1.k≤List.length a_1.m.D→∀(_ _ _ _ _ _ _ _ _ _ _ _ _ _ _ _ _ _ _ _ _ _ _ _ _ _ _ _ _ _ _ _ _ _ _ _ _ _ _ _ _ _ _ _ _ _ _ _ _ _ _ _ _ _ _ _ _ _ _ _ _ _ _ _ _ _ _ _ _ _ _ _ _ _ _ _ _ _ _ _ _ _ _ _ _ _ _ _ _ _ _ _ _ _ _ _ _ _ _ _ _ _ _ _ _ _ _ _ _ _ _ _ _ _ _ _ _ _ _ _ _ _ _ _ _ _ _ _ _ _ _ _ _ _ _ _ _ _ _ _ _ _ _ _ _ _ _ _ _ _ _ _ _ _ _ _ _ _ _ _ _:Value),((↑a_1.k:Int) < (↑(List.length a_1.m.D):Int)→Ob ((0:Int)≤(↑a_1.k:Int)∧a_1.k < List.length a_1.m.D)∧Ob (a_1.k < List.length a_1.m.D)∧(¬cell (erL a_1.m.fee a_1.m.itr a_1.m.pri a_1.m.cre a_1.m.A a_1.m.till a_1.m.D (List.length a_1.m.D)) a_1.k 0=(0:Int)→Ob (InR .i64 ((↑a_1.k:Int)+(1:Int)))∧∃(a':Mlt),Ob ((a'.m.Ok∧a'.k≤List.length a'.m.D)∧List.length a'.m.D-a'.k < List.length a_1.m.D-a_1.k)∧Ob (List.length a_1.m.D=List.length a'.m.D)∧Ob (List.length a_1.m.D=List.length a'.m.D)∧Ob (rnT a_1.m.fee a_1.m.itr a_1.m.pri a_1.m.cre a_1.m.A a_1.m.till a_1.m.D a_1.k=rnT a'.m.fee a'.m.itr a'.m.pri a'.m.cre a'.m.A a'.m.till a'.m.D a'.k)∧Ob (mgS a_1.m a_1.k=mgS a'.m a'.k)∧Ob ((↑a_1.k:Int)+(1:Int)=(↑a'.k:Int))∧Ob (a_1.m.fee=a'.m.fee)∧Ob (a_1.m.itr=a'.m.itr)∧Ob (a_1.m.pri=a'.m.pri)∧Ob (a_1.m.cre=a'.m.cre)∧Ob (List.length a_1.m.A=List.length a'.m.A)∧Ob (rnT a_1.m.fee a_1.m.itr a_1.m.pri a_1.m.cre a_1.m.A a_1.m.till a_1.m.D (List.length a_1.m.D)=rnT a'.m.fee a'.m.itr a'.m.pri a'.m.cre a'.m.A a'.m.till a'.m.D (List.length a'.m.D))∧Ob (List.length a_1.m.D=List.length a'.m.D∧∀(i:Nat),i < List.length a'.m.D→(El.fn (Rv.elemOf [.i64] (erL a_1.m.fee a_1.m.itr a_1.m.pri a_1.m.cre a_1.m.A a_1.m.till a_1.m.D (List.length a_1.m.D)))).at i=(El.fn (Rv.elemOf [.i64] (erL a'.m.fee a'.m.itr a'.m.pri a'.m.cre a'.m.A a'.m.till a'.m.D (List.length a'.m.D)))).at i)∧Ob (List.length a_1.m.A=List.length a'.m.A∧∀(i:Nat),i < List.length a'.m.A→(El.fn (Rv.elemOf [.i64,.i64,.i64] (rnA a_1.m.fee a_1.m.itr a_1.m.pri a_1.m.cre a_1.m.A a_1.m.till a_1.m.D (List.length a_1.m.D)))).at i=(El.fn (Rv.elemOf [.i64,.i64,.i64] (rnA a'.m.fee a'.m.itr a'.m.pri a'.m.cre a'.m.A a'.m.till a'.m.D (List.length a'.m.D)))).at i)∧Ob (List.length a_1.m.D=List.length a'.m.D∧∀(i:Nat),i < List.length a'.m.D→(El.fn (Rv.elemOf [.i64,.i64,.i64,.i64] a_1.m.D)).at i=(El.fn (Rv.elemOf [.i64,.i64,.i64,.i64] a'.m.D)).at i)∧Ob (List.length a_1.m.A=List.length a'.m.A∧∀(i:Nat),i < List.length a'.m.A→(El.fn (Rv.elemOf [.i64,.i64,.i64] a_1.m.A)).at i=(El.fn (Rv.elemOf [.i64,.i64,.i64] a'.m.A)).at i)∧Ob (a_1.m.fee=a'.m.fee)∧Ob (a_1.m.itr=a'.m.itr)∧Ob (a_1.m.pri=a'.m.pri)∧Ob (a_1.m.cre=a'.m.cre)∧Ob (List.length a_1.m.A=List.length a'.m.A)∧Ob (a_1.m.till=a'.m.till)∧Ob (PlainE (List.length a'.m.D) (El.fn (Rv.elemOf [.i64] (erL a'.m.fee a'.m.itr a'.m.pri a'.m.cre a'.m.A a'.m.till a'.m.D (List.length a'.m.D)))))∧Ob (PlainE (List.length a'.m.A) (El.fn (Rv.elemOf [.i64,.i64,.i64] (rnA a'.m.fee a'.m.itr a'.m.pri a'.m.cre a'.m.A a'.m.till a'.m.D (List.length a'.m.D)))))∧Ob (PlainE (List.length a'.m.D) (El.fn (Rv.elemOf [.i64,.i64,.i64,.i64] a'.m.D)))∧Ob (PlainE (List.length a'.m.A) (El.fn (Rv.elemOf [.i64,.i64,.i64] a'.m.A)))∧True)∧(¬¬cell (erL a_1.m.fee a_1.m.itr a_1.m.pri a_1.m.cre a_1.m.A a_1.m.till a_1.m.D (List.length a_1.m.D)) a_1.k 0=(0:Int)→Ob ((0:Int)≤(↑a_1.k:Int)∧a_1.k < List.length a_1.m.D)∧Ob (a_1.k < List.length a_1.m.D)∧Ob ((0:Int)≤(↑a_1.k:Int)∧a_1.k < List.length a_1.m.D)∧Ob (a_1.k < List.length a_1.m.D)∧(cell a_1.m.D a_1.k 0=(1:Int)→Ob (InR .i64 (rnT a_1.m.fee a_1.m.itr a_1.m.pri a_1.m.cre a_1.m.A a_1.m.till a_1.m.D a_1.k+cell a_1.m.D a_1.k 3))∧Ob (((0:Int)≤cell a_1.m.D a_1.k 3∧cell a_1.m.D a_1.k 3≤(1000000000:Int))∧(0:Int)≤a_1.m.fee∧a_1.m.fee≤(1000000:Int))∧Ob (InR .i64 (mgS a_1.m a_1.k+prt (cell a_1.m.D a_1.k 3) a_1.m.fee))∧Ob (InR .i64 ((↑a_1.k:Int)+(1:Int)))∧∃(a':Mlt),Ob ((a'.m.Ok∧a'.k≤List.length a'.m.D)∧List.length a'.m.D-a'.k < List.length a_1.m.D-a_1.k)∧Ob (List.length a_1.m.D=List.length a'.m.D)∧Ob (List.length a_1.m.D=List.length a'.m.D)∧Ob (rnT a_1.m.fee a_1.m.itr a_1.m.pri a_1.m.cre a_1.m.A a_1.m.till a_1.m.D a_1.k+cell a_1.m.D a_1.k 3=rnT a'.m.fee a'.m.itr a'.m.pri a'.m.cre a'.m.A a'.m.till a'.m.D a'.k)∧Ob (mgS a_1.m a_1.k+prt (cell a_1.m.D a_1.k 3) a_1.m.fee=mgS a'.m a'.k)∧Ob ((↑a_1.k:Int)+(1:Int)=(↑a'.k:Int))∧Ob (a_1.m.fee=a'.m.fee)∧Ob (a_1.m.itr=a'.m.itr)∧Ob (a_1.m.pri=a'.m.pri)∧Ob (a_1.m.cre=a'.m.cre)∧Ob (List.length a_1.m.A=List.length a'.m.A)∧Ob (rnT a_1.m.fee a_1.m.itr a_1.m.pri a_1.m.cre a_1.m.A a_1.m.till a_1.m.D (List.length a_1.m.D)=rnT a'.m.fee a'.m.itr a'.m.pri a'.m.cre a'.m.A a'.m.till a'.m.D (List.length a'.m.D))∧Ob (List.length a_1.m.D=List.length a'.m.D∧∀(i:Nat),i < List.length a'.m.D→(El.fn (Rv.elemOf [.i64] (erL a_1.m.fee a_1.m.itr a_1.m.pri a_1.m.cre a_1.m.A a_1.m.till a_1.m.D (List.length a_1.m.D)))).at i=(El.fn (Rv.elemOf [.i64] (erL a'.m.fee a'.m.itr a'.m.pri a'.m.cre a'.m.A a'.m.till a'.m.D (List.length a'.m.D)))).at i)∧Ob (List.length a_1.m.A=List.length a'.m.A∧∀(i:Nat),i < List.length a'.m.A→(El.fn (Rv.elemOf [.i64,.i64,.i64] (rnA a_1.m.fee a_1.m.itr a_1.m.pri a_1.m.cre a_1.m.A a_1.m.till a_1.m.D (List.length a_1.m.D)))).at i=(El.fn (Rv.elemOf [.i64,.i64,.i64] (rnA a'.m.fee a'.m.itr a'.m.pri a'.m.cre a'.m.A a'.m.till a'.m.D (List.length a'.m.D)))).at i)∧Ob (List.length a_1.m.D=List.length a'.m.D∧∀(i:Nat),i < List.length a'.m.D→(El.fn (Rv.elemOf [.i64,.i64,.i64,.i64] a_1.m.D)).at i=(El.fn (Rv.elemOf [.i64,.i64,.i64,.i64] a'.m.D)).at i)∧Ob (List.length a_1.m.A=List.length a'.m.A∧∀(i:Nat),i < List.length a'.m.A→(El.fn (Rv.elemOf [.i64,.i64,.i64] a_1.m.A)).at i=(El.fn (Rv.elemOf [.i64,.i64,.i64] a'.m.A)).at i)∧Ob (a_1.m.fee=a'.m.fee)∧Ob (a_1.m.itr=a'.m.itr)∧Ob (a_1.m.pri=a'.m.pri)∧Ob (a_1.m.cre=a'.m.cre)∧Ob (List.length a_1.m.A=List.length a'.m.A)∧Ob (a_1.m.till=a'.m.till)∧Ob (PlainE (List.length a'.m.D) (El.fn (Rv.elemOf [.i64] (erL a'.m.fee a'.m.itr a'.m.pri a'.m.cre a'.m.A a'.m.till a'.m.D (List.length a'.m.D)))))∧Ob (PlainE (List.length a'.m.A) (El.fn (Rv.elemOf [.i64,.i64,.i64] (rnA a'.m.fee a'.m.itr a'.m.pri a'.m.cre a'.m.A a'.m.till a'.m.D (List.length a'.m.D)))))∧Ob (PlainE (List.length a'.m.D) (El.fn (Rv.elemOf [.i64,.i64,.i64,.i64] a'.m.D)))∧Ob (PlainE (List.length a'.m.A) (El.fn (Rv.elemOf [.i64,.i64,.i64] a'.m.A)))∧True)∧(¬cell a_1.m.D a_1.k 0=(1:Int)→(cell a_1.m.D a_1.k 0=(2:Int)→Ob (InR .i64 (cell a_1.m.D a_1.k 3*a_1.m.pri))∧Ob (InR .i64 (mgS a_1.m a_1.k+cell a_1.m.D a_1.k 3*a_1.m.pri))∧Ob (InR .i64 ((↑a_1.k:Int)+(1:Int)))∧∃(a':Mlt),Ob ((a'.m.Ok∧a'.k≤List.length a'.m.D)∧List.length a'.m.D-a'.k < List.length a_1.m.D-a_1.k)∧Ob (List.length a_1.m.D=List.length a'.m.D)∧Ob (List.length a_1.m.D=List.length a'.m.D)∧Ob (rnT a_1.m.fee a_1.m.itr a_1.m.pri a_1.m.cre a_1.m.A a_1.m.till a_1.m.D a_1.k=rnT a'.m.fee a'.m.itr a'.m.pri a'.m.cre a'.m.A a'.m.till a'.m.D a'.k)∧Ob (mgS a_1.m a_1.k+cell a_1.m.D a_1.k 3*a_1.m.pri=mgS a'.m a'.k)∧Ob ((↑a_1.k:Int)+(1:Int)=(↑a'.k:Int))∧Ob (a_1.m.fee=a'.m.fee)∧Ob (a_1.m.itr=a'.m.itr)∧Ob (a_1.m.pri=a'.m.pri)∧Ob (a_1.m.cre=a'.m.cre)∧Ob (List.length a_1.m.A=List.length a'.m.A)∧Ob (rnT a_1.m.fee a_1.m.itr a_1.m.pri a_1.m.cre a_1.m.A a_1.m.till a_1.m.D (List.length a_1.m.D)=rnT a'.m.fee a'.m.itr a'.m.pri a'.m.cre a'.m.A a'.m.till a'.m.D (List.length a'.m.D))∧Ob (List.length a_1.m.D=List.length a'.m.D∧∀(i:Nat),i < List.length a'.m.D→(El.fn (Rv.elemOf [.i64] (erL a_1.m.fee a_1.m.itr a_1.m.pri a_1.m.cre a_1.m.A a_1.m.till a_1.m.D (List.length a_1.m.D)))).at i=(El.fn (Rv.elemOf [.i64] (erL a'.m.fee a'.m.itr a'.m.pri a'.m.cre a'.m.A a'.m.till a'.m.D (List.length a'.m.D)))).at i)∧Ob (List.length a_1.m.A=List.length a'.m.A∧∀(i:Nat),i < List.length a'.m.A→(El.fn (Rv.elemOf [.i64,.i64,.i64] (rnA a_1.m.fee a_1.m.itr a_1.m.pri a_1.m.cre a_1.m.A a_1.m.till a_1.m.D (List.length a_1.m.D)))).at i=(El.fn (Rv.elemOf [.i64,.i64,.i64] (rnA a'.m.fee a'.m.itr a'.m.pri a'.m.cre a'.m.A a'.m.till a'.m.D (List.length a'.m.D)))).at i)∧Ob (List.length a_1.m.D=List.length a'.m.D∧∀(i:Nat),i < List.length a'.m.D→(El.fn (Rv.elemOf [.i64,.i64,.i64,.i64] a_1.m.D)).at i=(El.fn (Rv.elemOf [.i64,.i64,.i64,.i64] a'.m.D)).at i)∧Ob (List.length a_1.m.A=List.length a'.m.A∧∀(i:Nat),i < List.length a'.m.A→(El.fn (Rv.elemOf [.i64,.i64,.i64] a_1.m.A)).at i=(El.fn (Rv.elemOf [.i64,.i64,.i64] a'.m.A)).at i)∧Ob (a_1.m.fee=a'.m.fee)∧Ob (a_1.m.itr=a'.m.itr)∧Ob (a_1.m.pri=a'.m.pri)∧Ob (a_1.m.cre=a'.m.cre)∧Ob (List.length a_1.m.A=List.length a'.m.A)∧Ob (a_1.m.till=a'.m.till)∧Ob (PlainE (List.length a'.m.D) (El.fn (Rv.elemOf [.i64] (erL a'.m.fee a'.m.itr a'.m.pri a'.m.cre a'.m.A a'.m.till a'.m.D (List.length a'.m.D)))))∧Ob (PlainE (List.length a'.m.A) (El.fn (Rv.elemOf [.i64,.i64,.i64] (rnA a'.m.fee a'.m.itr a'.m.pri a'.m.cre a'.m.A a'.m.till a'.m.D (List.length a'.m.D)))))∧Ob (PlainE (List.length a'.m.D) (El.fn (Rv.elemOf [.i64,.i64,.i64,.i64] a'.m.D)))∧Ob (PlainE (List.length a'.m.A) (El.fn (Rv.elemOf [.i64,.i64,.i64] a'.m.A)))∧True)∧(¬cell a_1.m.D a_1.k 0=(2:Int)→(cell a_1.m.D a_1.k 0=(3:Int)→Ob (((0:Int)≤cell a_1.m.D a_1.k 3∧cell a_1.m.D a_1.k 3≤(1000000000:Int))∧(0:Int)≤a_1.m.itr∧a_1.m.itr≤(1000000:Int))∧Ob (InR .i64 (mgS a_1.m a_1.k+prt (cell a_1.m.D a_1.k 3) a_1.m.itr))∧Ob (InR .i64 ((↑a_1.k:Int)+(1:Int)))∧∃(a':Mlt),Ob ((a'.m.Ok∧a'.k≤List.length a'.m.D)∧List.length a'.m.D-a'.k < List.length a_1.m.D-a_1.k)∧Ob (List.length a_1.m.D=List.length a'.m.D)∧Ob (List.length a_1.m.D=List.length a'.m.D)∧Ob (rnT a_1.m.fee a_1.m.itr a_1.m.pri a_1.m.cre a_1.m.A a_1.m.till a_1.m.D a_1.k=rnT a'.m.fee a'.m.itr a'.m.pri a'.m.cre a'.m.A a'.m.till a'.m.D a'.k)∧Ob (mgS a_1.m a_1.k+prt (cell a_1.m.D a_1.k 3) a_1.m.itr=mgS a'.m a'.k)∧Ob ((↑a_1.k:Int)+(1:Int)=(↑a'.k:Int))∧Ob (a_1.m.fee=a'.m.fee)∧Ob (a_1.m.itr=a'.m.itr)∧Ob (a_1.m.pri=a'.m.pri)∧Ob (a_1.m.cre=a'.m.cre)∧Ob (List.length a_1.m.A=List.length a'.m.A)∧Ob (rnT a_1.m.fee a_1.m.itr a_1.m.pri a_1.m.cre a_1.m.A a_1.m.till a_1.m.D (List.length a_1.m.D)=rnT a'.m.fee a'.m.itr a'.m.pri a'.m.cre a'.m.A a'.m.till a'.m.D (List.length a'.m.D))∧Ob (List.length a_1.m.D=List.length a'.m.D∧∀(i:Nat),i < List.length a'.m.D→(El.fn (Rv.elemOf [.i64] (erL a_1.m.fee a_1.m.itr a_1.m.pri a_1.m.cre a_1.m.A a_1.m.till a_1.m.D (List.length a_1.m.D)))).at i=(El.fn (Rv.elemOf [.i64] (erL a'.m.fee a'.m.itr a'.m.pri a'.m.cre a'.m.A a'.m.till a'.m.D (List.length a'.m.D)))).at i)∧Ob (List.length a_1.m.A=List.length a'.m.A∧∀(i:Nat),i < List.length a'.m.A→(El.fn (Rv.elemOf [.i64,.i64,.i64] (rnA a_1.m.fee a_1.m.itr a_1.m.pri a_1.m.cre a_1.m.A a_1.m.till a_1.m.D (List.length a_1.m.D)))).at i=(El.fn (Rv.elemOf [.i64,.i64,.i64] (rnA a'.m.fee a'.m.itr a'.m.pri a'.m.cre a'.m.A a'.m.till a'.m.D (List.length a'.m.D)))).at i)∧Ob (List.length a_1.m.D=List.length a'.m.D∧∀(i:Nat),i < List.length a'.m.D→(El.fn (Rv.elemOf [.i64,.i64,.i64,.i64] a_1.m.D)).at i=(El.fn (Rv.elemOf [.i64,.i64,.i64,.i64] a'.m.D)).at i)∧Ob (List.length a_1.m.A=List.length a'.m.A∧∀(i:Nat),i < List.length a'.m.A→(El.fn (Rv.elemOf [.i64,.i64,.i64] a_1.m.A)).at i=(El.fn (Rv.elemOf [.i64,.i64,.i64] a'.m.A)).at i)∧Ob (a_1.m.fee=a'.m.fee)∧Ob (a_1.m.itr=a'.m.itr)∧Ob (a_1.m.pri=a'.m.pri)∧Ob (a_1.m.cre=a'.m.cre)∧Ob (List.length a_1.m.A=List.length a'.m.A)∧Ob (a_1.m.till=a'.m.till)∧Ob (PlainE (List.length a'.m.D) (El.fn (Rv.elemOf [.i64] (erL a'.m.fee a'.m.itr a'.m.pri a'.m.cre a'.m.A a'.m.till a'.m.D (List.length a'.m.D)))))∧Ob (PlainE (List.length a'.m.A) (El.fn (Rv.elemOf [.i64,.i64,.i64] (rnA a'.m.fee a'.m.itr a'.m.pri a'.m.cre a'.m.A a'.m.till a'.m.D (List.length a'.m.D)))))∧Ob (PlainE (List.length a'.m.D) (El.fn (Rv.elemOf [.i64,.i64,.i64,.i64] a'.m.D)))∧Ob (PlainE (List.length a'.m.A) (El.fn (Rv.elemOf [.i64,.i64,.i64] a'.m.A)))∧True)∧(¬cell a_1.m.D a_1.k 0=(3:Int)→(cell a_1.m.D a_1.k 0=(5:Int)→Ob (InR .i64 (rnT a_1.m.fee a_1.m.itr a_1.m.pri a_1.m.cre a_1.m.A a_1.m.till a_1.m.D a_1.k-cell a_1.m.D a_1.k 3))∧Ob (InR .i64 ((↑a_1.k:Int)+(1:Int)))∧∃(a':Mlt),Ob ((a'.m.Ok∧a'.k≤List.length a'.m.D)∧List.length a'.m.D-a'.k < List.length a_1.m.D-a_1.k)∧Ob (List.length a_1.m.D=List.length a'.m.D)∧Ob (List.length a_1.m.D=List.length a'.m.D)∧Ob (rnT a_1.m.fee a_1.m.itr a_1.m.pri a_1.m.cre a_1.m.A a_1.m.till a_1.m.D a_1.k-cell a_1.m.D a_1.k 3=rnT a'.m.fee a'.m.itr a'.m.pri a'.m.cre a'.m.A a'.m.till a'.m.D a'.k)∧Ob (mgS a_1.m a_1.k=mgS a'.m a'.k)∧Ob ((↑a_1.k:Int)+(1:Int)=(↑a'.k:Int))∧Ob (a_1.m.fee=a'.m.fee)∧Ob (a_1.m.itr=a'.m.itr)∧Ob (a_1.m.pri=a'.m.pri)∧Ob (a_1.m.cre=a'.m.cre)∧Ob (List.length a_1.m.A=List.length a'.m.A)∧Ob (rnT a_1.m.fee a_1.m.itr a_1.m.pri a_1.m.cre a_1.m.A a_1.m.till a_1.m.D (List.length a_1.m.D)=rnT a'.m.fee a'.m.itr a'.m.pri a'.m.cre a'.m.A a'.m.till a'.m.D (List.length a'.m.D))∧Ob (List.length a_1.m.D=List.length a'.m.D∧∀(i:Nat),i < List.length a'.m.D→(El.fn (Rv.elemOf [.i64] (erL a_1.m.fee a_1.m.itr a_1.m.pri a_1.m.cre a_1.m.A a_1.m.till a_1.m.D (List.length a_1.m.D)))).at i=(El.fn (Rv.elemOf [.i64] (erL a'.m.fee a'.m.itr a'.m.pri a'.m.cre a'.m.A a'.m.till a'.m.D (List.length a'.m.D)))).at i)∧Ob (List.length a_1.m.A=List.length a'.m.A∧∀(i:Nat),i < List.length a'.m.A→(El.fn (Rv.elemOf [.i64,.i64,.i64] (rnA a_1.m.fee a_1.m.itr a_1.m.pri a_1.m.cre a_1.m.A a_1.m.till a_1.m.D (List.length a_1.m.D)))).at i=(El.fn (Rv.elemOf [.i64,.i64,.i64] (rnA a'.m.fee a'.m.itr a'.m.pri a'.m.cre a'.m.A a'.m.till a'.m.D (List.length a'.m.D)))).at i)∧Ob (List.length a_1.m.D=List.length a'.m.D∧∀(i:Nat),i < List.length a'.m.D→(El.fn (Rv.elemOf [.i64,.i64,.i64,.i64] a_1.m.D)).at i=(El.fn (Rv.elemOf [.i64,.i64,.i64,.i64] a'.m.D)).at i)∧Ob (List.length a_1.m.A=List.length a'.m.A∧∀(i:Nat),i < List.length a'.m.A→(El.fn (Rv.elemOf [.i64,.i64,.i64] a_1.m.A)).at i=(El.fn (Rv.elemOf [.i64,.i64,.i64] a'.m.A)).at i)∧Ob (a_1.m.fee=a'.m.fee)∧Ob (a_1.m.itr=a'.m.itr)∧Ob (a_1.m.pri=a'.m.pri)∧Ob (a_1.m.cre=a'.m.cre)∧Ob (List.length a_1.m.A=List.length a'.m.A)∧Ob (a_1.m.till=a'.m.till)∧Ob (PlainE (List.length a'.m.D) (El.fn (Rv.elemOf [.i64] (erL a'.m.fee a'.m.itr a'.m.pri a'.m.cre a'.m.A a'.m.till a'.m.D (List.length a'.m.D)))))∧Ob (PlainE (List.length a'.m.A) (El.fn (Rv.elemOf [.i64,.i64,.i64] (rnA a'.m.fee a'.m.itr a'.m.pri a'.m.cre a'.m.A a'.m.till a'.m.D (List.length a'.m.D)))))∧Ob (PlainE (List.length a'.m.D) (El.fn (Rv.elemOf [.i64,.i64,.i64,.i64] a'.m.D)))∧Ob (PlainE (List.length a'.m.A) (El.fn (Rv.elemOf [.i64,.i64,.i64] a'.m.A)))∧True)∧(¬cell a_1.m.D a_1.k 0=(5:Int)→(cell a_1.m.D a_1.k 0=(7:Int)→Ob (InR .i64 (mgS a_1.m a_1.k-cell a_1.m.D a_1.k 3))∧Ob (InR .i64 ((↑a_1.k:Int)+(1:Int)))∧∃(a':Mlt),Ob ((a'.m.Ok∧a'.k≤List.length a'.m.D)∧List.length a'.m.D-a'.k < List.length a_1.m.D-a_1.k)∧Ob (List.length a_1.m.D=List.length a'.m.D)∧Ob (List.length a_1.m.D=List.length a'.m.D)∧Ob (rnT a_1.m.fee a_1.m.itr a_1.m.pri a_1.m.cre a_1.m.A a_1.m.till a_1.m.D a_1.k=rnT a'.m.fee a'.m.itr a'.m.pri a'.m.cre a'.m.A a'.m.till a'.m.D a'.k)∧Ob (mgS a_1.m a_1.k-cell a_1.m.D a_1.k 3=mgS a'.m a'.k)∧Ob ((↑a_1.k:Int)+(1:Int)=(↑a'.k:Int))∧Ob (a_1.m.fee=a'.m.fee)∧Ob (a_1.m.itr=a'.m.itr)∧Ob (a_1.m.pri=a'.m.pri)∧Ob (a_1.m.cre=a'.m.cre)∧Ob (List.length a_1.m.A=List.length a'.m.A)∧Ob (rnT a_1.m.fee a_1.m.itr a_1.m.pri a_1.m.cre a_1.m.A a_1.m.till a_1.m.D (List.length a_1.m.D)=rnT a'.m.fee a'.m.itr a'.m.pri a'.m.cre a'.m.A a'.m.till a'.m.D (List.length a'.m.D))∧Ob (List.length a_1.m.D=List.length a'.m.D∧∀(i:Nat),i < List.length a'.m.D→(El.fn (Rv.elemOf [.i64] (erL a_1.m.fee a_1.m.itr a_1.m.pri a_1.m.cre a_1.m.A a_1.m.till a_1.m.D (List.length a_1.m.D)))).at i=(El.fn (Rv.elemOf [.i64] (erL a'.m.fee a'.m.itr a'.m.pri a'.m.cre a'.m.A a'.m.till a'.m.D (List.length a'.m.D)))).at i)∧Ob (List.length a_1.m.A=List.length a'.m.A∧∀(i:Nat),i < List.length a'.m.A→(El.fn (Rv.elemOf [.i64,.i64,.i64] (rnA a_1.m.fee a_1.m.itr a_1.m.pri a_1.m.cre a_1.m.A a_1.m.till a_1.m.D (List.length a_1.m.D)))).at i=(El.fn (Rv.elemOf [.i64,.i64,.i64] (rnA a'.m.fee a'.m.itr a'.m.pri a'.m.cre a'.m.A a'.m.till a'.m.D (List.length a'.m.D)))).at i)∧Ob (List.length a_1.m.D=List.length a'.m.D∧∀(i:Nat),i < List.length a'.m.D→(El.fn (Rv.elemOf [.i64,.i64,.i64,.i64] a_1.m.D)).at i=(El.fn (Rv.elemOf [.i64,.i64,.i64,.i64] a'.m.D)).at i)∧Ob (List.length a_1.m.A=List.length a'.m.A∧∀(i:Nat),i < List.length a'.m.A→(El.fn (Rv.elemOf [.i64,.i64,.i64] a_1.m.A)).at i=(El.fn (Rv.elemOf [.i64,.i64,.i64] a'.m.A)).at i)∧Ob (a_1.m.fee=a'.m.fee)∧Ob (a_1.m.itr=a'.m.itr)∧Ob (a_1.m.pri=a'.m.pri)∧Ob (a_1.m.cre=a'.m.cre)∧Ob (List.length a_1.m.A=List.length a'.m.A)∧Ob (a_1.m.till=a'.m.till)∧Ob (PlainE (List.length a'.m.D) (El.fn (Rv.elemOf [.i64] (erL a'.m.fee a'.m.itr a'.m.pri a'.m.cre a'.m.A a'.m.till a'.m.D (List.length a'.m.D)))))∧Ob (PlainE (List.length a'.m.A) (El.fn (Rv.elemOf [.i64,.i64,.i64] (rnA a'.m.fee a'.m.itr a'.m.pri a'.m.cre a'.m.A a'.m.till a'.m.D (List.length a'.m.D)))))∧Ob (PlainE (List.length a'.m.D) (El.fn (Rv.elemOf [.i64,.i64,.i64,.i64] a'.m.D)))∧Ob (PlainE (List.length a'.m.A) (El.fn (Rv.elemOf [.i64,.i64,.i64] a'.m.A)))∧True)∧(¬cell a_1.m.D a_1.k 0=(7:Int)→(cell a_1.m.D a_1.k 0=(8:Int)→Ob (InR .i64 (rnT a_1.m.fee a_1.m.itr a_1.m.pri a_1.m.cre a_1.m.A a_1.m.till a_1.m.D a_1.k-cell a_1.m.D a_1.k 3))∧Ob (InR .i64 (mgS a_1.m a_1.k-cell a_1.m.D a_1.k 3))∧Ob (InR .i64 ((↑a_1.k:Int)+(1:Int)))∧∃(a':Mlt),Ob ((a'.m.Ok∧a'.k≤List.length a'.m.D)∧List.length a'.m.D-a'.k < List.length a_1.m.D-a_1.k)∧Ob (List.length a_1.m.D=List.length a'.m.D)∧Ob (List.length a_1.m.D=List.length a'.m.D)∧Ob (rnT a_1.m.fee a_1.m.itr a_1.m.pri a_1.m.cre a_1.m.A a_1.m.till a_1.m.D a_1.k-cell a_1.m.D a_1.k 3=rnT a'.m.fee a'.m.itr a'.m.pri a'.m.cre a'.m.A a'.m.till a'.m.D a'.k)∧Ob (mgS a_1.m a_1.k-cell a_1.m.D a_1.k 3=mgS a'.m a'.k)∧Ob ((↑a_1.k:Int)+(1:Int)=(↑a'.k:Int))∧Ob (a_1.m.fee=a'.m.fee)∧Ob (a_1.m.itr=a'.m.itr)∧Ob (a_1.m.pri=a'.m.pri)∧Ob (a_1.m.cre=a'.m.cre)∧Ob (List.length a_1.m.A=List.length a'.m.A)∧Ob (rnT a_1.m.fee a_1.m.itr a_1.m.pri a_1.m.cre a_1.m.A a_1.m.till a_1.m.D (List.length a_1.m.D)=rnT a'.m.fee a'.m.itr a'.m.pri a'.m.cre a'.m.A a'.m.till a'.m.D (List.length a'.m.D))∧Ob (List.length a_1.m.D=List.length a'.m.D∧∀(i:Nat),i < List.length a'.m.D→(El.fn (Rv.elemOf [.i64] (erL a_1.m.fee a_1.m.itr a_1.m.pri a_1.m.cre a_1.m.A a_1.m.till a_1.m.D (List.length a_1.m.D)))).at i=(El.fn (Rv.elemOf [.i64] (erL a'.m.fee a'.m.itr a'.m.pri a'.m.cre a'.m.A a'.m.till a'.m.D (List.length a'.m.D)))).at i)∧Ob (List.length a_1.m.A=List.length a'.m.A∧∀(i:Nat),i < List.length a'.m.A→(El.fn (Rv.elemOf [.i64,.i64,.i64] (rnA a_1.m.fee a_1.m.itr a_1.m.pri a_1.m.cre a_1.m.A a_1.m.till a_1.m.D (List.length a_1.m.D)))).at i=(El.fn (Rv.elemOf [.i64,.i64,.i64] (rnA a'.m.fee a'.m.itr a'.m.pri a'.m.cre a'.m.A a'.m.till a'.m.D (List.length a'.m.D)))).at i)∧Ob (List.length a_1.m.D=List.length a'.m.D∧∀(i:Nat),i < List.length a'.m.D→(El.fn (Rv.elemOf [.i64,.i64,.i64,.i64] a_1.m.D)).at i=(El.fn (Rv.elemOf [.i64,.i64,.i64,.i64] a'.m.D)).at i)∧Ob (List.length a_1.m.A=List.length a'.m.A∧∀(i:Nat),i < List.length a'.m.A→(El.fn (Rv.elemOf [.i64,.i64,.i64] a_1.m.A)).at i=(El.fn (Rv.elemOf [.i64,.i64,.i64] a'.m.A)).at i)∧Ob (a_1.m.fee=a'.m.fee)∧Ob (a_1.m.itr=a'.m.itr)∧Ob (a_1.m.pri=a'.m.pri)∧Ob (a_1.m.cre=a'.m.cre)∧Ob (List.length a_1.m.A=List.length a'.m.A)∧Ob (a_1.m.till=a'.m.till)∧Ob (PlainE (List.length a'.m.D) (El.fn (Rv.elemOf [.i64] (erL a'.m.fee a'.m.itr a'.m.pri a'.m.cre a'.m.A a'.m.till a'.m.D (List.length a'.m.D)))))∧Ob (PlainE (List.length a'.m.A) (El.fn (Rv.elemOf [.i64,.i64,.i64] (rnA a'.m.fee a'.m.itr a'.m.pri a'.m.cre a'.m.A a'.m.till a'.m.D (List.length a'.m.D)))))∧Ob (PlainE (List.length a'.m.D) (El.fn (Rv.elemOf [.i64,.i64,.i64,.i64] a'.m.D)))∧Ob (PlainE (List.length a'.m.A) (El.fn (Rv.elemOf [.i64,.i64,.i64] a'.m.A)))∧True)∧(¬cell a_1.m.D a_1.k 0=(8:Int)→Ob (InR .i64 ((↑a_1.k:Int)+(1:Int)))∧∃(a':Mlt),Ob ((a'.m.Ok∧a'.k≤List.length a'.m.D)∧List.length a'.m.D-a'.k < List.length a_1.m.D-a_1.k)∧Ob (List.length a_1.m.D=List.length a'.m.D)∧Ob (List.length a_1.m.D=List.length a'.m.D)∧Ob (rnT a_1.m.fee a_1.m.itr a_1.m.pri a_1.m.cre a_1.m.A a_1.m.till a_1.m.D a_1.k=rnT a'.m.fee a'.m.itr a'.m.pri a'.m.cre a'.m.A a'.m.till a'.m.D a'.k)∧Ob (mgS a_1.m a_1.k=mgS a'.m a'.k)∧Ob ((↑a_1.k:Int)+(1:Int)=(↑a'.k:Int))∧Ob (a_1.m.fee=a'.m.fee)∧Ob (a_1.m.itr=a'.m.itr)∧Ob (a_1.m.pri=a'.m.pri)∧Ob (a_1.m.cre=a'.m.cre)∧Ob (List.length a_1.m.A=List.length a'.m.A)∧Ob (rnT a_1.m.fee a_1.m.itr a_1.m.pri a_1.m.cre a_1.m.A a_1.m.till a_1.m.D (List.length a_1.m.D)=rnT a'.m.fee a'.m.itr a'.m.pri a'.m.cre a'.m.A a'.m.till a'.m.D (List.length a'.m.D))∧Ob (List.length a_1.m.D=List.length a'.m.D∧∀(i:Nat),i < List.length a'.m.D→(El.fn (Rv.elemOf [.i64] (erL a_1.m.fee a_1.m.itr a_1.m.pri a_1.m.cre a_1.m.A a_1.m.till a_1.m.D (List.length a_1.m.D)))).at i=(El.fn (Rv.elemOf [.i64] (erL a'.m.fee a'.m.itr a'.m.pri a'.m.cre a'.m.A a'.m.till a'.m.D (List.length a'.m.D)))).at i)∧Ob (List.length a_1.m.A=List.length a'.m.A∧∀(i:Nat),i < List.length a'.m.A→(El.fn (Rv.elemOf [.i64,.i64,.i64] (rnA a_1.m.fee a_1.m.itr a_1.m.pri a_1.m.cre a_1.m.A a_1.m.till a_1.m.D (List.length a_1.m.D)))).at i=(El.fn (Rv.elemOf [.i64,.i64,.i64] (rnA a'.m.fee a'.m.itr a'.m.pri a'.m.cre a'.m.A a'.m.till a'.m.D (List.length a'.m.D)))).at i)∧Ob (List.length a_1.m.D=List.length a'.m.D∧∀(i:Nat),i < List.length a'.m.D→(El.fn (Rv.elemOf [.i64,.i64,.i64,.i64] a_1.m.D)).at i=(El.fn (Rv.elemOf [.i64,.i64,.i64,.i64] a'.m.D)).at i)∧Ob (List.length a_1.m.A=List.length a'.m.A∧∀(i:Nat),i < List.length a'.m.A→(El.fn (Rv.elemOf [.i64,.i64,.i64] a_1.m.A)).at i=(El.fn (Rv.elemOf [.i64,.i64,.i64] a'.m.A)).at i)∧Ob (a_1.m.fee=a'.m.fee)∧Ob (a_1.m.itr=a'.m.itr)∧Ob (a_1.m.pri=a'.m.pri)∧Ob (a_1.m.cre=a'.m.cre)∧Ob (List.length a_1.m.A=List.length a'.m.A)∧Ob (a_1.m.till=a'.m.till)∧Ob (PlainE (List.length a'.m.D) (El.fn (Rv.elemOf [.i64] (erL a'.m.fee a'.m.itr a'.m.pri a'.m.cre a'.m.A a'.m.till a'.m.D (List.length a'.m.D)))))∧Ob (PlainE (List.length a'.m.A) (El.fn (Rv.elemOf [.i64,.i64,.i64] (rnA a'.m.fee a'.m.itr a'.m.pri a'.m.cre a'.m.A a'.m.till a'.m.D (List.length a'.m.D)))))∧Ob (PlainE (List.length a'.m.D) (El.fn (Rv.elemOf [.i64,.i64,.i64,.i64] a'.m.D)))∧Ob (PlainE (List.length a'.m.A) (El.fn (Rv.elemOf [.i64,.i64,.i64] a'.m.A)))∧True))))))))∧(¬(↑a_1.k:Int) < (↑(List.length a_1.m.D):Int)→∃(l5:List (List Int)),Ob (List.length a_1.m.A=List.length a_1.m.A∧l5.length=List.length a_1.m.A∧(∀r∈l5,r.length=3)∧∀(i:Nat),i < List.length a_1.m.A→(El.fn (Rv.elemOf [.i64,.i64,.i64] a_1.m.A)).at i=Rv.elemOf [.i64,.i64,.i64] l5 i)∧Ob (F_SurplusC.named.pre ([Dat.z a_1.m.fee,Dat.z a_1.m.itr,Dat.z a_1.m.pri,Dat.z a_1.m.cre,Dat.l l5,Dat.z a_1.m.till]++[]))∧∀(v_12:Int),v_12=surV a_1.m.fee a_1.m.itr a_1.m.pri a_1.m.cre l5 a_1.m.till→∀(v_13:Int),v_13=coopErr a_1.m.fee a_1.m.itr a_1.m.pri a_1.m.cre l5 a_1.m.till→∃(l6:List (List Int)),Ob (List.length a_1.m.A=List.length a_1.m.A∧l6.length=List.length a_1.m.A∧(∀r∈l6,r.length=3)∧∀(i:Nat),i < List.length a_1.m.A→(El.fn (Rv.elemOf [.i64,.i64,.i64] (rnA a_1.m.fee a_1.m.itr a_1.m.pri a_1.m.cre a_1.m.A a_1.m.till a_1.m.D (List.length a_1.m.D)))).at i=Rv.elemOf [.i64,.i64,.i64] l6 i)∧Ob (F_SurplusC.named.pre ([Dat.z a_1.m.fee,Dat.z a_1.m.itr,Dat.z a_1.m.pri,Dat.z a_1.m.cre,Dat.l l6,Dat.z (rnT a_1.m.fee a_1.m.itr a_1.m.pri a_1.m.cre a_1.m.A a_1.m.till a_1.m.D (List.length a_1.m.D))]++[]))∧∀(v_14:Int),v_14=surV a_1.m.fee a_1.m.itr a_1.m.pri a_1.m.cre l6 (rnT a_1.m.fee a_1.m.itr a_1.m.pri a_1.m.cre a_1.m.A a_1.m.till a_1.m.D (List.length a_1.m.D))→∀(v_15:Int),v_15=coopErr a_1.m.fee a_1.m.itr a_1.m.pri a_1.m.cre l6 (rnT a_1.m.fee a_1.m.itr a_1.m.pri a_1.m.cre a_1.m.A a_1.m.till a_1.m.D (List.length a_1.m.D))→(v_13=(0:Int)→(v_15=(0:Int)→(rnT a_1.m.fee a_1.m.itr a_1.m.pri a_1.m.cre a_1.m.A a_1.m.till a_1.m.D (List.length a_1.m.D)=rnT a_1.m.fee a_1.m.itr a_1.m.pri a_1.m.cre a_1.m.A a_1.m.till a_1.m.D a_1.k→Ob (InR .i64 (v_12+mgS a_1.m a_1.k))∧(v_14=v_12+mgS a_1.m a_1.k→((0:Int)≤v_14→Ob (hasTabs [] B)∧True)∧(¬(0:Int)≤v_14→False))∧(¬v_14=v_12+mgS a_1.m a_1.k→False))∧(¬rnT a_1.m.fee a_1.m.itr a_1.m.pri a_1.m.cre a_1.m.A a_1.m.till a_1.m.D (List.length a_1.m.D)=rnT a_1.m.fee a_1.m.itr a_1.m.pri a_1.m.cre a_1.m.A a_1.m.till a_1.m.D a_1.k→False))∧(¬v_15=(0:Int)→False))∧(¬v_13=(0:Int)→False))))∧(¬(↑l2.length:Int)=(↑(a.A.length):Int)→False))∧(¬v_11=(0:Int)→False))∧(¬(↑l3.length:Int)=(↑(a.D.length):Int)→False)
set_option linter.unusedSimpArgs false in
set_option maxRecDepth 4000 in
set_option maxHeartbeats 2000000 in
theorem v_law:V_law:=by
 unfold V_law
 intro B htab xz N hz hoz hrz hN
 simp only [Ob_iff,and_true,true_and,Classical.not_not]
 refine⟨N,⟨hz,rfl,hrz,fun _ _=>rfl⟩,hN,⟨by omega,by omega⟩,?_⟩
 obtain⟨a0,ha0⟩:∃a0,tideK N N.length=a0:=⟨_,rfl⟩
 rw [ha0]
 intro q hq f hf i hi p hp c hc t ht
 have hc0:=co_ok a0 (most:=5) (by omega) (by omega)
 have hl0:=co_len a0 5 (coN a0 5).toNat
 have hr0:=co_row a0 5 (coN a0 5).toNat
 rw [← hf,← hi,← hp,← hc,← ht]at hc0
 clear hf hi hp hc ht
 obtain⟨A,hA⟩:∃A,coR a0 5 (coN a0 5).toNat=A:=⟨_,rfl⟩
 obtain⟨n,hn⟩:∃n,(coN a0 5).toNat=n:=⟨_,rfl⟩
 rw [hA]at hc0 hl0 hr0
 rw [hn]at hl0
 rw [hA,hn]
 clear hA hn
 subst hl0
 have hAl:=hc0.l
 refine⟨⟨A,⟨rfl,hr0,fun _ _=>rfl⟩,⟨⟨by omega,by omega⟩,by omega,by omega⟩,?_⟩,?_⟩
 ·intro w hw
  clear hw
  have hb:=belowV_in q (30+1)
  obtain⟨m,hm⟩:∃m,(belowV q (30+1)).toNat=m:=⟨_,rfl⟩
  have hm30:m≤30:=by omega
  rw [hm]
  clear hb hm
  have dl:=ds_len (A.length:Int) (belowA q (30+1)) m
  have dr:=ds_row (A.length:Int) (belowA q (30+1)) m
  obtain⟨D,hD⟩:∃D,itR (dsQ (A.length:Int)) (dsR (A.length:Int)) (belowA q (30+1)) m=D:=⟨_,rfl⟩
  rw [hD]at dl dr ⊢
  clear hD
  subst dl
  exact⟨⟨q,f,i,p,c,t,A,D⟩,⟨hc0,hr0,hm30,dr⟩,rfl,⟨rfl,fun _ _=>rfl⟩,⟨rfl,fun _ _=>rfl⟩,rfl,rfl,rfl,rfl,rfl,rfl,plain_elemOf _ _ _,plain_elemOf _ _ _⟩
 clear hc0 hr0 hAl
 intro v hv
 intros
 have h0:=coop_zero hv.c
 have hl:=hv.c.l
 have hD:=hv.l
 refine⟨v.A,⟨rfl,hv.a,fun _ _=>rfl⟩,v.D,⟨rfl,hv.d,fun _ _=>rfl⟩,⟨h0,by omega⟩,?_⟩
 intro v6 h6 v7 h7 v8 h8 v9 h9 v10 h10
 have hN:=rn_ok hv.c (D:=v.D) v.D.length
 have lN:(rnA v.fee v.itr v.pri v.cre v.A v.till v.D v.D.length).length=v.A.length:=rn_len _
 have rN:=rn_row (fee:=v.fee) (itr:=v.itr) (pri:=v.pri) (cre:=v.cre) (till:=v.till) (D:=v.D) hv.a v.D.length
 subst h6 h7 h8 h9 h10
 refine⟨fun _=>⟨rnA v.fee v.itr v.pri v.cre v.A v.till v.D v.D.length,⟨lN,rN,fun _ _=>rfl⟩,by show _≤4000000; omega,?_⟩,fun h=>absurd rfl h⟩
 intro v11 h11
 rw [coop_zero hN]at h11
 subst h11
 refine⟨fun _=>⟨fun _=>⟨fun h=>absurd ⟨rfl,rfl,rfl,rfl⟩ h,fun _=>⟨?_,?_⟩⟩,fun h=>absurd rfl h⟩,fun h=>absurd rfl h⟩
 ·refine⟨⟨v,0⟩,⟨hv,Nat.zero_le _⟩,rfl,rfl,rfl,?_,rfl,rfl,rfl,rfl,rfl,rfl,rfl,⟨rfl,fun _ _=>rfl⟩,⟨rfl,fun _ _=>rfl⟩,⟨rfl,fun _ _=>rfl⟩,⟨rfl,fun _ _=>rfl⟩,rfl,rfl,rfl,rfl,rfl,rfl,?_⟩
  ·show 0=surp v.A v.till-surp v.A v.till
   omega
  ·repeat' (first | exact plain_elemOf _ _ _ | apply And.intro)
 clear hN lN rN h0 hl hD hv
 intro u hu
 obtain⟨hu,hk⟩:=hu
 intros
 have h0:=coop_zero hu.c
 have hl:=hu.c.l
 have hD:=hu.l
 refine⟨fun h1=>?_,fun h1=>?_⟩
 ·have hk':u.k < u.m.D.length:=by omega
  have hd:u.m.D.length-(u.k+1) < u.m.D.length-u.k:=by omega
  have hc1:(u.k:Int)+1=((u.k+1:Nat):Int):=by omega
  have i1:InR .i64 ((u.k:Int)+1):=by simp only [InR]; omega
  have ec:cell (erL u.m.fee u.m.itr u.m.pri u.m.cre u.m.A u.m.till u.m.D u.m.D.length) u.k 0=rnE u.m.fee u.m.itr u.m.pri u.m.cre u.m.A u.m.till u.m.D u.k:=erL_cell hk'
  have pl:PlainE u.m.D.length (.fn (Rv.elemOf [.i64] (erL u.m.fee u.m.itr u.m.pri u.m.cre u.m.A u.m.till u.m.D u.m.D.length)))∧PlainE u.m.A.length (.fn (Rv.elemOf [.i64,.i64,.i64] (rnA u.m.fee u.m.itr u.m.pri u.m.cre u.m.A u.m.till u.m.D u.m.D.length)))∧PlainE u.m.D.length (.fn (Rv.elemOf [.i64,.i64,.i64,.i64] u.m.D))∧PlainE u.m.A.length (.fn (Rv.elemOf [.i64,.i64,.i64] u.m.A)):=⟨plain_elemOf _ _ _,plain_elemOf _ _ _,plain_elemOf _ _ _,plain_elemOf _ _ _⟩
  have sk:=surp_in (rn_ok hu.c (D:=u.m.D) u.k)
  have s0:=surp_in hu.c
  have tk:=(rn_ok hu.c (D:=u.m.D) u.k).t
  have em:mgS u.m u.k=surp (rnA u.m.fee u.m.itr u.m.pri u.m.cre u.m.A u.m.till u.m.D u.k) (rnT u.m.fee u.m.itr u.m.pri u.m.cre u.m.A u.m.till u.m.D u.k)-surp u.m.A u.m.till:=rfl
  have hr:=hu.c.r
  unfold mny at tk hr
  rw [ec]
  refine⟨⟨by omega,hk'⟩,hk',fun h2=>⟨i1,⟨⟨u.m,u.k+1⟩,⟨⟨hu,hk'⟩,hd⟩,rfl,rfl,(mgS_no h2).2,(mgS_no h2).1,hc1,rfl,rfl,rfl,rfl,rfl,rfl,⟨rfl,fun _ _=>rfl⟩,⟨rfl,fun _ _=>rfl⟩,⟨rfl,fun _ _=>rfl⟩,⟨rfl,fun _ _=>rfl⟩,rfl,rfl,rfl,rfl,rfl,rfl,pl⟩⟩,fun h2=>?_⟩
  obtain⟨gg,tt,kk,qq⟩:=mgS_yes hu h2
  have pf:=prt_in (q:=cell u.m.D u.k 3) (p:=u.m.fee) (by omega) hr.1
  have pi:=prt_in (q:=cell u.m.D u.k 3) (p:=u.m.itr) (by omega) hr.2.1
  have qp:0≤cell u.m.D u.k 3*u.m.pri∧cell u.m.D u.k 3*u.m.pri≤1000000000000:=by
   have h3:0≤cell u.m.D u.k 3*u.m.pri:=Int.mul_nonneg (by omega) hr.2.2.1.1
   have h4:cell u.m.D u.k 3*u.m.pri≤cell u.m.D u.k 3*1000:=Int.mul_le_mul_of_nonneg_left hr.2.2.1.2 (by omega)
   omega
  have gb:-200000000000000≤mgS u.m u.k∧mgS u.m u.k≤200000000000000:=by omega
  clear sk s0 em ec
  refine⟨⟨by omega,hk'⟩,hk',⟨by omega,hk'⟩,hk',fun k1=>?_,fun k1=>⟨fun k2=>?_,fun k2=>⟨fun k3=>?_,fun k3=>⟨fun k5=>?_,fun k5=>⟨fun k7=>?_,fun k7=>⟨fun k8=>?_,fun k8=>?_⟩⟩⟩⟩⟩⟩
  ·simp [dT,gnD,k1]at gg tt
   exact⟨by simp only [InR]; omega,⟨by omega,hr.1⟩,by simp only [InR]; omega,i1,⟨⟨u.m,u.k+1⟩,⟨⟨hu,hk'⟩,hd⟩,rfl,rfl,tt,gg,hc1,rfl,rfl,rfl,rfl,rfl,rfl,⟨rfl,fun _ _=>rfl⟩,⟨rfl,fun _ _=>rfl⟩,⟨rfl,fun _ _=>rfl⟩,⟨rfl,fun _ _=>rfl⟩,rfl,rfl,rfl,rfl,rfl,rfl,pl⟩⟩
  ·simp [dT,gnD,k2]at gg tt
   exact⟨by simp only [InR]; omega,by simp only [InR]; omega,i1,⟨⟨u.m,u.k+1⟩,⟨⟨hu,hk'⟩,hd⟩,rfl,rfl,tt,gg,hc1,rfl,rfl,rfl,rfl,rfl,rfl,⟨rfl,fun _ _=>rfl⟩,⟨rfl,fun _ _=>rfl⟩,⟨rfl,fun _ _=>rfl⟩,⟨rfl,fun _ _=>rfl⟩,rfl,rfl,rfl,rfl,rfl,rfl,pl⟩⟩
  ·simp [dT,gnD,k3]at gg tt
   exact⟨⟨by omega,hr.2.1⟩,by simp only [InR]; omega,i1,⟨⟨u.m,u.k+1⟩,⟨⟨hu,hk'⟩,hd⟩,rfl,rfl,tt,gg,hc1,rfl,rfl,rfl,rfl,rfl,rfl,⟨rfl,fun _ _=>rfl⟩,⟨rfl,fun _ _=>rfl⟩,⟨rfl,fun _ _=>rfl⟩,⟨rfl,fun _ _=>rfl⟩,rfl,rfl,rfl,rfl,rfl,rfl,pl⟩⟩
  ·simp [dT,gnD,k5]at gg tt
   exact⟨by simp only [InR]; omega,i1,⟨⟨u.m,u.k+1⟩,⟨⟨hu,hk'⟩,hd⟩,rfl,rfl,tt,gg,hc1,rfl,rfl,rfl,rfl,rfl,rfl,⟨rfl,fun _ _=>rfl⟩,⟨rfl,fun _ _=>rfl⟩,⟨rfl,fun _ _=>rfl⟩,⟨rfl,fun _ _=>rfl⟩,rfl,rfl,rfl,rfl,rfl,rfl,pl⟩⟩
  ·simp [dT,gnD,k7]at gg tt
   exact⟨by simp only [InR]; omega,i1,⟨⟨u.m,u.k+1⟩,⟨⟨hu,hk'⟩,hd⟩,rfl,rfl,tt,by show mgS u.m u.k-cell u.m.D u.k 3=mgS u.m (u.k+1); omega,hc1,rfl,rfl,rfl,rfl,rfl,rfl,⟨rfl,fun _ _=>rfl⟩,⟨rfl,fun _ _=>rfl⟩,⟨rfl,fun _ _=>rfl⟩,⟨rfl,fun _ _=>rfl⟩,rfl,rfl,rfl,rfl,rfl,rfl,pl⟩⟩
  ·simp [dT,gnD,k8]at gg tt
   exact⟨by simp only [InR]; omega,by simp only [InR]; omega,i1,⟨⟨u.m,u.k+1⟩,⟨⟨hu,hk'⟩,hd⟩,rfl,rfl,tt,by show mgS u.m u.k-cell u.m.D u.k 3=mgS u.m (u.k+1); omega,hc1,rfl,rfl,rfl,rfl,rfl,rfl,⟨rfl,fun _ _=>rfl⟩,⟨rfl,fun _ _=>rfl⟩,⟨rfl,fun _ _=>rfl⟩,⟨rfl,fun _ _=>rfl⟩,rfl,rfl,rfl,rfl,rfl,rfl,pl⟩⟩
  ·simp [dT,gnD,k1,k2,k3,k5,k7,k8]at gg tt
   exact⟨i1,⟨⟨u.m,u.k+1⟩,⟨⟨hu,hk'⟩,hd⟩,rfl,rfl,tt,gg,hc1,rfl,rfl,rfl,rfl,rfl,rfl,⟨rfl,fun _ _=>rfl⟩,⟨rfl,fun _ _=>rfl⟩,⟨rfl,fun _ _=>rfl⟩,⟨rfl,fun _ _=>rfl⟩,rfl,rfl,rfl,rfl,rfl,rfl,pl⟩⟩
 ·have ek:u.k=u.m.D.length:=by omega
  have hN:=rn_ok hu.c (D:=u.m.D) u.m.D.length
  have lN:(rnA u.m.fee u.m.itr u.m.pri u.m.cre u.m.A u.m.till u.m.D u.m.D.length).length=u.m.A.length:=rn_len _
  have rN:=rn_row (fee:=u.m.fee) (itr:=u.m.itr) (pri:=u.m.pri) (cre:=u.m.cre) (till:=u.m.till) (D:=u.m.D) hu.a u.m.D.length
  have s0:=surp_in hu.c
  have s1:=surp_in hN
  refine⟨u.m.A,⟨rfl,hu.a,fun _ _=>rfl⟩,by show _≤4000000; omega,?_⟩
  intro v12 h12 v13 h13
  refine⟨rnA u.m.fee u.m.itr u.m.pri u.m.cre u.m.A u.m.till u.m.D u.m.D.length,⟨lN,rN,fun _ _=>rfl⟩,by show _≤4000000; omega,?_⟩
  intro v14 h14 v15 h15
  rw [h0]at h13
  rw [coop_zero hN]at h15
  have h12:v12=surp u.m.A u.m.till:=by rw [h12]; unfold surV; rw [if_pos h0]
  have h14:v14=surp (rnA u.m.fee u.m.itr u.m.pri u.m.cre u.m.A u.m.till u.m.D u.m.D.length) (rnT u.m.fee u.m.itr u.m.pri u.m.cre u.m.A u.m.till u.m.D u.m.D.length):=by rw [h14]; unfold surV; rw [if_pos (coop_zero hN)]
  have eg:v12+mgS u.m u.k=v14:=by
   rw [ek,h12,h14]
   unfold mgS
   omega
  subst h13 h15
  rw [eg,ek]
  refine⟨fun _=>⟨fun _=>⟨fun _=>⟨by simp only [InR]; omega,fun _=>⟨fun _=>htab,fun h=>absurd (h14 ▸ s1.1) h⟩,fun h=>absurd rfl h⟩,fun h=>absurd rfl h⟩,fun h=>absurd rfl h⟩,fun h=>absurd rfl h⟩
theorem e_law:V_law=needL P [F_PartR] [F_TideOf.named,F_CoopOf.named,F_DealsOf.named,F_RunV.named,F_CheckC.named,F_SurplusC.named] 8 ([]:Tabs) A_law F_law:=by kernel_rfl
theorem n_law:Ob (needL P [F_PartR] [F_TideOf.named,F_CoopOf.named,F_DealsOf.named,F_RunV.named,F_CheckC.named,F_SurplusC.named] 8 ([]:Tabs) A_law F_law):=by
 rw [← e_law]
 exact⟨v_law⟩
theorem l_law:(([F_PartR]:List Fn0).all fun G=>!Nat.beq G.g 8)=true:=rfl
theorem le_law:([F_TideOf.named,F_CoopOf.named,F_DealsOf.named,F_RunV.named,F_CheckC.named,F_SurplusC.named].all fun G=>!Nat.beq G.g 8)=true:=rfl
theorem c_law:∀F∈([F_PartR]:List Fn0),F.Ok P:=by
 intro F h
 simp only [List.mem_cons,List.not_mem_nil,or_false]at h
 rcases h with rfl
 ·exact PartR_ok
theorem ce_law:∀F∈[F_TideOf.named,F_CoopOf.named,F_DealsOf.named,F_RunV.named,F_CheckC.named,F_SurplusC.named],F.Ok P:=by
 intro F h
 simp only [List.mem_cons,List.not_mem_nil,or_false]at h
 rcases h with rfl | rfl | rfl | rfl | rfl | rfl
 ·exact TideOf_ok.named
 ·exact CoopOf_ok.named
 ·exact DealsOf_ok.named
 ·exact RunV_ok.named
 ·exact CheckC_ok.named
 ·exact SurplusC_ok.named
end Go.Proofs.Ytfebjikidfcbcaa.Sy
