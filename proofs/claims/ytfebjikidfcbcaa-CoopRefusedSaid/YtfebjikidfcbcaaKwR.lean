import Derived.Test.YtfebjikidfcbcaaSyP2
import Derived.Test.YtfebjikidfcbcaaGrM
import Derived.Test.YtfebjikidfcbcaaStM
import Derived.Test.YtfebjikidfcbcaaLrM
import Derived.Test.YtfebjikidfcbcaaDhM
import Derived.Test.YtfebjikidfcbcaaKtT
import Derived.Test.YtfebjikidfcbcaaKtA
import Derived.Test.YtfebjikidfcbcaaKtB
import Derived.Test.YtfebjikidfcbcaaKwA
import Derived.Test.YtfebjikidfcbcaaKwB
import Derived.Test.YtfebjikidfcbcaaKwC
import Derived.Test.YtfebjikidfcbcaaKwD
import Derived.Test.YtfebjikidfcbcaaKwE
import Derived.Test.YtfebjikidfcbcaaKwF
import Derived.Test.YtfebjikidfcbcaaKwH
import Derived.Test.YtfebjikidfcbcaaKwI
import Derived.Test.YtfebjikidfcbcaaKwJ
import Derived.Test.YtfebjikidfcbcaaKwK
import Derived.Test.YtfebjikidfcbcaaKwM
import Derived.Test.YtfebjikidfcbcaaKwN
import Derived.Test.YtfebjikidfcbcaaKwO
import Derived.Test.YtfebjikidfcbcaaKwQ
import Derived.Test.YtfebjikidfcbcaaSyP2
import Derived.KernelRfl
import Derived.Test.YtfebjikidfcbcaaProg
namespace Go.Proofs.Ytfebjikidfcbcaa.Sy
open Go Go.Rv
set_option linter.unusedVariables false
structure Mst where
 q:Int
 fee:Int
 itr:Int
 pri:Int
 cre:Int
 till:Int
 A:Rows
 D:Rows
structure Mst.Ok (v:Mst):Prop where
 c:CoopOk v.fee v.itr v.pri v.cre v.A v.till
 a:∀r∈v.A,r.length=3
 l:v.D.length≤30
 d:∀r∈v.D,r.length=4
structure Mlt where
 m:Mst
 k:Nat
noncomputable def kpR (v:Mst):Nat→Rows
 | 0=>[]
 | k+1=>if rnE v.fee v.itr v.pri v.cre v.A v.till v.D k=0 then kpR v k++[[cell v.D k 0,cell v.D k 1,cell v.D k 2,cell v.D k 3]]else kpR v k
theorem rn_congr {fee itr pri cre:Int} {A:Rows} {till:Int} {D D':Rows}:∀ {j:Nat},(∀i,i < j→∀c,c < 4→cell D i c=cell D' i c)→rnA fee itr pri cre A till D j=rnA fee itr pri cre A till D' j∧rnT fee itr pri cre A till D j=rnT fee itr pri cre A till D' j
 | 0,_=>⟨rfl,rfl⟩
 | j+1,h=>by
  obtain⟨e1,e2⟩:=rn_congr (D:=D) (D':=D') (j:=j) (fee:=fee) (itr:=itr) (pri:=pri) (cre:=cre) (A:=A) (till:=till) fun i hi=>h i (by omega)
  have ee:rnE fee itr pri cre A till D j=rnE fee itr pri cre A till D' j:=by
   unfold rnE
   rw [e1,e2,h j (by omega) 0 (by omega),h j (by omega) 1 (by omega),h j (by omega) 2 (by omega),h j (by omega) 3 (by omega)]
  by_cases h0:rnE fee itr pri cre A till D j=0
  ·obtain⟨a1,a2⟩:=rn_yes h0
   obtain⟨b1,b2⟩:=rn_yes (ee ▸ h0)
   rw [a1,a2,b1,b2,e1,e2,h j (by omega) 0 (by omega),h j (by omega) 1 (by omega),h j (by omega) 2 (by omega),h j (by omega) 3 (by omega)]
   exact⟨rfl,rfl⟩
  ·obtain⟨a1,a2⟩:=rn_no h0
   obtain⟨b1,b2⟩:=rn_no (ee ▸ h0)
   rw [a1,a2,b1,b2]
   exact⟨e1,e2⟩
theorem kp_yes {v:Mst} {k:Nat} (h:rnE v.fee v.itr v.pri v.cre v.A v.till v.D k=0):kpR v (k+1)=kpR v k++[[cell v.D k 0,cell v.D k 1,cell v.D k 2,cell v.D k 3]]:=by
 show(if _ then _ else _)=_
 rw [if_pos h]
theorem kp_no {v:Mst} {k:Nat} (h:¬ rnE v.fee v.itr v.pri v.cre v.A v.till v.D k=0):kpR v (k+1)=kpR v k:=by
 show(if _ then _ else _)=_
 rw [if_neg h]
theorem kp_row (v:Mst):∀k,∀r∈kpR v k,r.length=4
 | 0=>fun r hr=>by simp [kpR]at hr
 | k+1=>by
  by_cases h:rnE v.fee v.itr v.pri v.cre v.A v.till v.D k=0
  ·rw [kp_yes h]
   intro r hr
   rcases List.mem_append.1 hr with hr | hr
   ·exact kp_row v k r hr
   ·rw [List.mem_singleton.1 hr]; rfl
  ·rw [kp_no h]
   exact kp_row v k
theorem kp_len (v:Mst):∀k,(kpR v k).length≤k
 | 0=>Nat.le_refl _
 | k+1=>by
  have ih:=kp_len v k
  by_cases h:rnE v.fee v.itr v.pri v.cre v.A v.till v.D k=0
  ·rw [kp_yes h,List.length_append]
   simp
   omega
  ·rw [kp_no h]
   omega
theorem cell_pre {X Y:Rows} {i c:Nat} (h:i < X.length):cell (X++Y) i c=cell X i c:=by
 rw [cell_apd,if_pos h]
theorem cell_end {X:Rows} {r:List Int} {c:Nat}:cell (X++[r]) X.length c=r.getD c 0:=by
 rw [cell_apd,if_neg (Nat.lt_irrefl _),Nat.sub_self]
 rfl
theorem kp_run (v:Mst):∀k,(rnA v.fee v.itr v.pri v.cre v.A v.till (kpR v k) (kpR v k).length=rnA v.fee v.itr v.pri v.cre v.A v.till v.D k∧rnT v.fee v.itr v.pri v.cre v.A v.till (kpR v k) (kpR v k).length=rnT v.fee v.itr v.pri v.cre v.A v.till v.D k)∧∀j,j < (kpR v k).length→rnE v.fee v.itr v.pri v.cre v.A v.till (kpR v k) j=0
 | 0=>⟨⟨rfl,rfl⟩,fun j hj=>by simp [kpR]at hj⟩
 | k+1=>by
  obtain⟨⟨i1,i2⟩,i3⟩:=kp_run v k
  by_cases h:rnE v.fee v.itr v.pri v.cre v.A v.till v.D k=0
  ·rw [kp_yes h]
   obtain⟨K,hK⟩:∃K,kpR v k=K:=⟨_,rfl⟩
   rw [hK]at i1 i2 i3 ⊢
   obtain⟨r,hr⟩:∃r,[cell v.D k 0,cell v.D k 1,cell v.D k 2,cell v.D k 3]=r:=⟨_,rfl⟩
   have r0:r.getD 0 0=cell v.D k 0:=by rw [← hr]; rfl
   have r1:r.getD 1 0=cell v.D k 1:=by rw [← hr]; rfl
   have r2:r.getD 2 0=cell v.D k 2:=by rw [← hr]; rfl
   have r3:r.getD 3 0=cell v.D k 3:=by rw [← hr]; rfl
   rw [hr,List.length_append,List.length_singleton]
   have pre:∀j,j≤K.length→rnA v.fee v.itr v.pri v.cre v.A v.till (K++[r]) j=rnA v.fee v.itr v.pri v.cre v.A v.till K j∧rnT v.fee v.itr v.pri v.cre v.A v.till (K++[r]) j=rnT v.fee v.itr v.pri v.cre v.A v.till K j:=fun j hj=>rn_congr fun i hi c _=>cell_pre (by omega)
   have ep:∀j,j < K.length→rnE v.fee v.itr v.pri v.cre v.A v.till (K++[r]) j=rnE v.fee v.itr v.pri v.cre v.A v.till K j:=fun j hj=>by
    obtain⟨p1,p2⟩:=pre j (by omega)
    unfold rnE
    rw [p1,p2,cell_pre hj,cell_pre hj,cell_pre hj,cell_pre hj]
   have el:rnE v.fee v.itr v.pri v.cre v.A v.till (K++[r]) K.length=0:=by
    obtain⟨p1,p2⟩:=pre K.length (Nat.le_refl _)
    unfold rnE
    rw [p1,p2,cell_end,cell_end,cell_end,cell_end,r0,r1,r2,r3,i1,i2]
    exact h
   obtain⟨p1,p2⟩:=pre K.length (Nat.le_refl _)
   obtain⟨y1,y2⟩:=rn_yes el
   obtain⟨z1,z2⟩:=rn_yes h
   refine⟨⟨?_,?_⟩,fun j hj=>?_⟩
   ·rw [y1,z1,p1,p2,cell_end,cell_end,cell_end,cell_end,r0,r1,r2,r3,i1,i2]
   ·rw [y2,z2,p2,cell_end,cell_end,r0,r3,i2]
   ·by_cases e:j=K.length
    ·subst e; exact el
    ·rw [ep j (by omega)]
     exact i3 j (by omega)
  ·obtain⟨z1,z2⟩:=rn_no h
   rw [kp_no h,z1,z2]
   exact⟨⟨i1,i2⟩,i3⟩
theorem doE_rn {v:Mst} (h:v.Ok) (k:Nat):doE v.fee v.itr v.pri v.cre (rnA v.fee v.itr v.pri v.cre v.A v.till v.D k) (rnT v.fee v.itr v.pri v.cre v.A v.till v.D k) (cell v.D k 0) (cell v.D k 1) (cell v.D k 2) (cell v.D k 3)=rnE v.fee v.itr v.pri v.cre v.A v.till v.D k:=by
 unfold doE
 rw [if_neg fun hh=>hh (coop_zero (rn_ok h.c k))]
 rfl
noncomputable def F_law:LawF:=⟨6,[.one (.l [.i64])],fun l=>match l with | [.l N]=>N.length≤9223372036854775807 | _=>False⟩
noncomputable def A_law:List SV→List Dat→Nat→List SV→Ann:=fun xs ds n ts=>match xs with
 | [.lst xz _ _ _]=>match ds with
  | [.l N]=>match n with
   | 4=>⟨Mst,fun v=>[none,none,none,none,some (.ptr 0 0),some (.gsl 2 v.D.length 4 true),none,none,none,none,none,none,none,none,none,none,none,none,none,none,none,none,none,none,none,none,none,none,none,none,none,none,none,none,none,none,none,none,none,none,none,none,none,none,none,none,none,none,none,none,none,none,none,none,none,none,none,none,none,none,none,none,none,none,none,none,none,none,none,none,none,none,none,none,none,none,none,none,none,none,none,none,none,none,none,none,none,none,none,none,none,none,none,none,none,none,none,none,none,none,none,none,none,none,none,none,none,none,none,none,none],fun v=>[.gr v.D.length 4 (.fn (Rv.elemOf [.i64,.i64,.i64,.i64] v.D)) .gr true,.gr v.A.length 3 (.fn (Rv.elemOf [.i64,.i64,.i64] v.A)) .gr true,.cells [.i .i64 v.fee,.i .i64 v.itr,.i .i64 v.pri,.i .i64 v.cre,.gsl 1 v.A.length 3 true,.i .i64 v.till] .ex],fun v=>v.Ok∧v.D.length≤20,fun _=>0,1000000⟩
   | 10=>⟨Mlt,fun v=>[none,none,none,none,some (.ptr 0 0),some (.gsl 2 v.m.D.length 4 true),some (.ptr 5 0),some (.gsl 4 v.m.D.length 1 true),none,some (.ptr 6 0),some (.gsl 8 (kpR v.m v.k).length 4 true),some (.i .i64 v.k),none,none,none,none,none,none,none,none,none,none,none,none,none,none,none,none,none,none,none,none,none,none,none,none,none,none,none,none,none,none,none,none,none,none,none,none,none,none,none,none,none,none,none,none,none,none,none,none,none,none,none,none,none,none,none,none,none,none,none,none,none,none,none,none,none,none,none,none,none,none,none,none,none,none,none,none,none,none,none,none,none,none,none,none,none,none,none,none,none,none,none,none,none,none,none,none,none,none,none],fun v=>[.gr (kpR v.m v.k).length 4 (.fn (Rv.elemOf [.i64,.i64,.i64,.i64] (kpR v.m v.k))) .gr true,.gr v.m.A.length 3 (.fn (Rv.elemOf [.i64,.i64,.i64] (rnA v.m.fee v.m.itr v.m.pri v.m.cre v.m.A v.m.till v.m.D v.k))) .ro false,.cells [.i .i64 v.m.fee,.i .i64 v.m.itr,.i .i64 v.m.pri,.i .i64 v.m.cre,.gsl 7 v.m.A.length 3 false,.i .i64 (rnT v.m.fee v.m.itr v.m.pri v.m.cre v.m.A v.m.till v.m.D v.k)] .ex,.cells [.i .i64 v.m.fee,.i .i64 v.m.itr,.i .i64 v.m.pri,.i .i64 v.m.cre,.gsl 3 v.m.A.length 3 false,.i .i64 (rnT v.m.fee v.m.itr v.m.pri v.m.cre v.m.A v.m.till v.m.D v.m.D.length)] .ex,.gr v.m.D.length 1 (.fn (Rv.elemOf [.i64] (erL v.m.fee v.m.itr v.m.pri v.m.cre v.m.A v.m.till v.m.D v.m.D.length))) .gr true,.gr v.m.A.length 3 (.fn (Rv.elemOf [.i64,.i64,.i64] (rnA v.m.fee v.m.itr v.m.pri v.m.cre v.m.A v.m.till v.m.D v.m.D.length))) .gr false,.gr v.m.D.length 4 (.fn (Rv.elemOf [.i64,.i64,.i64,.i64] v.m.D)) .gr true,.gr v.m.A.length 3 (.fn (Rv.elemOf [.i64,.i64,.i64] v.m.A)) .ro true,.cells [.i .i64 v.m.fee,.i .i64 v.m.itr,.i .i64 v.m.pri,.i .i64 v.m.cre,.gsl 1 v.m.A.length 3 true,.i .i64 v.m.till] .ex],fun v=>v.m.Ok∧v.m.D.length≤20∧v.k≤v.m.D.length,fun v=>v.m.D.length-v.k,0⟩
   | 22=>⟨Mlt,fun v=>[none,none,none,none,none,none,some (.ptr 5 0),none,none,some (.ptr 6 0),none,none,none,none,some (.ptr 11 0),some (.gsl 10 (kpR v.m v.m.D.length).length 1 true),none,some (.i .i64 v.k),none,none,none,none,none,none,none,none,none,none,none,none,none,none,none,none,none,none,none,none,none,none,none,none,none,none,none,none,none,none,none,none,none,none,none,none,none,none,none,none,none,none,none,none,none,none,none,none,none,none,none,none,none,none,none,none,none,none,none,none,none,none,none,none,none,none,none,none,none,none,none,none,none,none,none,none,none,none,none,none,none,none,none,none,none,none,none,none,none,none,none,none,none],fun v=>[.cells [.i .i64 v.m.fee,.i .i64 v.m.itr,.i .i64 v.m.pri,.i .i64 v.m.cre,.gsl 9 v.m.A.length 3 false,.i .i64 (rnT v.m.fee v.m.itr v.m.pri v.m.cre v.m.A v.m.till (kpR v.m v.m.D.length) (kpR v.m v.m.D.length).length)] .ex,.gr (kpR v.m v.m.D.length).length 1 (.fn (Rv.elemOf [.i64] (erL v.m.fee v.m.itr v.m.pri v.m.cre v.m.A v.m.till (kpR v.m v.m.D.length) (kpR v.m v.m.D.length).length))) .gr true,.gr v.m.A.length 3 (.fn (Rv.elemOf [.i64,.i64,.i64] (rnA v.m.fee v.m.itr v.m.pri v.m.cre v.m.A v.m.till (kpR v.m v.m.D.length) (kpR v.m v.m.D.length).length))) .gr false,.dead,.gr v.m.A.length 3 (.fn (Rv.elemOf [.i64,.i64,.i64] (rnA v.m.fee v.m.itr v.m.pri v.m.cre v.m.A v.m.till v.m.D v.m.D.length))) .ro false,.cells [.i .i64 v.m.fee,.i .i64 v.m.itr,.i .i64 v.m.pri,.i .i64 v.m.cre,.gsl 7 v.m.A.length 3 false,.i .i64 (rnT v.m.fee v.m.itr v.m.pri v.m.cre v.m.A v.m.till v.m.D v.m.D.length)] .ex,.cells [.i .i64 v.m.fee,.i .i64 v.m.itr,.i .i64 v.m.pri,.i .i64 v.m.cre,.gsl 3 v.m.A.length 3 false,.i .i64 (rnT v.m.fee v.m.itr v.m.pri v.m.cre v.m.A v.m.till v.m.D v.m.D.length)] .ex,.dead,.gr v.m.A.length 3 (.fn (Rv.elemOf [.i64,.i64,.i64] (rnA v.m.fee v.m.itr v.m.pri v.m.cre v.m.A v.m.till v.m.D v.m.D.length))) .gr false,.dead,.dead,.dead],fun v=>v.m.Ok∧v.m.D.length≤20∧v.k≤(kpR v.m v.m.D.length).length,fun v=>(kpR v.m v.m.D.length).length-v.k,0⟩
   | _=>noAnn
  | _=>noAnn
 | _=>noAnn
set_option maxRecDepth 10000 in
def V_law:Prop:=∀(B:RW),hasTabs [] B→∀(x:RV) (rows:List (List Int)),IsLst B x rows.length 1 (Rv.elemOf [.i64] rows)→oneB x=true→(∀row∈rows,row.length=1)→rows.length≤9223372036854775807→∃(l1:List (List Int)),Ob (IsLst B x rows.length 1 (Rv.elemOf [.i64] rows)∧l1.length=rows.length∧(∀r∈l1,r.length=1)∧∀(i:Nat),i < rows.length→Rv.elemOf [.i64] rows i=Rv.elemOf [.i64] l1 i)∧Ob (F_TideOf.named.pre [Dat.l l1])∧Ob (F_CoopOf.named.pre ([Dat.z (tideK l1 l1.length)]++[Dat.z (5:Int)]))∧∀(v:Int),v=coAE (tideK l1 l1.length) (5:Int)→∀(v_1:Int),v_1=coF (tideK l1 l1.length)→∀(v_2:Int),v_2=coI (tideK l1 l1.length)→∀(v_3:Int),v_3=coP (tideK l1 l1.length)→∀(v_4:Int),v_4=coC (tideK l1 l1.length)→∀(v_5:Int),v_5=coT (tideK l1 l1.length) (5:Int)→(∃(l2:List (List Int)),Ob ((coN (tideK l1 l1.length) (5:Int)).toNat=(coN (tideK l1 l1.length) (5:Int)).toNat∧l2.length=(coN (tideK l1 l1.length) (5:Int)).toNat∧(∀r∈l2,r.length=3)∧∀(i:Nat),i < (coN (tideK l1 l1.length) (5:Int)).toNat→(El.fn (Rv.elemOf [.i64,.i64,.i64] (coR (tideK l1 l1.length) (5:Int) (coN (tideK l1 l1.length) (5:Int)).toNat))).at i=Rv.elemOf [.i64,.i64,.i64] l2 i)∧Ob (F_DealsOf.named.pre ([Dat.z v]++([Dat.z v_1,Dat.z v_2,Dat.z v_3,Dat.z v_4,Dat.l l2,Dat.z v_5]++[Dat.z (20:Int)])))∧∀(v_6:Int),v_6=itQ (dsQ (↑l2.length:Int)) (belowA v ((20:Int)+(1:Int))) (belowV v ((20:Int)+(1:Int))).toNat→∃(a:Mst),Ob (a.Ok∧a.D.length≤20)∧Ob ((belowV v ((20:Int)+(1:Int))).toNat=a.D.length)∧Ob ((belowV v ((20:Int)+(1:Int))).toNat=a.D.length∧∀(i:Nat),i < a.D.length→(El.fn (Rv.elemOf [.i64,.i64,.i64,.i64] (itR (dsQ (↑l2.length:Int)) (dsR (↑l2.length:Int)) (belowA v ((20:Int)+(1:Int))) (belowV v ((20:Int)+(1:Int))).toNat))).at i=(El.fn (Rv.elemOf [.i64,.i64,.i64,.i64] a.D)).at i)∧Ob ((coN (tideK l1 l1.length) (5:Int)).toNat=a.A.length∧∀(i:Nat),i < a.A.length→(El.fn (Rv.elemOf [.i64,.i64,.i64] (coR (tideK l1 l1.length) (5:Int) (coN (tideK l1 l1.length) (5:Int)).toNat))).at i=(El.fn (Rv.elemOf [.i64,.i64,.i64] a.A)).at i)∧Ob (v_1=a.fee)∧Ob (v_2=a.itr)∧Ob (v_3=a.pri)∧Ob (v_4=a.cre)∧Ob ((coN (tideK l1 l1.length) (5:Int)).toNat=a.A.length)∧Ob (v_5=a.till)∧Ob (PlainE (a.D.length) (El.fn (Rv.elemOf [.i64,.i64,.i64,.i64] a.D)))∧Ob (PlainE (a.A.length) (El.fn (Rv.elemOf [.i64,.i64,.i64] a.A)))∧True)∧∀(a:Mst),a.Ok∧a.D.length≤20→∀(_ _ _ _ _ _ _ _ _ _ _ _ _ _ _ _ _ _ _ _ _ _ _ _ _ _ _ _ _ _ _ _ _ _ _ _ _ _ _ _ _ _ _ _ _ _ _ _ _ _ _ _ _ _ _ _ _ _ _ _ _ _ _ _ _ _ _ _ _ _ _ _ _ _ _ _ _ _ _ _ _ _ _ _ _ _ _ _ _ _ _ _ _ _ _ _ _ _ _ _ _ _ _ _ _ _ _ _ _:Value),∃(l2:List (List Int)),Ob (a.A.length=a.A.length∧l2.length=a.A.length∧(∀r∈l2,r.length=3)∧∀(i:Nat),i < a.A.length→(El.fn (Rv.elemOf [.i64,.i64,.i64] a.A)).at i=Rv.elemOf [.i64,.i64,.i64] l2 i)∧∃(l3:List (List Int)),Ob (a.D.length=a.D.length∧l3.length=a.D.length∧(∀r∈l3,r.length=4)∧∀(i:Nat),i < a.D.length→(El.fn (Rv.elemOf [.i64,.i64,.i64,.i64] a.D)).at i=Rv.elemOf [.i64,.i64,.i64,.i64] l3 i)∧Ob (F_RunV.named.pre ([Dat.z a.fee,Dat.z a.itr,Dat.z a.pri,Dat.z a.cre,Dat.l l2,Dat.z a.till]++[Dat.l l3]))∧∀(v_6:Int),v_6=a.fee→∀(v_7:Int),v_7=a.itr→∀(v_8:Int),v_8=a.pri→∀(v_9:Int),v_9=a.cre→∀(v_10:Int),v_10=rnT a.fee a.itr a.pri a.cre l2 a.till l3 l3.length→(¬(↑l3.length:Int)=(↑(a.D.length):Int)→False)∧(¬¬(↑l3.length:Int)=(↑(a.D.length):Int)→(∃(a_1:Mlt),Ob (a_1.m.Ok∧List.length a_1.m.D≤20∧a_1.k≤List.length a_1.m.D)∧Ob (a.D.length=List.length a_1.m.D)∧Ob (l3.length=List.length a_1.m.D)∧Ob (List.length (kpR a_1.m a_1.k)=(0:Nat))∧Ob ((0:Int)=(↑a_1.k:Int))∧Ob (List.length (kpR a_1.m a_1.k)=(0:Nat))∧Ob (a.A.length=List.length a_1.m.A∧(0:Nat) < List.length a_1.m.A∧∀(i:Nat),i < List.length a_1.m.A→(El.fn (Rv.elemOf [.i64,.i64,.i64] a.A)).at i=(El.fn (Rv.elemOf [.i64,.i64,.i64] (rnA a_1.m.fee a_1.m.itr a_1.m.pri a_1.m.cre a_1.m.A a_1.m.till a_1.m.D a_1.k))).at i)∧Ob (a.fee=a_1.m.fee)∧Ob (a.itr=a_1.m.itr)∧Ob (a.pri=a_1.m.pri)∧Ob (a.cre=a_1.m.cre)∧Ob (a.A.length=List.length a_1.m.A∧(0:Nat) < List.length a_1.m.A)∧Ob (a.till=rnT a_1.m.fee a_1.m.itr a_1.m.pri a_1.m.cre a_1.m.A a_1.m.till a_1.m.D a_1.k)∧Ob (v_6=a_1.m.fee)∧Ob (v_7=a_1.m.itr)∧Ob (v_8=a_1.m.pri)∧Ob (v_9=a_1.m.cre)∧Ob (l2.length=List.length a_1.m.A)∧Ob (v_10=rnT a_1.m.fee a_1.m.itr a_1.m.pri a_1.m.cre a_1.m.A a_1.m.till a_1.m.D (List.length a_1.m.D))∧Ob (l3.length=List.length a_1.m.D∧∀(i:Nat),i < List.length a_1.m.D→(El.fn (Rv.elemOf [.i64] (erL a.fee a.itr a.pri a.cre l2 a.till l3 l3.length))).at i=(El.fn (Rv.elemOf [.i64] (erL a_1.m.fee a_1.m.itr a_1.m.pri a_1.m.cre a_1.m.A a_1.m.till a_1.m.D (List.length a_1.m.D)))).at i)∧Ob (l2.length=List.length a_1.m.A∧∀(i:Nat),i < List.length a_1.m.A→(El.fn (Rv.elemOf [.i64,.i64,.i64] (rnA a.fee a.itr a.pri a.cre l2 a.till l3 l3.length))).at i=(El.fn (Rv.elemOf [.i64,.i64,.i64] (rnA a_1.m.fee a_1.m.itr a_1.m.pri a_1.m.cre a_1.m.A a_1.m.till a_1.m.D (List.length a_1.m.D)))).at i)∧Ob (a.D.length=List.length a_1.m.D∧∀(i:Nat),i < List.length a_1.m.D→(El.fn (Rv.elemOf [.i64,.i64,.i64,.i64] a.D)).at i=(El.fn (Rv.elemOf [.i64,.i64,.i64,.i64] a_1.m.D)).at i)∧Ob (a.A.length=List.length a_1.m.A∧∀(i:Nat),i < List.length a_1.m.A→(El.fn (Rv.elemOf [.i64,.i64,.i64] a.A)).at i=(El.fn (Rv.elemOf [.i64,.i64,.i64] a_1.m.A)).at i)∧Ob (a.fee=a_1.m.fee)∧Ob (a.itr=a_1.m.itr)∧Ob (a.pri=a_1.m.pri)∧Ob (a.cre=a_1.m.cre)∧Ob (a.A.length=List.length a_1.m.A)∧Ob (a.till=a_1.m.till)∧Ob (PlainE (List.length (kpR a_1.m a_1.k)) (El.fn (Rv.elemOf [.i64,.i64,.i64,.i64] (kpR a_1.m a_1.k))))∧Ob (PlainE (List.length a_1.m.A) (El.fn (Rv.elemOf [.i64,.i64,.i64] (rnA a_1.m.fee a_1.m.itr a_1.m.pri a_1.m.cre a_1.m.A a_1.m.till a_1.m.D a_1.k))))∧Ob (PlainE (List.length a_1.m.D) (El.fn (Rv.elemOf [.i64] (erL a_1.m.fee a_1.m.itr a_1.m.pri a_1.m.cre a_1.m.A a_1.m.till a_1.m.D (List.length a_1.m.D)))))∧Ob (PlainE (List.length a_1.m.A) (El.fn (Rv.elemOf [.i64,.i64,.i64] (rnA a_1.m.fee a_1.m.itr a_1.m.pri a_1.m.cre a_1.m.A a_1.m.till a_1.m.D (List.length a_1.m.D)))))∧Ob (PlainE (List.length a_1.m.D) (El.fn (Rv.elemOf [.i64,.i64,.i64,.i64] a_1.m.D)))∧Ob (PlainE (List.length a_1.m.A) (El.fn (Rv.elemOf [.i64,.i64,.i64] a_1.m.A)))∧True)∧∀(a_1:Mlt),a_1.m.Ok∧List.length a_1.m.D≤20∧a_1.k≤List.length a_1.m.D→∀(_ _ _ _ _ _ _ _ _ _ _ _ _ _ _ _ _ _ _ _ _ _ _ _ _ _ _ _ _ _ _ _ _ _ _ _ _ _ _ _ _ _ _ _ _ _ _ _ _ _ _ _ _ _ _ _ _ _ _ _ _ _ _ _ _ _ _ _ _ _ _ _ _ _ _ _ _ _ _ _ _ _ _ _ _ _ _ _ _ _ _ _ _ _ _ _ _ _ _ _ _ _ _ _:Value),((↑a_1.k:Int) < (↑(List.length a_1.m.D):Int)→Ob ((0:Int)≤(↑a_1.k:Int)∧a_1.k < List.length a_1.m.D)∧Ob (a_1.k < List.length a_1.m.D)∧∃(l4:List (List Int)),Ob (List.length a_1.m.A=List.length a_1.m.A∧l4.length=List.length a_1.m.A∧(∀r∈l4,r.length=3)∧∀(i:Nat),i < List.length a_1.m.A→(El.fn (Rv.elemOf [.i64,.i64,.i64] (rnA a_1.m.fee a_1.m.itr a_1.m.pri a_1.m.cre a_1.m.A a_1.m.till a_1.m.D a_1.k))).at i=Rv.elemOf [.i64,.i64,.i64] l4 i)∧Ob (F_Do.named.pre ([Dat.z a_1.m.fee,Dat.z a_1.m.itr,Dat.z a_1.m.pri,Dat.z a_1.m.cre,Dat.l l4,Dat.z (rnT a_1.m.fee a_1.m.itr a_1.m.pri a_1.m.cre a_1.m.A a_1.m.till a_1.m.D a_1.k)]++([Dat.z (cell a_1.m.D a_1.k 0),Dat.z (cell a_1.m.D a_1.k 1),Dat.z (cell a_1.m.D a_1.k 2),Dat.z (cell a_1.m.D a_1.k 3)]++[])))∧(C_Do ([Dat.z a_1.m.fee,Dat.z a_1.m.itr,Dat.z a_1.m.pri,Dat.z a_1.m.cre,Dat.l l4,Dat.z (rnT a_1.m.fee a_1.m.itr a_1.m.pri a_1.m.cre a_1.m.A a_1.m.till a_1.m.D a_1.k)]++([Dat.z (cell a_1.m.D a_1.k 0),Dat.z (cell a_1.m.D a_1.k 1),Dat.z (cell a_1.m.D a_1.k 2),Dat.z (cell a_1.m.D a_1.k 3)]++[]))→∀(v_11:Int),v_11=doE a_1.m.fee a_1.m.itr a_1.m.pri a_1.m.cre l4 (rnT a_1.m.fee a_1.m.itr a_1.m.pri a_1.m.cre a_1.m.A a_1.m.till a_1.m.D a_1.k) (cell a_1.m.D a_1.k 0) (cell a_1.m.D a_1.k 1) (cell a_1.m.D a_1.k 2) (cell a_1.m.D a_1.k 3)→Ob ((0:Int)≤(↑a_1.k:Int)∧a_1.k < List.length a_1.m.D)∧Ob (a_1.k < List.length a_1.m.D)∧(¬v_11=cell (erL a_1.m.fee a_1.m.itr a_1.m.pri a_1.m.cre a_1.m.A a_1.m.till a_1.m.D (List.length a_1.m.D)) a_1.k 0→False)∧(¬¬v_11=cell (erL a_1.m.fee a_1.m.itr a_1.m.pri a_1.m.cre a_1.m.A a_1.m.till a_1.m.D (List.length a_1.m.D)) a_1.k 0→(v_11=(0:Int)→Ob ((0:Int)≤(↑a_1.k:Int)∧a_1.k < List.length a_1.m.D)∧Ob (a_1.k < List.length a_1.m.D)∧Ob (List.length (kpR a_1.m a_1.k)=List.length (kpR a_1.m a_1.k)∧∀(i:Nat),i < List.length (kpR a_1.m a_1.k)→((El.fn (Rv.elemOf [.i64,.i64,.i64,.i64] (kpR a_1.m a_1.k))).at i).length=(4:Nat))∧Ob ((List.length (kpR a_1.m a_1.k)+(1:Nat))*(2:Nat)*(33:Nat)≤1099511627776)∧Ob (List.length (kpR a_1.m a_1.k)=List.length (kpR a_1.m a_1.k))∧Ob (InR .i64 ((↑a_1.k:Int)+(1:Int)))∧∃(a':Mlt),Ob ((a'.m.Ok∧List.length a'.m.D≤20∧a'.k≤List.length a'.m.D)∧List.length a'.m.D-a'.k < List.length a_1.m.D-a_1.k)∧Ob (List.length a_1.m.D=List.length a'.m.D)∧Ob (List.length a_1.m.D=List.length a'.m.D)∧Ob (List.length (kpR a_1.m a_1.k)+(1:Nat)=List.length (kpR a'.m a'.k))∧Ob ((↑a_1.k:Int)+(1:Int)=(↑a'.k:Int))∧Ob (List.length (kpR a_1.m a_1.k)+(1:Nat)=List.length (kpR a'.m a'.k)∧∀(i:Nat),i < List.length (kpR a'.m a'.k)→(behind (List.length (kpR a_1.m a_1.k)) (El.fn (Rv.elemOf [.i64,.i64,.i64,.i64] (kpR a_1.m a_1.k))) 1 (litEl (symL [SV.i .i64 (cell a_1.m.D a_1.k 0),SV.i .i64 (cell a_1.m.D a_1.k 1),SV.i .i64 (cell a_1.m.D a_1.k 2),SV.i .i64 (cell a_1.m.D a_1.k 3)]) 4 1)).at i=(El.fn (Rv.elemOf [.i64,.i64,.i64,.i64] (kpR a'.m a'.k))).at i)∧False)∧(¬v_11=(0:Int)→Ob (InR .i64 ((↑a_1.k:Int)+(1:Int)))∧∃(a':Mlt),Ob ((a'.m.Ok∧List.length a'.m.D≤20∧a'.k≤List.length a'.m.D)∧List.length a'.m.D-a'.k < List.length a_1.m.D-a_1.k)∧Ob (List.length a_1.m.D=List.length a'.m.D)∧Ob (List.length a_1.m.D=List.length a'.m.D)∧Ob (List.length (kpR a_1.m a_1.k)=List.length (kpR a'.m a'.k))∧Ob ((↑a_1.k:Int)+(1:Int)=(↑a'.k:Int))∧Ob (List.length (kpR a_1.m a_1.k)=List.length (kpR a'.m a'.k)∧∀(i:Nat),i < List.length (kpR a'.m a'.k)→(El.fn (Rv.elemOf [.i64,.i64,.i64,.i64] (kpR a_1.m a_1.k))).at i=(El.fn (Rv.elemOf [.i64,.i64,.i64,.i64] (kpR a'.m a'.k))).at i)∧Ob (List.length a_1.m.A=List.length a'.m.A∧∀(i:Nat),i < List.length a'.m.A→(El.fn (Rv.elemOf [.i64,.i64,.i64] (rnA a_1.m.fee a_1.m.itr a_1.m.pri a_1.m.cre a_1.m.A a_1.m.till a_1.m.D a_1.k))).at i=(El.fn (Rv.elemOf [.i64,.i64,.i64] (rnA a'.m.fee a'.m.itr a'.m.pri a'.m.cre a'.m.A a'.m.till a'.m.D a'.k))).at i)∧Ob (a_1.m.fee=a'.m.fee)∧Ob (a_1.m.itr=a'.m.itr)∧Ob (a_1.m.pri=a'.m.pri)∧Ob (a_1.m.cre=a'.m.cre)∧Ob (List.length a_1.m.A=List.length a'.m.A)∧Ob (rnT a_1.m.fee a_1.m.itr a_1.m.pri a_1.m.cre a_1.m.A a_1.m.till a_1.m.D a_1.k=rnT a'.m.fee a'.m.itr a'.m.pri a'.m.cre a'.m.A a'.m.till a'.m.D a'.k)∧Ob (a_1.m.fee=a'.m.fee)∧Ob (a_1.m.itr=a'.m.itr)∧Ob (a_1.m.pri=a'.m.pri)∧Ob (a_1.m.cre=a'.m.cre)∧Ob (List.length a_1.m.A=List.length a'.m.A)∧Ob (rnT a_1.m.fee a_1.m.itr a_1.m.pri a_1.m.cre a_1.m.A a_1.m.till a_1.m.D (List.length a_1.m.D)=rnT a'.m.fee a'.m.itr a'.m.pri a'.m.cre a'.m.A a'.m.till a'.m.D (List.length a'.m.D))∧Ob (List.length a_1.m.D=List.length a'.m.D∧∀(i:Nat),i < List.length a'.m.D→(El.fn (Rv.elemOf [.i64] (erL a_1.m.fee a_1.m.itr a_1.m.pri a_1.m.cre a_1.m.A a_1.m.till a_1.m.D (List.length a_1.m.D)))).at i=(El.fn (Rv.elemOf [.i64] (erL a'.m.fee a'.m.itr a'.m.pri a'.m.cre a'.m.A a'.m.till a'.m.D (List.length a'.m.D)))).at i)∧Ob (List.length a_1.m.A=List.length a'.m.A∧∀(i:Nat),i < List.length a'.m.A→(El.fn (Rv.elemOf [.i64,.i64,.i64] (rnA a_1.m.fee a_1.m.itr a_1.m.pri a_1.m.cre a_1.m.A a_1.m.till a_1.m.D (List.length a_1.m.D)))).at i=(El.fn (Rv.elemOf [.i64,.i64,.i64] (rnA a'.m.fee a'.m.itr a'.m.pri a'.m.cre a'.m.A a'.m.till a'.m.D (List.length a'.m.D)))).at i)∧Ob (List.length a_1.m.D=List.length a'.m.D∧∀(i:Nat),i < List.length a'.m.D→(El.fn (Rv.elemOf [.i64,.i64,.i64,.i64] a_1.m.D)).at i=(El.fn (Rv.elemOf [.i64,.i64,.i64,.i64] a'.m.D)).at i)∧Ob (List.length a_1.m.A=List.length a'.m.A∧∀(i:Nat),i < List.length a'.m.A→(El.fn (Rv.elemOf [.i64,.i64,.i64] a_1.m.A)).at i=(El.fn (Rv.elemOf [.i64,.i64,.i64] a'.m.A)).at i)∧Ob (a_1.m.fee=a'.m.fee)∧Ob (a_1.m.itr=a'.m.itr)∧Ob (a_1.m.pri=a'.m.pri)∧Ob (a_1.m.cre=a'.m.cre)∧Ob (List.length a_1.m.A=List.length a'.m.A)∧Ob (a_1.m.till=a'.m.till)∧Ob (PlainE (List.length (kpR a'.m a'.k)) (El.fn (Rv.elemOf [.i64,.i64,.i64,.i64] (kpR a'.m a'.k))))∧Ob (PlainE (List.length a'.m.A) (El.fn (Rv.elemOf [.i64,.i64,.i64] (rnA a'.m.fee a'.m.itr a'.m.pri a'.m.cre a'.m.A a'.m.till a'.m.D a'.k))))∧Ob (PlainE (List.length a'.m.D) (El.fn (Rv.elemOf [.i64] (erL a'.m.fee a'.m.itr a'.m.pri a'.m.cre a'.m.A a'.m.till a'.m.D (List.length a'.m.D)))))∧Ob (PlainE (List.length a'.m.A) (El.fn (Rv.elemOf [.i64,.i64,.i64] (rnA a'.m.fee a'.m.itr a'.m.pri a'.m.cre a'.m.A a'.m.till a'.m.D (List.length a'.m.D)))))∧Ob (PlainE (List.length a'.m.D) (El.fn (Rv.elemOf [.i64,.i64,.i64,.i64] a'.m.D)))∧Ob (PlainE (List.length a'.m.A) (El.fn (Rv.elemOf [.i64,.i64,.i64] a'.m.A)))∧True)))∧(¬C_Do ([Dat.z a_1.m.fee,Dat.z a_1.m.itr,Dat.z a_1.m.pri,Dat.z a_1.m.cre,Dat.l l4,Dat.z (rnT a_1.m.fee a_1.m.itr a_1.m.pri a_1.m.cre a_1.m.A a_1.m.till a_1.m.D a_1.k)]++([Dat.z (cell a_1.m.D a_1.k 0),Dat.z (cell a_1.m.D a_1.k 1),Dat.z (cell a_1.m.D a_1.k 2),Dat.z (cell a_1.m.D a_1.k 3)]++[]))→∀(v_11:Int),v_11=a_1.m.fee→∀(v_12:Int),v_12=a_1.m.itr→∀(v_13:Int),v_13=a_1.m.pri→∀(v_14:Int),v_14=a_1.m.cre→∀(v_15:Int),v_15=dT (rnT a_1.m.fee a_1.m.itr a_1.m.pri a_1.m.cre a_1.m.A a_1.m.till a_1.m.D a_1.k) (cell a_1.m.D a_1.k 0) (cell a_1.m.D a_1.k 3)→∀(v_16:Int),v_16=(0:Int)→Ob (PlainE l4.length (El.fn (Rv.elemOf [.i64,.i64,.i64] (dA a_1.m.fee a_1.m.itr a_1.m.pri a_1.m.cre l4 (rnT a_1.m.fee a_1.m.itr a_1.m.pri a_1.m.cre a_1.m.A a_1.m.till a_1.m.D a_1.k) (cell a_1.m.D a_1.k 0) (cell a_1.m.D a_1.k 1) (cell a_1.m.D a_1.k 2) (cell a_1.m.D a_1.k 3)))))∧Ob ((0:Int)≤(↑a_1.k:Int)∧a_1.k < List.length a_1.m.D)∧Ob (a_1.k < List.length a_1.m.D)∧(¬v_16=cell (erL a_1.m.fee a_1.m.itr a_1.m.pri a_1.m.cre a_1.m.A a_1.m.till a_1.m.D (List.length a_1.m.D)) a_1.k 0→False)∧(¬¬v_16=cell (erL a_1.m.fee a_1.m.itr a_1.m.pri a_1.m.cre a_1.m.A a_1.m.till a_1.m.D (List.length a_1.m.D)) a_1.k 0→(v_16=(0:Int)→Ob ((0:Int)≤(↑a_1.k:Int)∧a_1.k < List.length a_1.m.D)∧Ob (a_1.k < List.length a_1.m.D)∧Ob (List.length (kpR a_1.m a_1.k)=List.length (kpR a_1.m a_1.k)∧∀(i:Nat),i < List.length (kpR a_1.m a_1.k)→((El.fn (Rv.elemOf [.i64,.i64,.i64,.i64] (kpR a_1.m a_1.k))).at i).length=(4:Nat))∧Ob ((List.length (kpR a_1.m a_1.k)+(1:Nat))*(2:Nat)*(33:Nat)≤1099511627776)∧Ob (List.length (kpR a_1.m a_1.k)=List.length (kpR a_1.m a_1.k))∧Ob (InR .i64 ((↑a_1.k:Int)+(1:Int)))∧∃(a':Mlt),Ob ((a'.m.Ok∧List.length a'.m.D≤20∧a'.k≤List.length a'.m.D)∧List.length a'.m.D-a'.k < List.length a_1.m.D-a_1.k)∧Ob (List.length a_1.m.D=List.length a'.m.D)∧Ob (List.length a_1.m.D=List.length a'.m.D)∧Ob (List.length (kpR a_1.m a_1.k)+(1:Nat)=List.length (kpR a'.m a'.k))∧Ob ((↑a_1.k:Int)+(1:Int)=(↑a'.k:Int))∧Ob (List.length (kpR a_1.m a_1.k)+(1:Nat)=List.length (kpR a'.m a'.k)∧∀(i:Nat),i < List.length (kpR a'.m a'.k)→(behind (List.length (kpR a_1.m a_1.k)) (El.fn (Rv.elemOf [.i64,.i64,.i64,.i64] (kpR a_1.m a_1.k))) 1 (litEl (symL [SV.i .i64 (cell a_1.m.D a_1.k 0),SV.i .i64 (cell a_1.m.D a_1.k 1),SV.i .i64 (cell a_1.m.D a_1.k 2),SV.i .i64 (cell a_1.m.D a_1.k 3)]) 4 1)).at i=(El.fn (Rv.elemOf [.i64,.i64,.i64,.i64] (kpR a'.m a'.k))).at i)∧Ob (l4.length=List.length a'.m.A∧∀(i:Nat),i < List.length a'.m.A→(El.fn (Rv.elemOf [.i64,.i64,.i64] (dA a_1.m.fee a_1.m.itr a_1.m.pri a_1.m.cre l4 (rnT a_1.m.fee a_1.m.itr a_1.m.pri a_1.m.cre a_1.m.A a_1.m.till a_1.m.D a_1.k) (cell a_1.m.D a_1.k 0) (cell a_1.m.D a_1.k 1) (cell a_1.m.D a_1.k 2) (cell a_1.m.D a_1.k 3)))).at i=(El.fn (Rv.elemOf [.i64,.i64,.i64] (rnA a'.m.fee a'.m.itr a'.m.pri a'.m.cre a'.m.A a'.m.till a'.m.D a'.k))).at i)∧Ob (v_11=a'.m.fee)∧Ob (v_12=a'.m.itr)∧Ob (v_13=a'.m.pri)∧Ob (v_14=a'.m.cre)∧Ob (l4.length=List.length a'.m.A)∧Ob (v_15=rnT a'.m.fee a'.m.itr a'.m.pri a'.m.cre a'.m.A a'.m.till a'.m.D a'.k)∧Ob (a_1.m.fee=a'.m.fee)∧Ob (a_1.m.itr=a'.m.itr)∧Ob (a_1.m.pri=a'.m.pri)∧Ob (a_1.m.cre=a'.m.cre)∧Ob (List.length a_1.m.A=List.length a'.m.A)∧Ob (rnT a_1.m.fee a_1.m.itr a_1.m.pri a_1.m.cre a_1.m.A a_1.m.till a_1.m.D (List.length a_1.m.D)=rnT a'.m.fee a'.m.itr a'.m.pri a'.m.cre a'.m.A a'.m.till a'.m.D (List.length a'.m.D))∧Ob (List.length a_1.m.D=List.length a'.m.D∧∀(i:Nat),i < List.length a'.m.D→(El.fn (Rv.elemOf [.i64] (erL a_1.m.fee a_1.m.itr a_1.m.pri a_1.m.cre a_1.m.A a_1.m.till a_1.m.D (List.length a_1.m.D)))).at i=(El.fn (Rv.elemOf [.i64] (erL a'.m.fee a'.m.itr a'.m.pri a'.m.cre a'.m.A a'.m.till a'.m.D (List.length a'.m.D)))).at i)∧Ob (List.length a_1.m.A=List.length a'.m.A∧∀(i:Nat),i < List.length a'.m.A→(El.fn (Rv.elemOf [.i64,.i64,.i64] (rnA a_1.m.fee a_1.m.itr a_1.m.pri a_1.m.cre a_1.m.A a_1.m.till a_1.m.D (List.length a_1.m.D)))).at i=(El.fn (Rv.elemOf [.i64,.i64,.i64] (rnA a'.m.fee a'.m.itr a'.m.pri a'.m.cre a'.m.A a'.m.till a'.m.D (List.length a'.m.D)))).at i)∧Ob (List.length a_1.m.D=List.length a'.m.D∧∀(i:Nat),i < List.length a'.m.D→(El.fn (Rv.elemOf [.i64,.i64,.i64,.i64] a_1.m.D)).at i=(El.fn (Rv.elemOf [.i64,.i64,.i64,.i64] a'.m.D)).at i)∧Ob (List.length a_1.m.A=List.length a'.m.A∧∀(i:Nat),i < List.length a'.m.A→(El.fn (Rv.elemOf [.i64,.i64,.i64] a_1.m.A)).at i=(El.fn (Rv.elemOf [.i64,.i64,.i64] a'.m.A)).at i)∧Ob (a_1.m.fee=a'.m.fee)∧Ob (a_1.m.itr=a'.m.itr)∧Ob (a_1.m.pri=a'.m.pri)∧Ob (a_1.m.cre=a'.m.cre)∧Ob (List.length a_1.m.A=List.length a'.m.A)∧Ob (a_1.m.till=a'.m.till)∧Ob (PlainE (List.length (kpR a'.m a'.k)) (El.fn (Rv.elemOf [.i64,.i64,.i64,.i64] (kpR a'.m a'.k))))∧Ob (PlainE (List.length a'.m.A) (El.fn (Rv.elemOf [.i64,.i64,.i64] (rnA a'.m.fee a'.m.itr a'.m.pri a'.m.cre a'.m.A a'.m.till a'.m.D a'.k))))∧Ob (PlainE (List.length a'.m.D) (El.fn (Rv.elemOf [.i64] (erL a'.m.fee a'.m.itr a'.m.pri a'.m.cre a'.m.A a'.m.till a'.m.D (List.length a'.m.D)))))∧Ob (PlainE (List.length a'.m.A) (El.fn (Rv.elemOf [.i64,.i64,.i64] (rnA a'.m.fee a'.m.itr a'.m.pri a'.m.cre a'.m.A a'.m.till a'.m.D (List.length a'.m.D)))))∧Ob (PlainE (List.length a'.m.D) (El.fn (Rv.elemOf [.i64,.i64,.i64,.i64] a'.m.D)))∧Ob (PlainE (List.length a'.m.A) (El.fn (Rv.elemOf [.i64,.i64,.i64] a'.m.A)))∧True)∧(¬v_16=(0:Int)→Ob (InR .i64 ((↑a_1.k:Int)+(1:Int)))∧∃(a':Mlt),Ob ((a'.m.Ok∧List.length a'.m.D≤20∧a'.k≤List.length a'.m.D)∧List.length a'.m.D-a'.k < List.length a_1.m.D-a_1.k)∧Ob (List.length a_1.m.D=List.length a'.m.D)∧Ob (List.length a_1.m.D=List.length a'.m.D)∧Ob (List.length (kpR a_1.m a_1.k)=List.length (kpR a'.m a'.k))∧Ob ((↑a_1.k:Int)+(1:Int)=(↑a'.k:Int))∧Ob (List.length (kpR a_1.m a_1.k)=List.length (kpR a'.m a'.k)∧∀(i:Nat),i < List.length (kpR a'.m a'.k)→(El.fn (Rv.elemOf [.i64,.i64,.i64,.i64] (kpR a_1.m a_1.k))).at i=(El.fn (Rv.elemOf [.i64,.i64,.i64,.i64] (kpR a'.m a'.k))).at i)∧Ob (List.length a_1.m.A=List.length a'.m.A∧∀(i:Nat),i < List.length a'.m.A→(El.fn (Rv.elemOf [.i64,.i64,.i64] (rnA a_1.m.fee a_1.m.itr a_1.m.pri a_1.m.cre a_1.m.A a_1.m.till a_1.m.D a_1.k))).at i=(El.fn (Rv.elemOf [.i64,.i64,.i64] (rnA a'.m.fee a'.m.itr a'.m.pri a'.m.cre a'.m.A a'.m.till a'.m.D a'.k))).at i)∧Ob (a_1.m.fee=a'.m.fee)∧Ob (a_1.m.itr=a'.m.itr)∧Ob (a_1.m.pri=a'.m.pri)∧Ob (a_1.m.cre=a'.m.cre)∧Ob (List.length a_1.m.A=List.length a'.m.A)∧Ob (rnT a_1.m.fee a_1.m.itr a_1.m.pri a_1.m.cre a_1.m.A a_1.m.till a_1.m.D a_1.k=rnT a'.m.fee a'.m.itr a'.m.pri a'.m.cre a'.m.A a'.m.till a'.m.D a'.k)∧Ob (a_1.m.fee=a'.m.fee)∧Ob (a_1.m.itr=a'.m.itr)∧Ob (a_1.m.pri=a'.m.pri)∧Ob (a_1.m.cre=a'.m.cre)∧Ob (List.length a_1.m.A=List.length a'.m.A)∧Ob (rnT a_1.m.fee a_1.m.itr a_1.m.pri a_1.m.cre a_1.m.A a_1.m.till a_1.m.D (List.length a_1.m.D)=rnT a'.m.fee a'.m.itr a'.m.pri a'.m.cre a'.m.A a'.m.till a'.m.D (List.length a'.m.D))∧Ob (List.length a_1.m.D=List.length a'.m.D∧∀(i:Nat),i < List.length a'.m.D→(El.fn (Rv.elemOf [.i64] (erL a_1.m.fee a_1.m.itr a_1.m.pri a_1.m.cre a_1.m.A a_1.m.till a_1.m.D (List.length a_1.m.D)))).at i=(El.fn (Rv.elemOf [.i64] (erL a'.m.fee a'.m.itr a'.m.pri a'.m.cre a'.m.A a'.m.till a'.m.D (List.length a'.m.D)))).at i)∧Ob (List.length a_1.m.A=List.length a'.m.A∧∀(i:Nat),i < List.length a'.m.A→(El.fn (Rv.elemOf [.i64,.i64,.i64] (rnA a_1.m.fee a_1.m.itr a_1.m.pri a_1.m.cre a_1.m.A a_1.m.till a_1.m.D (List.length a_1.m.D)))).at i=(El.fn (Rv.elemOf [.i64,.i64,.i64] (rnA a'.m.fee a'.m.itr a'.m.pri a'.m.cre a'.m.A a'.m.till a'.m.D (List.length a'.m.D)))).at i)∧Ob (List.length a_1.m.D=List.length a'.m.D∧∀(i:Nat),i < List.length a'.m.D→(El.fn (Rv.elemOf [.i64,.i64,.i64,.i64] a_1.m.D)).at i=(El.fn (Rv.elemOf [.i64,.i64,.i64,.i64] a'.m.D)).at i)∧Ob (List.length a_1.m.A=List.length a'.m.A∧∀(i:Nat),i < List.length a'.m.A→(El.fn (Rv.elemOf [.i64,.i64,.i64] a_1.m.A)).at i=(El.fn (Rv.elemOf [.i64,.i64,.i64] a'.m.A)).at i)∧Ob (a_1.m.fee=a'.m.fee)∧Ob (a_1.m.itr=a'.m.itr)∧Ob (a_1.m.pri=a'.m.pri)∧Ob (a_1.m.cre=a'.m.cre)∧Ob (List.length a_1.m.A=List.length a'.m.A)∧Ob (a_1.m.till=a'.m.till)∧Ob (PlainE (List.length (kpR a'.m a'.k)) (El.fn (Rv.elemOf [.i64,.i64,.i64,.i64] (kpR a'.m a'.k))))∧Ob (PlainE (List.length a'.m.A) (El.fn (Rv.elemOf [.i64,.i64,.i64] (rnA a'.m.fee a'.m.itr a'.m.pri a'.m.cre a'.m.A a'.m.till a'.m.D a'.k))))∧Ob (PlainE (List.length a'.m.D) (El.fn (Rv.elemOf [.i64] (erL a'.m.fee a'.m.itr a'.m.pri a'.m.cre a'.m.A a'.m.till a'.m.D (List.length a'.m.D)))))∧Ob (PlainE (List.length a'.m.A) (El.fn (Rv.elemOf [.i64,.i64,.i64] (rnA a'.m.fee a'.m.itr a'.m.pri a'.m.cre a'.m.A a'.m.till a'.m.D (List.length a'.m.D)))))∧Ob (PlainE (List.length a'.m.D) (El.fn (Rv.elemOf [.i64,.i64,.i64,.i64] a'.m.D)))∧Ob (PlainE (List.length a'.m.A) (El.fn (Rv.elemOf [.i64,.i64,.i64] a'.m.A)))∧True))))∧(¬(↑a_1.k:Int) < (↑(List.length a_1.m.D):Int)→∃(l4:List (List Int)),Ob (List.length a_1.m.A=List.length a_1.m.A∧l4.length=List.length a_1.m.A∧(∀r∈l4,r.length=3)∧∀(i:Nat),i < List.length a_1.m.A→(El.fn (Rv.elemOf [.i64,.i64,.i64] a_1.m.A)).at i=Rv.elemOf [.i64,.i64,.i64] l4 i)∧∃(l5:List (List Int)),Ob (List.length (kpR a_1.m a_1.k)=List.length (kpR a_1.m a_1.k)∧l5.length=List.length (kpR a_1.m a_1.k)∧(∀r∈l5,r.length=4)∧∀(i:Nat),i < List.length (kpR a_1.m a_1.k)→(El.fn (Rv.elemOf [.i64,.i64,.i64,.i64] (kpR a_1.m a_1.k))).at i=Rv.elemOf [.i64,.i64,.i64,.i64] l5 i)∧Ob (F_RunV.named.pre ([Dat.z a_1.m.fee,Dat.z a_1.m.itr,Dat.z a_1.m.pri,Dat.z a_1.m.cre,Dat.l l4,Dat.z a_1.m.till]++[Dat.l l5]))∧∀(v_11:Int),v_11=a_1.m.fee→∀(v_12:Int),v_12=a_1.m.itr→∀(v_13:Int),v_13=a_1.m.pri→∀(v_14:Int),v_14=a_1.m.cre→∀(v_15:Int),v_15=rnT a_1.m.fee a_1.m.itr a_1.m.pri a_1.m.cre l4 a_1.m.till l5 l5.length→(¬(↑l5.length:Int)=(↑(List.length (kpR a_1.m a_1.k)):Int)→False)∧(¬¬(↑l5.length:Int)=(↑(List.length (kpR a_1.m a_1.k)):Int)→(∃(a_2:Mlt),Ob (a_2.m.Ok∧List.length a_2.m.D≤20∧a_2.k≤List.length (kpR a_2.m (List.length a_2.m.D)))∧Ob (l5.length=List.length (kpR a_2.m (List.length a_2.m.D)))∧Ob ((0:Int)=(↑a_2.k:Int))∧Ob (v_11=a_2.m.fee)∧Ob (v_12=a_2.m.itr)∧Ob (v_13=a_2.m.pri)∧Ob (v_14=a_2.m.cre)∧Ob (l4.length=List.length a_2.m.A)∧Ob (v_15=rnT a_2.m.fee a_2.m.itr a_2.m.pri a_2.m.cre a_2.m.A a_2.m.till (kpR a_2.m (List.length a_2.m.D)) (List.length (kpR a_2.m (List.length a_2.m.D))))∧Ob (l5.length=List.length (kpR a_2.m (List.length a_2.m.D))∧∀(i:Nat),i < List.length (kpR a_2.m (List.length a_2.m.D))→(El.fn (Rv.elemOf [.i64] (erL a_1.m.fee a_1.m.itr a_1.m.pri a_1.m.cre l4 a_1.m.till l5 l5.length))).at i=(El.fn (Rv.elemOf [.i64] (erL a_2.m.fee a_2.m.itr a_2.m.pri a_2.m.cre a_2.m.A a_2.m.till (kpR a_2.m (List.length a_2.m.D)) (List.length (kpR a_2.m (List.length a_2.m.D)))))).at i)∧Ob (l4.length=List.length a_2.m.A∧∀(i:Nat),i < List.length a_2.m.A→(El.fn (Rv.elemOf [.i64,.i64,.i64] (rnA a_1.m.fee a_1.m.itr a_1.m.pri a_1.m.cre l4 a_1.m.till l5 l5.length))).at i=(El.fn (Rv.elemOf [.i64,.i64,.i64] (rnA a_2.m.fee a_2.m.itr a_2.m.pri a_2.m.cre a_2.m.A a_2.m.till (kpR a_2.m (List.length a_2.m.D)) (List.length (kpR a_2.m (List.length a_2.m.D)))))).at i)∧Ob (List.length a_1.m.A=List.length a_2.m.A∧∀(i:Nat),i < List.length a_2.m.A→(El.fn (Rv.elemOf [.i64,.i64,.i64] (rnA a_1.m.fee a_1.m.itr a_1.m.pri a_1.m.cre a_1.m.A a_1.m.till a_1.m.D a_1.k))).at i=(El.fn (Rv.elemOf [.i64,.i64,.i64] (rnA a_2.m.fee a_2.m.itr a_2.m.pri a_2.m.cre a_2.m.A a_2.m.till a_2.m.D (List.length a_2.m.D)))).at i)∧Ob (a_1.m.fee=a_2.m.fee)∧Ob (a_1.m.itr=a_2.m.itr)∧Ob (a_1.m.pri=a_2.m.pri)∧Ob (a_1.m.cre=a_2.m.cre)∧Ob (List.length a_1.m.A=List.length a_2.m.A)∧Ob (rnT a_1.m.fee a_1.m.itr a_1.m.pri a_1.m.cre a_1.m.A a_1.m.till a_1.m.D a_1.k=rnT a_2.m.fee a_2.m.itr a_2.m.pri a_2.m.cre a_2.m.A a_2.m.till a_2.m.D (List.length a_2.m.D))∧Ob (a_1.m.fee=a_2.m.fee)∧Ob (a_1.m.itr=a_2.m.itr)∧Ob (a_1.m.pri=a_2.m.pri)∧Ob (a_1.m.cre=a_2.m.cre)∧Ob (List.length a_1.m.A=List.length a_2.m.A)∧Ob (rnT a_1.m.fee a_1.m.itr a_1.m.pri a_1.m.cre a_1.m.A a_1.m.till a_1.m.D (List.length a_1.m.D)=rnT a_2.m.fee a_2.m.itr a_2.m.pri a_2.m.cre a_2.m.A a_2.m.till a_2.m.D (List.length a_2.m.D))∧Ob (List.length a_1.m.A=List.length a_2.m.A∧∀(i:Nat),i < List.length a_2.m.A→(El.fn (Rv.elemOf [.i64,.i64,.i64] (rnA a_1.m.fee a_1.m.itr a_1.m.pri a_1.m.cre a_1.m.A a_1.m.till a_1.m.D (List.length a_1.m.D)))).at i=(El.fn (Rv.elemOf [.i64,.i64,.i64] (rnA a_2.m.fee a_2.m.itr a_2.m.pri a_2.m.cre a_2.m.A a_2.m.till a_2.m.D (List.length a_2.m.D)))).at i)∧Ob (PlainE (List.length (kpR a_2.m (List.length a_2.m.D))) (El.fn (Rv.elemOf [.i64] (erL a_2.m.fee a_2.m.itr a_2.m.pri a_2.m.cre a_2.m.A a_2.m.till (kpR a_2.m (List.length a_2.m.D)) (List.length (kpR a_2.m (List.length a_2.m.D)))))))∧Ob (PlainE (List.length a_2.m.A) (El.fn (Rv.elemOf [.i64,.i64,.i64] (rnA a_2.m.fee a_2.m.itr a_2.m.pri a_2.m.cre a_2.m.A a_2.m.till (kpR a_2.m (List.length a_2.m.D)) (List.length (kpR a_2.m (List.length a_2.m.D)))))))∧Ob (PlainE (List.length a_2.m.A) (El.fn (Rv.elemOf [.i64,.i64,.i64] (rnA a_2.m.fee a_2.m.itr a_2.m.pri a_2.m.cre a_2.m.A a_2.m.till a_2.m.D (List.length a_2.m.D)))))∧Ob (PlainE (List.length a_2.m.A) (El.fn (Rv.elemOf [.i64,.i64,.i64] (rnA a_2.m.fee a_2.m.itr a_2.m.pri a_2.m.cre a_2.m.A a_2.m.till a_2.m.D (List.length a_2.m.D)))))∧True)∧∀(a_2:Mlt),a_2.m.Ok∧List.length a_2.m.D≤20∧a_2.k≤List.length (kpR a_2.m (List.length a_2.m.D))→∀(_ _ _ _ _ _ _ _ _ _ _ _ _ _ _ _ _ _ _ _ _ _ _ _ _ _ _ _ _ _ _ _ _ _ _ _ _ _ _ _ _ _ _ _ _ _ _ _ _ _ _ _ _ _ _ _ _ _ _ _ _ _ _ _ _ _ _ _ _ _ _ _ _ _ _ _ _ _ _ _ _ _ _ _ _ _ _ _ _ _ _ _ _ _ _ _ _ _ _ _ _ _ _ _ _ _:Value),((↑a_2.k:Int) < (↑(List.length (kpR a_2.m (List.length a_2.m.D))):Int)→Ob ((0:Int)≤(↑a_2.k:Int)∧a_2.k < List.length (kpR a_2.m (List.length a_2.m.D)))∧Ob (a_2.k < List.length (kpR a_2.m (List.length a_2.m.D)))∧(¬cell (erL a_2.m.fee a_2.m.itr a_2.m.pri a_2.m.cre a_2.m.A a_2.m.till (kpR a_2.m (List.length a_2.m.D)) (List.length (kpR a_2.m (List.length a_2.m.D)))) a_2.k 0=(0:Int)→False)∧(¬¬cell (erL a_2.m.fee a_2.m.itr a_2.m.pri a_2.m.cre a_2.m.A a_2.m.till (kpR a_2.m (List.length a_2.m.D)) (List.length (kpR a_2.m (List.length a_2.m.D)))) a_2.k 0=(0:Int)→Ob (InR .i64 ((↑a_2.k:Int)+(1:Int)))∧∃(a':Mlt),Ob ((a'.m.Ok∧List.length a'.m.D≤20∧a'.k≤List.length (kpR a'.m (List.length a'.m.D)))∧List.length (kpR a'.m (List.length a'.m.D))-a'.k < List.length (kpR a_2.m (List.length a_2.m.D))-a_2.k)∧Ob (List.length (kpR a_2.m (List.length a_2.m.D))=List.length (kpR a'.m (List.length a'.m.D)))∧Ob ((↑a_2.k:Int)+(1:Int)=(↑a'.k:Int))∧Ob (a_2.m.fee=a'.m.fee)∧Ob (a_2.m.itr=a'.m.itr)∧Ob (a_2.m.pri=a'.m.pri)∧Ob (a_2.m.cre=a'.m.cre)∧Ob (List.length a_2.m.A=List.length a'.m.A)∧Ob (rnT a_2.m.fee a_2.m.itr a_2.m.pri a_2.m.cre a_2.m.A a_2.m.till (kpR a_2.m (List.length a_2.m.D)) (List.length (kpR a_2.m (List.length a_2.m.D)))=rnT a'.m.fee a'.m.itr a'.m.pri a'.m.cre a'.m.A a'.m.till (kpR a'.m (List.length a'.m.D)) (List.length (kpR a'.m (List.length a'.m.D))))∧Ob (List.length (kpR a_2.m (List.length a_2.m.D))=List.length (kpR a'.m (List.length a'.m.D))∧∀(i:Nat),i < List.length (kpR a'.m (List.length a'.m.D))→(El.fn (Rv.elemOf [.i64] (erL a_2.m.fee a_2.m.itr a_2.m.pri a_2.m.cre a_2.m.A a_2.m.till (kpR a_2.m (List.length a_2.m.D)) (List.length (kpR a_2.m (List.length a_2.m.D)))))).at i=(El.fn (Rv.elemOf [.i64] (erL a'.m.fee a'.m.itr a'.m.pri a'.m.cre a'.m.A a'.m.till (kpR a'.m (List.length a'.m.D)) (List.length (kpR a'.m (List.length a'.m.D)))))).at i)∧Ob (List.length a_2.m.A=List.length a'.m.A∧∀(i:Nat),i < List.length a'.m.A→(El.fn (Rv.elemOf [.i64,.i64,.i64] (rnA a_2.m.fee a_2.m.itr a_2.m.pri a_2.m.cre a_2.m.A a_2.m.till (kpR a_2.m (List.length a_2.m.D)) (List.length (kpR a_2.m (List.length a_2.m.D)))))).at i=(El.fn (Rv.elemOf [.i64,.i64,.i64] (rnA a'.m.fee a'.m.itr a'.m.pri a'.m.cre a'.m.A a'.m.till (kpR a'.m (List.length a'.m.D)) (List.length (kpR a'.m (List.length a'.m.D)))))).at i)∧Ob (List.length a_2.m.A=List.length a'.m.A∧∀(i:Nat),i < List.length a'.m.A→(El.fn (Rv.elemOf [.i64,.i64,.i64] (rnA a_2.m.fee a_2.m.itr a_2.m.pri a_2.m.cre a_2.m.A a_2.m.till a_2.m.D (List.length a_2.m.D)))).at i=(El.fn (Rv.elemOf [.i64,.i64,.i64] (rnA a'.m.fee a'.m.itr a'.m.pri a'.m.cre a'.m.A a'.m.till a'.m.D (List.length a'.m.D)))).at i)∧Ob (a_2.m.fee=a'.m.fee)∧Ob (a_2.m.itr=a'.m.itr)∧Ob (a_2.m.pri=a'.m.pri)∧Ob (a_2.m.cre=a'.m.cre)∧Ob (List.length a_2.m.A=List.length a'.m.A)∧Ob (rnT a_2.m.fee a_2.m.itr a_2.m.pri a_2.m.cre a_2.m.A a_2.m.till a_2.m.D (List.length a_2.m.D)=rnT a'.m.fee a'.m.itr a'.m.pri a'.m.cre a'.m.A a'.m.till a'.m.D (List.length a'.m.D))∧Ob (a_2.m.fee=a'.m.fee)∧Ob (a_2.m.itr=a'.m.itr)∧Ob (a_2.m.pri=a'.m.pri)∧Ob (a_2.m.cre=a'.m.cre)∧Ob (List.length a_2.m.A=List.length a'.m.A)∧Ob (rnT a_2.m.fee a_2.m.itr a_2.m.pri a_2.m.cre a_2.m.A a_2.m.till a_2.m.D (List.length a_2.m.D)=rnT a'.m.fee a'.m.itr a'.m.pri a'.m.cre a'.m.A a'.m.till a'.m.D (List.length a'.m.D))∧Ob (List.length a_2.m.A=List.length a'.m.A∧∀(i:Nat),i < List.length a'.m.A→(El.fn (Rv.elemOf [.i64,.i64,.i64] (rnA a_2.m.fee a_2.m.itr a_2.m.pri a_2.m.cre a_2.m.A a_2.m.till a_2.m.D (List.length a_2.m.D)))).at i=(El.fn (Rv.elemOf [.i64,.i64,.i64] (rnA a'.m.fee a'.m.itr a'.m.pri a'.m.cre a'.m.A a'.m.till a'.m.D (List.length a'.m.D)))).at i)∧Ob (PlainE (List.length (kpR a'.m (List.length a'.m.D))) (El.fn (Rv.elemOf [.i64] (erL a'.m.fee a'.m.itr a'.m.pri a'.m.cre a'.m.A a'.m.till (kpR a'.m (List.length a'.m.D)) (List.length (kpR a'.m (List.length a'.m.D)))))))∧Ob (PlainE (List.length a'.m.A) (El.fn (Rv.elemOf [.i64,.i64,.i64] (rnA a'.m.fee a'.m.itr a'.m.pri a'.m.cre a'.m.A a'.m.till (kpR a'.m (List.length a'.m.D)) (List.length (kpR a'.m (List.length a'.m.D)))))))∧Ob (PlainE (List.length a'.m.A) (El.fn (Rv.elemOf [.i64,.i64,.i64] (rnA a'.m.fee a'.m.itr a'.m.pri a'.m.cre a'.m.A a'.m.till a'.m.D (List.length a'.m.D)))))∧Ob (PlainE (List.length a'.m.A) (El.fn (Rv.elemOf [.i64,.i64,.i64] (rnA a'.m.fee a'.m.itr a'.m.pri a'.m.cre a'.m.A a'.m.till a'.m.D (List.length a'.m.D)))))∧True))∧(¬(↑a_2.k:Int) < (↑(List.length (kpR a_2.m (List.length a_2.m.D))):Int)→∃(l6:List (List Int)),Ob (List.length a_2.m.A=List.length a_2.m.A∧l6.length=List.length a_2.m.A∧(∀r∈l6,r.length=3)∧∀(i:Nat),i < List.length a_2.m.A→(El.fn (Rv.elemOf [.i64,.i64,.i64] (rnA a_2.m.fee a_2.m.itr a_2.m.pri a_2.m.cre a_2.m.A a_2.m.till a_2.m.D (List.length a_2.m.D)))).at i=Rv.elemOf [.i64,.i64,.i64] l6 i)∧∃(l7:List (List Int)),Ob (List.length a_2.m.A=List.length a_2.m.A∧l7.length=List.length a_2.m.A∧(∀r∈l7,r.length=3)∧∀(i:Nat),i < List.length a_2.m.A→(El.fn (Rv.elemOf [.i64,.i64,.i64] (rnA a_2.m.fee a_2.m.itr a_2.m.pri a_2.m.cre a_2.m.A a_2.m.till (kpR a_2.m (List.length a_2.m.D)) (List.length (kpR a_2.m (List.length a_2.m.D)))))).at i=Rv.elemOf [.i64,.i64,.i64] l7 i)∧Ob (l6.length≤4000000∧l7.length≤4000000)∧(smC a_2.m.fee a_2.m.itr a_2.m.pri a_2.m.cre (rnT a_2.m.fee a_2.m.itr a_2.m.pri a_2.m.cre a_2.m.A a_2.m.till a_2.m.D (List.length a_2.m.D)) a_2.m.fee a_2.m.itr a_2.m.pri a_2.m.cre (rnT a_2.m.fee a_2.m.itr a_2.m.pri a_2.m.cre a_2.m.A a_2.m.till (kpR a_2.m (List.length a_2.m.D)) (List.length (kpR a_2.m (List.length a_2.m.D))))∧samTo 3 l6 l7 l6.length→∃(l8:List (List Int)),Ob (List.length a_2.m.A=List.length a_2.m.A∧l8.length=List.length a_2.m.A∧(∀r∈l8,r.length=3)∧∀(i:Nat),i < List.length a_2.m.A→(El.fn (Rv.elemOf [.i64,.i64,.i64] (rnA a_2.m.fee a_2.m.itr a_2.m.pri a_2.m.cre a_2.m.A a_2.m.till a_2.m.D (List.length a_2.m.D)))).at i=Rv.elemOf [.i64,.i64,.i64] l8 i)∧∃(l9:List (List Int)),Ob (List.length a_2.m.A=List.length a_2.m.A∧l9.length=List.length a_2.m.A∧(∀r∈l9,r.length=3)∧∀(i:Nat),i < List.length a_2.m.A→(El.fn (Rv.elemOf [.i64,.i64,.i64] (rnA a_2.m.fee a_2.m.itr a_2.m.pri a_2.m.cre a_2.m.A a_2.m.till a_2.m.D (List.length a_2.m.D)))).at i=Rv.elemOf [.i64,.i64,.i64] l9 i)∧Ob (l8.length≤4000000∧l9.length≤4000000)∧(smC a_2.m.fee a_2.m.itr a_2.m.pri a_2.m.cre (rnT a_2.m.fee a_2.m.itr a_2.m.pri a_2.m.cre a_2.m.A a_2.m.till a_2.m.D (List.length a_2.m.D)) a_2.m.fee a_2.m.itr a_2.m.pri a_2.m.cre (rnT a_2.m.fee a_2.m.itr a_2.m.pri a_2.m.cre a_2.m.A a_2.m.till a_2.m.D (List.length a_2.m.D))∧samTo 3 l8 l9 l8.length→Ob (hasTabs [] B)∧True)∧(¬(smC a_2.m.fee a_2.m.itr a_2.m.pri a_2.m.cre (rnT a_2.m.fee a_2.m.itr a_2.m.pri a_2.m.cre a_2.m.A a_2.m.till a_2.m.D (List.length a_2.m.D)) a_2.m.fee a_2.m.itr a_2.m.pri a_2.m.cre (rnT a_2.m.fee a_2.m.itr a_2.m.pri a_2.m.cre a_2.m.A a_2.m.till a_2.m.D (List.length a_2.m.D))∧samTo 3 l8 l9 l8.length)→False))∧(¬(smC a_2.m.fee a_2.m.itr a_2.m.pri a_2.m.cre (rnT a_2.m.fee a_2.m.itr a_2.m.pri a_2.m.cre a_2.m.A a_2.m.till a_2.m.D (List.length a_2.m.D)) a_2.m.fee a_2.m.itr a_2.m.pri a_2.m.cre (rnT a_2.m.fee a_2.m.itr a_2.m.pri a_2.m.cre a_2.m.A a_2.m.till (kpR a_2.m (List.length a_2.m.D)) (List.length (kpR a_2.m (List.length a_2.m.D))))∧samTo 3 l6 l7 l6.length)→False)))))
set_option linter.unusedSimpArgs false in
set_option maxRecDepth 4000 in
set_option maxHeartbeats 2000000 in
theorem v_law:V_law:=by
 unfold V_law
 intro B htab xz N hz hoz hrz hN
 simp only [Ob_iff,and_true,true_and,Classical.not_not]
 refine⟨N,⟨hz,rfl,hrz,fun _ _=>rfl⟩,hN,⟨by omega,by omega⟩,?_⟩
 obtain⟨a0,ha0⟩:∃a0,tideK N N.length=a0:=⟨_,rfl⟩
 rw [ha0]
 intro q hq f hf i hi p hp c hc t ht
 have hc0:=co_ok a0 (most:=5) (by omega) (by omega)
 have hl0:=co_len a0 5 (coN a0 5).toNat
 have hr0:=co_row a0 5 (coN a0 5).toNat
 rw [← hf,← hi,← hp,← hc,← ht]at hc0
 clear hf hi hp hc ht
 obtain⟨A,hA⟩:∃A,coR a0 5 (coN a0 5).toNat=A:=⟨_,rfl⟩
 obtain⟨n,hn⟩:∃n,(coN a0 5).toNat=n:=⟨_,rfl⟩
 rw [hA]at hc0 hl0 hr0
 rw [hn]at hl0
 rw [hA,hn]
 clear hA hn
 subst hl0
 have hAl:=hc0.l
 refine⟨⟨A,⟨rfl,hr0,fun _ _=>rfl⟩,⟨⟨by omega,by omega⟩,by omega,by omega⟩,?_⟩,?_⟩
 ·intro w hw
  clear hw
  have hb:=belowV_in q (20+1)
  obtain⟨m,hm⟩:∃m,(belowV q (20+1)).toNat=m:=⟨_,rfl⟩
  have hm20:m≤20:=by omega
  rw [hm]
  clear hb hm
  have dl:=ds_len (A.length:Int) (belowA q (20+1)) m
  have dr:=ds_row (A.length:Int) (belowA q (20+1)) m
  obtain⟨D,hD⟩:∃D,itR (dsQ (A.length:Int)) (dsR (A.length:Int)) (belowA q (20+1)) m=D:=⟨_,rfl⟩
  rw [hD]at dl dr ⊢
  clear hD
  subst dl
  exact⟨⟨q,f,i,p,c,t,A,D⟩,⟨⟨hc0,hr0,Nat.le_trans hm20 (by omega),dr⟩,hm20⟩,rfl,⟨rfl,fun _ _=>rfl⟩,⟨rfl,fun _ _=>rfl⟩,rfl,rfl,rfl,rfl,rfl,rfl,plain_elemOf _ _ _,plain_elemOf _ _ _⟩
 clear hc0 hr0 hAl
 intro v hv
 obtain⟨hv,hD⟩:=hv
 intros
 have h0:=coop_zero hv.c
 have hl:=hv.c.l
 refine⟨v.A,⟨rfl,hv.a,fun _ _=>rfl⟩,v.D,⟨rfl,hv.d,fun _ _=>rfl⟩,⟨h0,by omega⟩,?_⟩
 intro v6 h6 v7 h7 v8 h8 v9 h9 v10 h10
 subst h6 h7 h8 h9 h10
 refine⟨fun h=>absurd rfl h,fun _=>⟨?_,?_⟩⟩
 ·refine⟨⟨v,0⟩,⟨hv,hD,Nat.zero_le _⟩,?_⟩
  have hA0:0 < v.A.length:=by omega
  repeat' (with_reducible apply And.intro)
  all_goals first | rfl | exact plain_elemOf _ _ _ | exact fun _ _=>rfl | exact hA0
 clear h0 hl hD hv
 intro u hu
 obtain⟨hu,hD,hk⟩:=hu
 intros
 have h0:=coop_zero hu.c
 have hl:=hu.c.l
 refine⟨fun h1=>?_,fun h1=>?_⟩
 ·have hk':u.k < u.m.D.length:=by omega
  have hd:u.m.D.length-(u.k+1) < u.m.D.length-u.k:=by omega
  have hc1:(u.k:Int)+1=((u.k+1:Nat):Int):=by omega
  have i1:InR .i64 ((u.k:Int)+1):=by simp only [InR]; omega
  have ec:cell (erL u.m.fee u.m.itr u.m.pri u.m.cre u.m.A u.m.till u.m.D u.m.D.length) u.k 0=rnE u.m.fee u.m.itr u.m.pri u.m.cre u.m.A u.m.till u.m.D u.k:=erL_cell hk'
  have lk:(rnA u.m.fee u.m.itr u.m.pri u.m.cre u.m.A u.m.till u.m.D u.k).length=u.m.A.length:=rn_len u.k
  have rk:=rn_row (fee:=u.m.fee) (itr:=u.m.itr) (pri:=u.m.pri) (cre:=u.m.cre) (till:=u.m.till) (D:=u.m.D) hu.a u.k
  have kl:=kp_len u.m u.k
  have ed:=doE_rn hu u.k
  rw [ec]
  refine⟨⟨by omega,hk'⟩,hk',_,⟨lk,rk,fun _ _=>rfl⟩,by show _≤4000000; omega,fun h2=>?_,fun h2=>?_⟩
  ·have h2:doE u.m.fee u.m.itr u.m.pri u.m.cre (rnA u.m.fee u.m.itr u.m.pri u.m.cre u.m.A u.m.till u.m.D u.k) (rnT u.m.fee u.m.itr u.m.pri u.m.cre u.m.A u.m.till u.m.D u.k) (cell u.m.D u.k 0) (cell u.m.D u.k 1) (cell u.m.D u.k 2) (cell u.m.D u.k 3)≠0:=h2
   intro v11 h11
   rw [ed]at h2 h11
   subst h11
   refine⟨⟨by omega,hk'⟩,hk',fun h=>absurd rfl h,fun _=>⟨fun h3=>absurd h3 h2,fun _=>⟨i1,⟨u.m,u.k+1⟩,⟨⟨hu,hD,hk'⟩,hd⟩,?_⟩⟩⟩
   obtain⟨e1,e2⟩:=rn_no h2
   have e3:=kp_no h2
   rw [e1,e2,e3]
   repeat' (with_reducible apply And.intro)
   all_goals first | rfl | exact plain_elemOf _ _ _ | exact fun _ _=>rfl | exact hc1
  ·have h2:¬ doE u.m.fee u.m.itr u.m.pri u.m.cre (rnA u.m.fee u.m.itr u.m.pri u.m.cre u.m.A u.m.till u.m.D u.k) (rnT u.m.fee u.m.itr u.m.pri u.m.cre u.m.A u.m.till u.m.D u.k) (cell u.m.D u.k 0) (cell u.m.D u.k 1) (cell u.m.D u.k 2) (cell u.m.D u.k 3)≠0:=h2
   rw [ed]at h2
   have h2:rnE u.m.fee u.m.itr u.m.pri u.m.cre u.m.A u.m.till u.m.D u.k=0:=by omega
   intro w1 g1 w2 g2 w3 g3 w4 g4 w5 g5 w6 g6
   subst g1 g2 g3 g4 g5 g6
   obtain⟨e1,e2⟩:=rn_yes h2
   have e3:=kp_yes h2
   have el:(kpR u.m (u.k+1)).length=(kpR u.m u.k).length+1:=by rw [e3,List.length_append,List.length_singleton]
   have es:=snoc4 (R:=kpR u.m u.k) (x:=cell u.m.D u.k 0) (y:=cell u.m.D u.k 1) (z:=cell u.m.D u.k 2) (w:=cell u.m.D u.k 3) rfl
   rw [← e3]at es
   refine⟨plain_elemOf _ _ _,⟨by omega,hk'⟩,hk',fun h=>absurd h2.symm h,fun _=>⟨fun _=>⟨⟨by omega,hk'⟩,hk',fun _ _=>rfl,by omega,i1,⟨u.m,u.k+1⟩,⟨⟨hu,hD,hk'⟩,hd⟩,?_⟩,fun h=>absurd rfl h⟩⟩
   rw [e1,e2]
   repeat' (with_reducible apply And.intro)
   all_goals first | rfl | exact plain_elemOf _ _ _ | exact fun _ _=>rfl | exact hc1 | exact el.symm | exact lk | (intro i hi; rw [el]at hi; exact es i hi)
 ·have ek:u.k=u.m.D.length:=by omega
  obtain⟨m,k⟩:=u
  have ek:k=m.D.length:=ek
  subst ek
  clear hk h1
  have hu:m.Ok:=hu
  have kr:=kp_row m m.D.length
  have kl:=kp_len m m.D.length
  have hD:m.D.length≤20:=hD
  refine⟨m.A,⟨rfl,hu.a,fun _ _=>rfl⟩,kpR m m.D.length,⟨rfl,kr,fun _ _=>rfl⟩,⟨h0,by omega⟩,?_⟩
  intro w1 g1 w2 g2 w3 g3 w4 g4 w5 g5
  subst g1 g2 g3 g4 g5
  refine⟨fun h=>absurd rfl h,fun _=>⟨⟨⟨m,0⟩,⟨hu,hD,Nat.zero_le _⟩,?_⟩,?_⟩⟩
  ·repeat' (with_reducible apply And.intro)
   all_goals first | rfl | exact plain_elemOf _ _ _ | exact fun _ _=>rfl
  clear hu kr kl hD hl h0
  intro u hu
  obtain⟨hu,hD,hk⟩:=hu
  intros
  obtain⟨⟨x1,x2⟩,x3⟩:=kp_run u.m u.m.D.length
  have kl:=kp_len u.m u.m.D.length
  refine⟨fun h1=>?_,fun h1=>?_⟩
  ·have hk':u.k < (kpR u.m u.m.D.length).length:=by omega
   have ec:cell (erL u.m.fee u.m.itr u.m.pri u.m.cre u.m.A u.m.till (kpR u.m u.m.D.length) (kpR u.m u.m.D.length).length) u.k 0=0:=by
    rw [erL_cell hk']
    exact x3 _ hk'
   have hc1:(u.k:Int)+1=((u.k+1:Nat):Int):=by omega
   refine⟨⟨by omega,hk'⟩,hk',fun h=>absurd ec h,fun _=>⟨by simp only [InR]; omega,⟨u.m,u.k+1⟩,⟨⟨hu,hD,hk'⟩,by show(kpR u.m u.m.D.length).length-(u.k+1) < (kpR u.m u.m.D.length).length-u.k; omega⟩,?_⟩⟩
   repeat' (with_reducible apply And.intro)
   all_goals first | rfl | exact plain_elemOf _ _ _ | exact fun _ _=>rfl | exact hc1
  ·have lN:(rnA u.m.fee u.m.itr u.m.pri u.m.cre u.m.A u.m.till u.m.D u.m.D.length).length=u.m.A.length:=rn_len _
   have rN:=rn_row (fee:=u.m.fee) (itr:=u.m.itr) (pri:=u.m.pri) (cre:=u.m.cre) (till:=u.m.till) (D:=u.m.D) hu.a u.m.D.length
   have hl:=hu.c.l
   rw [x1,x2]
   have sm:smC u.m.fee u.m.itr u.m.pri u.m.cre (rnT u.m.fee u.m.itr u.m.pri u.m.cre u.m.A u.m.till u.m.D u.m.D.length) u.m.fee u.m.itr u.m.pri u.m.cre (rnT u.m.fee u.m.itr u.m.pri u.m.cre u.m.A u.m.till u.m.D u.m.D.length):=⟨⟨rfl,rfl,rfl,rfl⟩,rfl⟩
   refine⟨_,⟨lN,rN,fun _ _=>rfl⟩,_,⟨lN,rN,fun _ _=>rfl⟩,⟨by omega,by omega⟩,fun _=>?_,fun h=>absurd ⟨sm,sam_self 3 _ _⟩ h⟩
   refine⟨_,⟨lN,rN,fun _ _=>rfl⟩,_,⟨lN,rN,fun _ _=>rfl⟩,⟨by omega,by omega⟩,fun _=>htab,fun h=>absurd ⟨sm,sam_self 3 _ _⟩ h⟩
theorem e_law:V_law=needL P [F_SameCoops] [F_TideOf.named,F_CoopOf.named,F_DealsOf.named,F_RunV.named,F_Do.named] 8 ([]:Tabs) A_law F_law:=by kernel_rfl
theorem n_law:Ob (needL P [F_SameCoops] [F_TideOf.named,F_CoopOf.named,F_DealsOf.named,F_RunV.named,F_Do.named] 8 ([]:Tabs) A_law F_law):=by
 rw [← e_law]
 exact⟨v_law⟩
theorem l_law:(([F_SameCoops]:List Fn0).all fun G=>!Nat.beq G.g 8)=true:=rfl
theorem le_law:([F_TideOf.named,F_CoopOf.named,F_DealsOf.named,F_RunV.named,F_Do.named].all fun G=>!Nat.beq G.g 8)=true:=rfl
theorem c_law:∀F∈([F_SameCoops]:List Fn0),F.Ok P:=by
 intro F h
 simp only [List.mem_cons,List.not_mem_nil,or_false]at h
 rcases h with rfl
 ·exact SameCoops_ok
theorem ce_law:∀F∈[F_TideOf.named,F_CoopOf.named,F_DealsOf.named,F_RunV.named,F_Do.named],F.Ok P:=by
 intro F h
 simp only [List.mem_cons,List.not_mem_nil,or_false]at h
 rcases h with rfl | rfl | rfl | rfl | rfl
 ·exact TideOf_ok.named
 ·exact CoopOf_ok.named
 ·exact DealsOf_ok.named
 ·exact RunV_ok.named
 ·exact Do_ok.named
end Go.Proofs.Ytfebjikidfcbcaa.Sy
