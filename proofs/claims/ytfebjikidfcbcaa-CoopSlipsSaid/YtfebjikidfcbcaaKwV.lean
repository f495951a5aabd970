import Derived.Test.YtfebjikidfcbcaaSyP2
import Derived.Test.YtfebjikidfcbcaaGrM
import Derived.Test.YtfebjikidfcbcaaStM
import Derived.Test.YtfebjikidfcbcaaLrM
import Derived.Test.YtfebjikidfcbcaaDhM
import Derived.Test.YtfebjikidfcbcaaKtT
import Derived.Test.YtfebjikidfcbcaaKtA
import Derived.Test.YtfebjikidfcbcaaKtB
import Derived.Test.YtfebjikidfcbcaaKwA
import Derived.Test.YtfebjikidfcbcaaKwB
import Derived.Test.YtfebjikidfcbcaaKwC
import Derived.Test.YtfebjikidfcbcaaKwD
import Derived.Test.YtfebjikidfcbcaaKwE
import Derived.Test.YtfebjikidfcbcaaKwF
import Derived.Test.YtfebjikidfcbcaaKwH
import Derived.Test.YtfebjikidfcbcaaKwI
import Derived.Test.YtfebjikidfcbcaaKwJ
import Derived.Test.YtfebjikidfcbcaaKwK
import Derived.Test.YtfebjikidfcbcaaKwM
import Derived.Test.YtfebjikidfcbcaaKwN
import Derived.Test.YtfebjikidfcbcaaKwO
import Derived.Test.YtfebjikidfcbcaaKwQ
import Derived.Test.YtfebjikidfcbcaaKwU
import Derived.Test.YtfebjikidfcbcaaKwT
import Derived.Test.YtfebjikidfcbcaaSyP2
import Derived.KernelRfl
import Derived.Test.YtfebjikidfcbcaaProg
namespace Go.Proofs.Ytfebjikidfcbcaa.Sy
open Go Go.Rv
set_option linter.unusedVariables false
structure Sst where
 q:Int
 fee:Int
 itr:Int
 pri:Int
 cre:Int
 till:Int
 n:Int
 m:Nat
 k:Nat
 A:Rows
 D:Rows
 S:Rows
 a:Int
structure Sst.Ok (v:Sst):Prop where
 c:CoopOk v.fee v.itr v.pri v.cre v.A v.till
 a:∀r∈v.A,r.length=3
 b:Bd v.A v.till 0
 d:∀r∈v.D,Gd v.A.length r
 s:∀r∈v.S,Gd v.A.length r
 o:∀r∈v.S,r.getD 0 0=1
 ld:v.D.length≤20
 ls:v.S.length≤20
theorem row4_len {D:Rows} {n:Nat} (h:∀r∈D,Gd n r):∀r∈D,r.length=4:=fun r hr=>(h r hr).l
noncomputable def F_law:LawF:=⟨5,[.one (.l [.i64])],fun l=>match l with | [.l N]=>N.length≤9223372036854775807 | _=>False⟩
noncomputable def A_law:List SV→List Dat→Nat→List SV→Ann:=fun xs ds n ts=>match xs with
 | [.lst xz _ _ _]=>match ds with
  | [.l N]=>match n with
   | 4=>⟨Sst,fun v=>[none,none,none,some (.ptr 0 0),some (.ptr 2 0),some (.v (.slice none 0 0)),some (.v (.slice none 0 0)),none,none,none,none,none,none,none,none,none,none,none,none,none,none,none,none,none,none,none,none,none,none,none,none,none,none,none,none,none,none,none,none,none,none,none,none,none,none,none,none,none,none,none,none,none,none,none,none,none,none,none,none,none,none,none,none,none,none,none,none,none,none,none,none,none,none,none,none,none,none,none,none,none,none,none,none,none,none,none,none,none,none,none,none,none,none,none,none,none,none,none,none,none,none,none,none,none,none,none,none,none,none,none,none,none,none,none,none,none,none,none,none,none,none,none,none,none,none,none,none,none,none,none,none,none,none,none,none,none,none,none,none,none,none,none,none,none,none,none,none,none,none,none,none,none,none,none,none,none,none,none,none,none,none,none,none,none,none,none,none,none,none,none,none,none,none],fun v=>[.cells [.i .i64 v.fee,.i .i64 v.itr,.i .i64 v.pri,.i .i64 v.cre,.gsl 1 v.A.length 3 true,.i .i64 v.till] .ex,.gr v.A.length 3 (.fn (Rv.elemOf [.i64,.i64,.i64] v.A)) .gr true,.cells [.i .u64 v.q] .ex],fun v=>v.Ok∧v.D=[]∧v.S=[],fun _=>0,1000000⟩
   | 20=>⟨Sst,fun v=>[none,none,none,some (.ptr 0 0),some (.ptr 2 0),none,some (.gsl 4 v.S.length 4 true),none,none,none,none,none,none,none,none,none,none,none,none,none,none,none,none,none,none,none,none,none,none,none,none,none,none,none,none,none,none,none,none,none,none,none,none,none,none,none,none,none,none,none,none,none,none,none,none,none,none,none,none,none,none,none,none,none,none,none,none,none,none,none,none,none,none,none,none,none,none,none,none,none,none,none,none,none,none,none,none,none,none,none,none,none,none,none,none,none,none,none,none,none,none,none,none,none,none,none,none,none,none,none,none,none,none,none,none,none,none,none,none,none,none,none,none,none,none,none,none,none,none,none,none,none,none,none,none,none,none,none,none,none,none,none,none,none,none,none,none,none,none,none,none,none,none,none,none,none,none,none,none,none,none,none,none,none,none,none,none,none,none,none,none,none,none],fun v=>[.dead,.dead,.dead,.dead,.dead,.dead,.dead,.gr v.S.length 4 (.fn (Rv.elemOf [.i64,.i64,.i64,.i64] v.S)) .gr true,.dead,.cells [.i .i64 v.fee,.i .i64 v.itr,.i .i64 v.pri,.i .i64 v.cre,.gsl 1 v.A.length 3 true,.i .i64 v.till] .ex,.gr v.A.length 3 (.fn (Rv.elemOf [.i64,.i64,.i64] v.A)) .gr true,.cells [.i .u64 v.q] .ex],fun v=>v.Ok,fun _=>0,1000000⟩
   | 5=>⟨Sst,fun v=>[none,none,none,some (.ptr 0 0),some (.ptr 2 0),some (.gsl 3 v.D.length 4 true),some (.gsl 4 v.S.length 4 true),some (.i .i64 v.n),none,none,none,none,none,none,none,none,none,none,none,none,none,none,none,none,none,none,none,none,none,none,none,none,none,none,none,none,none,none,none,none,none,none,none,none,none,none,none,none,none,none,none,none,none,none,none,none,none,none,none,none,none,none,none,none,none,none,none,none,none,none,none,none,none,none,none,none,none,none,none,none,none,none,none,none,none,none,none,none,none,none,none,none,none,none,none,none,none,none,none,none,none,none,none,none,none,none,none,none,none,none,none,none,none,none,none,none,none,none,none,none,none,none,none,none,none,none,none,none,none,none,none,none,none,none,none,none,none,none,none,none,none,none,none,none,none,none,none,none,none,none,none,none,none,none,none,none,none,none,none,none,none,none,none,none,none,none,none,none,none,none,none,none,none],fun v=>[.gr v.S.length 4 (.fn (Rv.elemOf [.i64,.i64,.i64,.i64] v.S)) .gr true,.gr v.D.length 4 (.fn (Rv.elemOf [.i64,.i64,.i64,.i64] v.D)) .gr true,.cells [.i .i64 v.fee,.i .i64 v.itr,.i .i64 v.pri,.i .i64 v.cre,.gsl 1 v.A.length 3 true,.i .i64 v.till] .ex,.gr v.A.length 3 (.fn (Rv.elemOf [.i64,.i64,.i64] v.A)) .gr true,.cells [.i .u64 v.q] .ex],fun v=>v.Ok∧v.D.length+v.n≤20∧v.S.length+v.n≤20,fun v=>v.n.toNat,0⟩
   | 12=>⟨Sst,fun v=>[none,none,none,some (.ptr 0 0),some (.ptr 2 0),some (.gsl 3 v.D.length 4 true),some (.gsl 4 v.S.length 4 true),none,some (.i .i64 v.m),some (.gsl 5 (ownR v.m v.D v.k).length 4 true),some (.i .i64 v.k),none,none,none,none,none,none,none,none,none,none,none,none,none,none,none,none,none,none,none,none,none,none,none,none,none,none,none,none,none,none,none,none,none,none,none,none,none,none,none,none,none,none,none,none,none,none,none,none,none,none,none,none,none,none,none,none,none,none,none,none,none,none,none,none,none,none,none,none,none,none,none,none,none,none,none,none,none,none,none,none,none,none,none,none,none,none,none,none,none,none,none,none,none,none,none,none,none,none,none,none,none,none,none,none,none,none,none,none,none,none,none,none,none,none,none,none,none,none,none,none,none,none,none,none,none,none,none,none,none,none,none,none,none,none,none,none,none,none,none,none,none,none,none,none,none,none,none,none,none,none,none,none,none,none,none,none,none,none,none,none,none,none],fun v=>[.gr (ownR v.m v.D v.k).length 4 (.fn (Rv.elemOf [.i64,.i64,.i64,.i64] (ownR v.m v.D v.k))) .gr true,.gr v.S.length 4 (.fn (Rv.elemOf [.i64,.i64,.i64,.i64] v.S)) .gr true,.gr v.D.length 4 (.fn (Rv.elemOf [.i64,.i64,.i64,.i64] v.D)) .gr true,.cells [.i .i64 v.fee,.i .i64 v.itr,.i .i64 v.pri,.i .i64 v.cre,.gsl 1 v.A.length 3 true,.i .i64 v.till] .ex,.gr v.A.length 3 (.fn (Rv.elemOf [.i64,.i64,.i64] v.A)) .gr true,.cells [.i .u64 v.q] .ex],fun v=>v.Ok∧v.m < v.A.length∧v.k≤v.D.length,fun v=>v.D.length-v.k,0⟩
   | 23=>⟨Sst,fun v=>[none,none,none,none,some (.ptr 2 0),none,some (.gsl 4 v.S.length 4 true),none,none,none,none,none,none,none,none,none,none,some (.gsl 12 v.S.length 1 true),some (.gsl 13 (othR v.S (rowR v.a v.S.length) v.k).length 4 true),some (.i .i64 v.k),none,none,none,none,none,none,none,none,none,none,none,none,none,none,none,none,none,none,none,none,none,none,none,none,none,none,none,none,none,none,none,none,none,none,none,none,none,none,none,none,none,none,none,none,none,none,none,none,none,none,none,none,none,none,none,none,none,none,none,none,none,none,none,none,none,none,none,none,none,none,none,none,none,none,none,none,none,none,none,none,none,none,none,none,none,none,none,none,none,none,none,none,none,none,none,none,none,none,none,none,none,none,none,none,none,none,none,none,none,none,none,none,none,none,none,none,none,none,none,none,none,none,none,none,none,none,none,none,none,none,none,none,none,none,none,none,none,none,none,none,none,none,none,none,none,none,none,none,none,none,none,none,none],fun v=>[.gr (othR v.S (rowR v.a v.S.length) v.k).length 4 (.fn (Rv.elemOf [.i64,.i64,.i64,.i64] (othR v.S (rowR v.a v.S.length) v.k))) .gr true,.gr v.S.length 1 (.fn (Rv.elemOf [.i64] (rowR v.a v.S.length))) .gr true,.dead,.dead,.dead,.dead,.dead,.dead,.dead,.gr v.S.length 4 (.fn (Rv.elemOf [.i64,.i64,.i64,.i64] v.S)) .gr true,.dead,.cells [.i .i64 v.fee,.i .i64 v.itr,.i .i64 v.pri,.i .i64 v.cre,.gsl 1 v.A.length 3 true,.i .i64 v.till] .ex,.gr v.A.length 3 (.fn (Rv.elemOf [.i64,.i64,.i64] v.A)) .gr true,.cells [.i .u64 v.q] .ex],fun v=>v.Ok∧v.k≤v.S.length,fun v=>v.S.length-v.k,0⟩
   | _=>noAnn
  | _=>noAnn
 | _=>noAnn
set_option maxRecDepth 10000 in
def V_law:Prop:=∀(B:RW),hasTabs [] B→∀(x:RV) (rows:List (List Int)),IsLst B x rows.length 1 (Rv.elemOf [.i64] rows)→oneB x=true→(∀row∈rows,row.length=1)→rows.length≤9223372036854775807→∃(l1:List (List Int)),Ob (IsLst B x rows.length 1 (Rv.elemOf [.i64] rows)∧l1.length=rows.length∧(∀r∈l1,r.length=1)∧∀(i:Nat),i < rows.length→Rv.elemOf [.i64] rows i=Rv.elemOf [.i64] l1 i)∧Ob (F_TideOf.named.pre [Dat.l l1])∧Ob (F_CoopOf.named.pre ([Dat.z (tideK l1 l1.length)]++[Dat.z (5:Int)]))∧∀(v:Int),v=coAE (tideK l1 l1.length) (5:Int)→∀(v_1:Int),v_1=coF (tideK l1 l1.length)→∀(v_2:Int),v_2=coI (tideK l1 l1.length)→∀(v_3:Int),v_3=coP (tideK l1 l1.length)→∀(v_4:Int),v_4=coC (tideK l1 l1.length)→∀(v_5:Int),v_5=coT (tideK l1 l1.length) (5:Int)→(∃(a:Sst),Ob (a.Ok∧a.D=[]∧a.S=[])∧Ob (SV.v (Value.slice none 0 0)=SV.v (Value.slice none 0 0))∧Ob (SV.v (Value.slice none 0 0)=SV.v (Value.slice none 0 0))∧Ob (v_1=a.fee)∧Ob (v_2=a.itr)∧Ob (v_3=a.pri)∧Ob (v_4=a.cre)∧Ob ((coN (tideK l1 l1.length) (5:Int)).toNat=a.A.length)∧Ob (v_5=a.till)∧Ob ((coN (tideK l1 l1.length) (5:Int)).toNat=a.A.length∧∀(i:Nat),i < a.A.length→(El.fn (Rv.elemOf [.i64,.i64,.i64] (coR (tideK l1 l1.length) (5:Int) (coN (tideK l1 l1.length) (5:Int)).toNat))).at i=(El.fn (Rv.elemOf [.i64,.i64,.i64] a.A)).at i)∧Ob (v=a.q)∧Ob (PlainE (a.A.length) (El.fn (Rv.elemOf [.i64,.i64,.i64] a.A)))∧True)∧∀(a:Sst),a.Ok∧a.D=[]∧a.S=[]→∀(_ _ _ _ _ _ _ _ _ _ _ _ _ _ _ _ _ _ _ _ _ _ _ _ _ _ _ _ _ _ _ _ _ _ _ _ _ _ _ _ _ _ _ _ _ _ _ _ _ _ _ _ _ _ _ _ _ _ _ _ _ _ _ _ _ _ _ _ _ _ _ _ _ _ _ _ _ _ _ _ _ _ _ _ _ _ _ _ _ _ _ _ _ _ _ _ _ _ _ _ _ _ _ _ _ _ _ _ _ _ _ _ _ _ _ _ _ _ _ _ _ _ _ _ _ _ _ _ _ _ _ _ _ _ _ _ _ _ _ _ _ _ _ _ _ _ _ _ _ _ _ _ _ _ _ _ _ _ _ _ _ _ _ _ _ _ _ _ _:Value),Ob (F_Below.named.pre ([Dat.z a.q]++[Dat.z (21:Int)]))∧∀(v_6:Int),v_6=belowA a.q (21:Int)→∀(v_7:Int),v_7=belowV a.q (21:Int)→(∃(a_1:Sst),Ob (a_1.Ok∧(↑(a_1.D.length):Int)+a_1.n≤(20:Int)∧(↑(a_1.S.length):Int)+a_1.n≤(20:Int))∧Ob (a_1.D.length=(0:Nat))∧Ob (a_1.S.length=(0:Nat))∧Ob (v_7=a_1.n)∧Ob (a_1.S.length=(0:Nat))∧Ob (a_1.D.length=(0:Nat))∧Ob (a.fee=a_1.fee)∧Ob (a.itr=a_1.itr)∧Ob (a.pri=a_1.pri)∧Ob (a.cre=a_1.cre)∧Ob (a.A.length=a_1.A.length)∧Ob (a.till=a_1.till)∧Ob (a.A.length=a_1.A.length∧∀(i:Nat),i < a_1.A.length→(El.fn (Rv.elemOf [.i64,.i64,.i64] a.A)).at i=(El.fn (Rv.elemOf [.i64,.i64,.i64] a_1.A)).at i)∧Ob (v_6=a_1.q)∧Ob (PlainE (a_1.S.length) (El.fn (Rv.elemOf [.i64,.i64,.i64,.i64] a_1.S)))∧Ob (PlainE (a_1.D.length) (El.fn (Rv.elemOf [.i64,.i64,.i64,.i64] a_1.D)))∧Ob (PlainE (a_1.A.length) (El.fn (Rv.elemOf [.i64,.i64,.i64] a_1.A)))∧True)∧∀(a_1:Sst),a_1.Ok∧(↑(a_1.D.length):Int)+a_1.n≤(20:Int)∧(↑(a_1.S.length):Int)+a_1.n≤(20:Int)→∀(_ _ _ _ _ _ _ _ _ _ _ _ _ _ _ _ _ _ _ _ _ _ _ _ _ _ _ _ _ _ _ _ _ _ _ _ _ _ _ _ _ _ _ _ _ _ _ _ _ _ _ _ _ _ _ _ _ _ _ _ _ _ _ _ _ _ _ _ _ _ _ _ _ _ _ _ _ _ _ _ _ _ _ _ _ _ _ _ _ _ _ _ _ _ _ _ _ _ _ _ _ _ _ _ _ _ _ _ _ _ _ _ _ _ _ _ _ _ _ _ _ _ _ _ _ _ _ _ _ _ _ _ _ _ _ _ _ _ _ _ _ _ _ _ _ _ _ _ _ _ _ _ _ _ _ _ _ _ _ _ _ _ _ _ _ _ _ _:Value),((0:Int) < a_1.n→Ob (F_Of.named.pre ([Dat.z a_1.q]++[Dat.l [[(1:Int)],[(2:Int)],[(3:Int)],[(4:Int)]]]))∧∀(v_8:Int),v_8=ofA a_1.q [[(1:Int)],[(2:Int)],[(3:Int)],[(4:Int)]]→∀(v_9:Int),v_9=ofV a_1.q [[(1:Int)],[(2:Int)],[(3:Int)],[(4:Int)]]→∃(l2:List (List Int)),Ob (a_1.A.length=a_1.A.length∧l2.length=a_1.A.length∧(∀r∈l2,r.length=3)∧∀(i:Nat),i < a_1.A.length→(El.fn (Rv.elemOf [.i64,.i64,.i64] a_1.A)).at i=Rv.elemOf [.i64,.i64,.i64] l2 i)∧Ob (F_DealOf.named.pre ([Dat.z v_8]++([Dat.z a_1.fee,Dat.z a_1.itr,Dat.z a_1.pri,Dat.z a_1.cre,Dat.l l2,Dat.z a_1.till]++[Dat.z v_9])))∧∀(v_10:Int),v_10=dlE (↑l2.length:Int) v_8 v_9→∀(v_11:Int),v_11=dlK (↑l2.length:Int) v_8 v_9→∀(v_12:Int),v_12=dlM (↑l2.length:Int) v_8 v_9→∀(v_13:Int),v_13=dlO (↑l2.length:Int) v_8 v_9→∀(v_14:Int),v_14=dlQ (↑l2.length:Int) v_8 v_9→Ob (a_1.D.length=a_1.D.length∧∀(i:Nat),i < a_1.D.length→((El.fn (Rv.elemOf [.i64,.i64,.i64,.i64] a_1.D)).at i).length=(4:Nat))∧Ob ((a_1.D.length+(1:Nat))*(2:Nat)*(33:Nat)≤1099511627776)∧Ob (a_1.D.length=a_1.D.length)∧∃(l3:List (List Int)),Ob (a_1.A.length=a_1.A.length∧l3.length=a_1.A.length∧(∀r∈l3,r.length=3)∧∀(i:Nat),i < a_1.A.length→(El.fn (Rv.elemOf [.i64,.i64,.i64] a_1.A)).at i=Rv.elemOf [.i64,.i64,.i64] l3 i)∧Ob (F_DealOf.named.pre ([Dat.z v_10]++([Dat.z a_1.fee,Dat.z a_1.itr,Dat.z a_1.pri,Dat.z a_1.cre,Dat.l l3,Dat.z a_1.till]++[Dat.z (1:Int)])))∧∀(v_15:Int),v_15=dlE (↑l3.length:Int) v_10 (1:Int)→∀(v_16:Int),v_16=dlK (↑l3.length:Int) v_10 (1:Int)→∀(v_17:Int),v_17=dlM (↑l3.length:Int) v_10 (1:Int)→∀(v_18:Int),v_18=dlO (↑l3.length:Int) v_10 (1:Int)→∀(v_19:Int),v_19=dlQ (↑l3.length:Int) v_10 (1:Int)→Ob (a_1.S.length=a_1.S.length∧∀(i:Nat),i < a_1.S.length→((El.fn (Rv.elemOf [.i64,.i64,.i64,.i64] a_1.S)).at i).length=(4:Nat))∧Ob ((a_1.S.length+(1:Nat))*(2:Nat)*(33:Nat)≤1099511627776)∧Ob (a_1.S.length=a_1.S.length)∧Ob (InR .i64 (a_1.n-(1:Int)))∧∃(a':Sst),Ob ((a'.Ok∧(↑(List.length a'.D):Int)+a'.n≤(20:Int)∧(↑(List.length a'.S):Int)+a'.n≤(20:Int))∧a'.n.toNat < a_1.n.toNat)∧Ob (a_1.D.length+(1:Nat)=List.length a'.D)∧Ob (a_1.S.length+(1:Nat)=List.length a'.S)∧Ob (a_1.n-(1:Int)=a'.n)∧Ob (a_1.S.length+(1:Nat)=List.length a'.S∧∀(i:Nat),i < List.length a'.S→(behind (a_1.S.length) (El.fn (Rv.elemOf [.i64,.i64,.i64,.i64] a_1.S)) 1 (litEl (symL [SV.i .i64 v_16,SV.i .i64 v_17,SV.i .i64 v_18,SV.i .i64 v_19]) 4 1)).at i=(El.fn (Rv.elemOf [.i64,.i64,.i64,.i64] a'.S)).at i)∧Ob (a_1.D.length+(1:Nat)=List.length a'.D∧∀(i:Nat),i < List.length a'.D→(behind (a_1.D.length) (El.fn (Rv.elemOf [.i64,.i64,.i64,.i64] a_1.D)) 1 (litEl (symL [SV.i .i64 v_11,SV.i .i64 v_12,SV.i .i64 v_13,SV.i .i64 v_14]) 4 1)).at i=(El.fn (Rv.elemOf [.i64,.i64,.i64,.i64] a'.D)).at i)∧Ob (a_1.fee=a'.fee)∧Ob (a_1.itr=a'.itr)∧Ob (a_1.pri=a'.pri)∧Ob (a_1.cre=a'.cre)∧Ob (a_1.A.length=List.length a'.A)∧Ob (a_1.till=a'.till)∧Ob (a_1.A.length=List.length a'.A∧∀(i:Nat),i < List.length a'.A→(El.fn (Rv.elemOf [.i64,.i64,.i64] a_1.A)).at i=(El.fn (Rv.elemOf [.i64,.i64,.i64] a'.A)).at i)∧Ob (v_15=a'.q)∧Ob (PlainE (List.length a'.S) (El.fn (Rv.elemOf [.i64,.i64,.i64,.i64] a'.S)))∧Ob (PlainE (List.length a'.D) (El.fn (Rv.elemOf [.i64,.i64,.i64,.i64] a'.D)))∧Ob (PlainE (List.length a'.A) (El.fn (Rv.elemOf [.i64,.i64,.i64] a'.A)))∧True)∧(¬(0:Int) < a_1.n→Ob (F_Below.named.pre ([Dat.z a_1.q]++[Dat.z (↑(a_1.A.length):Int)]))∧∀(v_8:Int),v_8=belowA a_1.q (↑(a_1.A.length):Int)→∀(v_9:Int),v_9=belowV a_1.q (↑(a_1.A.length):Int)→(∃(a_2:Sst),Ob (a_2.Ok∧a_2.m < a_2.A.length∧a_2.k≤a_2.D.length)∧Ob (a_1.D.length=a_2.D.length)∧Ob (a_1.S.length=a_2.S.length)∧Ob (v_9=(↑a_2.m:Int))∧Ob (List.length (ownR (↑a_2.m:Int) a_2.D a_2.k)=(0:Nat))∧Ob ((0:Int)=(↑a_2.k:Int))∧Ob (List.length (ownR (↑a_2.m:Int) a_2.D a_2.k)=(0:Nat))∧Ob (a_1.S.length=a_2.S.length∧∀(i:Nat),i < a_2.S.length→(El.fn (Rv.elemOf [.i64,.i64,.i64,.i64] a_1.S)).at i=(El.fn (Rv.elemOf [.i64,.i64,.i64,.i64] a_2.S)).at i)∧Ob (a_1.D.length=a_2.D.length∧∀(i:Nat),i < a_2.D.length→(El.fn (Rv.elemOf [.i64,.i64,.i64,.i64] a_1.D)).at i=(El.fn (Rv.elemOf [.i64,.i64,.i64,.i64] a_2.D)).at i)∧Ob (a_1.fee=a_2.fee)∧Ob (a_1.itr=a_2.itr)∧Ob (a_1.pri=a_2.pri)∧Ob (a_1.cre=a_2.cre)∧Ob (a_1.A.length=a_2.A.length)∧Ob (a_1.till=a_2.till)∧Ob (a_1.A.length=a_2.A.length∧∀(i:Nat),i < a_2.A.length→(El.fn (Rv.elemOf [.i64,.i64,.i64] a_1.A)).at i=(El.fn (Rv.elemOf [.i64,.i64,.i64] a_2.A)).at i)∧Ob (v_8=a_2.q)∧Ob (PlainE (List.length (ownR (↑a_2.m:Int) a_2.D a_2.k)) (El.fn (Rv.elemOf [.i64,.i64,.i64,.i64] (ownR (↑a_2.m:Int) a_2.D a_2.k))))∧Ob (PlainE (a_2.S.length) (El.fn (Rv.elemOf [.i64,.i64,.i64,.i64] a_2.S)))∧Ob (PlainE (a_2.D.length) (El.fn (Rv.elemOf [.i64,.i64,.i64,.i64] a_2.D)))∧Ob (PlainE (a_2.A.length) (El.fn (Rv.elemOf [.i64,.i64,.i64] a_2.A)))∧True)∧∀(a_2:Sst),a_2.Ok∧a_2.m < a_2.A.length∧a_2.k≤a_2.D.length→∀(_ _ _ _ _ _ _ _ _ _ _ _ _ _ _ _ _ _ _ _ _ _ _ _ _ _ _ _ _ _ _ _ _ _ _ _ _ _ _ _ _ _ _ _ _ _ _ _ _ _ _ _ _ _ _ _ _ _ _ _ _ _ _ _ _ _ _ _ _ _ _ _ _ _ _ _ _ _ _ _ _ _ _ _ _ _ _ _ _ _ _ _ _ _ _ _ _ _ _ _ _ _ _ _ _ _ _ _ _ _ _ _ _ _ _ _ _ _ _ _ _ _ _ _ _ _ _ _ _ _ _ _ _ _ _ _ _ _ _ _ _ _ _ _ _ _ _ _ _ _ _ _ _ _ _ _ _ _ _ _ _ _ _ _ _ _:Value),((↑a_2.k:Int) < (↑(a_2.D.length):Int)→Ob ((0:Int)≤(↑a_2.k:Int)∧a_2.k < a_2.D.length)∧Ob (a_2.k < a_2.D.length)∧(cell a_2.D a_2.k 1=(↑a_2.m:Int)→Ob ((0:Int)≤(↑a_2.k:Int)∧a_2.k < a_2.D.length)∧Ob (a_2.k < a_2.D.length)∧Ob (List.length (ownR (↑a_2.m:Int) a_2.D a_2.k)=List.length (ownR (↑a_2.m:Int) a_2.D a_2.k)∧∀(i:Nat),i < List.length (ownR (↑a_2.m:Int) a_2.D a_2.k)→((El.fn (Rv.elemOf [.i64,.i64,.i64,.i64] (ownR (↑a_2.m:Int) a_2.D a_2.k))).at i).length=(4:Nat))∧Ob ((List.length (ownR (↑a_2.m:Int) a_2.D a_2.k)+(1:Nat))*(2:Nat)*(33:Nat)≤1099511627776)∧Ob (List.length (ownR (↑a_2.m:Int) a_2.D a_2.k)=List.length (ownR (↑a_2.m:Int) a_2.D a_2.k))∧Ob (InR .i64 ((↑a_2.k:Int)+(1:Int)))∧∃(a':Sst),Ob ((a'.Ok∧a'.m < List.length a'.A∧a'.k≤List.length a'.D)∧List.length a'.D-a'.k < a_2.D.length-a_2.k)∧Ob (a_2.D.length=List.length a'.D)∧Ob (a_2.S.length=List.length a'.S)∧Ob ((↑a_2.m:Int)=(↑a'.m:Int))∧Ob (List.length (ownR (↑a_2.m:Int) a_2.D a_2.k)+(1:Nat)=List.length (ownR (↑a'.m:Int) a'.D a'.k))∧Ob ((↑a_2.k:Int)+(1:Int)=(↑a'.k:Int))∧Ob (List.length (ownR (↑a_2.m:Int) a_2.D a_2.k)+(1:Nat)=List.length (ownR (↑a'.m:Int) a'.D a'.k)∧∀(i:Nat),i < List.length (ownR (↑a'.m:Int) a'.D a'.k)→(behind (List.length (ownR (↑a_2.m:Int) a_2.D a_2.k)) (El.fn (Rv.elemOf [.i64,.i64,.i64,.i64] (ownR (↑a_2.m:Int) a_2.D a_2.k))) 1 (litEl (symL [SV.i .i64 (cell a_2.D a_2.k 0),SV.i .i64 (cell a_2.D a_2.k 1),SV.i .i64 (cell a_2.D a_2.k 2),SV.i .i64 (cell a_2.D a_2.k 3)]) 4 1)).at i=(El.fn (Rv.elemOf [.i64,.i64,.i64,.i64] (ownR (↑a'.m:Int) a'.D a'.k))).at i)∧Ob (a_2.S.length=List.length a'.S∧∀(i:Nat),i < List.length a'.S→(El.fn (Rv.elemOf [.i64,.i64,.i64,.i64] a_2.S)).at i=(El.fn (Rv.elemOf [.i64,.i64,.i64,.i64] a'.S)).at i)∧Ob (a_2.D.length=List.length a'.D∧∀(i:Nat),i < List.length a'.D→(El.fn (Rv.elemOf [.i64,.i64,.i64,.i64] a_2.D)).at i=(El.fn (Rv.elemOf [.i64,.i64,.i64,.i64] a'.D)).at i)∧Ob (a_2.fee=a'.fee)∧Ob (a_2.itr=a'.itr)∧Ob (a_2.pri=a'.pri)∧Ob (a_2.cre=a'.cre)∧Ob (a_2.A.length=List.length a'.A)∧Ob (a_2.till=a'.till)∧Ob (a_2.A.length=List.length a'.A∧∀(i:Nat),i < List.length a'.A→(El.fn (Rv.elemOf [.i64,.i64,.i64] a_2.A)).at i=(El.fn (Rv.elemOf [.i64,.i64,.i64] a'.A)).at i)∧Ob (a_2.q=a'.q)∧Ob (PlainE (List.length (ownR (↑a'.m:Int) a'.D a'.k)) (El.fn (Rv.elemOf [.i64,.i64,.i64,.i64] (ownR (↑a'.m:Int) a'.D a'.k))))∧Ob (PlainE (List.length a'.S) (El.fn (Rv.elemOf [.i64,.i64,.i64,.i64] a'.S)))∧Ob (PlainE (List.length a'.D) (El.fn (Rv.elemOf [.i64,.i64,.i64,.i64] a'.D)))∧Ob (PlainE (List.length a'.A) (El.fn (Rv.elemOf [.i64,.i64,.i64] a'.A)))∧True)∧(¬cell a_2.D a_2.k 1=(↑a_2.m:Int)→Ob (InR .i64 ((↑a_2.k:Int)+(1:Int)))∧∃(a':Sst),Ob ((a'.Ok∧a'.m < List.length a'.A∧a'.k≤List.length a'.D)∧List.length a'.D-a'.k < a_2.D.length-a_2.k)∧Ob (a_2.D.length=List.length a'.D)∧Ob (a_2.S.length=List.length a'.S)∧Ob ((↑a_2.m:Int)=(↑a'.m:Int))∧Ob (List.length (ownR (↑a_2.m:Int) a_2.D a_2.k)=List.length (ownR (↑a'.m:Int) a'.D a'.k))∧Ob ((↑a_2.k:Int)+(1:Int)=(↑a'.k:Int))∧Ob (List.length (ownR (↑a_2.m:Int) a_2.D a_2.k)=List.length (ownR (↑a'.m:Int) a'.D a'.k)∧∀(i:Nat),i < List.length (ownR (↑a'.m:Int) a'.D a'.k)→(El.fn (Rv.elemOf [.i64,.i64,.i64,.i64] (ownR (↑a_2.m:Int) a_2.D a_2.k))).at i=(El.fn (Rv.elemOf [.i64,.i64,.i64,.i64] (ownR (↑a'.m:Int) a'.D a'.k))).at i)∧Ob (a_2.S.length=List.length a'.S∧∀(i:Nat),i < List.length a'.S→(El.fn (Rv.elemOf [.i64,.i64,.i64,.i64] a_2.S)).at i=(El.fn (Rv.elemOf [.i64,.i64,.i64,.i64] a'.S)).at i)∧Ob (a_2.D.length=List.length a'.D∧∀(i:Nat),i < List.length a'.D→(El.fn (Rv.elemOf [.i64,.i64,.i64,.i64] a_2.D)).at i=(El.fn (Rv.elemOf [.i64,.i64,.i64,.i64] a'.D)).at i)∧Ob (a_2.fee=a'.fee)∧Ob (a_2.itr=a'.itr)∧Ob (a_2.pri=a'.pri)∧Ob (a_2.cre=a'.cre)∧Ob (a_2.A.length=List.length a'.A)∧Ob (a_2.till=a'.till)∧Ob (a_2.A.length=List.length a'.A∧∀(i:Nat),i < List.length a'.A→(El.fn (Rv.elemOf [.i64,.i64,.i64] a_2.A)).at i=(El.fn (Rv.elemOf [.i64,.i64,.i64] a'.A)).at i)∧Ob (a_2.q=a'.q)∧Ob (PlainE (List.length (ownR (↑a'.m:Int) a'.D a'.k)) (El.fn (Rv.elemOf [.i64,.i64,.i64,.i64] (ownR (↑a'.m:Int) a'.D a'.k))))∧Ob (PlainE (List.length a'.S) (El.fn (Rv.elemOf [.i64,.i64,.i64,.i64] a'.S)))∧Ob (PlainE (List.length a'.D) (El.fn (Rv.elemOf [.i64,.i64,.i64,.i64] a'.D)))∧Ob (PlainE (List.length a'.A) (El.fn (Rv.elemOf [.i64,.i64,.i64] a'.A)))∧True))∧(¬(↑a_2.k:Int) < (↑(a_2.D.length):Int)→∃(l2:List (List Int)),Ob (a_2.A.length=a_2.A.length∧l2.length=a_2.A.length∧(∀r∈l2,r.length=3)∧∀(i:Nat),i < a_2.A.length→(El.fn (Rv.elemOf [.i64,.i64,.i64] a_2.A)).at i=Rv.elemOf [.i64,.i64,.i64] l2 i)∧∃(l3:List (List Int)),Ob (a_2.D.length=a_2.D.length∧l3.length=a_2.D.length∧(∀r∈l3,r.length=4)∧∀(i:Nat),i < a_2.D.length→(El.fn (Rv.elemOf [.i64,.i64,.i64,.i64] a_2.D)).at i=Rv.elemOf [.i64,.i64,.i64,.i64] l3 i)∧Ob (F_RunV.named.pre ([Dat.z a_2.fee,Dat.z a_2.itr,Dat.z a_2.pri,Dat.z a_2.cre,Dat.l l2,Dat.z a_2.till]++[Dat.l l3]))∧∀(v_10:Int),v_10=a_2.fee→∀(v_11:Int),v_11=a_2.itr→∀(v_12:Int),v_12=a_2.pri→∀(v_13:Int),v_13=a_2.cre→∀(v_14:Int),v_14=rnT a_2.fee a_2.itr a_2.pri a_2.cre l2 a_2.till l3 l3.length→∃(l4:List (List Int)),Ob (a_2.A.length=a_2.A.length∧l4.length=a_2.A.length∧(∀r∈l4,r.length=3)∧∀(i:Nat),i < a_2.A.length→(El.fn (Rv.elemOf [.i64,.i64,.i64] a_2.A)).at i=Rv.elemOf [.i64,.i64,.i64] l4 i)∧∃(l5:List (List Int)),Ob (List.length (ownR (↑a_2.m:Int) a_2.D a_2.k)=List.length (ownR (↑a_2.m:Int) a_2.D a_2.k)∧l5.length=List.length (ownR (↑a_2.m:Int) a_2.D a_2.k)∧(∀r∈l5,r.length=4)∧∀(i:Nat),i < List.length (ownR (↑a_2.m:Int) a_2.D a_2.k)→(El.fn (Rv.elemOf [.i64,.i64,.i64,.i64] (ownR (↑a_2.m:Int) a_2.D a_2.k))).at i=Rv.elemOf [.i64,.i64,.i64,.i64] l5 i)∧Ob (F_RunV.named.pre ([Dat.z a_2.fee,Dat.z a_2.itr,Dat.z a_2.pri,Dat.z a_2.cre,Dat.l l4,Dat.z a_2.till]++[Dat.l l5]))∧∀(v_15:Int),v_15=a_2.fee→∀(v_16:Int),v_16=a_2.itr→∀(v_17:Int),v_17=a_2.pri→∀(v_18:Int),v_18=a_2.cre→∀(v_19:Int),v_19=rnT a_2.fee a_2.itr a_2.pri a_2.cre l4 a_2.till l5 l5.length→((¬¬(↑l2.length:Int)=(↑(a_2.A.length):Int)→(¬¬(↑l4.length:Int)=(↑(a_2.A.length):Int)→Ob ((0:Int)≤(↑a_2.m:Int)∧a_2.m < l2.length)∧Ob (a_2.m < l2.length)∧Ob ((0:Int)≤(↑a_2.m:Int)∧a_2.m < l4.length)∧Ob (a_2.m < l4.length)∧(¬(cell (rnA a_2.fee a_2.itr a_2.pri a_2.cre l2 a_2.till l3 l3.length) a_2.m 0=cell (rnA a_2.fee a_2.itr a_2.pri a_2.cre l4 a_2.till l5 l5.length) a_2.m 0∧cell (rnA a_2.fee a_2.itr a_2.pri a_2.cre l2 a_2.till l3 l3.length) a_2.m 1=cell (rnA a_2.fee a_2.itr a_2.pri a_2.cre l4 a_2.till l5 l5.length) a_2.m 1∧cell (rnA a_2.fee a_2.itr a_2.pri a_2.cre l2 a_2.till l3 l3.length) a_2.m 2=cell (rnA a_2.fee a_2.itr a_2.pri a_2.cre l4 a_2.till l5 l5.length) a_2.m 2∧True)→False)∧(¬¬(cell (rnA a_2.fee a_2.itr a_2.pri a_2.cre l2 a_2.till l3 l3.length) a_2.m 0=cell (rnA a_2.fee a_2.itr a_2.pri a_2.cre l4 a_2.till l5 l5.length) a_2.m 0∧cell (rnA a_2.fee a_2.itr a_2.pri a_2.cre l2 a_2.till l3 l3.length) a_2.m 1=cell (rnA a_2.fee a_2.itr a_2.pri a_2.cre l4 a_2.till l5 l5.length) a_2.m 1∧cell (rnA a_2.fee a_2.itr a_2.pri a_2.cre l2 a_2.till l3 l3.length) a_2.m 2=cell (rnA a_2.fee a_2.itr a_2.pri a_2.cre l4 a_2.till l5 l5.length) a_2.m 2∧True)→∃(a_3:Sst),Ob a_3.Ok∧Ob (a_2.S.length=a_3.S.length)∧Ob (a_2.S.length=a_3.S.length∧∀(i:Nat),i < a_3.S.length→(El.fn (Rv.elemOf [.i64,.i64,.i64,.i64] a_2.S)).at i=(El.fn (Rv.elemOf [.i64,.i64,.i64,.i64] a_3.S)).at i)∧Ob (a_2.fee=a_3.fee)∧Ob (a_2.itr=a_3.itr)∧Ob (a_2.pri=a_3.pri)∧Ob (a_2.cre=a_3.cre)∧Ob (a_2.A.length=a_3.A.length)∧Ob (a_2.till=a_3.till)∧Ob (a_2.A.length=a_3.A.length∧∀(i:Nat),i < a_3.A.length→(El.fn (Rv.elemOf [.i64,.i64,.i64] a_2.A)).at i=(El.fn (Rv.elemOf [.i64,.i64,.i64] a_3.A)).at i)∧Ob (a_2.q=a_3.q)∧Ob (PlainE (a_3.S.length) (El.fn (Rv.elemOf [.i64,.i64,.i64,.i64] a_3.S)))∧Ob (PlainE (a_3.A.length) (El.fn (Rv.elemOf [.i64,.i64,.i64] a_3.A)))∧True))∧(¬(↑l4.length:Int)=(↑(a_2.A.length):Int)→False))∧(¬(↑l2.length:Int)=(↑(a_2.A.length):Int)→False))∧∀(a_3:Sst),a_3.Ok→∀(_ _ _ _ _ _ _ _ _ _ _ _ _ _ _ _ _ _ _ _ _ _ _ _ _ _ _ _ _ _ _ _ _ _ _ _ _ _ _ _ _ _ _ _ _ _ _ _ _ _ _ _ _ _ _ _ _ _ _ _ _ _ _ _ _ _ _ _ _ _ _ _ _ _ _ _ _ _ _ _ _ _ _ _ _ _ _ _ _ _ _ _ _ _ _ _ _ _ _ _ _ _ _ _ _ _ _ _ _ _ _ _ _ _ _ _ _ _ _ _ _ _ _ _ _ _ _ _ _ _ _ _ _ _ _ _ _ _ _ _ _ _ _ _ _ _ _ _ _ _ _ _ _ _ _ _ _ _ _ _ _ _ _ _ _ _ _ _ _ _:Value),Ob (F_Row.named.pre ([Dat.z a_3.q]++[Dat.z (↑(a_3.S.length):Int)]))∧∀(v_20:Int),v_20=rowA a_3.q (a_3.S.length)→(∃(a_4:Sst),Ob (a_4.Ok∧a_4.k≤a_4.S.length)∧Ob (a_3.S.length=a_4.S.length)∧Ob (a_3.S.length=a_4.S.length)∧Ob (List.length (othR a_4.S (rowR a_4.a (a_4.S.length)) a_4.k)=(0:Nat))∧Ob ((0:Int)=(↑a_4.k:Int))∧Ob (List.length (othR a_4.S (rowR a_4.a (a_4.S.length)) a_4.k)=(0:Nat))∧Ob (a_3.S.length=a_4.S.length∧∀(i:Nat),i < a_4.S.length→(El.fn (Rv.elemOf [.i64] (rowR a_3.q (a_3.S.length)))).at i=(El.fn (Rv.elemOf [.i64] (rowR a_4.a (a_4.S.length)))).at i)∧Ob (a_3.S.length=a_4.S.length∧∀(i:Nat),i < a_4.S.length→(El.fn (Rv.elemOf [.i64,.i64,.i64,.i64] a_3.S)).at i=(El.fn (Rv.elemOf [.i64,.i64,.i64,.i64] a_4.S)).at i)∧Ob (a_3.fee=a_4.fee)∧Ob (a_3.itr=a_4.itr)∧Ob (a_3.pri=a_4.pri)∧Ob (a_3.cre=a_4.cre)∧Ob (a_3.A.length=a_4.A.length)∧Ob (a_3.till=a_4.till)∧Ob (a_3.A.length=a_4.A.length∧∀(i:Nat),i < a_4.A.length→(El.fn (Rv.elemOf [.i64,.i64,.i64] a_3.A)).at i=(El.fn (Rv.elemOf [.i64,.i64,.i64] a_4.A)).at i)∧Ob (v_20=a_4.q)∧Ob (PlainE (List.length (othR a_4.S (rowR a_4.a (a_4.S.length)) a_4.k)) (El.fn (Rv.elemOf [.i64,.i64,.i64,.i64] (othR a_4.S (rowR a_4.a (a_4.S.length)) a_4.k))))∧Ob (PlainE (a_4.S.length) (El.fn (Rv.elemOf [.i64] (rowR a_4.a (a_4.S.length)))))∧Ob (PlainE (a_4.S.length) (El.fn (Rv.elemOf [.i64,.i64,.i64,.i64] a_4.S)))∧Ob (PlainE (a_4.A.length) (El.fn (Rv.elemOf [.i64,.i64,.i64] a_4.A)))∧True)∧∀(a_4:Sst),a_4.Ok∧a_4.k≤a_4.S.length→∀(_ _ _ _ _ _ _ _ _ _ _ _ _ _ _ _ _ _ _ _ _ _ _ _ _ _ _ _ _ _ _ _ _ _ _ _ _ _ _ _ _ _ _ _ _ _ _ _ _ _ _ _ _ _ _ _ _ _ _ _ _ _ _ _ _ _ _ _ _ _ _ _ _ _ _ _ _ _ _ _ _ _ _ _ _ _ _ _ _ _ _ _ _ _ _ _ _ _ _ _ _ _ _ _ _ _ _ _ _ _ _ _ _ _ _ _ _ _ _ _ _ _ _ _ _ _ _ _ _ _ _ _ _ _ _ _ _ _ _ _ _ _ _ _ _ _ _ _ _ _ _ _ _ _ _ _ _ _ _ _ _ _ _ _ _ _ _ _:Value),((↑a_4.k:Int) < (↑(a_4.S.length):Int)→Ob ((0:Int)≤(↑a_4.k:Int)∧a_4.k < a_4.S.length)∧Ob (a_4.k < a_4.S.length)∧Ob ((0:Int)≤cell (rowR a_4.a (a_4.S.length)) a_4.k 0∧(cell (rowR a_4.a (a_4.S.length)) a_4.k 0).toNat < a_4.S.length)∧Ob ((cell (rowR a_4.a (a_4.S.length)) a_4.k 0).toNat < a_4.S.length)∧Ob (List.length (othR a_4.S (rowR a_4.a (a_4.S.length)) a_4.k)=List.length (othR a_4.S (rowR a_4.a (a_4.S.length)) a_4.k)∧∀(i:Nat),i < List.length (othR a_4.S (rowR a_4.a (a_4.S.length)) a_4.k)→((El.fn (Rv.elemOf [.i64,.i64,.i64,.i64] (othR a_4.S (rowR a_4.a (a_4.S.length)) a_4.k))).at i).length=(4:Nat))∧Ob ((List.length (othR a_4.S (rowR a_4.a (a_4.S.length)) a_4.k)+(1:Nat))*(2:Nat)*(33:Nat)≤1099511627776)∧Ob (List.length (othR a_4.S (rowR a_4.a (a_4.S.length)) a_4.k)=List.length (othR a_4.S (rowR a_4.a (a_4.S.length)) a_4.k))∧Ob (InR .i64 ((↑a_4.k:Int)+(1:Int)))∧∃(a':Sst),Ob ((a'.Ok∧a'.k≤List.length a'.S)∧List.length a'.S-a'.k < a_4.S.length-a_4.k)∧Ob (a_4.S.length=List.length a'.S)∧Ob (a_4.S.length=List.length a'.S)∧Ob (List.length (othR a_4.S (rowR a_4.a (a_4.S.length)) a_4.k)+(1:Nat)=List.length (othR a'.S (rowR a'.a (List.length a'.S)) a'.k))∧Ob ((↑a_4.k:Int)+(1:Int)=(↑a'.k:Int))∧Ob (List.length (othR a_4.S (rowR a_4.a (a_4.S.length)) a_4.k)+(1:Nat)=List.length (othR a'.S (rowR a'.a (List.length a'.S)) a'.k)∧∀(i:Nat),i < List.length (othR a'.S (rowR a'.a (List.length a'.S)) a'.k)→(behind (List.length (othR a_4.S (rowR a_4.a (a_4.S.length)) a_4.k)) (El.fn (Rv.elemOf [.i64,.i64,.i64,.i64] (othR a_4.S (rowR a_4.a (a_4.S.length)) a_4.k))) 1 (litEl (symL [SV.i .i64 (cell a_4.S (cell (rowR a_4.a (a_4.S.length)) a_4.k 0).toNat 0),SV.i .i64 (cell a_4.S (cell (rowR a_4.a (a_4.S.length)) a_4.k 0).toNat 1),SV.i .i64 (cell a_4.S (cell (rowR a_4.a (a_4.S.length)) a_4.k 0).toNat 2),SV.i .i64 (cell a_4.S (cell (rowR a_4.a (a_4.S.length)) a_4.k 0).toNat 3)]) 4 1)).at i=(El.fn (Rv.elemOf [.i64,.i64,.i64,.i64] (othR a'.S (rowR a'.a (List.length a'.S)) a'.k))).at i)∧Ob (a_4.S.length=List.length a'.S∧∀(i:Nat),i < List.length a'.S→(El.fn (Rv.elemOf [.i64] (rowR a_4.a (a_4.S.length)))).at i=(El.fn (Rv.elemOf [.i64] (rowR a'.a (List.length a'.S)))).at i)∧Ob (a_4.S.length=List.length a'.S∧∀(i:Nat),i < List.length a'.S→(El.fn (Rv.elemOf [.i64,.i64,.i64,.i64] a_4.S)).at i=(El.fn (Rv.elemOf [.i64,.i64,.i64,.i64] a'.S)).at i)∧Ob (a_4.fee=a'.fee)∧Ob (a_4.itr=a'.itr)∧Ob (a_4.pri=a'.pri)∧Ob (a_4.cre=a'.cre)∧Ob (a_4.A.length=List.length a'.A)∧Ob (a_4.till=a'.till)∧Ob (a_4.A.length=List.length a'.A∧∀(i:Nat),i < List.length a'.A→(El.fn (Rv.elemOf [.i64,.i64,.i64] a_4.A)).at i=(El.fn (Rv.elemOf [.i64,.i64,.i64] a'.A)).at i)∧Ob (a_4.q=a'.q)∧Ob (PlainE (List.length (othR a'.S (rowR a'.a (List.length a'.S)) a'.k)) (El.fn (Rv.elemOf [.i64,.i64,.i64,.i64] (othR a'.S (rowR a'.a (List.length a'.S)) a'.k))))∧Ob (PlainE (List.length a'.S) (El.fn (Rv.elemOf [.i64] (rowR a'.a (List.length a'.S)))))∧Ob (PlainE (List.length a'.S) (El.fn (Rv.elemOf [.i64,.i64,.i64,.i64] a'.S)))∧Ob (PlainE (List.length a'.A) (El.fn (Rv.elemOf [.i64,.i64,.i64] a'.A)))∧True)∧(¬(↑a_4.k:Int) < (↑(a_4.S.length):Int)→∃(l6:List (List Int)),Ob (a_4.A.length=a_4.A.length∧l6.length=a_4.A.length∧(∀r∈l6,r.length=3)∧∀(i:Nat),i < a_4.A.length→(El.fn (Rv.elemOf [.i64,.i64,.i64] a_4.A)).at i=Rv.elemOf [.i64,.i64,.i64] l6 i)∧∃(l7:List (List Int)),Ob (a_4.S.length=a_4.S.length∧l7.length=a_4.S.length∧(∀r∈l7,r.length=4)∧∀(i:Nat),i < a_4.S.length→(El.fn (Rv.elemOf [.i64,.i64,.i64,.i64] a_4.S)).at i=Rv.elemOf [.i64,.i64,.i64,.i64] l7 i)∧Ob (F_RunV.named.pre ([Dat.z a_4.fee,Dat.z a_4.itr,Dat.z a_4.pri,Dat.z a_4.cre,Dat.l l6,Dat.z a_4.till]++[Dat.l l7]))∧∀(v_21:Int),v_21=a_4.fee→∀(v_22:Int),v_22=a_4.itr→∀(v_23:Int),v_23=a_4.pri→∀(v_24:Int),v_24=a_4.cre→∀(v_25:Int),v_25=rnT a_4.fee a_4.itr a_4.pri a_4.cre l6 a_4.till l7 l7.length→∃(l8:List (List Int)),Ob (a_4.A.length=a_4.A.length∧l8.length=a_4.A.length∧(∀r∈l8,r.length=3)∧∀(i:Nat),i < a_4.A.length→(El.fn (Rv.elemOf [.i64,.i64,.i64] a_4.A)).at i=Rv.elemOf [.i64,.i64,.i64] l8 i)∧∃(l9:List (List Int)),Ob (List.length (othR a_4.S (rowR a_4.a (a_4.S.length)) a_4.k)=List.length (othR a_4.S (rowR a_4.a (a_4.S.length)) a_4.k)∧l9.length=List.length (othR a_4.S (rowR a_4.a (a_4.S.length)) a_4.k)∧(∀r∈l9,r.length=4)∧∀(i:Nat),i < List.length (othR a_4.S (rowR a_4.a (a_4.S.length)) a_4.k)→(El.fn (Rv.elemOf [.i64,.i64,.i64,.i64] (othR a_4.S (rowR a_4.a (a_4.S.length)) a_4.k))).at i=Rv.elemOf [.i64,.i64,.i64,.i64] l9 i)∧Ob (F_RunV.named.pre ([Dat.z a_4.fee,Dat.z a_4.itr,Dat.z a_4.pri,Dat.z a_4.cre,Dat.l l8,Dat.z a_4.till]++[Dat.l l9]))∧∀(v_26:Int),v_26=a_4.fee→∀(v_27:Int),v_27=a_4.itr→∀(v_28:Int),v_28=a_4.pri→∀(v_29:Int),v_29=a_4.cre→∀(v_30:Int),v_30=rnT a_4.fee a_4.itr a_4.pri a_4.cre l8 a_4.till l9 l9.length→∃(l10:List (List Int)),Ob (l6.length=l6.length∧l10.length=l6.length∧(∀r∈l10,r.length=3)∧∀(i:Nat),i < l6.length→(El.fn (Rv.elemOf [.i64,.i64,.i64] (rnA a_4.fee a_4.itr a_4.pri a_4.cre l6 a_4.till l7 l7.length))).at i=Rv.elemOf [.i64,.i64,.i64] l10 i)∧∃(l11:List (List Int)),Ob (l8.length=l8.length∧l11.length=l8.length∧(∀r∈l11,r.length=3)∧∀(i:Nat),i < l8.length→(El.fn (Rv.elemOf [.i64,.i64,.i64] (rnA a_4.fee a_4.itr a_4.pri a_4.cre l8 a_4.till l9 l9.length))).at i=Rv.elemOf [.i64,.i64,.i64] l11 i)∧Ob (l10.length≤4000000∧l11.length≤4000000)∧(smC v_21 v_22 v_23 v_24 v_25 v_26 v_27 v_28 v_29 v_30∧samTo 3 l10 l11 l10.length→Ob (hasTabs [] B)∧True)∧(¬(smC v_21 v_22 v_23 v_24 v_25 v_26 v_27 v_28 v_29 v_30∧samTo 3 l10 l11 l10.length)→False))))
set_option linter.unusedSimpArgs false in
set_option maxRecDepth 4000 in
set_option maxHeartbeats 2000000 in
theorem v_law:V_law:=by
 unfold V_law
 intro B htab xz N hz hoz hrz hN
 simp only [F_Below,F_Of,F_DealOf,FnE.named,List.cons_append,List.nil_append,Ob_iff,and_true,true_and,Classical.not_not]
 refine⟨N,⟨hz,rfl,hrz,fun _ _=>rfl⟩,hN,⟨by omega,by omega⟩,?_⟩
 obtain⟨a0,ha0⟩:∃a0,tideK N N.length=a0:=⟨_,rfl⟩
 rw [ha0]
 intro q hq f hf i hi p hp c hc t ht
 have hc0:=co_ok a0 (most:=5) (by omega) (by omega)
 have hb0:=co_bd a0 (most:=5) (by omega) (by omega)
 have hl0:=co_len a0 5 (coN a0 5).toNat
 have hr0:=co_row a0 5 (coN a0 5).toNat
 rw [← hf,← hi,← hp,← hc,← ht]at hc0
 rw [← ht]at hb0
 clear hf hi hp hc ht
 obtain⟨A,hA⟩:∃A,coR a0 5 (coN a0 5).toNat=A:=⟨_,rfl⟩
 obtain⟨n,hn⟩:∃n,(coN a0 5).toNat=n:=⟨_,rfl⟩
 rw [hA]at hc0 hl0 hr0 hb0
 rw [hn]at hl0
 rw [hA,hn]
 clear hA hn
 subst hl0
 refine⟨⟨⟨q,f,i,p,c,t,0,0,0,A,[],[],0⟩,⟨⟨hc0,hr0,hb0,by simp,by simp,by simp,by simp,by simp⟩,rfl,rfl⟩,rfl,rfl,rfl,rfl,rfl,rfl,⟨rfl,fun _ _=>rfl⟩,rfl,plain_elemOf _ _ _⟩,?_⟩
 clear hc0 hr0 hb0
 intro v hv
 obtain⟨hv,hvD,hvS⟩:=hv
 intros
 refine⟨by omega,?_⟩
 intro v6 h6 v7 h7
 have b7:=belowV_in v.q 21
 rw [← h7]at b7
 clear h6 h7
 refine⟨⟨{ v with q:=v6,n:=v7 },⟨⟨hv.c,hv.a,hv.b,hv.d,hv.s,hv.o,hv.ld,hv.ls⟩,by rw [hvD]; show((0:Nat):Int)+v7≤20; omega,by rw [hvS]; show((0:Nat):Int)+v7≤20; omega⟩,?_⟩,?_⟩
 ·have eD:v.D.length=0:=by rw [hvD]; rfl
  have eS:v.S.length=0:=by rw [hvS]; rfl
  repeat' (with_reducible apply And.intro)
  all_goals first | rfl | exact eD | exact eS | exact plain_elemOf _ _ _ | exact fun _ _=>rfl
 clear hv hvD hvS b7
 intro u hu
 obtain⟨hu,hD,hS⟩:=hu
 intros
 have hl:=hu.c.l
 refine⟨fun h1=>?_,fun h1=>?_⟩
 ·refine⟨by simp,?_⟩
  intro v8 h8 v9 h9
  have b9:1≤v9∧v9≤4:=by
   have:v9=1∨v9=2∨v9=3∨v9=4:=by rw [h9]; exact ofV_four _ _ _ _ _
   clear h8 h9
   omega
  clear h8 h9
  refine⟨u.A,⟨rfl,hu.a,fun _ _=>rfl⟩,⟨by omega,by omega,by omega⟩,?_⟩
  have g:=dl_gd (n:=u.A.length) (by omega) (a:=v8) b9
  intro v10 h10 v11 h11 v12 h12 v13 h13 v14 h14
  rw [← h11,← h12,← h13,← h14]at g
  clear h10 h11 h12 h13 h14
  refine⟨fun _ _=>rfl,by have:=hu.ld; omega,u.A,⟨rfl,hu.a,fun _ _=>rfl⟩,⟨by omega,by omega,by omega⟩,?_⟩
  have g1:=dl_gd (n:=u.A.length) (by omega) (a:=v10) (kd:=1) (by omega)
  intro v15 h15 v16 h16 v17 h17 v18 h18 v19 h19
  rw [← h16,← h17,← h18,← h19]at g1
  clear h15 h16 h17 h18 h19
  have eD:=snoc4 (R:=u.D) (x:=v11) (y:=v12) (z:=v13) (w:=v14) rfl
  have eS:=snoc4 (R:=u.S) (x:=v16) (y:=v17) (z:=v18) (w:=v19) rfl
  refine⟨fun _ _=>rfl,by have:=hu.ls; omega,by simp only [InR]; omega,{ u with q:=v15,n:=u.n-1,D:=u.D++[[v11,v12,v13,v14]],S:=u.S++[[v16,v17,v18,v19]] },⟨⟨⟨hu.c,hu.a,hu.b,Gd.snoc hu.d (by omega) g.2.1 g.2.2.1 g.2.2.2,Gd.snoc hu.s (by omega) g1.2.1 g1.2.2.1 g1.2.2.2,?_,?_,?_⟩,?_,?_⟩,?_⟩,?_⟩
  ·intro r hr
   rcases List.mem_append.1 hr with h | h
   ·exact hu.o r h
   ·rw [List.mem_singleton.1 h]; exact g1.1
  ·show(u.D++[[v11,v12,v13,v14]]).length≤20
   rw [List.length_append,List.length_singleton]; omega
  ·show(u.S++[[v16,v17,v18,v19]]).length≤20
   rw [List.length_append,List.length_singleton]; omega
  ·show((u.D++[[v11,v12,v13,v14]]).length:Int)+(u.n-1)≤20
   rw [List.length_append,List.length_singleton]; omega
  ·show((u.S++[[v16,v17,v18,v19]]).length:Int)+(u.n-1)≤20
   rw [List.length_append,List.length_singleton]; omega
  ·show(u.n-1).toNat < u.n.toNat
   omega
  ·have lD:u.D.length+1=(u.D++[[v11,v12,v13,v14]]).length:=by rw [List.length_append,List.length_singleton]
   have lS:u.S.length+1=(u.S++[[v16,v17,v18,v19]]).length:=by rw [List.length_append,List.length_singleton]
   repeat' (with_reducible apply And.intro)
   all_goals first | rfl | exact lD | exact lS | exact plain_elemOf _ _ _ | exact fun _ _=>rfl | (intro i hi; exact eS i (by rw [lS]; exact hi)) | (intro i hi; exact eD i (by rw [lD]; exact hi))
 refine⟨by omega,?_⟩
 intro v8 h8 v9 h9
 have b9:=belowV_in u.q (u.A.length:Int)
 rw [← h9]at b9
 clear h8 h9
 refine⟨⟨{ u with q:=v8,m:=v9.toNat,k:=0 },⟨⟨hu.c,hu.a,hu.b,hu.d,hu.s,hu.o,hu.ld,hu.ls⟩,by show v9.toNat < u.A.length; omega,Nat.zero_le _⟩,?_⟩,?_⟩
 ·have e9:v9=(v9.toNat:Int):=by omega
  repeat' (with_reducible apply And.intro)
  all_goals first | rfl | exact e9 | exact plain_elemOf _ _ _ | exact fun _ _=>rfl
 clear hu hD hS hl h1 b9
 intro w hw
 obtain⟨hw,hm,hk⟩:=hw
 intros
 have hl:=hw.c.l
 have hD:=hw.ld
 have ol:=ownR_len (w.m:Int) w.D w.k
 refine⟨fun h1=>?_,fun h1=>?_⟩
 ·have hk':w.k < w.D.length:=by omega
  have hc1:(w.k:Int)+1=((w.k+1:Nat):Int):=by omega
  have i1:InR .i64 ((w.k:Int)+1):=by simp only [InR]; omega
  have hd:w.D.length-(w.k+1) < w.D.length-w.k:=by omega
  have ok:Sst.Ok { w with k:=w.k+1 }:=⟨hw.c,hw.a,hw.b,hw.d,hw.s,hw.o,hw.ld,hw.ls⟩
  refine⟨⟨by omega,hk'⟩,hk',fun h2=>⟨⟨by omega,hk'⟩,hk',fun _ _=>rfl,by omega,i1,{ w with k:=w.k+1 },⟨⟨ok,hm,hk'⟩,hd⟩,?_⟩,fun h2=>⟨i1,{ w with k:=w.k+1 },⟨⟨ok,hm,hk'⟩,hd⟩,?_⟩⟩
  ·have eo:ownR (w.m:Int) w.D (w.k+1)=ownR (w.m:Int) w.D w.k++[row4 w.D w.k]:=by
    show(if cell w.D w.k 1=(w.m:Int)then _ else _)=_
    rw [if_pos h2]
   have lo:(ownR (w.m:Int) w.D w.k).length+1=(ownR (w.m:Int) w.D (w.k+1)).length:=by rw [eo,List.length_append,List.length_singleton]
   have es:=snoc4 (R:=ownR (w.m:Int) w.D w.k) (x:=cell w.D w.k 0) (y:=cell w.D w.k 1) (z:=cell w.D w.k 2) (w:=cell w.D w.k 3) rfl
   have es:∀i,i < (ownR (w.m:Int) w.D w.k).length+1→_:=es
   rw [show ownR (w.m:Int) w.D w.k++[[cell w.D w.k 0,cell w.D w.k 1,cell w.D w.k 2,cell w.D w.k 3]]=ownR (w.m:Int) w.D (w.k+1)from eo.symm]at es
   repeat' (with_reducible apply And.intro)
   all_goals first | rfl | exact lo | exact hc1 | exact plain_elemOf _ _ _ | exact fun _ _=>rfl | (intro i hi; exact es i (by rw [lo]; exact hi))
  ·have eo:ownR (w.m:Int) w.D w.k=ownR (w.m:Int) w.D (w.k+1):=by
    show _=(if cell w.D w.k 1=(w.m:Int)then _ else _)
    rw [if_neg h2]
   rw [eo]
   repeat' (with_reducible apply And.intro)
   all_goals first | rfl | exact hc1 | exact plain_elemOf _ _ _ | exact fun _ _=>rfl
 have ek:w.k=w.D.length:=by omega
 rw [ek]at ol ⊢
 have h0:=coop_zero hw.c
 have d4:=row4_len hw.d
 have orow:=ownR_row (w.m:Int) w.D w.D.length
 have eown:=ownR_is (m:=(w.m:Int)) d4 w.D.length (Nat.le_refl _)
 rw [List.take_length]at eown
 have same:=rn_own hw.c hw.b hw.d (by omega) hm eown
 simp only [acOf,Ac.mk.injEq]at same
 refine⟨w.A,⟨rfl,hw.a,fun _ _=>rfl⟩,w.D,⟨rfl,d4,fun _ _=>rfl⟩,⟨h0,by omega⟩,?_⟩
 intro v10 h10 v11 h11 v12 h12 v13 h13 v14 h14
 clear h10 h11 h12 h13 h14
 refine⟨w.A,⟨rfl,hw.a,fun _ _=>rfl⟩,ownR (w.m:Int) w.D w.D.length,⟨rfl,orow,fun _ _=>rfl⟩,⟨h0,by omega⟩,?_⟩
 intro v15 h15 v16 h16 v17 h17 v18 h18 v19 h19
 clear h15 h16 h17 h18 h19
 refine⟨⟨fun _=>⟨fun _=>⟨⟨by omega,hm⟩,hm,⟨by omega,hm⟩,hm,fun h=>absurd same h,fun _=>⟨w,hw,?_⟩⟩,fun h=>absurd rfl h⟩,fun h=>absurd rfl h⟩,?_⟩
 ·repeat' (with_reducible apply And.intro)
  all_goals first | rfl | exact plain_elemOf _ _ _ | exact fun _ _=>rfl
 clear hw hm hk hl hD ol h1 ek h0 d4 orow eown same
 intro u hu
 intros
 have hS:=hu.ls
 refine⟨⟨by omega,by omega⟩,?_⟩
 intro v20 h20
 clear h20
 refine⟨⟨{ u with q:=v20,a:=u.q,k:=0 },⟨⟨hu.c,hu.a,hu.b,hu.d,hu.s,hu.o,hu.ld,hu.ls⟩,Nat.zero_le _⟩,?_⟩,?_⟩
 ·repeat' (with_reducible apply And.intro)
  all_goals first | rfl | exact plain_elemOf _ _ _ | exact fun _ _=>rfl
 clear hu hS
 intro w hw
 obtain⟨hw,hk⟩:=hw
 intros
 have hl:=hw.c.l
 have hS:=hw.ls
 have ol:=othR_len w.S (rowR w.a w.S.length) w.k
 refine⟨fun h1=>?_,fun h1=>?_⟩
 ·have hk':w.k < w.S.length:=by omega
  have hin:=rowR_in w.a w.S.length hk'
  have hc1:(w.k:Int)+1=((w.k+1:Nat):Int):=by omega
  have i1:InR .i64 ((w.k:Int)+1):=by simp only [InR]; omega
  have hd:w.S.length-(w.k+1) < w.S.length-w.k:=by omega
  have eo:=othR_succ w.S (rowR w.a w.S.length) w.k
  have lo:(othR w.S (rowR w.a w.S.length) w.k).length+1=(othR w.S (rowR w.a w.S.length) (w.k+1)).length:=by rw [eo,List.length_append,List.length_singleton]
  have es:=snoc4 (R:=othR w.S (rowR w.a w.S.length) w.k) (x:=cell w.S (cell (rowR w.a w.S.length) w.k 0).toNat 0) (y:=cell w.S (cell (rowR w.a w.S.length) w.k 0).toNat 1) (z:=cell w.S (cell (rowR w.a w.S.length) w.k 0).toNat 2) (w:=cell w.S (cell (rowR w.a w.S.length) w.k 0).toNat 3) rfl
  rw [show othR w.S (rowR w.a w.S.length) w.k++[[cell w.S (cell (rowR w.a w.S.length) w.k 0).toNat 0,cell w.S (cell (rowR w.a w.S.length) w.k 0).toNat 1,cell w.S (cell (rowR w.a w.S.length) w.k 0).toNat 2,cell w.S (cell (rowR w.a w.S.length) w.k 0).toNat 3]]=othR w.S (rowR w.a w.S.length) (w.k+1)from eo.symm]at es
  refine⟨⟨by omega,hk'⟩,hk',⟨hin.1,by omega⟩,by omega,fun _ _=>rfl,by omega,i1,{ w with k:=w.k+1 },⟨⟨⟨hw.c,hw.a,hw.b,hw.d,hw.s,hw.o,hw.ld,hw.ls⟩,hk'⟩,hd⟩,?_⟩
  repeat' (with_reducible apply And.intro)
  all_goals first | rfl | exact lo | exact hc1 | exact plain_elemOf _ _ _ | exact fun _ _=>rfl | (intro i hi; exact es i (by rw [lo]; exact hi))
 have ek:w.k=w.S.length:=by omega
 rw [ek]at ol ⊢
 have h0:=coop_zero hw.c
 have s4:=row4_len hw.s
 have hp:=othR_perm s4 w.a
 obtain⟨pT,pA⟩:=rn_perm hw.c hw.b hw.s (by omega) hw.o hp
 obtain⟨O,hO⟩:∃O,othR w.S (rowR w.a w.S.length) w.S.length=O:=⟨_,rfl⟩
 have orow:=othR_row w.S (rowR w.a w.S.length) w.S.length
 rw [hO]at ol pT pA orow ⊢
 refine⟨w.A,⟨rfl,hw.a,fun _ _=>rfl⟩,w.S,⟨rfl,s4,fun _ _=>rfl⟩,⟨h0,by omega⟩,?_⟩
 intro v21 h21 v22 h22 v23 h23 v24 h24 v25 h25
 refine⟨w.A,⟨rfl,hw.a,fun _ _=>rfl⟩,O,⟨rfl,orow,fun _ _=>rfl⟩,⟨h0,by omega⟩,?_⟩
 intro v26 h26 v27 h27 v28 h28 v29 h29 v30 h30
 have l1:(rnA w.fee w.itr w.pri w.cre w.A w.till w.S w.S.length).length=w.A.length:=rn_len _
 have l2:(rnA w.fee w.itr w.pri w.cre w.A w.till O O.length).length=w.A.length:=rn_len _
 have r1:=rn_row (fee:=w.fee) (itr:=w.itr) (pri:=w.pri) (cre:=w.cre) (till:=w.till) (D:=w.S) hw.a w.S.length
 have r2:=rn_row (fee:=w.fee) (itr:=w.itr) (pri:=w.pri) (cre:=w.cre) (till:=w.till) (D:=O) hw.a O.length
 rw [← h25,← h30]at pT
 subst h21 h22 h23 h24 h26 h27 h28 h29
 have sm:smC w.fee w.itr w.pri w.cre v25 w.fee w.itr w.pri w.cre v30:=⟨⟨rfl,rfl,rfl,rfl⟩,pT⟩
 exact⟨_,⟨l1,r1,fun _ _=>rfl⟩,_,⟨l2,r2,fun _ _=>rfl⟩,⟨by omega,by omega⟩,fun _=>htab,fun h=>absurd ⟨sm,pA⟩ h⟩
theorem e_law:V_law=needL P [F_SameCoops] [F_TideOf.named,F_CoopOf.named,F_Below.named,F_Of.named,F_DealOf.named,F_RunV.named,F_Row.named] 8 ([]:Tabs) A_law F_law:=by kernel_rfl
theorem n_law:Ob (needL P [F_SameCoops] [F_TideOf.named,F_CoopOf.named,F_Below.named,F_Of.named,F_DealOf.named,F_RunV.named,F_Row.named] 8 ([]:Tabs) A_law F_law):=by
 rw [← e_law]
 exact⟨v_law⟩
theorem l_law:(([F_SameCoops]:List Fn0).all fun G=>!Nat.beq G.g 8)=true:=rfl
theorem le_law:([F_TideOf.named,F_CoopOf.named,F_Below.named,F_Of.named,F_DealOf.named,F_RunV.named,F_Row.named].all fun G=>!Nat.beq G.g 8)=true:=rfl
theorem c_law:∀F∈([F_SameCoops]:List Fn0),F.Ok P:=by
 intro F h
 simp only [List.mem_cons,List.not_mem_nil,or_false]at h
 rcases h with rfl
 ·exact SameCoops_ok
theorem ce_law:∀F∈[F_TideOf.named,F_CoopOf.named,F_Below.named,F_Of.named,F_DealOf.named,F_RunV.named,F_Row.named],F.Ok P:=by
 intro F h
 simp only [List.mem_cons,List.not_mem_nil,or_false]at h
 rcases h with rfl | rfl | rfl | rfl | rfl | rfl | rfl
 ·exact TideOf_ok.named
 ·exact CoopOf_ok.named
 ·exact Below_ok.named
 ·exact Of_ok.named
 ·exact DealOf_ok.named
 ·exact RunV_ok.named
 ·exact Row_ok.named
end Go.Proofs.Ytfebjikidfcbcaa.Sy
