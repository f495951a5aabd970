import Derived.Test.YtgoiegaobhfocaaSyP2
import Derived.Test.YtgoiegaobhfocaaGrM
import Derived.Test.YtgoiegaobhfocaaKtG
import Derived.Test.YtgoiegaobhfocaaKtH
import Derived.Test.YtgoiegaobhfocaaKtI
import Derived.Test.YtgoiegaobhfocaaKuA
import Derived.Test.YtgoiegaobhfocaaKuB
import Derived.Test.YtgoiegaobhfocaaSyP2
import Derived.KernelRfl
import Derived.Test.YtgoiegaobhfocaaProg
namespace Go.Proofs.Ytgoiegaobhfocaa.Sy
open Go Go.Rv
set_option linter.unusedVariables false
def Bn.safe (b:Bn) (H:Int):Prop:=b.vrd (-1) 0 H=1∧∀p f:Nat,p < b.R.length→(f:Int) < H→b.vrd p f H=1
noncomputable def F_isSafe:FnE:=⟨55,none,[.agg [.l [.i64,.i64,.i64,.i64,.i64,.i64,.i64,.i64],.l [.i64,.i64],.i .i64,.i .i64,.i .i64,.i .i64,.i .i64,.i .i64,.i .i64,.i .i64,.i .i64,.i .i64,.i .i64,.i .i64,.i .i64,.i .i64,.i .i64,.i .i64,.i .i64,.i .i64,.i .i64,.i .i64,.i .i64,.i .i64,.i .i64,.i .i64,.i .i64,.i .i64,.i .i64],i64],fun l=>match l with | .l T :: .l R :: .z s1 :: .z s2 :: .z s3 :: .z s4 :: .z s5 :: .z s6 :: .z u1 :: .z u2 :: .z v1 :: .z v2 :: .z a1 :: .z a2 :: .z g1 :: .z g2 :: .z le :: .z mo :: .z w1 :: .z w2 :: .z lt :: .z gr :: .z t1 :: .z t2 :: .z t3 :: .z t4 :: .z t5 :: .z t6 :: .z nu :: .z ho :: []=>(Bn.mk R s1 s2 s3 s4 s5 s6 u1 u2 v1 v2 a1 a2 g1 g2 le mo w1 w2 lt gr t1 t2 t3 t4 t5 t6 nu).Ok∧0≤ho∧ho≤1000 | _=>False,fun l=>match l with | .l T :: .l R :: .z s1 :: .z s2 :: .z s3 :: .z s4 :: .z s5 :: .z s6 :: .z u1 :: .z u2 :: .z v1 :: .z v2 :: .z a1 :: .z a2 :: .z g1 :: .z g2 :: .z le :: .z mo :: .z w1 :: .z w2 :: .z lt :: .z gr :: .z t1 :: .z t2 :: .z t3 :: .z t4 :: .z t5 :: .z t6 :: .z nu :: .z ho :: []=>[.p ((Bn.mk R s1 s2 s3 s4 s5 s6 u1 u2 v1 v2 a1 a2 g1 g2 le mo w1 w2 lt gr t1 t2 t3 t4 t5 t6 nu).safe ho)] | _=>[],fun l=>match l with | .l T :: .l R :: .z s1 :: .z s2 :: .z s3 :: .z s4 :: .z s5 :: .z s6 :: .z u1 :: .z u2 :: .z v1 :: .z v2 :: .z a1 :: .z a2 :: .z g1 :: .z g2 :: .z le :: .z mo :: .z w1 :: .z w2 :: .z lt :: .z gr :: .z t1 :: .z t2 :: .z t3 :: .z t4 :: .z t5 :: .z t6 :: .z nu :: .z ho :: []=>[] | _=>[],fun l=>match l with | .l T :: .l R :: .z s1 :: .z s2 :: .z s3 :: .z s4 :: .z s5 :: .z s6 :: .z u1 :: .z u2 :: .z v1 :: .z v2 :: .z a1 :: .z a2 :: .z g1 :: .z g2 :: .z le :: .z mo :: .z w1 :: .z w2 :: .z lt :: .z gr :: .z t1 :: .z t2 :: .z t3 :: .z t4 :: .z t5 :: .z t6 :: .z nu :: .z ho :: []=>[] | _=>[],false,none,none⟩
noncomputable def A_isSafe:List SV→List Dat→Nat→List SV→Ann:=fun _ _ _ _=>noAnn
noncomputable def A_isSafe_1:List SV→List Dat→List SV→List SObj→Nat→List SV→Ann:=fun _ _ _ _ _ _=>noAnn
noncomputable def A_isSafe_2:List SV→List Dat→List SV→List SObj→Nat→List SV→Ann:=fun xs ds ar bs n ts=>match xs with
 | [.agg (.lst x _ _ _ :: .lst y _ _ _ :: _),.i _ _]=>match ds with
  | .l T :: .l R :: .z s1 :: .z s2 :: .z s3 :: .z s4 :: .z s5 :: .z s6 :: .z u1 :: .z u2 :: .z v1 :: .z v2 :: .z a1 :: .z a2 :: .z g1 :: .z g2 :: .z le :: .z mo :: .z w1 :: .z w2 :: .z lt :: .z gr :: .z t1 :: .z t2 :: .z t3 :: .z t4 :: .z t5 :: .z t6 :: .z nu :: .z ho :: []=>match n with
   | 2=>⟨Nat,fun k=>([some (SV.yl ((6:Nat))),none,some (SV.ptr ((4:Nat)) ((0:Nat))),none,none,none,none,none,none,none,some (SV.i IntKind.i64 (↑R.length:Int)),some (.i .i64 k)]++nN 14),fun k=>[SObj.cells [SV.v (Value.int IntKind.i64 (-1:Int)),SV.v (Value.int IntKind.i64 (0:Int))] Kd.ex,.dead,SObj.dead,SObj.cells [SV.i IntKind.i64 ho] Kd.ex,SObj.cells [SV.i IntKind.i64 (↑R.length:Int)] Kd.ex,SObj.cells [SV.v (Value.bool false)] Kd.ex,SObj.cells [SV.i IntKind.i64 ho] Kd.ex,SObj.cells [SV.lst x T.length ((8:Nat)) (Rv.elemOf [IntKind.i64,IntKind.i64,IntKind.i64,IntKind.i64,IntKind.i64,IntKind.i64,IntKind.i64,IntKind.i64] T),SV.lst y R.length ((2:Nat)) (Rv.elemOf [IntKind.i64,IntKind.i64] R),SV.i IntKind.i64 s1,SV.i IntKind.i64 s2,SV.i IntKind.i64 s3,SV.i IntKind.i64 s4,SV.i IntKind.i64 s5,SV.i IntKind.i64 s6,SV.i IntKind.i64 u1,SV.i IntKind.i64 u2,SV.i IntKind.i64 v1,SV.i IntKind.i64 v2,SV.i IntKind.i64 a1,SV.i IntKind.i64 a2,SV.i IntKind.i64 g1,SV.i IntKind.i64 g2,SV.i IntKind.i64 le,SV.i IntKind.i64 mo,SV.i IntKind.i64 w1,SV.i IntKind.i64 w2,SV.i IntKind.i64 lt,SV.i IntKind.i64 gr,SV.i IntKind.i64 t1,SV.i IntKind.i64 t2,SV.i IntKind.i64 t3,SV.i IntKind.i64 t4,SV.i IntKind.i64 t5,SV.i IntKind.i64 t6,SV.i IntKind.i64 nu] Kd.ex],fun k=>k≤R.length∧(Bn.mk R s1 s2 s3 s4 s5 s6 u1 u2 v1 v2 a1 a2 g1 g2 le mo w1 w2 lt gr t1 t2 t3 t4 t5 t6 nu).vrd (-1) 0 ho=1∧∀p f:Nat,p < k→(f:Int) < ho→(Bn.mk R s1 s2 s3 s4 s5 s6 u1 u2 v1 v2 a1 a2 g1 g2 le mo w1 w2 lt gr t1 t2 t3 t4 t5 t6 nu).vrd p f ho=1,fun k=>R.length-k,0⟩
   | 5=>(match lget ts 11 with | some (SV.i _ r11)=>(match lget ts 4 with | some (SV.i _ r4)=>⟨Nat,fun k=>([some (SV.yl ((6:Nat))),none,some (SV.ptr ((4:Nat)) ((0:Nat))),none,some (SV.i .i64 r4),none,none,none,none,none,some (SV.i IntKind.i64 (↑R.length:Int)),some (SV.i .i64 r11),none,none,some (SV.i IntKind.i64 ho),some (.i .i64 k)]++nN 10),fun k=>[SObj.cells [SV.v (Value.int IntKind.i64 (-1:Int)),SV.v (Value.int IntKind.i64 (0:Int))] Kd.ex,.dead,SObj.dead,SObj.cells [SV.i IntKind.i64 ho] Kd.ex,SObj.cells [SV.i IntKind.i64 (↑R.length:Int)] Kd.ex,SObj.cells [SV.v (Value.bool false)] Kd.ex,SObj.cells [SV.i IntKind.i64 ho] Kd.ex,SObj.cells [SV.lst x T.length ((8:Nat)) (Rv.elemOf [IntKind.i64,IntKind.i64,IntKind.i64,IntKind.i64,IntKind.i64,IntKind.i64,IntKind.i64,IntKind.i64] T),SV.lst y R.length ((2:Nat)) (Rv.elemOf [IntKind.i64,IntKind.i64] R),SV.i IntKind.i64 s1,SV.i IntKind.i64 s2,SV.i IntKind.i64 s3,SV.i IntKind.i64 s4,SV.i IntKind.i64 s5,SV.i IntKind.i64 s6,SV.i IntKind.i64 u1,SV.i IntKind.i64 u2,SV.i IntKind.i64 v1,SV.i IntKind.i64 v2,SV.i IntKind.i64 a1,SV.i IntKind.i64 a2,SV.i IntKind.i64 g1,SV.i IntKind.i64 g2,SV.i IntKind.i64 le,SV.i IntKind.i64 mo,SV.i IntKind.i64 w1,SV.i IntKind.i64 w2,SV.i IntKind.i64 lt,SV.i IntKind.i64 gr,SV.i IntKind.i64 t1,SV.i IntKind.i64 t2,SV.i IntKind.i64 t3,SV.i IntKind.i64 t4,SV.i IntKind.i64 t5,SV.i IntKind.i64 t6,SV.i IntKind.i64 nu] Kd.ex],fun k=>(k:Int)≤ho∧∀f:Nat,f < k→(Bn.mk R s1 s2 s3 s4 s5 s6 u1 u2 v1 v2 a1 a2 g1 g2 le mo w1 w2 lt gr t1 t2 t3 t4 t5 t6 nu).vrd r11 f ho=1,fun k=>ho.toNat-k,0⟩ | _=>noAnn) | _=>noAnn)
   | _=>noAnn
  | _=>noAnn
 | _=>noAnn
noncomputable def I_isSafe:List SV→List Dat→List In:=fun xs ds=>[⟨48,A_isSafe_1 xs ds⟩,⟨73,A_isSafe_2 xs ds⟩]
def V_isSafe:Prop:=
 ∀(B:RW) (I:RV) (c:List (List Int)),IsLst B I c.length 8 (Rv.elemOf [.i64,.i64,.i64,.i64,.i64,.i64,.i64,.i64] c)→oneB I=true→(∀row∈c,row.length=8)→∀(G:RV) (a:List (List Int)),IsLst B G a.length 2 (Rv.elemOf I2 a)→oneB G=true→(∀row∈a,row.length=2)→∀(l u h t E s o v D d y n k A C w x r q f g m p e z i j b:Int),F_isSafe.pre ([Dat.l c,Dat.l a,Dat.z l,Dat.z u,Dat.z h,Dat.z t,Dat.z E,Dat.z s,Dat.z o,Dat.z v,Dat.z D,Dat.z d,Dat.z y,Dat.z n,Dat.z k,Dat.z A,Dat.z C,Dat.z w,Dat.z x,Dat.z r,Dat.z q,Dat.z f,Dat.z g,Dat.z m,Dat.z p,Dat.z e,Dat.z z,Dat.z i,Dat.z j]++([Dat.z b]++[]))→LsA B G I2 a∧∀(R:LR),R.b=B.n+(6:Nat)→Ob (B=B)∧Ob (R=R)∧RwB B I c.length 8 [.i64,.i64,.i64,.i64,.i64,.i64,.i64,.i64] c fun P=>RwB B G a.length 2 I2 a fun N=>Ob (F_verdict.pre ([Dat.l P,Dat.l N,Dat.z l,Dat.z u,Dat.z h,Dat.z t,Dat.z E,Dat.z s,Dat.z o,Dat.z v,Dat.z D,Dat.z d,Dat.z y,Dat.z n,Dat.z k,Dat.z A,Dat.z C,Dat.z w,Dat.z x,Dat.z r,Dat.z q,Dat.z f,Dat.z g,Dat.z m,Dat.z p,Dat.z e,Dat.z z,Dat.z i,Dat.z j]++([Dat.z (-1:Int),Dat.z (0:Int)]++[Dat.z b])))∧(¬(Bn.mk N l u h t E s o v D d y n k A C w x r q f g m p e z i j).vrd (-1:Int) (0:Int) b=(1:Int)→Ob (false=true↔(Bn.mk a l u h t E s o v D d y n k A C w x r q f g m p e z i j).safe b)∧True)∧(¬¬(Bn.mk N l u h t E s o v D d y n k A C w x r q f g m p e z i j).vrd (-1:Int) (0:Int) b=(1:Int)→(∃(F:Nat),Ob (F≤a.length∧(Bn.mk a l u h t E s o v D d y n k A C w x r q f g m p e z i j).vrd (-1:Int) (0:Int) b=(1:Int)∧∀(L H:Nat),L < F→(↑H:Int) < b→(Bn.mk a l u h t E s o v D d y n k A C w x r q f g m p e z i j).vrd (↑L:Int) (↑H:Int) b=(1:Int))∧Ob ((↑a.length:Int)=(↑a.length:Int))∧Ob ((0:Int)=(↑F:Int))∧Ob (Value.int .i64 (-1:Int)=Value.int .i64 (-1:Int))∧Ob (Value.int .i64 (0:Int)=Value.int .i64 (0:Int))∧Ob (R=R)∧Ob (b=b)∧Ob ((↑a.length:Int)=(↑a.length:Int))∧Ob (SV.v (Value.bool false)=SV.v (Value.bool false))∧Ob (b=b)∧Ob (SV.lst I c.length 8 (Rv.elemOf [.i64,.i64,.i64,.i64,.i64,.i64,.i64,.i64] c)=SV.lst I c.length 8 (Rv.elemOf [.i64,.i64,.i64,.i64,.i64,.i64,.i64,.i64] c))∧Ob (SV.lst G a.length 2 (Rv.elemOf I2 a)=SV.lst G a.length 2 (Rv.elemOf I2 a))∧Ob (l=l)∧Ob (u=u)∧Ob (h=h)∧Ob (t=t)∧Ob (E=E)∧Ob (s=s)∧Ob (o=o)∧Ob (v=v)∧Ob (D=D)∧Ob (d=d)∧Ob (y=y)∧Ob (n=n)∧Ob (k=k)∧Ob (A=A)∧Ob (C=C)∧Ob (w=w)∧Ob (x=x)∧Ob (r=r)∧Ob (q=q)∧Ob (f=f)∧Ob (g=g)∧Ob (m=m)∧Ob (p=p)∧Ob (e=e)∧Ob (z=z)∧Ob (i=i)∧Ob (j=j)∧Ob (R.b≤B.n+(7:Nat))∧LsA B I [.i64,.i64,.i64,.i64,.i64,.i64,.i64,.i64] c∧LsA B G I2 a∧True)∧∀(F:Nat),(F≤a.length∧(Bn.mk a l u h t E s o v D d y n k A C w x r q f g m p e z i j).vrd (-1:Int) (0:Int) b=(1:Int)∧∀(L H:Nat),L < F→(↑H:Int) < b→(Bn.mk a l u h t E s o v D d y n k A C w x r q f g m p e z i j).vrd (↑L:Int) (↑H:Int) b=(1:Int))→∀(_ _ _ _ _ _ _ _ _ _ _ _ _ _ _ _ _ _ _ _ _ _:Value),((↑F:Int) < (↑a.length:Int)→(∃(J:Nat),Ob ((↑J:Int)≤b∧∀(H:Nat),H < J→(Bn.mk a l u h t E s o v D d y n k A C w x r q f g m p e z i j).vrd (↑F:Int) (↑H:Int) b=(1:Int))∧Ob ((↑F:Int)=(↑F:Int))∧Ob ((↑a.length:Int)=(↑a.length:Int))∧Ob ((↑F:Int)=(↑F:Int))∧Ob (b=b)∧Ob ((0:Int)=(↑J:Int))∧Ob (Value.int .i64 (-1:Int)=Value.int .i64 (-1:Int))∧Ob (Value.int .i64 (0:Int)=Value.int .i64 (0:Int))∧Ob (R=R)∧Ob (b=b)∧Ob ((↑a.length:Int)=(↑a.length:Int))∧Ob (SV.v (Value.bool false)=SV.v (Value.bool false))∧Ob (b=b)∧Ob (SV.lst I c.length 8 (Rv.elemOf [.i64,.i64,.i64,.i64,.i64,.i64,.i64,.i64] c)=SV.lst I c.length 8 (Rv.elemOf [.i64,.i64,.i64,.i64,.i64,.i64,.i64,.i64] c))∧Ob (SV.lst G a.length 2 (Rv.elemOf I2 a)=SV.lst G a.length 2 (Rv.elemOf I2 a))∧Ob (l=l)∧Ob (u=u)∧Ob (h=h)∧Ob (t=t)∧Ob (E=E)∧Ob (s=s)∧Ob (o=o)∧Ob (v=v)∧Ob (D=D)∧Ob (d=d)∧Ob (y=y)∧Ob (n=n)∧Ob (k=k)∧Ob (A=A)∧Ob (C=C)∧Ob (w=w)∧Ob (x=x)∧Ob (r=r)∧Ob (q=q)∧Ob (f=f)∧Ob (g=g)∧Ob (m=m)∧Ob (p=p)∧Ob (e=e)∧Ob (z=z)∧Ob (i=i)∧Ob (j=j)∧Ob (R.b≤B.n+(7:Nat))∧LsA B I [.i64,.i64,.i64,.i64,.i64,.i64,.i64,.i64] c∧LsA B G I2 a∧True)∧∀(J:Nat),((↑J:Int)≤b∧∀(H:Nat),H < J→(Bn.mk a l u h t E s o v D d y n k A C w x r q f g m p e z i j).vrd (↑F:Int) (↑H:Int) b=(1:Int))→∀(_ _ _ _ _ _ _ _ _ _ _ _ _ _ _ _ _ _ _:Value),((↑J:Int) < b→Ob (B=B)∧Ob (R=R)∧RwB B I c.length 8 [.i64,.i64,.i64,.i64,.i64,.i64,.i64,.i64] c fun O=>RwB B G a.length 2 I2 a fun M=>Ob (F_verdict.pre ([Dat.l O,Dat.l M,Dat.z l,Dat.z u,Dat.z h,Dat.z t,Dat.z E,Dat.z s,Dat.z o,Dat.z v,Dat.z D,Dat.z d,Dat.z y,Dat.z n,Dat.z k,Dat.z A,Dat.z C,Dat.z w,Dat.z x,Dat.z r,Dat.z q,Dat.z f,Dat.z g,Dat.z m,Dat.z p,Dat.z e,Dat.z z,Dat.z i,Dat.z j]++([Dat.z (↑F:Int),Dat.z (↑J:Int)]++[Dat.z b])))∧(¬(Bn.mk M l u h t E s o v D d y n k A C w x r q f g m p e z i j).vrd (↑F:Int) (↑J:Int) b=(1:Int)→Ob (false=true↔(Bn.mk a l u h t E s o v D d y n k A C w x r q f g m p e z i j).safe b)∧True)∧(¬¬(Bn.mk M l u h t E s o v D d y n k A C w x r q f g m p e z i j).vrd (↑F:Int) (↑J:Int) b=(1:Int)→Ob (InR .i64 ((↑J:Int)+(1:Int)))∧∃(K:Nat),Ob (((↑K:Int)≤b∧∀(H:Nat),H < K→(Bn.mk a l u h t E s o v D d y n k A C w x r q f g m p e z i j).vrd (↑F:Int) (↑H:Int) b=(1:Int))∧b.toNat-K < b.toNat-J)∧Ob ((↑F:Int)=(↑F:Int))∧Ob ((↑a.length:Int)=(↑a.length:Int))∧Ob ((↑F:Int)=(↑F:Int))∧Ob (b=b)∧Ob ((↑J:Int)+(1:Int)=(↑K:Int))∧Ob (Value.int .i64 (-1:Int)=Value.int .i64 (-1:Int))∧Ob (Value.int .i64 (0:Int)=Value.int .i64 (0:Int))∧Ob (R=R)∧Ob (b=b)∧Ob ((↑a.length:Int)=(↑a.length:Int))∧Ob (SV.v (Value.bool false)=SV.v (Value.bool false))∧Ob (b=b)∧Ob (SV.lst I c.length 8 (Rv.elemOf [.i64,.i64,.i64,.i64,.i64,.i64,.i64,.i64] c)=SV.lst I c.length 8 (Rv.elemOf [.i64,.i64,.i64,.i64,.i64,.i64,.i64,.i64] c))∧Ob (SV.lst G a.length 2 (Rv.elemOf I2 a)=SV.lst G a.length 2 (Rv.elemOf I2 a))∧Ob (l=l)∧Ob (u=u)∧Ob (h=h)∧Ob (t=t)∧Ob (E=E)∧Ob (s=s)∧Ob (o=o)∧Ob (v=v)∧Ob (D=D)∧Ob (d=d)∧Ob (y=y)∧Ob (n=n)∧Ob (k=k)∧Ob (A=A)∧Ob (C=C)∧Ob (w=w)∧Ob (x=x)∧Ob (r=r)∧Ob (q=q)∧Ob (f=f)∧Ob (g=g)∧Ob (m=m)∧Ob (p=p)∧Ob (e=e)∧Ob (z=z)∧Ob (i=i)∧Ob (j=j)∧Ob (R.b≤B.n+(7:Nat))∧LsA B I [.i64,.i64,.i64,.i64,.i64,.i64,.i64,.i64] c∧LsA B G I2 a∧True))∧(¬(↑J:Int) < b→Ob (InR .i64 ((↑F:Int)+(1:Int)))∧∃(K:Nat),Ob ((K≤a.length∧(Bn.mk a l u h t E s o v D d y n k A C w x r q f g m p e z i j).vrd (-1:Int) (0:Int) b=(1:Int)∧∀(L H:Nat),L < K→(↑H:Int) < b→(Bn.mk a l u h t E s o v D d y n k A C w x r q f g m p e z i j).vrd (↑L:Int) (↑H:Int) b=(1:Int))∧a.length-K < a.length-F)∧Ob ((↑a.length:Int)=(↑a.length:Int))∧Ob ((↑F:Int)+(1:Int)=(↑K:Int))∧Ob (Value.int .i64 (-1:Int)=Value.int .i64 (-1:Int))∧Ob (Value.int .i64 (0:Int)=Value.int .i64 (0:Int))∧Ob (R=R)∧Ob (b=b)∧Ob ((↑a.length:Int)=(↑a.length:Int))∧Ob (SV.v (Value.bool false)=SV.v (Value.bool false))∧Ob (b=b)∧Ob (SV.lst I c.length 8 (Rv.elemOf [.i64,.i64,.i64,.i64,.i64,.i64,.i64,.i64] c)=SV.lst I c.length 8 (Rv.elemOf [.i64,.i64,.i64,.i64,.i64,.i64,.i64,.i64] c))∧Ob (SV.lst G a.length 2 (Rv.elemOf I2 a)=SV.lst G a.length 2 (Rv.elemOf I2 a))∧Ob (l=l)∧Ob (u=u)∧Ob (h=h)∧Ob (t=t)∧Ob (E=E)∧Ob (s=s)∧Ob (o=o)∧Ob (v=v)∧Ob (D=D)∧Ob (d=d)∧Ob (y=y)∧Ob (n=n)∧Ob (k=k)∧Ob (A=A)∧Ob (C=C)∧Ob (w=w)∧Ob (x=x)∧Ob (r=r)∧Ob (q=q)∧Ob (f=f)∧Ob (g=g)∧Ob (m=m)∧Ob (p=p)∧Ob (e=e)∧Ob (z=z)∧Ob (i=i)∧Ob (j=j)∧Ob (R.b≤B.n+(7:Nat))∧LsA B I [.i64,.i64,.i64,.i64,.i64,.i64,.i64,.i64] c∧LsA B G I2 a∧True))∧(¬(↑F:Int) < (↑a.length:Int)→Ob (true=true↔(Bn.mk a l u h t E s o v D d y n k A C w x r q f g m p e z i j).safe b)∧True))
set_option linter.unusedSimpArgs false in
set_option maxRecDepth 4000 in
set_option maxHeartbeats 4000000 in
theorem v_isSafe:V_isSafe:=by
 unfold V_isSafe I2 LsA RwB
 intro B x T hx hox hrx y R hy hoy hry
 intro s1 s2 s3 s4 s5 s6 u1 u2 v1 v2 a1 a2 g1 g2 le mo w1 w2 lt gr t1 t2 t3 t4 t5 t6 nu ho
 intro ⟨hok,h0,h1⟩
 simp only [Ob_iff,and_true,true_and]
 refine⟨hy,?_⟩
 intro LR hR
 have hrl:=hok.r
 have hrl':R.length≤100:=hrl
 refine⟨T,⟨hx,rfl,hrx,fun _ _=>rfl⟩,R,⟨hy,rfl,hry,fun _ _=>rfl⟩,⟨hok,h0,h1⟩,?_⟩
 obtain⟨b,hb⟩:∃b,b=(Bn.mk R s1 s2 s3 s4 s5 s6 u1 u2 v1 v2 a1 a2 g1 g2 le mo w1 w2 lt gr t1 t2 t3 t4 t5 t6 nu):=⟨_,rfl⟩
 have hbR:b.R=R:=by rw [hb]
 simp only [← hb]
 refine⟨fun h2=>⟨fun h=>absurd h (by simp),fun h=>absurd h.1 h2⟩,fun h2=>?_⟩
 have h2:=Classical.not_not.1 h2
 refine⟨⟨0,⟨by omega,h2,fun p f hp=>by omega⟩,rfl,by omega,hx,hy⟩,?_⟩
 intro k ⟨hk,_,ha⟩
 intros
 refine⟨fun h3=>⟨⟨0,⟨by omega,fun f hf=>by omega⟩,rfl,by omega,hx,hy⟩,?_⟩,fun h3=>?_⟩
 ·have hk':k < R.length:=by omega
  intro j ⟨hj,hc⟩
  intros
  refine⟨fun h4=>⟨T,⟨hx,rfl,hrx,fun _ _=>rfl⟩,R,⟨hy,rfl,hry,fun _ _=>rfl⟩,⟨hok,h0,h1⟩,?_⟩,fun h4=>?_⟩
  ·try simp only [← hb]
   refine⟨fun h5=>⟨fun h=>absurd h (by simp),fun h=>absurd (h.2 k j (by rw [hbR]; exact hk') h4) h5⟩,fun h5=>?_⟩
   have h5:=Classical.not_not.1 h5
   exact⟨by simp only [InR]; omega,j+1,⟨⟨by omega,fun f hf=>by
    by_cases e:f=j
    ·subst e; exact h5
    ·exact hc f (by omega)⟩,by omega⟩,by omega,by omega,hx,hy⟩
  ·exact⟨by simp only [InR]; omega,k+1,⟨⟨by omega,h2,fun p f hp hf=>by
    by_cases e:p=k
    ·subst e; exact hc f (by omega)
    ·exact ha p f (by omega) hf⟩,by omega⟩,by omega,by omega,hx,hy⟩
 ·exact⟨fun _=>⟨h2,fun p f hp hf=>ha p f (by rw [hbR]at hp; omega) hf⟩,fun _=>trivial⟩
theorem e_isSafe:V_isSafe=needEI P [] [F_verdict] I_isSafe A_isSafe F_isSafe:=by kernel_rfl
theorem n_isSafe:Ob (needEI P [] [F_verdict] I_isSafe A_isSafe F_isSafe):=by
 rw [← e_isSafe]
 exact⟨v_isSafe⟩
theorem b_isSafe:((P.funcs[55]?).any fun fn=>fn.body.isSome)=true:=by kernel_rfl
theorem isSafe_ok:FnE.Ok P F_isSafe:=FnE.okI named (l:=[]) (es:=[F_verdict]) (I:=I_isSafe) (A:=A_isSafe) (by rfl) (by rfl) (by rfl) (by
 intro F h; simp at h) (by
 intro F h
 simp only [List.mem_cons,List.not_mem_nil,or_false]at h
 rcases h with rfl
 ·exact verdict_ok
) b_isSafe (by
 rintro ds h o ho n sz e k z rfl
 simp only [F_isSafe]at ho
 split at ho<;>simp at ho) n_isSafe
end Go.Proofs.Ytgoiegaobhfocaa.Sy
