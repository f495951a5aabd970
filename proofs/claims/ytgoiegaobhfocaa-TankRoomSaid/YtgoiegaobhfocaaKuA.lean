import Derived.Test.YtgoiegaobhfocaaSyP2
import Derived.Test.YtgoiegaobhfocaaGrM
import Derived.Test.YtgoiegaobhfocaaKtG
import Derived.Test.YtgoiegaobhfocaaKtH
import Derived.Test.YtgoiegaobhfocaaKtI
import Derived.Test.YtgoiegaobhfocaaSyP2
import Derived.KernelRfl
import Derived.Test.YtgoiegaobhfocaaProg
namespace Go.Proofs.Ytgoiegaobhfocaa.Sy
open Go Go.Rv
set_option linter.unusedVariables false
def flT (R:Rows) (nu sp sf h:Int):Nat→Int
 | 0=>0
 | k+1=>flT R nu sp sf h k+if cell R k 0=nu∧((k:Int)≠sp∨h < sf)then cell R k 1 else 0
theorem flT_bd {R:Rows} {nu sp sf h:Int}:∀ {k:Nat},(∀i,i < k→0≤cell R i 1∧cell R i 1≤100000)→0≤flT R nu sp sf h k∧flT R nu sp sf h k≤k*100000
 | 0,_=>by simp [flT]
 | k+1,hh=>by
  have ih:=flT_bd (R:=R) (nu:=nu) (sp:=sp) (sf:=sf) (h:=h) (k:=k) fun i hi=>hh i (by omega)
  have h1:=hh k (by omega)
  simp only [flT]
  split<;>omega
noncomputable def F_works:Fn0:=⟨83,[.agg [.i .i64,.i .i64],i64,i64],fun _=>True,fun l=>match l with | [.z sp,.z sf,.z pu,.z ho]=>.p (pu≠sp∨ho < sf) | _=>.v undef⟩
noncomputable def A_works:List SV→List Dat→Nat→List SV→Ann:=fun _ _ _ _=>noAnn
def V_works:Prop:=
 ∀(B:RW) (a d b c:Int),True→(¬¬b=a→Ob (c < d↔b≠a∨c < d)∧True)∧(¬b=a→Ob (true=true↔b≠a∨c < d)∧True)
set_option linter.unusedSimpArgs false in
set_option maxRecDepth 4000 in
set_option maxHeartbeats 400000 in
theorem v_works:V_works:=by
 unfold V_works
 intro B sp sf pu ho _
 simp only [Ob_iff,and_true,true_and]
 exact⟨fun h=>by have h:=Classical.not_not.1 h; omega,fun h=>⟨fun _=>.inl h,fun _=>trivial⟩⟩
theorem e_works:V_works=needF P [] A_works F_works:=by kernel_rfl
theorem n_works:Ob (needF P [] A_works F_works):=by
 rw [← e_works]
 exact⟨v_works⟩
theorem b_works:((P.funcs[83]?).any fun fn=>fn.body.isSome)=true:=by kernel_rfl
theorem works_ok:Fn0.Ok P F_works:=Fn0.ok named (l:=[]) (A:=A_works) (by rfl) (by
 intro F h; simp at h) b_works (by
 intro ds N
 simp only [F_works]
 split<;>rfl) n_works
noncomputable def F_flow:Fn0:=⟨65,[.agg [.l [.i64,.i64,.i64,.i64,.i64,.i64,.i64,.i64],.l [.i64,.i64],.i .i64,.i .i64,.i .i64,.i .i64,.i .i64,.i .i64,.i .i64,.i .i64,.i .i64,.i .i64,.i .i64,.i .i64,.i .i64,.i .i64,.i .i64,.i .i64,.i .i64,.i .i64,.i .i64,.i .i64,.i .i64,.i .i64,.i .i64,.i .i64,.i .i64,.i .i64,.i .i64],.agg [.i .i64,.i .i64],i64],fun l=>match l with | .l T :: .l R :: .z s1 :: .z s2 :: .z s3 :: .z s4 :: .z s5 :: .z s6 :: .z u1 :: .z u2 :: .z v1 :: .z v2 :: .z a1 :: .z a2 :: .z g1 :: .z g2 :: .z le :: .z mo :: .z w1 :: .z w2 :: .z lt :: .z gr :: .z t1 :: .z t2 :: .z t3 :: .z t4 :: .z t5 :: .z t6 :: .z nu :: .z sp :: .z sf :: .z ho :: []=>R.length≤100∧∀i,i < R.length→0≤cell R i 1∧cell R i 1≤100000 | _=>False,fun l=>match l with | .l T :: .l R :: .z s1 :: .z s2 :: .z s3 :: .z s4 :: .z s5 :: .z s6 :: .z u1 :: .z u2 :: .z v1 :: .z v2 :: .z a1 :: .z a2 :: .z g1 :: .z g2 :: .z le :: .z mo :: .z w1 :: .z w2 :: .z lt :: .z gr :: .z t1 :: .z t2 :: .z t3 :: .z t4 :: .z t5 :: .z t6 :: .z nu :: .z sp :: .z sf :: .z ho :: []=>.i .i64 (flT R nu sp sf ho R.length) | _=>.v undef⟩
noncomputable def A_flow:List SV→List Dat→Nat→List SV→Ann:=fun xs ds n ts=>match xs with
 | [.agg (.lst x _ _ _ :: .lst y _ _ _ :: _),.agg _,.i _ _]=>match ds with
  | .l T :: .l R :: .z s1 :: .z s2 :: .z s3 :: .z s4 :: .z s5 :: .z s6 :: .z u1 :: .z u2 :: .z v1 :: .z v2 :: .z a1 :: .z a2 :: .z g1 :: .z g2 :: .z le :: .z mo :: .z w1 :: .z w2 :: .z lt :: .z gr :: .z t1 :: .z t2 :: .z t3 :: .z t4 :: .z t5 :: .z t6 :: .z nu :: .z sp :: .z sf :: .z ho :: []=>match n with
   | 3=>⟨Nat,fun k=>([none,none,some (SV.i IntKind.i64 ho),some (SV.ptr ((0:Nat)) ((0:Nat))),some (SV.ptr ((1:Nat)) ((0:Nat))),none,some (SV.v (Value.int IntKind.i64 (0:Int))),some (.i .i64 (flT R nu sp sf ho k)),none,none,none,none,some (SV.lst y R.length ((2:Nat)) (Rv.elemOf [IntKind.i64,IntKind.i64] R)),some (SV.i IntKind.i64 (↑R.length:Int)),some (.i .i64 k)]++nN 21),fun k=>[SObj.cells [SV.i IntKind.i64 sp,SV.i IntKind.i64 sf] Kd.ex,SObj.cells [SV.lst x T.length ((8:Nat)) (Rv.elemOf [IntKind.i64,IntKind.i64,IntKind.i64,IntKind.i64,IntKind.i64,IntKind.i64,IntKind.i64,IntKind.i64] T),SV.lst y R.length ((2:Nat)) (Rv.elemOf [IntKind.i64,IntKind.i64] R),SV.i IntKind.i64 s1,SV.i IntKind.i64 s2,SV.i IntKind.i64 s3,SV.i IntKind.i64 s4,SV.i IntKind.i64 s5,SV.i IntKind.i64 s6,SV.i IntKind.i64 u1,SV.i IntKind.i64 u2,SV.i IntKind.i64 v1,SV.i IntKind.i64 v2,SV.i IntKind.i64 a1,SV.i IntKind.i64 a2,SV.i IntKind.i64 g1,SV.i IntKind.i64 g2,SV.i IntKind.i64 le,SV.i IntKind.i64 mo,SV.i IntKind.i64 w1,SV.i IntKind.i64 w2,SV.i IntKind.i64 lt,SV.i IntKind.i64 gr,SV.i IntKind.i64 t1,SV.i IntKind.i64 t2,SV.i IntKind.i64 t3,SV.i IntKind.i64 t4,SV.i IntKind.i64 t5,SV.i IntKind.i64 t6,SV.i IntKind.i64 nu] Kd.ex],fun k=>k≤R.length,fun k=>R.length-k,0⟩
   | _=>noAnn
  | _=>noAnn
 | _=>noAnn
def V_flow:Prop:=
 ∀(B:RW) (i:RV) (d:List (List Int)),IsLst B i d.length 8 (Rv.elemOf [.i64,.i64,.i64,.i64,.i64,.i64,.i64,.i64] d)→oneB i=true→(∀row∈d,row.length=8)→∀(c:RV) (a:List (List Int)),IsLst B c a.length 2 (Rv.elemOf I2 a)→oneB c=true→(∀row∈a,row.length=2)→∀(r A o z K y u C J k F t q H I D E x w m n s v l G p f e g h:Int),(a.length≤100∧∀(L:Nat),L < a.length→(0:Int)≤cell a L 1∧cell a L 1≤(100000:Int))→LsA B c I2 a∧(∃(b:Nat),Ob (b≤a.length)∧Ob (h=h)∧Ob (Value.int .i64 (0:Int)=Value.int .i64 (0:Int))∧Ob ((0:Int)=flT a f e g h b)∧Ob (SV.lst c a.length 2 (Rv.elemOf I2 a)=SV.lst c a.length 2 (Rv.elemOf I2 a))∧Ob ((↑a.length:Int)=(↑a.length:Int))∧Ob ((0:Int)=(↑b:Int))∧Ob (e=e)∧Ob (g=g)∧Ob (SV.lst i d.length 8 (Rv.elemOf [.i64,.i64,.i64,.i64,.i64,.i64,.i64,.i64] d)=SV.lst i d.length 8 (Rv.elemOf [.i64,.i64,.i64,.i64,.i64,.i64,.i64,.i64] d))∧Ob (SV.lst c a.length 2 (Rv.elemOf I2 a)=SV.lst c a.length 2 (Rv.elemOf I2 a))∧Ob (r=r)∧Ob (A=A)∧Ob (o=o)∧Ob (z=z)∧Ob (K=K)∧Ob (y=y)∧Ob (u=u)∧Ob (C=C)∧Ob (J=J)∧Ob (k=k)∧Ob (F=F)∧Ob (t=t)∧Ob (q=q)∧Ob (H=H)∧Ob (I=I)∧Ob (D=D)∧Ob (E=E)∧Ob (x=x)∧Ob (w=w)∧Ob (m=m)∧Ob (n=n)∧Ob (s=s)∧Ob (v=v)∧Ob (l=l)∧Ob (G=G)∧Ob (p=p)∧Ob (f=f)∧LsA B c I2 a∧LsA B i [.i64,.i64,.i64,.i64,.i64,.i64,.i64,.i64] d∧LsA B c I2 a∧True)∧∀(b:Nat),b≤a.length→∀(_ _ _ _ _ _ _ _ _ _ _ _ _ _ _ _ _ _ _ _ _ _ _ _ _ _ _ _:Value),((↑b:Int) < (↑a.length:Int)→Ob ((0:Int)≤(↑b:Int)∧b < a.length∧IsLst B c a.length 2 (Rv.elemOf I2 a))∧Ob (IsLst B c a.length 2 (Rv.elemOf I2 a)∧b < a.length)∧(cell a b 0=f→Ob True∧((↑b:Int)≠e∨h < g→Ob (InR .i64 (flT a f e g h b+cell a b 1))∧Ob (InR .i64 ((↑b:Int)+(1:Int)))∧∃(j:Nat),Ob (j≤a.length∧a.length-j < a.length-b)∧Ob (h=h)∧Ob (Value.int .i64 (0:Int)=Value.int .i64 (0:Int))∧Ob (flT a f e g h b+cell a b 1=flT a f e g h j)∧Ob (SV.lst c a.length 2 (Rv.elemOf I2 a)=SV.lst c a.length 2 (Rv.elemOf I2 a))∧Ob ((↑a.length:Int)=(↑a.length:Int))∧Ob ((↑b:Int)+(1:Int)=(↑j:Int))∧Ob (e=e)∧Ob (g=g)∧Ob (SV.lst i d.length 8 (Rv.elemOf [.i64,.i64,.i64,.i64,.i64,.i64,.i64,.i64] d)=SV.lst i d.length 8 (Rv.elemOf [.i64,.i64,.i64,.i64,.i64,.i64,.i64,.i64] d))∧Ob (SV.lst c a.length 2 (Rv.elemOf I2 a)=SV.lst c a.length 2 (Rv.elemOf I2 a))∧Ob (r=r)∧Ob (A=A)∧Ob (o=o)∧Ob (z=z)∧Ob (K=K)∧Ob (y=y)∧Ob (u=u)∧Ob (C=C)∧Ob (J=J)∧Ob (k=k)∧Ob (F=F)∧Ob (t=t)∧Ob (q=q)∧Ob (H=H)∧Ob (I=I)∧Ob (D=D)∧Ob (E=E)∧Ob (x=x)∧Ob (w=w)∧Ob (m=m)∧Ob (n=n)∧Ob (s=s)∧Ob (v=v)∧Ob (l=l)∧Ob (G=G)∧Ob (p=p)∧Ob (f=f)∧LsA B c I2 a∧LsA B i [.i64,.i64,.i64,.i64,.i64,.i64,.i64,.i64] d∧LsA B c I2 a∧True)∧(¬((↑b:Int)≠e∨h < g)→Ob (InR .i64 ((↑b:Int)+(1:Int)))∧∃(j:Nat),Ob (j≤a.length∧a.length-j < a.length-b)∧Ob (h=h)∧Ob (Value.int .i64 (0:Int)=Value.int .i64 (0:Int))∧Ob (flT a f e g h b=flT a f e g h j)∧Ob (SV.lst c a.length 2 (Rv.elemOf I2 a)=SV.lst c a.length 2 (Rv.elemOf I2 a))∧Ob ((↑a.length:Int)=(↑a.length:Int))∧Ob ((↑b:Int)+(1:Int)=(↑j:Int))∧Ob (e=e)∧Ob (g=g)∧Ob (SV.lst i d.length 8 (Rv.elemOf [.i64,.i64,.i64,.i64,.i64,.i64,.i64,.i64] d)=SV.lst i d.length 8 (Rv.elemOf [.i64,.i64,.i64,.i64,.i64,.i64,.i64,.i64] d))∧Ob (SV.lst c a.length 2 (Rv.elemOf I2 a)=SV.lst c a.length 2 (Rv.elemOf I2 a))∧Ob (r=r)∧Ob (A=A)∧Ob (o=o)∧Ob (z=z)∧Ob (K=K)∧Ob (y=y)∧Ob (u=u)∧Ob (C=C)∧Ob (J=J)∧Ob (k=k)∧Ob (F=F)∧Ob (t=t)∧Ob (q=q)∧Ob (H=H)∧Ob (I=I)∧Ob (D=D)∧Ob (E=E)∧Ob (x=x)∧Ob (w=w)∧Ob (m=m)∧Ob (n=n)∧Ob (s=s)∧Ob (v=v)∧Ob (l=l)∧Ob (G=G)∧Ob (p=p)∧Ob (f=f)∧LsA B c I2 a∧LsA B i [.i64,.i64,.i64,.i64,.i64,.i64,.i64,.i64] d∧LsA B c I2 a∧True))∧(¬cell a b 0=f→Ob (InR .i64 ((↑b:Int)+(1:Int)))∧∃(j:Nat),Ob (j≤a.length∧a.length-j < a.length-b)∧Ob (h=h)∧Ob (Value.int .i64 (0:Int)=Value.int .i64 (0:Int))∧Ob (flT a f e g h b=flT a f e g h j)∧Ob (SV.lst c a.length 2 (Rv.elemOf I2 a)=SV.lst c a.length 2 (Rv.elemOf I2 a))∧Ob ((↑a.length:Int)=(↑a.length:Int))∧Ob ((↑b:Int)+(1:Int)=(↑j:Int))∧Ob (e=e)∧Ob (g=g)∧Ob (SV.lst i d.length 8 (Rv.elemOf [.i64,.i64,.i64,.i64,.i64,.i64,.i64,.i64] d)=SV.lst i d.length 8 (Rv.elemOf [.i64,.i64,.i64,.i64,.i64,.i64,.i64,.i64] d))∧Ob (SV.lst c a.length 2 (Rv.elemOf I2 a)=SV.lst c a.length 2 (Rv.elemOf I2 a))∧Ob (r=r)∧Ob (A=A)∧Ob (o=o)∧Ob (z=z)∧Ob (K=K)∧Ob (y=y)∧Ob (u=u)∧Ob (C=C)∧Ob (J=J)∧Ob (k=k)∧Ob (F=F)∧Ob (t=t)∧Ob (q=q)∧Ob (H=H)∧Ob (I=I)∧Ob (D=D)∧Ob (E=E)∧Ob (x=x)∧Ob (w=w)∧Ob (m=m)∧Ob (n=n)∧Ob (s=s)∧Ob (v=v)∧Ob (l=l)∧Ob (G=G)∧Ob (p=p)∧Ob (f=f)∧LsA B c I2 a∧LsA B i [.i64,.i64,.i64,.i64,.i64,.i64,.i64,.i64] d∧LsA B c I2 a∧True))∧(¬(↑b:Int) < (↑a.length:Int)→Ob (flT a f e g h b=flT a f e g h a.length)∧True)
set_option linter.unusedSimpArgs false in
set_option maxRecDepth 4000 in
set_option maxHeartbeats 2000000 in
theorem v_flow:V_flow:=by
 unfold V_flow I2 LsA
 intro B x T hx hox hrx y R hy hoy hry
 intro s1 s2 s3 s4 s5 s6 u1 u2 v1 v2 a1 a2 g1 g2 le mo w1 w2 lt gr t1 t2 t3 t4 t5 t6 nu sp sf ho
 intro ⟨hl,hc⟩
 simp only [Ob_iff,and_true,true_and]
 refine⟨hy,⟨0,by omega,rfl,rfl,hy,hx,hy⟩,?_⟩
 intro k hk
 intros
 refine⟨fun h1=>?_,fun h1=>?_⟩
 ·have hk':k < R.length:=by omega
  have hb:=flT_bd (R:=R) (nu:=nu) (sp:=sp) (sf:=sf) (h:=ho) (k:=k) fun i hi=>hc i (by omega)
  have c:=hc k hk'
  have r1:InR .i64 ((k:Int)+1):=by simp only [InR]; omega
  refine⟨⟨by omega,hk',hy⟩,⟨hy,hk'⟩,fun h2=>⟨fun h3=>?_,fun h3=>?_⟩,fun h2=>?_⟩
  ·exact⟨by simp only [InR]; omega,r1,k+1,⟨hk',by omega⟩,by simp only [flT]; rw [if_pos ⟨h2,h3⟩],by omega,hy,hx,hy⟩
  ·exact⟨r1,k+1,⟨hk',by omega⟩,by simp only [flT]; rw [if_neg fun h=>h3 h.2]; omega,by omega,hy,hx,hy⟩
  ·exact⟨r1,k+1,⟨hk',by omega⟩,by simp only [flT]; rw [if_neg fun h=>h2 h.1]; omega,by omega,hy,hx,hy⟩
 have e:k=R.length:=by omega
 rw [e]
theorem e_flow:V_flow=needF P [F_works] A_flow F_flow:=by kernel_rfl
theorem n_flow:Ob (needF P [F_works] A_flow F_flow):=by
 rw [← e_flow]
 exact⟨v_flow⟩
theorem b_flow:((P.funcs[65]?).any fun fn=>fn.body.isSome)=true:=by kernel_rfl
theorem flow_ok:Fn0.Ok P F_flow:=Fn0.ok named (l:=[F_works]) (A:=A_flow) (by rfl) (by
 intro F h
 simp only [List.mem_cons,List.not_mem_nil,or_false]at h
 rcases h with rfl
 ·exact works_ok
) b_flow (by
 intro ds N
 simp only [F_flow]
 split<;>rfl) n_flow
noncomputable def F_keeps:Fn0:=⟨88,[.agg [.l [.i64,.i64,.i64,.i64,.i64,.i64,.i64,.i64],.l [.i64,.i64],.i .i64,.i .i64,.i .i64,.i .i64,.i .i64,.i .i64,.i .i64,.i .i64,.i .i64,.i .i64,.i .i64,.i .i64,.i .i64,.i .i64,.i .i64,.i .i64,.i .i64,.i .i64,.i .i64,.i .i64,.i .i64,.i .i64,.i .i64,.i .i64,.i .i64,.i .i64,.i .i64],.agg [.i .i64,.i .i64,.i .i64,.i .i64,.i .i64,.i .i64]],fun _=>True,fun l=>match l with | .l T :: .l R :: .z s1 :: .z s2 :: .z s3 :: .z s4 :: .z s5 :: .z s6 :: .z u1 :: .z u2 :: .z v1 :: .z v2 :: .z a1 :: .z a2 :: .z g1 :: .z g2 :: .z le :: .z mo :: .z w1 :: .z w2 :: .z lt :: .z gr :: .z t1 :: .z t2 :: .z t3 :: .z t4 :: .z t5 :: .z t6 :: .z nu :: .z n1 :: .z n2 :: .z n3 :: .z n4 :: .z n5 :: .z n6 :: []=>.p (le≤n1∧n4≤mo∧w1≤n5∧n6≤w2) | _=>.v undef⟩
noncomputable def A_keeps:List SV→List Dat→Nat→List SV→Ann:=fun _ _ _ _=>noAnn
def V_keeps:Prop:=
 ∀(B:RW) (k:RV) (i:List (List Int)),IsLst B k i.length 8 (Rv.elemOf [.i64,.i64,.i64,.i64,.i64,.i64,.i64,.i64] i)→oneB k=true→(∀row∈i,row.length=8)→∀(l:RV) (j:List (List Int)),IsLst B l j.length 2 (Rv.elemOf I2 j)→oneB l=true→(∀row∈j,row.length=2)→∀(u E q D L C x F K m G w t J f c d h z o p v y n I r s a A H e b g:Int),True→(f≤a→(e≤c→(d≤b→Ob (g≤h↔f≤a∧e≤c∧d≤b∧g≤h)∧True)∧(¬d≤b→Ob (false=true↔f≤a∧e≤c∧d≤b∧g≤h)∧True))∧(¬e≤c→Ob (false=true↔f≤a∧e≤c∧d≤b∧g≤h)∧True))∧(¬f≤a→Ob (false=true↔f≤a∧e≤c∧d≤b∧g≤h)∧True)
set_option linter.unusedSimpArgs false in
set_option maxRecDepth 4000 in
set_option maxHeartbeats 400000 in
theorem v_keeps:V_keeps:=by
 unfold V_keeps I2
 intros
 simp only [Ob_iff,and_true,true_and,true_iff,Bool.false_eq_true,false_iff]
 omega
theorem e_keeps:V_keeps=needF P [] A_keeps F_keeps:=by kernel_rfl
theorem n_keeps:Ob (needF P [] A_keeps F_keeps):=by
 rw [← e_keeps]
 exact⟨v_keeps⟩
theorem b_keeps:((P.funcs[88]?).any fun fn=>fn.body.isSome)=true:=by kernel_rfl
theorem keeps_ok:Fn0.Ok P F_keeps:=Fn0.ok named (l:=[]) (A:=A_keeps) (by rfl) (by
 intro F h; simp at h) b_keeps (by
 intro ds N
 simp only [F_keeps]
 split<;>rfl) n_keeps
noncomputable def F_breaks:Fn0:=⟨87,[.agg [.l [.i64,.i64,.i64,.i64,.i64,.i64,.i64,.i64],.l [.i64,.i64],.i .i64,.i .i64,.i .i64,.i .i64,.i .i64,.i .i64,.i .i64,.i .i64,.i .i64,.i .i64,.i .i64,.i .i64,.i .i64,.i .i64,.i .i64,.i .i64,.i .i64,.i .i64,.i .i64,.i .i64,.i .i64,.i .i64,.i .i64,.i .i64,.i .i64,.i .i64,.i .i64],.agg [.i .i64,.i .i64,.i .i64,.i .i64,.i .i64,.i .i64]],fun _=>True,fun l=>match l with | .l T :: .l R :: .z s1 :: .z s2 :: .z s3 :: .z s4 :: .z s5 :: .z s6 :: .z u1 :: .z u2 :: .z v1 :: .z v2 :: .z a1 :: .z a2 :: .z g1 :: .z g2 :: .z le :: .z mo :: .z w1 :: .z w2 :: .z lt :: .z gr :: .z t1 :: .z t2 :: .z t3 :: .z t4 :: .z t5 :: .z t6 :: .z nu :: .z n1 :: .z n2 :: .z n3 :: .z n4 :: .z n5 :: .z n6 :: []=>.p (n2 < le∨mo < n3∨n6 < w1∨w2 < n5) | _=>.v undef⟩
noncomputable def A_breaks:List SV→List Dat→Nat→List SV→Ann:=fun _ _ _ _=>noAnn
def V_breaks:Prop:=
 ∀(B:RW) (k:RV) (i:List (List Int)),IsLst B k i.length 8 (Rv.elemOf [.i64,.i64,.i64,.i64,.i64,.i64,.i64,.i64] i)→oneB k=true→(∀row∈i,row.length=8)→∀(l:RV) (j:List (List Int)),IsLst B l j.length 2 (Rv.elemOf I2 j)→oneB l=true→(∀row∈j,row.length=2)→∀(v E r D L C y F K m G x u I f c d h A p q w z o H s t n b e J g a:Int),True→(¬b < f→(¬c < e→(¬a < d→Ob (h < g↔b < f∨c < e∨a < d∨h < g)∧True)∧(a < d→Ob (true=true↔b < f∨c < e∨a < d∨h < g)∧True))∧(c < e→Ob (true=true↔b < f∨c < e∨a < d∨h < g)∧True))∧(b < f→Ob (true=true↔b < f∨c < e∨a < d∨h < g)∧True)
set_option linter.unusedSimpArgs false in
set_option maxRecDepth 4000 in
set_option maxHeartbeats 400000 in
theorem v_breaks:V_breaks:=by
 unfold V_breaks I2
 intros
 simp only [Ob_iff,and_true,true_and,true_iff,Bool.false_eq_true,false_iff]
 omega
theorem e_breaks:V_breaks=needF P [] A_breaks F_breaks:=by kernel_rfl
theorem n_breaks:Ob (needF P [] A_breaks F_breaks):=by
 rw [← e_breaks]
 exact⟨v_breaks⟩
theorem b_breaks:((P.funcs[87]?).any fun fn=>fn.body.isSome)=true:=by kernel_rfl
theorem breaks_ok:Fn0.Ok P F_breaks:=Fn0.ok named (l:=[]) (A:=A_breaks) (by rfl) (by
 intro F h; simp at h) b_breaks (by
 intro ds N
 simp only [F_breaks]
 split<;>rfl) n_breaks
noncomputable def F_endsOf:FnE:=⟨63,none,[.agg [.i .i64,.i .i64,.i .i64,.i .i64,.i .i64,.i .i64]],fun _=>True,fun l=>match l with | [.z n1,.z n2,.z n3,.z n4,.z n5,.z n6]=>[.agg [.i .i64 n1,.i .i64 n2,.i .i64 n3,.i .i64 n4,.i .i64 n5,.i .i64 n6]] | _=>[],fun l=>match l with | [.z n1,.z n2,.z n3,.z n4,.z n5,.z n6]=>[] | _=>[],fun l=>match l with | [.z n1,.z n2,.z n3,.z n4,.z n5,.z n6]=>[] | _=>[],false,none,none⟩
noncomputable def A_endsOf:List SV→List Dat→Nat→List SV→Ann:=fun xs ds n ts=>match xs with
 | [.agg _]=>match ds with
  | [.z n1,.z n2,.z n3,.z n4,.z n5,.z n6]=>match n with
   | 3=>⟨Unit,fun _=>[],fun _=>[],fun _=>True,fun _=>0,4⟩
   | _=>noAnn
  | _=>noAnn
 | _=>noAnn
noncomputable def A_endsOf_1:List SV→List Dat→List SV→List SObj→Nat→List SV→Ann:=fun _ _ _ _ _ _=>noAnn
noncomputable def I_endsOf:List SV→List Dat→List In:=fun xs ds=>[⟨77,A_endsOf_1 xs ds⟩]
def V_endsOf:Prop:=
 ∀(B:RW) (e d c b f a:Int),F_endsOf.pre ([Dat.z e,Dat.z d,Dat.z c,Dat.z b,Dat.z f,Dat.z a]++[])→Ob True∧Ob True∧Ob True∧Ob True∧Ob True∧Ob True∧Ob (e=e)∧Ob (d=d)∧Ob (c=c)∧Ob (b=b)∧Ob (f=f)∧Ob (a=a)∧True
set_option linter.unusedSimpArgs false in
set_option maxRecDepth 4000 in
set_option maxHeartbeats 400000 in
theorem v_endsOf:V_endsOf:=by
 unfold V_endsOf
 intros
 simp only [Ob_iff,and_self]
theorem e_endsOf:V_endsOf=needEI P [F_nothing,F_ofO,F_loadO,F_givenO,F_ofA,F_loadA,F_ofW,F_givenW,F_bothEnds] [] I_endsOf A_endsOf F_endsOf:=by kernel_rfl
theorem n_endsOf:Ob (needEI P [F_nothing,F_ofO,F_loadO,F_givenO,F_ofA,F_loadA,F_ofW,F_givenW,F_bothEnds] [] I_endsOf A_endsOf F_endsOf):=by
 rw [← e_endsOf]
 exact⟨v_endsOf⟩
theorem b_endsOf:((P.funcs[63]?).any fun fn=>fn.body.isSome)=true:=by kernel_rfl
theorem endsOf_ok:FnE.Ok P F_endsOf:=FnE.okI named (l:=[F_nothing,F_ofO,F_loadO,F_givenO,F_ofA,F_loadA,F_ofW,F_givenW,F_bothEnds]) (es:=[]) (I:=I_endsOf) (A:=A_endsOf) (by rfl) (by rfl) (by rfl) (by
 intro F h
 simp only [List.mem_cons,List.not_mem_nil,or_false]at h
 rcases h with rfl | rfl | rfl | rfl | rfl | rfl | rfl | rfl | rfl
 ·exact nothing_ok
 ·exact ofO_ok
 ·exact loadO_ok
 ·exact givenO_ok
 ·exact ofA_ok
 ·exact loadA_ok
 ·exact ofW_ok
 ·exact givenW_ok
 ·exact bothEnds_ok
) (by
 intro F h; simp at h) b_endsOf (by
 rintro ds h o ho n sz e k z rfl
 simp only [F_endsOf]at ho
 split at ho<;>simp at ho) n_endsOf
end Go.Proofs.Ytgoiegaobhfocaa.Sy
