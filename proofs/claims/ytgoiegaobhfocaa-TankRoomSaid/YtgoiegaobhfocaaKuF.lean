import Derived.Test.YtgoiegaobhfocaaSyP2
import Derived.Test.YtgoiegaobhfocaaGrM
import Derived.Test.YtgoiegaobhfocaaKtG
import Derived.Test.YtgoiegaobhfocaaKtH
import Derived.Test.YtgoiegaobhfocaaKtI
import Derived.Test.YtgoiegaobhfocaaKuA
import Derived.Test.YtgoiegaobhfocaaKuB
import Derived.Test.YtgoiegaobhfocaaKuC
import Derived.Test.YtgoiegaobhfocaaKuD
import Derived.Test.YtgoiegaobhfocaaKuE
import Derived.Test.YtgoiegaobhfocaaSyP2
import Derived.KernelRfl
import Derived.Test.YtgoiegaobhfocaaProg
namespace Go.Proofs.Ytgoiegaobhfocaa.Sy
open Go Go.Rv
set_option linter.unusedVariables false
def tkB (T R:Rows) (s1 s2 s3 s4 s5 s6 u1 u2 v1 v2 a1 a2 g1 g2 le mo w1 w2 tk:Int):Bn:=Bn.mk R s1 s2 s3 s4 s5 s6 u1 u2 v1 v2 a1 a2 g1 g2 le mo w1 w2 (cell T tk.toNat 0) (cell T tk.toNat 1) (cell T tk.toNat 2) (cell T tk.toNat 3) (cell T tk.toNat 4) (cell T tk.toNat 5) (cell T tk.toNat 6) (cell T tk.toNat 7) tk
noncomputable def roomR (b:Bn) (H:Int):Int:=(roomC (fun g=>(b.wg g).safe H) 10000001:Nat)
noncomputable def roomV (b:Bn) (H:Int):Int:=if roomR b H=0 then 0 else roomR b H-1
noncomputable def roomE (b:Bn) (H:Int):Int:=if roomR b H=0 then 6 else 0
structure SrI where
 i:Nat
 j:Nat
structure SrOk (b:Bn) (H:Int) (v:SrI):Prop where
 l:v.i≤v.j∧v.j≤10000001
 s:∀g:Nat,g < v.i→(b.wg g).safe H
 n:∀g:Nat,v.j≤g→g < 10000001→¬ (b.wg g).safe H
theorem Bn.Ok.wg {b:Bn} (hb:b.Ok) {g:Int} (hg:0≤g∧g≤10000000):(b.wg g).Ok:=⟨hb.l,hg,hb.x,hb.r,hb.f,hb.s⟩
theorem tkB_ok {T R:Rows} {s1 s2 s3 s4 s5 s6 u1 u2 v1 v2 a1 a2 g1 g2 le mo w1 w2 tk:Int} (h:(Pl.mk T R s1 s2 s3 s4 s5 s6 u1 u2 v1 v2 a1 a2 g1 g2 le mo w1 w2).Ok) (h0:0≤tk∧tk < T.length):(tkB T R s1 s2 s3 s4 s5 s6 u1 u2 v1 v2 a1 a2 g1 g2 le mo w1 w2 tk).Ok∧(tkB T R s1 s2 s3 s4 s5 s6 u1 u2 v1 v2 a1 a2 g1 g2 le mo w1 w2 tk).Sgn:=by
 obtain⟨t,rfl⟩:=Int.eq_ofNat_of_zero_le h0.1
 have ht:t < T.length:=by omega
 have k:TkOk T t:=h.t t ht
 obtain⟨⟨⟨q1,q2,q3⟩,⟨q4,q5,q6⟩,⟨q7,q8,q9⟩⟩⟩:WaOk s1 s2 s3 s4 s5 s6∧True:=⟨h.s,trivial⟩
 obtain⟨p1,p2,p3⟩:SpOk u1 u2 0 100000:=h.u
 obtain⟨p4,p5,p6⟩:SpOk v1 v2 0 100000:=h.v
 obtain⟨p7,p8,p9⟩:SpOk a1 a2 0 100000:=h.a
 obtain⟨o1,o2,o3⟩:SpOk g1 g2 (-400) 400:=h.g
 have kl:=k.l
 have kg:=k.g
 obtain⟨⟨r1,r2,r3⟩,⟨r4,r5,r6⟩,⟨r7,r8,r9⟩⟩:=k.w
 refine⟨⟨kl,kg,?_,?_,?_,h.f t ht⟩,⟨p1,by show(0:Int)≤u2; omega⟩,⟨p4,by show(0:Int)≤v2; omega⟩⟩
 ·intro x hx
  simp only [tkB,Int.toNat_natCast,List.mem_cons,List.not_mem_nil,or_false]at hx
  rcases hx with rfl | rfl | rfl | rfl | rfl | rfl | rfl | rfl | rfl | rfl | rfl | rfl | rfl | rfl | rfl | rfl | rfl | rfl | rfl | rfl | rfl | rfl | rfl<;>(refine⟨?_,?_⟩<;>(try simp only [Int.toNat_natCast])<;>omega)
 ·have hm:R.length≤8:=h.m
  show R.length≤100
  omega
 ·exact fun i hi=>(h.r i hi).2
theorem mid_eq {i j:Nat} (h:j≤10000001) (hij:i≤j):IntKind.u64.wrap ((i:Int)+(j:Int)) / (2:Int) ^ (1:Nat)=((i+j) / 2:Nat):=by
 have e:IntKind.u64.wrap ((i:Int)+(j:Int))=((i+j:Nat):Int):=by
  rw [← Int.natCast_add]
  exact wrap_of (by omega) (by omega)
 rw [e]
 simp
theorem SrOk.up {b:Bn} {H:Int} {v:SrI} (hb:b.Ok) (hs:b.Sgn) (hH:0≤H) (h:SrOk b H v) (hlt:v.i < v.j) (hm:(b.wg (((v.i+v.j) / 2:Nat):Int)).safe H):SrOk b H ⟨(v.i+v.j) / 2+1,v.j⟩:=by
 have hl:=h.l
 exact⟨⟨by show(v.i+v.j) / 2+1≤v.j; omega,hl.2⟩,fun g hg=>Bn.safe_mono hb hs (by have:g < (v.i+v.j) / 2+1:=hg; omega) hH hm,h.n⟩
theorem SrOk.dn {b:Bn} {H:Int} {v:SrI} (hb:b.Ok) (hs:b.Sgn) (hH:0≤H) (h:SrOk b H v) (hlt:v.i < v.j) (hm:¬ (b.wg (((v.i+v.j) / 2:Nat):Int)).safe H):SrOk b H ⟨v.i,(v.i+v.j) / 2⟩:=by
 have hl:=h.l
 exact⟨⟨by show v.i≤(v.i+v.j) / 2; omega,by show(v.i+v.j) / 2≤10000001; omega⟩,h.s,fun g hg _ hsf=>hm (Bn.safe_mono hb hs (by have:(v.i+v.j) / 2≤g:=hg; omega) hH hsf)⟩
theorem SrOk.fin {b:Bn} {H:Int} {v:SrI} (h:SrOk b H v) (he:¬ v.i < v.j):roomR b H=v.i:=by
 have hl:=h.l
 unfold roomR
 rw [roomC_is (r:=v.i) (by omega) fun g hg=>⟨fun hs=>Classical.byContradiction fun hc=>h.n g (by omega) hg hs,fun hgi=>h.s g hgi⟩]
noncomputable def F_Room:FnE:=⟨23,none,[.agg [.l [.i64,.i64,.i64,.i64,.i64,.i64,.i64,.i64],.l [.i64,.i64],.i .i64,.i .i64,.i .i64,.i .i64,.i .i64,.i .i64,.i .i64,.i .i64,.i .i64,.i .i64,.i .i64,.i .i64,.i .i64,.i .i64,.i .i64,.i .i64,.i .i64,.i .i64],i64,i64],fun l=>match l with | .l T :: .l R :: .z s1 :: .z s2 :: .z s3 :: .z s4 :: .z s5 :: .z s6 :: .z u1 :: .z u2 :: .z v1 :: .z v2 :: .z a1 :: .z a2 :: .z g1 :: .z g2 :: .z le :: .z mo :: .z w1 :: .z w2 :: .z tk :: .z ho :: []=>(Pl.mk T R s1 s2 s3 s4 s5 s6 u1 u2 v1 v2 a1 a2 g1 g2 le mo w1 w2).Ok∧(0≤tk∧tk < T.length)∧0≤ho∧ho≤48 | _=>False,fun l=>match l with | .l T :: .l R :: .z s1 :: .z s2 :: .z s3 :: .z s4 :: .z s5 :: .z s6 :: .z u1 :: .z u2 :: .z v1 :: .z v2 :: .z a1 :: .z a2 :: .z g1 :: .z g2 :: .z le :: .z mo :: .z w1 :: .z w2 :: .z tk :: .z ho :: []=>[.i .i64 (roomV (tkB T R s1 s2 s3 s4 s5 s6 u1 u2 v1 v2 a1 a2 g1 g2 le mo w1 w2 tk) ho),.i .i64 (roomE (tkB T R s1 s2 s3 s4 s5 s6 u1 u2 v1 v2 a1 a2 g1 g2 le mo w1 w2 tk) ho)] | _=>[],fun l=>match l with | .l T :: .l R :: .z s1 :: .z s2 :: .z s3 :: .z s4 :: .z s5 :: .z s6 :: .z u1 :: .z u2 :: .z v1 :: .z v2 :: .z a1 :: .z a2 :: .z g1 :: .z g2 :: .z le :: .z mo :: .z w1 :: .z w2 :: .z tk :: .z ho :: []=>[] | _=>[],fun l=>match l with | .l T :: .l R :: .z s1 :: .z s2 :: .z s3 :: .z s4 :: .z s5 :: .z s6 :: .z u1 :: .z u2 :: .z v1 :: .z v2 :: .z a1 :: .z a2 :: .z g1 :: .z g2 :: .z le :: .z mo :: .z w1 :: .z w2 :: .z tk :: .z ho :: []=>[] | _=>[],false,none,none⟩
noncomputable def A_Room:List SV→List Dat→Nat→List SV→Ann:=fun _ _ _ _=>noAnn
noncomputable def A_Room_1:List SV→List Dat→List SV→List SObj→Nat→List SV→Ann:=fun xs ds ar bs n ts=>match xs with
 | [.agg (.lst x _ _ _ :: .lst y _ _ _ :: _),.i _ _,.i _ _]=>match ds with
  | .l T :: .l R :: .z s1 :: .z s2 :: .z s3 :: .z s4 :: .z s5 :: .z s6 :: .z u1 :: .z u2 :: .z v1 :: .z v2 :: .z a1 :: .z a2 :: .z g1 :: .z g2 :: .z le :: .z mo :: .z w1 :: .z w2 :: .z tk :: .z ho :: []=>match n with
   | 2=>⟨SrI,fun v=>([none,some (SV.fv ((54:Nat)) [(0:Nat),(1:Nat),(2:Nat)]),none,none,some (SV.v (Value.int IntKind.i64 (0:Int))),some (.i .i64 v.i),some (.i .i64 v.j)]++nN 19),fun v=>[SObj.cells [SV.i IntKind.i64 ho] Kd.ex,SObj.cells [SV.i IntKind.i64 tk] Kd.ex,SObj.cells [SV.lst x T.length ((8:Nat)) (Rv.elemOf [IntKind.i64,IntKind.i64,IntKind.i64,IntKind.i64,IntKind.i64,IntKind.i64,IntKind.i64,IntKind.i64] T),SV.lst y R.length ((2:Nat)) (Rv.elemOf [IntKind.i64,IntKind.i64] R),SV.i IntKind.i64 s1,SV.i IntKind.i64 s2,SV.i IntKind.i64 s3,SV.i IntKind.i64 s4,SV.i IntKind.i64 s5,SV.i IntKind.i64 s6,SV.i IntKind.i64 u1,SV.i IntKind.i64 u2,SV.i IntKind.i64 v1,SV.i IntKind.i64 v2,SV.i IntKind.i64 a1,SV.i IntKind.i64 a2,SV.i IntKind.i64 g1,SV.i IntKind.i64 g2,SV.i IntKind.i64 le,SV.i IntKind.i64 mo,SV.i IntKind.i64 w1,SV.i IntKind.i64 w2] Kd.ex],fun v=>SrOk (tkB T R s1 s2 s3 s4 s5 s6 u1 u2 v1 v2 a1 a2 g1 g2 le mo w1 w2 tk) ho v,fun v=>v.j-v.i,0⟩
   | _=>noAnn
  | _=>noAnn
 | _=>noAnn
noncomputable def A_Room_2:List SV→List Dat→List SV→List SObj→Nat→List SV→Ann:=fun _ _ _ _ _ _=>noAnn
noncomputable def A_Room_3:List SV→List Dat→List SV→List SObj→Nat→List SV→Ann:=fun _ _ _ _ _ _=>noAnn
noncomputable def I_Room:List SV→List Dat→List In:=fun xs ds=>[⟨53,A_Room_1 xs ds⟩,⟨54,A_Room_2 xs ds⟩,⟨37,A_Room_3 xs ds⟩]
def V_Room:Prop:=
 ∀(B:RW) (x:RV) (a:List (List Int)),IsLst B x a.length 8 (Rv.elemOf [.i64,.i64,.i64,.i64,.i64,.i64,.i64,.i64] a)→oneB x=true→(∀row∈a,row.length=8)→∀(y:RV) (d:List (List Int)),IsLst B y d.length 2 (Rv.elemOf I2 d)→oneB y=true→(∀row∈d,row.length=2)→∀(i o g n w m k p v f s j h t u q r l b e:Int),F_Room.pre ([Dat.l a,Dat.l d,Dat.z i,Dat.z o,Dat.z g,Dat.z n,Dat.z w,Dat.z m,Dat.z k,Dat.z p,Dat.z v,Dat.z f,Dat.z s,Dat.z j,Dat.z h,Dat.z t,Dat.z u,Dat.z q,Dat.z r,Dat.z l]++([Dat.z b]++([Dat.z e]++[])))→RwB B x a.length 8 [.i64,.i64,.i64,.i64,.i64,.i64,.i64,.i64] a fun D=>RwB B y d.length 2 I2 d fun E=>Ob (F_Check.pre ([Dat.l D,Dat.l E,Dat.z i,Dat.z o,Dat.z g,Dat.z n,Dat.z w,Dat.z m,Dat.z k,Dat.z p,Dat.z v,Dat.z f,Dat.z s,Dat.z j,Dat.z h,Dat.z t,Dat.z u,Dat.z q,Dat.z r,Dat.z l]++[]))∧(¬(0:Int)=(0:Int)→Ob ((0:Int)=roomV (tkB a d i o g n w m k p v f s j h t u q r l b) e)∧Ob ((0:Int)=roomE (tkB a d i o g n w m k p v f s j h t u q r l b) e)∧True)∧(¬¬(0:Int)=(0:Int)→LsA B x [.i64,.i64,.i64,.i64,.i64,.i64,.i64,.i64] a∧Ob True∧(¬((0:Int)≤b∧b < (↑a.length:Int))→Ob ((0:Int)=roomV (tkB a d i o g n w m k p v f s j h t u q r l b) e)∧Ob ((6:Int)=roomE (tkB a d i o g n w m k p v f s j h t u q r l b) e)∧True)∧(¬¬((0:Int)≤b∧b < (↑a.length:Int))→Ob True∧(¬((0:Int)≤e∧e≤(48:Int))→Ob ((0:Int)=roomV (tkB a d i o g n w m k p v f s j h t u q r l b) e)∧Ob ((1:Int)=roomE (tkB a d i o g n w m k p v f s j h t u q r l b) e)∧True)∧(¬¬((0:Int)≤e∧e≤(48:Int))→(∃(c:SrI),Ob (SrOk (tkB a d i o g n w m k p v f s j h t u q r l b) e c)∧Ob (Value.int .i64 (0:Int)=Value.int .i64 (0:Int))∧Ob ((0:Int)=(↑c.i:Int))∧Ob ((10000001:Int)=(↑c.j:Int))∧Ob (e=e)∧Ob (b=b)∧Ob (SV.lst x a.length 8 (Rv.elemOf [.i64,.i64,.i64,.i64,.i64,.i64,.i64,.i64] a)=SV.lst x a.length 8 (Rv.elemOf [.i64,.i64,.i64,.i64,.i64,.i64,.i64,.i64] a))∧Ob (SV.lst y d.length 2 (Rv.elemOf I2 d)=SV.lst y d.length 2 (Rv.elemOf I2 d))∧Ob (i=i)∧Ob (o=o)∧Ob (g=g)∧Ob (n=n)∧Ob (w=w)∧Ob (m=m)∧Ob (k=k)∧Ob (p=p)∧Ob (v=v)∧Ob (f=f)∧Ob (s=s)∧Ob (j=j)∧Ob (h=h)∧Ob (t=t)∧Ob (u=u)∧Ob (q=q)∧Ob (r=r)∧Ob (l=l)∧LsA B x [.i64,.i64,.i64,.i64,.i64,.i64,.i64,.i64] a∧LsA B y I2 d∧True)∧∀(c:SrI),SrOk (tkB a d i o g n w m k p v f s j h t u q r l b) e c→∀(_ _ _ _ _ _ _ _ _ _ _ _ _ _ _ _ _ _ _ _ _ _:Value),((↑c.i:Int) < (↑c.j:Int)→Ob (InR .i64 ((↑c.i:Int)+(↑c.j:Int)))∧Ob ((0:Int)≤IntKind.u64.wrap ((↑c.i:Int)+(↑c.j:Int))∧(0:Int)≤(1:Int)∧(1:Int)≤(↑64:Int)∧InR .u64 (IntKind.u64.wrap ((↑c.i:Int)+(↑c.j:Int)) / (2:Int) ^ (1:Nat)))∧Ob (InR .i64 (IntKind.u64.wrap ((↑c.i:Int)+(↑c.j:Int)) / (2:Int) ^ (1:Nat)))∧LsA B x [.i64,.i64,.i64,.i64,.i64,.i64,.i64,.i64] a∧LsA B y I2 d∧LsA B x [.i64,.i64,.i64,.i64,.i64,.i64,.i64,.i64] a∧Ob ((0:Int)≤b∧b.toNat < a.length∧IsLst B x a.length 8 (Rv.elemOf [.i64,.i64,.i64,.i64,.i64,.i64,.i64,.i64] a))∧Ob (IsLst B x a.length 8 (Rv.elemOf [.i64,.i64,.i64,.i64,.i64,.i64,.i64,.i64] a)∧b.toNat < a.length)∧Ob (IsLst B x a.length 8 (Rv.elemOf [.i64,.i64,.i64,.i64,.i64,.i64,.i64,.i64] a)∧b.toNat < a.length)∧RwB B x a.length 8 [.i64,.i64,.i64,.i64,.i64,.i64,.i64,.i64] a fun C=>RwB B y d.length 2 I2 d fun A=>Ob (F_isSafe.pre ([Dat.l C,Dat.l A,Dat.z i,Dat.z o,Dat.z g,Dat.z n,Dat.z w,Dat.z m,Dat.z k,Dat.z p,Dat.z v,Dat.z f,Dat.z s,Dat.z j,Dat.z h,Dat.z t,Dat.z u,Dat.z q,Dat.z r,Dat.z l,Dat.z (cell a b.toNat 0),Dat.z (IntKind.u64.wrap ((↑c.i:Int)+(↑c.j:Int)) / (2:Int) ^ (1:Nat)),Dat.z (cell a b.toNat 2),Dat.z (cell a b.toNat 3),Dat.z (cell a b.toNat 4),Dat.z (cell a b.toNat 5),Dat.z (cell a b.toNat 6),Dat.z (cell a b.toNat 7),Dat.z b]++[Dat.z e]))∧(¬¬(Bn.mk A i o g n w m k p v f s j h t u q r l (cell a b.toNat 0) (IntKind.u64.wrap ((↑c.i:Int)+(↑c.j:Int)) / (2:Int) ^ (1:Nat)) (cell a b.toNat 2) (cell a b.toNat 3) (cell a b.toNat 4) (cell a b.toNat 5) (cell a b.toNat 6) (cell a b.toNat 7) b).safe e→Ob (InR .i64 (IntKind.u64.wrap ((↑c.i:Int)+(↑c.j:Int)) / (2:Int) ^ (1:Nat)+(1:Int)))∧∃(z:SrI),Ob (SrOk (tkB a d i o g n w m k p v f s j h t u q r l b) e z∧z.j-z.i < c.j-c.i)∧Ob (Value.int .i64 (0:Int)=Value.int .i64 (0:Int))∧Ob (IntKind.u64.wrap ((↑c.i:Int)+(↑c.j:Int)) / (2:Int) ^ (1:Nat)+(1:Int)=(↑z.i:Int))∧Ob ((↑c.j:Int)=(↑z.j:Int))∧Ob (e=e)∧Ob (b=b)∧Ob (SV.lst x a.length 8 (Rv.elemOf [.i64,.i64,.i64,.i64,.i64,.i64,.i64,.i64] a)=SV.lst x a.length 8 (Rv.elemOf [.i64,.i64,.i64,.i64,.i64,.i64,.i64,.i64] a))∧Ob (SV.lst y d.length 2 (Rv.elemOf I2 d)=SV.lst y d.length 2 (Rv.elemOf I2 d))∧Ob (i=i)∧Ob (o=o)∧Ob (g=g)∧Ob (n=n)∧Ob (w=w)∧Ob (m=m)∧Ob (k=k)∧Ob (p=p)∧Ob (v=v)∧Ob (f=f)∧Ob (s=s)∧Ob (j=j)∧Ob (h=h)∧Ob (t=t)∧Ob (u=u)∧Ob (q=q)∧Ob (r=r)∧Ob (l=l)∧LsA B x [.i64,.i64,.i64,.i64,.i64,.i64,.i64,.i64] a∧LsA B y I2 d∧True)∧(¬¬¬(Bn.mk A i o g n w m k p v f s j h t u q r l (cell a b.toNat 0) (IntKind.u64.wrap ((↑c.i:Int)+(↑c.j:Int)) / (2:Int) ^ (1:Nat)) (cell a b.toNat 2) (cell a b.toNat 3) (cell a b.toNat 4) (cell a b.toNat 5) (cell a b.toNat 6) (cell a b.toNat 7) b).safe e→∃(z:SrI),Ob (SrOk (tkB a d i o g n w m k p v f s j h t u q r l b) e z∧z.j-z.i < c.j-c.i)∧Ob (Value.int .i64 (0:Int)=Value.int .i64 (0:Int))∧Ob ((↑c.i:Int)=(↑z.i:Int))∧Ob (IntKind.u64.wrap ((↑c.i:Int)+(↑c.j:Int)) / (2:Int) ^ (1:Nat)=(↑z.j:Int))∧Ob (e=e)∧Ob (b=b)∧Ob (SV.lst x a.length 8 (Rv.elemOf [.i64,.i64,.i64,.i64,.i64,.i64,.i64,.i64] a)=SV.lst x a.length 8 (Rv.elemOf [.i64,.i64,.i64,.i64,.i64,.i64,.i64,.i64] a))∧Ob (SV.lst y d.length 2 (Rv.elemOf I2 d)=SV.lst y d.length 2 (Rv.elemOf I2 d))∧Ob (i=i)∧Ob (o=o)∧Ob (g=g)∧Ob (n=n)∧Ob (w=w)∧Ob (m=m)∧Ob (k=k)∧Ob (p=p)∧Ob (v=v)∧Ob (f=f)∧Ob (s=s)∧Ob (j=j)∧Ob (h=h)∧Ob (t=t)∧Ob (u=u)∧Ob (q=q)∧Ob (r=r)∧Ob (l=l)∧LsA B x [.i64,.i64,.i64,.i64,.i64,.i64,.i64,.i64] a∧LsA B y I2 d∧True))∧(¬(↑c.i:Int) < (↑c.j:Int)→((↑c.i:Int)=(0:Int)→Ob ((0:Int)=roomV (tkB a d i o g n w m k p v f s j h t u q r l b) e)∧Ob ((6:Int)=roomE (tkB a d i o g n w m k p v f s j h t u q r l b) e)∧True)∧(¬(↑c.i:Int)=(0:Int)→Ob (InR .i64 ((↑c.i:Int)-(1:Int)))∧Ob ((↑c.i:Int)-(1:Int)=roomV (tkB a d i o g n w m k p v f s j h t u q r l b) e)∧Ob ((0:Int)=roomE (tkB a d i o g n w m k p v f s j h t u q r l b) e)∧True)))))
set_option linter.unusedSimpArgs false in
set_option maxRecDepth 4000 in
set_option maxHeartbeats 4000000 in
theorem v_Room:V_Room:=by
 unfold V_Room I2 LsA RwB
 intro B x T hx hox hrx y R hy hoy hry
 intro s1 s2 s3 s4 s5 s6 u1 u2 v1 v2 a1 a2 g1 g2 le mo w1 w2 tk ho
 intro ⟨hok,htk,hho⟩
 obtain⟨hbo,hbs⟩:=tkB_ok hok htk
 obtain⟨b,hb⟩:∃b,b=(tkB T R s1 s2 s3 s4 s5 s6 u1 u2 v1 v2 a1 a2 g1 g2 le mo w1 w2 tk):=⟨_,rfl⟩
 have hmk:∀g:Int,Bn.mk R s1 s2 s3 s4 s5 s6 u1 u2 v1 v2 a1 a2 g1 g2 le mo w1 w2 (cell T tk.toNat 0) g (cell T tk.toNat 2) (cell T tk.toNat 3) (cell T tk.toNat 4) (cell T tk.toNat 5) (cell T tk.toNat 6) (cell T tk.toNat 7) tk=b.wg g:=fun g=>by rw [hb]; rfl
 rw [← hb]at hbo hbs
 simp only [← hb]
 simp only [Ob_iff,and_true,true_and]
 refine⟨T,⟨hx,rfl,hrx,fun _ _=>rfl⟩,R,⟨hy,rfl,hry,fun _ _=>rfl⟩,hok,fun h=>(h (by trivial)).elim,fun _=>⟨hx,fun h=>absurd htk h,fun _=>⟨fun h=>absurd hho h,fun _=>⟨⟨⟨0,10000001⟩,⟨⟨by show 0≤10000001; omega,Nat.le_refl _⟩,fun g hg=>absurd hg (Nat.not_lt_zero g),fun g hg hg2=>by have:10000001≤g:=hg; omega⟩,rfl,rfl,hx,hy⟩,?_⟩⟩⟩⟩
 intro v hv
 intros
 have hvl:=hv.l
 have ht:tk.toNat < T.length:=by omega
 refine⟨fun h1=>?_,fun h1=>?_⟩
 ·have hlt:v.i < v.j:=by omega
  rw [mid_eq hvl.2 hvl.1]
  obtain⟨w,hw⟩:∃w,w=(v.i+v.j) / 2:=⟨_,rfl⟩
  have hup:=SrOk.up hbo hbs hho.1 hv hlt
  have hdn:=SrOk.dn hbo hbs hho.1 hv hlt
  rw [← hw]at hup hdn ⊢
  have hw1:v.i≤w∧w < v.j:=by omega
  have e:IntKind.u64.wrap ((v.i:Int)+(v.j:Int))=((v.i+v.j:Nat):Int):=by
   rw [← Int.natCast_add]
   exact wrap_of (by omega) (by omega)
  rw [e]
  refine⟨by simp only [InR]; omega,⟨by omega,by omega,by omega,by simp only [InR]; omega⟩,by simp only [InR]; omega,hx,hy,hx,⟨htk.1,ht,hx⟩,⟨hx,ht⟩,⟨hx,ht⟩,T,⟨hx,rfl,hrx,fun _ _=>rfl⟩,R,⟨hy,rfl,hry,fun _ _=>rfl⟩,?_,?_⟩
  ·refine⟨?_,hho.1,by omega⟩
   have:=hbo.wg (g:=w) (by omega)
   rw [← hmk]at this
   exact this
  ·rw [hmk]
   refine⟨fun h2=>?_,fun h2=>?_⟩
   ·have h2:=Classical.not_not.1 h2
    exact⟨by simp only [InR]; omega,⟨w+1,v.j⟩,⟨hup h2,by show v.j-(w+1) < v.j-v.i; omega⟩,by show(w:Int)+1=((w+1:Nat):Int); omega,rfl,hx,hy⟩
   ·have h2:=fun h=>h2 fun h3=>h3 h
    exact⟨⟨v.i,w⟩,⟨hdn h2,by show w-v.i < v.j-v.i; omega⟩,rfl,rfl,hx,hy⟩
 ·have hr:=hv.fin (by omega)
  unfold roomV roomE
  rw [hr]
  exact⟨fun h2=>⟨by rw [if_pos h2],by rw [if_pos h2]⟩,fun h2=>⟨by simp only [InR]; omega,by rw [if_neg h2],by rw [if_neg h2]⟩⟩
theorem e_Room:V_Room=needEI P [F_isIndex,F_isHour] [F_Check,F_isSafe] I_Room A_Room F_Room:=by kernel_rfl
theorem n_Room:Ob (needEI P [F_isIndex,F_isHour] [F_Check,F_isSafe] I_Room A_Room F_Room):=by
 rw [← e_Room]
 exact⟨v_Room⟩
theorem b_Room:((P.funcs[23]?).any fun fn=>fn.body.isSome)=true:=by kernel_rfl
theorem Room_ok:FnE.Ok P F_Room:=FnE.okI named (l:=[F_isIndex,F_isHour]) (es:=[F_Check,F_isSafe]) (I:=I_Room) (A:=A_Room) (by rfl) (by rfl) (by rfl) (by
 intro F h
 simp only [List.mem_cons,List.not_mem_nil,or_false]at h
 rcases h with rfl | rfl
 ·exact isIndex_ok
 ·exact isHour_ok
) (by
 intro F h
 simp only [List.mem_cons,List.not_mem_nil,or_false]at h
 rcases h with rfl | rfl
 ·exact Check_ok
 ·exact isSafe_ok
) b_Room (by
 rintro ds h o ho n sz e k z rfl
 simp only [F_Room]at ho
 split at ho<;>simp at ho) n_Room
end Go.Proofs.Ytgoiegaobhfocaa.Sy
