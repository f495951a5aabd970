import Derived.Test.YtgoiegaobhfocaaSyP2
import Derived.Test.YtgoiegaobhfocaaGrM
import Derived.Test.YtgoiegaobhfocaaKtG
import Derived.Test.YtgoiegaobhfocaaKtH
import Derived.Test.YtgoiegaobhfocaaKtI
import Derived.Test.YtgoiegaobhfocaaKuA
import Derived.Test.YtgoiegaobhfocaaSyP2
import Derived.KernelRfl
import Derived.Test.YtgoiegaobhfocaaProg
namespace Go.Proofs.Ytgoiegaobhfocaa.Sy
open Go Go.Rv
set_option linter.unusedVariables false
structure Bn where
 R:Rows
 s1:Int
 s2:Int
 s3:Int
 s4:Int
 s5:Int
 s6:Int
 u1:Int
 u2:Int
 v1:Int
 v2:Int
 a1:Int
 a2:Int
 g1:Int
 g2:Int
 le:Int
 mo:Int
 w1:Int
 w2:Int
 lt:Int
 gr:Int
 t1:Int
 t2:Int
 t3:Int
 t4:Int
 t5:Int
 t6:Int
 nu:Int
def Bn.fl (b:Bn) (sp sf:Int) (h:Nat):Int:=flT b.R b.nu sp sf h b.R.length
def Bn.st (b:Bn) (sp sf:Int):Nat→Nat→Int
 | 0,i=>if i=0 then b.t1 else if i=1 then b.t2 else if i=2 then b.t3 else if i=3 then b.t4 else if i=4 then b.t5 else b.t6
 | h+1,i=>if i=0 then wLo b.lt (b.fl sp sf h) b.gr (b.st sp sf h 0) b.s1 b.a1 (0-b.u2) 0 100000 else if i=1 then wHi b.lt (b.fl sp sf h) b.gr (b.st sp sf h 1) b.s2 b.a2 (0-b.u1) 0 100000
  else if i=2 then wLo b.lt (b.fl sp sf h) b.gr (b.st sp sf h 2) b.s3 0 b.v1 0 100000 else if i=3 then wHi b.lt (b.fl sp sf h) b.gr (b.st sp sf h 3) b.s4 0 b.v2 0 100000
  else if i=4 then wLo b.lt (b.fl sp sf h) b.gr (b.st sp sf h 4) b.s5 b.g1 0 (-50) 400 else wHi b.lt (b.fl sp sf h) b.gr (b.st sp sf h 5) b.s6 b.g2 0 (-50) 400
def Bn.kep (b:Bn) (sp sf:Int) (h:Nat):Prop:=b.le≤b.st sp sf h 0∧b.st sp sf h 3≤b.mo∧b.w1≤b.st sp sf h 4∧b.st sp sf h 5≤b.w2
def Bn.brk (b:Bn) (sp sf:Int) (h:Nat):Prop:=b.st sp sf h 1 < b.le∨b.mo < b.st sp sf h 2∨b.st sp sf h 5 < b.w1∨b.w2 < b.st sp sf h 4
open Classical in
noncomputable def Bn.sofar (b:Bn) (sp sf:Int) (k:Nat):Int:=if ∀h,h < k→b.kep sp sf h then 1 else 3
open Classical in
noncomputable def Bn.vrd (b:Bn) (sp sf H:Int):Int:=if ∃h:Nat,(h:Int)≤H∧b.brk sp sf h then 2 else b.sofar sp sf (H+1).toNat
structure Bn.Ok (b:Bn):Prop where
 l:1≤b.lt∧b.lt≤100000
 g:0≤b.gr∧b.gr≤10000000
 x:∀x∈[0,0-b.u2,0-b.u1,b.s1,b.s2,b.s3,b.s4,b.s5,b.s6,b.u1,b.u2,b.v1,b.v2,b.a1,b.a2,b.g1,b.g2,b.t1,b.t2,b.t3,b.t4,b.t5,b.t6],-100000≤x∧x≤100000
 r:b.R.length≤100
 f:∀i,i < b.R.length→0≤cell b.R i 1∧cell b.R i 1≤100000
 s:flT b.R b.nu (-1) 0 0 b.R.length≤b.lt
theorem flT_le {R:Rows} {nu sp sf h:Int}:∀ {k:Nat},(∀i,i < k→0≤cell R i 1∧cell R i 1≤100000)→flT R nu sp sf h k≤flT R nu (-1) 0 0 k
 | 0,_=>by simp [flT]
 | k+1,hh=>by
  have ih:=flT_le (R:=R) (nu:=nu) (sp:=sp) (sf:=sf) (h:=h) (k:=k) fun i hi=>hh i (by omega)
  have h1:=hh k (by omega)
  simp only [flT]
  by_cases hc:cell R k 0=nu
  ·rw [if_pos (show cell R k 0=nu∧((k:Int)≠-1∨(0:Int) < 0)from⟨hc,.inl (by omega)⟩)]
   split<;>omega
  ·rw [if_neg fun h=>hc h.1,if_neg fun h=>hc h.1]
   omega
theorem Bn.Ok.fl {b:Bn} (hb:b.Ok) (sp sf:Int) (h:Nat):0≤b.fl sp sf h∧b.fl sp sf h≤b.lt:=by
 have h1:=flT_bd (R:=b.R) (nu:=b.nu) (sp:=sp) (sf:=sf) (h:=h) (k:=b.R.length) hb.f
 have h2:=flT_le (R:=b.R) (nu:=b.nu) (sp:=sp) (sf:=sf) (h:=h) (k:=b.R.length) hb.f
 have h3:=hb.s
 unfold Bn.fl
 omega
theorem clamp_in {x lo hi:Int} (h:lo≤hi) (h1:-100000≤lo) (h2:hi≤100000):-100000≤min (max x lo) hi∧min (max x lo) hi≤100000:=by omega
theorem Bn.Ok.st {b:Bn} (hb:b.Ok) (sp sf:Int):∀(h i:Nat),-100000≤b.st sp sf h i∧b.st sp sf h i≤100000
 | 0,i=>by
  have hx:=hb.x
  simp only [Bn.st]
  split
  ·exact hx _ (by simp)
  split
  ·exact hx _ (by simp)
  split
  ·exact hx _ (by simp)
  split
  ·exact hx _ (by simp)
  split
  ·exact hx _ (by simp)
  ·exact hx _ (by simp)
 | h+1,i=>by
  simp only [Bn.st,wLo,wHi]
  split
  ·exact clamp_in (by omega) (by omega) (by omega)
  split
  ·exact clamp_in (by omega) (by omega) (by omega)
  split
  ·exact clamp_in (by omega) (by omega) (by omega)
  split
  ·exact clamp_in (by omega) (by omega) (by omega)
  split
  ·exact clamp_in (by omega) (by omega) (by omega)
  ·exact clamp_in (by omega) (by omega) (by omega)
theorem Bn.Ok.nxt {b:Bn} (hb:b.Ok) (sp sf:Int) (h:Nat):NxtOk b.lt (b.fl sp sf h) b.gr [0,0-b.u2,0-b.u1,b.s1,b.s2,b.s3,b.s4,b.s5,b.s6,b.u1,b.u2,b.v1,b.v2,b.a1,b.a2,b.g1,b.g2,b.st sp sf h 0,b.st sp sf h 1,b.st sp sf h 2,b.st sp sf h 3,b.st sp sf h 4,b.st sp sf h 5]:=by
 have h1:=hb.l
 have h2:=hb.fl sp sf h
 refine⟨hb.l,by omega,hb.g,?_⟩
 intro x hx
 have hs:=hb.st sp sf h
 have hb:=hb.x
 simp only [List.mem_cons,List.not_mem_nil,or_false]at hx hb
 rcases hx with rfl | rfl | rfl | rfl | rfl | rfl | rfl | rfl | rfl | rfl | rfl | rfl | rfl | rfl | rfl | rfl | rfl | rfl | rfl | rfl | rfl | rfl | rfl<;>first | exact hs _ | exact hb _ (by simp)
theorem Bn.sofar_pos {b:Bn} {sp sf:Int} {k:Nat} (h:b.kep sp sf k):b.sofar sp sf k=b.sofar sp sf (k+1):=by
 unfold Bn.sofar
 by_cases ha:∀h,h < k→b.kep sp sf h
 ·rw [if_pos ha,if_pos fun i hi=>by
   by_cases e:i=k
   ·subst e; exact h
   ·exact ha i (by omega)]
 ·rw [if_neg ha,if_neg fun hh=>ha fun i hi=>hh i (by omega)]
theorem Bn.sofar_neg {b:Bn} {sp sf:Int} {k:Nat} (h:¬ b.kep sp sf k):3=b.sofar sp sf (k+1):=by
 unfold Bn.sofar
 rw [if_neg fun hh=>h (hh k (by omega))]
theorem Bn.sofar0 {b:Bn} {sp sf:Int}:1=b.sofar sp sf 0:=by
 unfold Bn.sofar
 rw [if_pos fun i hi=>by omega]
theorem Bn.vrd_brk {b:Bn} {sp sf H:Int} {k:Nat} (h:b.brk sp sf k) (hk:(k:Int)≤H):2=b.vrd sp sf H:=by
 unfold Bn.vrd
 rw [if_pos ⟨k,hk,h⟩]
theorem Bn.vrd_end {b:Bn} {sp sf H:Int} {k:Nat} (h:∀i,i < k→¬ b.brk sp sf i) (hk:(k:Int)=H+1):b.sofar sp sf k=b.vrd sp sf H:=by
 unfold Bn.vrd
 rw [if_neg fun⟨i,h1,h2⟩=>h i (by omega) h2]
 congr 1
 omega
noncomputable def F_verdict:FnE:=⟨74,none,[.agg [.l [.i64,.i64,.i64,.i64,.i64,.i64,.i64,.i64],.l [.i64,.i64],.i .i64,.i .i64,.i .i64,.i .i64,.i .i64,.i .i64,.i .i64,.i .i64,.i .i64,.i .i64,.i .i64,.i .i64,.i .i64,.i .i64,.i .i64,.i .i64,.i .i64,.i .i64,.i .i64,.i .i64,.i .i64,.i .i64,.i .i64,.i .i64,.i .i64,.i .i64,.i .i64],.agg [.i .i64,.i .i64],i64],fun l=>match l with | .l T :: .l R :: .z s1 :: .z s2 :: .z s3 :: .z s4 :: .z s5 :: .z s6 :: .z u1 :: .z u2 :: .z v1 :: .z v2 :: .z a1 :: .z a2 :: .z g1 :: .z g2 :: .z le :: .z mo :: .z w1 :: .z w2 :: .z lt :: .z gr :: .z t1 :: .z t2 :: .z t3 :: .z t4 :: .z t5 :: .z t6 :: .z nu :: .z sp :: .z sf :: .z ho :: []=>(Bn.mk R s1 s2 s3 s4 s5 s6 u1 u2 v1 v2 a1 a2 g1 g2 le mo w1 w2 lt gr t1 t2 t3 t4 t5 t6 nu).Ok∧0≤ho∧ho≤1000 | _=>False,fun l=>match l with | .l T :: .l R :: .z s1 :: .z s2 :: .z s3 :: .z s4 :: .z s5 :: .z s6 :: .z u1 :: .z u2 :: .z v1 :: .z v2 :: .z a1 :: .z a2 :: .z g1 :: .z g2 :: .z le :: .z mo :: .z w1 :: .z w2 :: .z lt :: .z gr :: .z t1 :: .z t2 :: .z t3 :: .z t4 :: .z t5 :: .z t6 :: .z nu :: .z sp :: .z sf :: .z ho :: []=>[.i .i64 ((Bn.mk R s1 s2 s3 s4 s5 s6 u1 u2 v1 v2 a1 a2 g1 g2 le mo w1 w2 lt gr t1 t2 t3 t4 t5 t6 nu).vrd sp sf ho)] | _=>[],fun l=>match l with | .l T :: .l R :: .z s1 :: .z s2 :: .z s3 :: .z s4 :: .z s5 :: .z s6 :: .z u1 :: .z u2 :: .z v1 :: .z v2 :: .z a1 :: .z a2 :: .z g1 :: .z g2 :: .z le :: .z mo :: .z w1 :: .z w2 :: .z lt :: .z gr :: .z t1 :: .z t2 :: .z t3 :: .z t4 :: .z t5 :: .z t6 :: .z nu :: .z sp :: .z sf :: .z ho :: []=>[] | _=>[],fun l=>match l with | .l T :: .l R :: .z s1 :: .z s2 :: .z s3 :: .z s4 :: .z s5 :: .z s6 :: .z u1 :: .z u2 :: .z v1 :: .z v2 :: .z a1 :: .z a2 :: .z g1 :: .z g2 :: .z le :: .z mo :: .z w1 :: .z w2 :: .z lt :: .z gr :: .z t1 :: .z t2 :: .z t3 :: .z t4 :: .z t5 :: .z t6 :: .z nu :: .z sp :: .z sf :: .z ho :: []=>[] | _=>[],false,none,none⟩
noncomputable def A_verdict:List SV→List Dat→Nat→List SV→Ann:=fun _ _ _ _=>noAnn
noncomputable def A_verdict_1:List SV→List Dat→List SV→List SObj→Nat→List SV→Ann:=fun _ _ _ _ _ _=>noAnn
noncomputable def A_verdict_2:List SV→List Dat→List SV→List SObj→Nat→List SV→Ann:=fun xs ds ar bs n ts=>match xs with
 | [.agg (.lst x _ _ _ :: .lst y _ _ _ :: _),.agg _,.i _ _]=>match ds with
  | .l T :: .l R :: .z s1 :: .z s2 :: .z s3 :: .z s4 :: .z s5 :: .z s6 :: .z u1 :: .z u2 :: .z v1 :: .z v2 :: .z a1 :: .z a2 :: .z g1 :: .z g2 :: .z le :: .z mo :: .z w1 :: .z w2 :: .z lt :: .z gr :: .z t1 :: .z t2 :: .z t3 :: .z t4 :: .z t5 :: .z t6 :: .z nu :: .z sp :: .z sf :: .z ho :: []=>match n with
   | 2=>⟨Nat,fun k=>([some (SV.yl ((8:Nat))),some (SV.ptr ((4:Nat)) ((0:Nat))),none,some (SV.ptr ((5:Nat)) ((0:Nat))),none,some (SV.ptr ((9:Nat)) ((0:Nat))),none,none,none,none,none,none,some (SV.i IntKind.i64 (ho+(1:Int))),some (.i .i64 k)]++nN 15),fun k=>[.cells [.i .i64 ((Bn.mk R s1 s2 s3 s4 s5 s6 u1 u2 v1 v2 a1 a2 g1 g2 le mo w1 w2 lt gr t1 t2 t3 t4 t5 t6 nu).st sp sf k 0),.i .i64 ((Bn.mk R s1 s2 s3 s4 s5 s6 u1 u2 v1 v2 a1 a2 g1 g2 le mo w1 w2 lt gr t1 t2 t3 t4 t5 t6 nu).st sp sf k 1),.i .i64 ((Bn.mk R s1 s2 s3 s4 s5 s6 u1 u2 v1 v2 a1 a2 g1 g2 le mo w1 w2 lt gr t1 t2 t3 t4 t5 t6 nu).st sp sf k 2),.i .i64 ((Bn.mk R s1 s2 s3 s4 s5 s6 u1 u2 v1 v2 a1 a2 g1 g2 le mo w1 w2 lt gr t1 t2 t3 t4 t5 t6 nu).st sp sf k 3),.i .i64 ((Bn.mk R s1 s2 s3 s4 s5 s6 u1 u2 v1 v2 a1 a2 g1 g2 le mo w1 w2 lt gr t1 t2 t3 t4 t5 t6 nu).st sp sf k 4),.i .i64 ((Bn.mk R s1 s2 s3 s4 s5 s6 u1 u2 v1 v2 a1 a2 g1 g2 le mo w1 w2 lt gr t1 t2 t3 t4 t5 t6 nu).st sp sf k 5)] .ex,.dead,SObj.dead,SObj.cells [SV.i IntKind.i64 ho] Kd.ex,SObj.cells [SV.i IntKind.i64 sp,SV.i IntKind.i64 sf] Kd.ex,SObj.cells [SV.lst x T.length ((8:Nat)) (Rv.elemOf [IntKind.i64,IntKind.i64,IntKind.i64,IntKind.i64,IntKind.i64,IntKind.i64,IntKind.i64,IntKind.i64] T),SV.lst y R.length ((2:Nat)) (Rv.elemOf [IntKind.i64,IntKind.i64] R),SV.i IntKind.i64 s1,SV.i IntKind.i64 s2,SV.i IntKind.i64 s3,SV.i IntKind.i64 s4,SV.i IntKind.i64 s5,SV.i IntKind.i64 s6,SV.i IntKind.i64 u1,SV.i IntKind.i64 u2,SV.i IntKind.i64 v1,SV.i IntKind.i64 v2,SV.i IntKind.i64 a1,SV.i IntKind.i64 a2,SV.i IntKind.i64 g1,SV.i IntKind.i64 g2,SV.i IntKind.i64 le,SV.i IntKind.i64 mo,SV.i IntKind.i64 w1,SV.i IntKind.i64 w2,SV.i IntKind.i64 lt,SV.i IntKind.i64 gr,SV.i IntKind.i64 t1,SV.i IntKind.i64 t2,SV.i IntKind.i64 t3,SV.i IntKind.i64 t4,SV.i IntKind.i64 t5,SV.i IntKind.i64 t6,SV.i IntKind.i64 nu] Kd.ex,.cells [.i .i64 ((Bn.mk R s1 s2 s3 s4 s5 s6 u1 u2 v1 v2 a1 a2 g1 g2 le mo w1 w2 lt gr t1 t2 t3 t4 t5 t6 nu).sofar sp sf k)] .ex,SObj.cells [SV.v (Value.int IntKind.i64 (0:Int))] Kd.ex,SObj.cells [SV.i IntKind.i64 sp,SV.i IntKind.i64 sf] Kd.ex,SObj.cells [SV.lst x T.length ((8:Nat)) (Rv.elemOf [IntKind.i64,IntKind.i64,IntKind.i64,IntKind.i64,IntKind.i64,IntKind.i64,IntKind.i64,IntKind.i64] T),SV.lst y R.length ((2:Nat)) (Rv.elemOf [IntKind.i64,IntKind.i64] R),SV.i IntKind.i64 s1,SV.i IntKind.i64 s2,SV.i IntKind.i64 s3,SV.i IntKind.i64 s4,SV.i IntKind.i64 s5,SV.i IntKind.i64 s6,SV.i IntKind.i64 u1,SV.i IntKind.i64 u2,SV.i IntKind.i64 v1,SV.i IntKind.i64 v2,SV.i IntKind.i64 a1,SV.i IntKind.i64 a2,SV.i IntKind.i64 g1,SV.i IntKind.i64 g2,SV.i IntKind.i64 le,SV.i IntKind.i64 mo,SV.i IntKind.i64 w1,SV.i IntKind.i64 w2,SV.i IntKind.i64 lt,SV.i IntKind.i64 gr,SV.i IntKind.i64 t1,SV.i IntKind.i64 t2,SV.i IntKind.i64 t3,SV.i IntKind.i64 t4,SV.i IntKind.i64 t5,SV.i IntKind.i64 t6,SV.i IntKind.i64 nu] Kd.ex],fun k=>(k:Int)≤ho+1∧∀h,h < k→¬ (Bn.mk R s1 s2 s3 s4 s5 s6 u1 u2 v1 v2 a1 a2 g1 g2 le mo w1 w2 lt gr t1 t2 t3 t4 t5 t6 nu).brk sp sf h,fun k=>(ho+1).toNat-k,0⟩
   | _=>noAnn
  | _=>noAnn
 | _=>noAnn
noncomputable def I_verdict:List SV→List Dat→List In:=fun xs ds=>[⟨38,A_verdict_1 xs ds⟩,⟨62,A_verdict_2 xs ds⟩]
set_option maxRecDepth 10000 in
def V_verdict:Prop:=
 ∀(B:RW) (I:RV) (G:List (List Int)),IsLst B I G.length 8 (Rv.elemOf [.i64,.i64,.i64,.i64,.i64,.i64,.i64,.i64] G)→oneB I=true→(∀row∈G,row.length=8)→∀(J:RV) (a:List (List Int)),IsLst B J a.length 2 (Rv.elemOf I2 a)→oneB J=true→(∀row∈a,row.length=2)→∀(q x n w E v t y D k z s p C j h i g e d m r u l A o b c f K:Int),F_verdict.pre ([Dat.l G,Dat.l a,Dat.z q,Dat.z x,Dat.z n,Dat.z w,Dat.z E,Dat.z v,Dat.z t,Dat.z y,Dat.z D,Dat.z k,Dat.z z,Dat.z s,Dat.z p,Dat.z C,Dat.z j,Dat.z h,Dat.z i,Dat.z g,Dat.z e,Dat.z d,Dat.z m,Dat.z r,Dat.z u,Dat.z l,Dat.z A,Dat.z o,Dat.z b]++([Dat.z c,Dat.z f]++([Dat.z K]++[])))→∀(R:LR),R.b=B.n+(8:Nat)→Ob (F_endsOf.pre ([Dat.z m,Dat.z r,Dat.z u,Dat.z l,Dat.z A,Dat.z o]++[]))∧Ob (InR .i64 (K+(1:Int)))∧(∃(F:Nat),Ob ((↑F:Int)≤K+(1:Int)∧∀(M:Nat),M < F→¬(Bn.mk a q x n w E v t y D k z s p C j h i g e d m r u l A o b).brk c f M)∧Ob (K+(1:Int)=K+(1:Int))∧Ob ((0:Int)=(↑F:Int))∧Ob (m=(Bn.mk a q x n w E v t y D k z s p C j h i g e d m r u l A o b).st c f F 0)∧Ob (r=(Bn.mk a q x n w E v t y D k z s p C j h i g e d m r u l A o b).st c f F 1)∧Ob (u=(Bn.mk a q x n w E v t y D k z s p C j h i g e d m r u l A o b).st c f F 2)∧Ob (l=(Bn.mk a q x n w E v t y D k z s p C j h i g e d m r u l A o b).st c f F 3)∧Ob (A=(Bn.mk a q x n w E v t y D k z s p C j h i g e d m r u l A o b).st c f F 4)∧Ob (o=(Bn.mk a q x n w E v t y D k z s p C j h i g e d m r u l A o b).st c f F 5)∧Ob (R=R)∧Ob (K=K)∧Ob (c=c)∧Ob (f=f)∧Ob (SV.lst I G.length 8 (Rv.elemOf [.i64,.i64,.i64,.i64,.i64,.i64,.i64,.i64] G)=SV.lst I G.length 8 (Rv.elemOf [.i64,.i64,.i64,.i64,.i64,.i64,.i64,.i64] G))∧Ob (SV.lst J a.length 2 (Rv.elemOf I2 a)=SV.lst J a.length 2 (Rv.elemOf I2 a))∧Ob (q=q)∧Ob (x=x)∧Ob (n=n)∧Ob (w=w)∧Ob (E=E)∧Ob (v=v)∧Ob (t=t)∧Ob (y=y)∧Ob (D=D)∧Ob (k=k)∧Ob (z=z)∧Ob (s=s)∧Ob (p=p)∧Ob (C=C)∧Ob (j=j)∧Ob (h=h)∧Ob (i=i)∧Ob (g=g)∧Ob (e=e)∧Ob (d=d)∧Ob (m=m)∧Ob (r=r)∧Ob (u=u)∧Ob (l=l)∧Ob (A=A)∧Ob (o=o)∧Ob (b=b)∧Ob ((1:Int)=(Bn.mk a q x n w E v t y D k z s p C j h i g e d m r u l A o b).sofar c f F)∧Ob (Value.int .i64 (0:Int)=Value.int .i64 (0:Int))∧Ob (c=c)∧Ob (f=f)∧Ob (SV.lst I G.length 8 (Rv.elemOf [.i64,.i64,.i64,.i64,.i64,.i64,.i64,.i64] G)=SV.lst I G.length 8 (Rv.elemOf [.i64,.i64,.i64,.i64,.i64,.i64,.i64,.i64] G))∧Ob (SV.lst J a.length 2 (Rv.elemOf I2 a)=SV.lst J a.length 2 (Rv.elemOf I2 a))∧Ob (q=q)∧Ob (x=x)∧Ob (n=n)∧Ob (w=w)∧Ob (E=E)∧Ob (v=v)∧Ob (t=t)∧Ob (y=y)∧Ob (D=D)∧Ob (k=k)∧Ob (z=z)∧Ob (s=s)∧Ob (p=p)∧Ob (C=C)∧Ob (j=j)∧Ob (h=h)∧Ob (i=i)∧Ob (g=g)∧Ob (e=e)∧Ob (d=d)∧Ob (m=m)∧Ob (r=r)∧Ob (u=u)∧Ob (l=l)∧Ob (A=A)∧Ob (o=o)∧Ob (b=b)∧Ob (R.b≤B.n+(9:Nat))∧LsA B I [.i64,.i64,.i64,.i64,.i64,.i64,.i64,.i64] G∧LsA B J I2 a∧LsA B I [.i64,.i64,.i64,.i64,.i64,.i64,.i64,.i64] G∧LsA B J I2 a∧True)∧∀(F:Nat),((↑F:Int)≤K+(1:Int)∧∀(M:Nat),M < F→¬(Bn.mk a q x n w E v t y D k z s p C j h i g e d m r u l A o b).brk c f M)→∀(_ _ _ _ _ _ _ _ _ _ _ _ _ _ _ _ _ _ _ _ _ _ _:Value),((↑F:Int) < K+(1:Int)→Ob (B=B)∧Ob (R=R)∧RwB B I G.length 8 [.i64,.i64,.i64,.i64,.i64,.i64,.i64,.i64] G fun U=>RwB B J a.length 2 I2 a fun V=>Ob True∧((Bn.mk a q x n w E v t y D k z s p C j h i g e d m r u l A o b).st c f F 1 < j∨h < (Bn.mk a q x n w E v t y D k z s p C j h i g e d m r u l A o b).st c f F 2∨(Bn.mk a q x n w E v t y D k z s p C j h i g e d m r u l A o b).st c f F 5 < i∨g < (Bn.mk a q x n w E v t y D k z s p C j h i g e d m r u l A o b).st c f F 4→Ob ((2:Int)=(Bn.mk a q x n w E v t y D k z s p C j h i g e d m r u l A o b).vrd c f K)∧True)∧(¬((Bn.mk a q x n w E v t y D k z s p C j h i g e d m r u l A o b).st c f F 1 < j∨h < (Bn.mk a q x n w E v t y D k z s p C j h i g e d m r u l A o b).st c f F 2∨(Bn.mk a q x n w E v t y D k z s p C j h i g e d m r u l A o b).st c f F 5 < i∨g < (Bn.mk a q x n w E v t y D k z s p C j h i g e d m r u l A o b).st c f F 4)→RwB B I G.length 8 [.i64,.i64,.i64,.i64,.i64,.i64,.i64,.i64] G fun S=>RwB B J a.length 2 I2 a fun T=>Ob True∧(¬(j≤(Bn.mk a q x n w E v t y D k z s p C j h i g e d m r u l A o b).st c f F 0∧(Bn.mk a q x n w E v t y D k z s p C j h i g e d m r u l A o b).st c f F 3≤h∧i≤(Bn.mk a q x n w E v t y D k z s p C j h i g e d m r u l A o b).st c f F 4∧(Bn.mk a q x n w E v t y D k z s p C j h i g e d m r u l A o b).st c f F 5≤g)→LsA B I [.i64,.i64,.i64,.i64,.i64,.i64,.i64,.i64] G∧LsA B J I2 a∧LsA B I [.i64,.i64,.i64,.i64,.i64,.i64,.i64,.i64] G∧LsA B J I2 a∧RwB B I G.length 8 [.i64,.i64,.i64,.i64,.i64,.i64,.i64,.i64] G fun Q=>RwB B J a.length 2 I2 a fun H=>Ob (H.length≤100∧∀(N:Nat),N < H.length→(0:Int)≤cell H N 1∧cell H N 1≤(100000:Int))∧RwB B I G.length 8 [.i64,.i64,.i64,.i64,.i64,.i64,.i64,.i64] G fun O=>RwB B J a.length 2 I2 a fun P=>Ob (F_nextW.pre ([Dat.l O,Dat.l P,Dat.z q,Dat.z x,Dat.z n,Dat.z w,Dat.z E,Dat.z v,Dat.z t,Dat.z y,Dat.z D,Dat.z k,Dat.z z,Dat.z s,Dat.z p,Dat.z C,Dat.z j,Dat.z h,Dat.z i,Dat.z g,Dat.z e,Dat.z d,Dat.z m,Dat.z r,Dat.z u,Dat.z l,Dat.z A,Dat.z o,Dat.z b]++([Dat.z ((Bn.mk a q x n w E v t y D k z s p C j h i g e d m r u l A o b).st c f F 0),Dat.z ((Bn.mk a q x n w E v t y D k z s p C j h i g e d m r u l A o b).st c f F 1),Dat.z ((Bn.mk a q x n w E v t y D k z s p C j h i g e d m r u l A o b).st c f F 2),Dat.z ((Bn.mk a q x n w E v t y D k z s p C j h i g e d m r u l A o b).st c f F 3),Dat.z ((Bn.mk a q x n w E v t y D k z s p C j h i g e d m r u l A o b).st c f F 4),Dat.z ((Bn.mk a q x n w E v t y D k z s p C j h i g e d m r u l A o b).st c f F 5)]++[Dat.z (flT H b c f (↑F:Int) H.length)])))∧Ob (InR .i64 ((↑F:Int)+(1:Int)))∧∃(L:Nat),Ob (((↑L:Int)≤K+(1:Int)∧∀(M:Nat),M < L→¬(Bn.mk a q x n w E v t y D k z s p C j h i g e d m r u l A o b).brk c f M)∧(K+(1:Int)).toNat-L < (K+(1:Int)).toNat-F)∧Ob (K+(1:Int)=K+(1:Int))∧Ob ((↑F:Int)+(1:Int)=(↑L:Int))∧Ob (wLo e (flT H b c f (↑F:Int) H.length) d ((Bn.mk a q x n w E v t y D k z s p C j h i g e d m r u l A o b).st c f F 0) q z ((0:Int)-y) (0:Int) (100000:Int)=(Bn.mk a q x n w E v t y D k z s p C j h i g e d m r u l A o b).st c f L 0)∧Ob (wHi e (flT H b c f (↑F:Int) H.length) d ((Bn.mk a q x n w E v t y D k z s p C j h i g e d m r u l A o b).st c f F 1) x s ((0:Int)-t) (0:Int) (100000:Int)=(Bn.mk a q x n w E v t y D k z s p C j h i g e d m r u l A o b).st c f L 1)∧Ob (wLo e (flT H b c f (↑F:Int) H.length) d ((Bn.mk a q x n w E v t y D k z s p C j h i g e d m r u l A o b).st c f F 2) n (0:Int) D (0:Int) (100000:Int)=(Bn.mk a q x n w E v t y D k z s p C j h i g e d m r u l A o b).st c f L 2)∧Ob (wHi e (flT H b c f (↑F:Int) H.length) d ((Bn.mk a q x n w E v t y D k z s p C j h i g e d m r u l A o b).st c f F 3) w (0:Int) k (0:Int) (100000:Int)=(Bn.mk a q x n w E v t y D k z s p C j h i g e d m r u l A o b).st c f L 3)∧Ob (wLo e (flT H b c f (↑F:Int) H.length) d ((Bn.mk a q x n w E v t y D k z s p C j h i g e d m r u l A o b).st c f F 4) E p (0:Int) (-50:Int) (400:Int)=(Bn.mk a q x n w E v t y D k z s p C j h i g e d m r u l A o b).st c f L 4)∧Ob (wHi e (flT H b c f (↑F:Int) H.length) d ((Bn.mk a q x n w E v t y D k z s p C j h i g e d m r u l A o b).st c f F 5) v C (0:Int) (-50:Int) (400:Int)=(Bn.mk a q x n w E v t y D k z s p C j h i g e d m r u l A o b).st c f L 5)∧Ob (R=R)∧Ob (K=K)∧Ob (c=c)∧Ob (f=f)∧Ob (SV.lst I G.length 8 (Rv.elemOf [.i64,.i64,.i64,.i64,.i64,.i64,.i64,.i64] G)=SV.lst I G.length 8 (Rv.elemOf [.i64,.i64,.i64,.i64,.i64,.i64,.i64,.i64] G))∧Ob (SV.lst J a.length 2 (Rv.elemOf I2 a)=SV.lst J a.length 2 (Rv.elemOf I2 a))∧Ob (q=q)∧Ob (x=x)∧Ob (n=n)∧Ob (w=w)∧Ob (E=E)∧Ob (v=v)∧Ob (t=t)∧Ob (y=y)∧Ob (D=D)∧Ob (k=k)∧Ob (z=z)∧Ob (s=s)∧Ob (p=p)∧Ob (C=C)∧Ob (j=j)∧Ob (h=h)∧Ob (i=i)∧Ob (g=g)∧Ob (e=e)∧Ob (d=d)∧Ob (m=m)∧Ob (r=r)∧Ob (u=u)∧Ob (l=l)∧Ob (A=A)∧Ob (o=o)∧Ob (b=b)∧Ob ((3:Int)=(Bn.mk a q x n w E v t y D k z s p C j h i g e d m r u l A o b).sofar c f L)∧Ob (Value.int .i64 (0:Int)=Value.int .i64 (0:Int))∧Ob (c=c)∧Ob (f=f)∧Ob (SV.lst I G.length 8 (Rv.elemOf [.i64,.i64,.i64,.i64,.i64,.i64,.i64,.i64] G)=SV.lst I G.length 8 (Rv.elemOf [.i64,.i64,.i64,.i64,.i64,.i64,.i64,.i64] G))∧Ob (SV.lst J a.length 2 (Rv.elemOf I2 a)=SV.lst J a.length 2 (Rv.elemOf I2 a))∧Ob (q=q)∧Ob (x=x)∧Ob (n=n)∧Ob (w=w)∧Ob (E=E)∧Ob (v=v)∧Ob (t=t)∧Ob (y=y)∧Ob (D=D)∧Ob (k=k)∧Ob (z=z)∧Ob (s=s)∧Ob (p=p)∧Ob (C=C)∧Ob (j=j)∧Ob (h=h)∧Ob (i=i)∧Ob (g=g)∧Ob (e=e)∧Ob (d=d)∧Ob (m=m)∧Ob (r=r)∧Ob (u=u)∧Ob (l=l)∧Ob (A=A)∧Ob (o=o)∧Ob (b=b)∧Ob (R.b≤B.n+(9:Nat))∧LsA B I [.i64,.i64,.i64,.i64,.i64,.i64,.i64,.i64] G∧LsA B J I2 a∧LsA B I [.i64,.i64,.i64,.i64,.i64,.i64,.i64,.i64] G∧LsA B J I2 a∧True)∧(¬¬(j≤(Bn.mk a q x n w E v t y D k z s p C j h i g e d m r u l A o b).st c f F 0∧(Bn.mk a q x n w E v t y D k z s p C j h i g e d m r u l A o b).st c f F 3≤h∧i≤(Bn.mk a q x n w E v t y D k z s p C j h i g e d m r u l A o b).st c f F 4∧(Bn.mk a q x n w E v t y D k z s p C j h i g e d m r u l A o b).st c f F 5≤g)→LsA B I [.i64,.i64,.i64,.i64,.i64,.i64,.i64,.i64] G∧LsA B J I2 a∧LsA B I [.i64,.i64,.i64,.i64,.i64,.i64,.i64,.i64] G∧LsA B J I2 a∧RwB B I G.length 8 [.i64,.i64,.i64,.i64,.i64,.i64,.i64,.i64] G fun Q=>RwB B J a.length 2 I2 a fun H=>Ob (H.length≤100∧∀(N:Nat),N < H.length→(0:Int)≤cell H N 1∧cell H N 1≤(100000:Int))∧RwB B I G.length 8 [.i64,.i64,.i64,.i64,.i64,.i64,.i64,.i64] G fun O=>RwB B J a.length 2 I2 a fun P=>Ob (F_nextW.pre ([Dat.l O,Dat.l P,Dat.z q,Dat.z x,Dat.z n,Dat.z w,Dat.z E,Dat.z v,Dat.z t,Dat.z y,Dat.z D,Dat.z k,Dat.z z,Dat.z s,Dat.z p,Dat.z C,Dat.z j,Dat.z h,Dat.z i,Dat.z g,Dat.z e,Dat.z d,Dat.z m,Dat.z r,Dat.z u,Dat.z l,Dat.z A,Dat.z o,Dat.z b]++([Dat.z ((Bn.mk a q x n w E v t y D k z s p C j h i g e d m r u l A o b).st c f F 0),Dat.z ((Bn.mk a q x n w E v t y D k z s p C j h i g e d m r u l A o b).st c f F 1),Dat.z ((Bn.mk a q x n w E v t y D k z s p C j h i g e d m r u l A o b).st c f F 2),Dat.z ((Bn.mk a q x n w E v t y D k z s p C j h i g e d m r u l A o b).st c f F 3),Dat.z ((Bn.mk a q x n w E v t y D k z s p C j h i g e d m r u l A o b).st c f F 4),Dat.z ((Bn.mk a q x n w E v t y D k z s p C j h i g e d m r u l A o b).st c f F 5)]++[Dat.z (flT H b c f (↑F:Int) H.length)])))∧Ob (InR .i64 ((↑F:Int)+(1:Int)))∧∃(L:Nat),Ob (((↑L:Int)≤K+(1:Int)∧∀(M:Nat),M < L→¬(Bn.mk a q x n w E v t y D k z s p C j h i g e d m r u l A o b).brk c f M)∧(K+(1:Int)).toNat-L < (K+(1:Int)).toNat-F)∧Ob (K+(1:Int)=K+(1:Int))∧Ob ((↑F:Int)+(1:Int)=(↑L:Int))∧Ob (wLo e (flT H b c f (↑F:Int) H.length) d ((Bn.mk a q x n w E v t y D k z s p C j h i g e d m r u l A o b).st c f F 0) q z ((0:Int)-y) (0:Int) (100000:Int)=(Bn.mk a q x n w E v t y D k z s p C j h i g e d m r u l A o b).st c f L 0)∧Ob (wHi e (flT H b c f (↑F:Int) H.length) d ((Bn.mk a q x n w E v t y D k z s p C j h i g e d m r u l A o b).st c f F 1) x s ((0:Int)-t) (0:Int) (100000:Int)=(Bn.mk a q x n w E v t y D k z s p C j h i g e d m r u l A o b).st c f L 1)∧Ob (wLo e (flT H b c f (↑F:Int) H.length) d ((Bn.mk a q x n w E v t y D k z s p C j h i g e d m r u l A o b).st c f F 2) n (0:Int) D (0:Int) (100000:Int)=(Bn.mk a q x n w E v t y D k z s p C j h i g e d m r u l A o b).st c f L 2)∧Ob (wHi e (flT H b c f (↑F:Int) H.length) d ((Bn.mk a q x n w E v t y D k z s p C j h i g e d m r u l A o b).st c f F 3) w (0:Int) k (0:Int) (100000:Int)=(Bn.mk a q x n w E v t y D k z s p C j h i g e d m r u l A o b).st c f L 3)∧Ob (wLo e (flT H b c f (↑F:Int) H.length) d ((Bn.mk a q x n w E v t y D k z s p C j h i g e d m r u l A o b).st c f F 4) E p (0:Int) (-50:Int) (400:Int)=(Bn.mk a q x n w E v t y D k z s p C j h i g e d m r u l A o b).st c f L 4)∧Ob (wHi e (flT H b c f (↑F:Int) H.length) d ((Bn.mk a q x n w E v t y D k z s p C j h i g e d m r u l A o b).st c f F 5) v C (0:Int) (-50:Int) (400:Int)=(Bn.mk a q x n w E v t y D k z s p C j h i g e d m r u l A o b).st c f L 5)∧Ob (R=R)∧Ob (K=K)∧Ob (c=c)∧Ob (f=f)∧Ob (SV.lst I G.length 8 (Rv.elemOf [.i64,.i64,.i64,.i64,.i64,.i64,.i64,.i64] G)=SV.lst I G.length 8 (Rv.elemOf [.i64,.i64,.i64,.i64,.i64,.i64,.i64,.i64] G))∧Ob (SV.lst J a.length 2 (Rv.elemOf I2 a)=SV.lst J a.length 2 (Rv.elemOf I2 a))∧Ob (q=q)∧Ob (x=x)∧Ob (n=n)∧Ob (w=w)∧Ob (E=E)∧Ob (v=v)∧Ob (t=t)∧Ob (y=y)∧Ob (D=D)∧Ob (k=k)∧Ob (z=z)∧Ob (s=s)∧Ob (p=p)∧Ob (C=C)∧Ob (j=j)∧Ob (h=h)∧Ob (i=i)∧Ob (g=g)∧Ob (e=e)∧Ob (d=d)∧Ob (m=m)∧Ob (r=r)∧Ob (u=u)∧Ob (l=l)∧Ob (A=A)∧Ob (o=o)∧Ob (b=b)∧Ob ((Bn.mk a q x n w E v t y D k z s p C j h i g e d m r u l A o b).sofar c f F=(Bn.mk a q x n w E v t y D k z s p C j h i g e d m r u l A o b).sofar c f L)∧Ob (Value.int .i64 (0:Int)=Value.int .i64 (0:Int))∧Ob (c=c)∧Ob (f=f)∧Ob (SV.lst I G.length 8 (Rv.elemOf [.i64,.i64,.i64,.i64,.i64,.i64,.i64,.i64] G)=SV.lst I G.length 8 (Rv.elemOf [.i64,.i64,.i64,.i64,.i64,.i64,.i64,.i64] G))∧Ob (SV.lst J a.length 2 (Rv.elemOf I2 a)=SV.lst J a.length 2 (Rv.elemOf I2 a))∧Ob (q=q)∧Ob (x=x)∧Ob (n=n)∧Ob (w=w)∧Ob (E=E)∧Ob (v=v)∧Ob (t=t)∧Ob (y=y)∧Ob (D=D)∧Ob (k=k)∧Ob (z=z)∧Ob (s=s)∧Ob (p=p)∧Ob (C=C)∧Ob (j=j)∧Ob (h=h)∧Ob (i=i)∧Ob (g=g)∧Ob (e=e)∧Ob (d=d)∧Ob (m=m)∧Ob (r=r)∧Ob (u=u)∧Ob (l=l)∧Ob (A=A)∧Ob (o=o)∧Ob (b=b)∧Ob (R.b≤B.n+(9:Nat))∧LsA B I [.i64,.i64,.i64,.i64,.i64,.i64,.i64,.i64] G∧LsA B J I2 a∧LsA B I [.i64,.i64,.i64,.i64,.i64,.i64,.i64,.i64] G∧LsA B J I2 a∧True)))∧(¬(↑F:Int) < K+(1:Int)→Ob ((Bn.mk a q x n w E v t y D k z s p C j h i g e d m r u l A o b).sofar c f F=(Bn.mk a q x n w E v t y D k z s p C j h i g e d m r u l A o b).vrd c f K)∧True)
set_option linter.unusedSimpArgs false in
set_option maxRecDepth 4000 in
set_option maxHeartbeats 4000000 in
theorem v_verdict:V_verdict:=by
 unfold V_verdict I2 LsA RwB
 intro B x T hx hox hrx y R hy hoy hry
 intro s1 s2 s3 s4 s5 s6 u1 u2 v1 v2 a1 a2 g1 g2 le mo w1 w2 lt gr t1 t2 t3 t4 t5 t6 nu sp sf ho
 intro ⟨hok,h0,h1⟩ LR hR
 obtain⟨b,hb⟩:∃b,b=(Bn.mk R s1 s2 s3 s4 s5 s6 u1 u2 v1 v2 a1 a2 g1 g2 le mo w1 w2 lt gr t1 t2 t3 t4 t5 t6 nu):=⟨_,rfl⟩
 rw [← hb]at hok
 simp only [← hb]
 have hfl:=hok.f
 have hrl:=hok.r
 have hfl':∀i,i < R.length→0≤cell R i 1∧cell R i 1≤100000:=by rw [hb]at hfl; exact hfl
 have hrl':R.length≤100:=by rw [hb]at hrl; exact hrl
 simp only [Ob_iff,and_true,true_and]
 refine⟨trivial,by simp only [InR]; omega,⟨0,⟨by omega,fun h hh=>by omega⟩,rfl,by rw [hb]; rfl,by rw [hb]; rfl,by rw [hb]; rfl,by rw [hb]; rfl,by rw [hb]; rfl,by rw [hb]; rfl,Bn.sofar0,by omega,hx,hy,hx,hy⟩,?_⟩
 intro k ⟨hk,hnb⟩
 intros
 refine⟨fun h2=>?_,fun h2=>Bn.vrd_end hnb (by omega)⟩
 have hs:=hok.st sp sf k
 have hn:=hok.nxt sp sf k
 refine⟨T,⟨hx,rfl,hrx,fun _ _=>rfl⟩,R,⟨hy,rfl,hry,fun _ _=>rfl⟩,?_⟩
 have cb:(b.st sp sf k 1 < le∨mo < b.st sp sf k 2∨b.st sp sf k 5 < w1∨w2 < b.st sp sf k 4)↔b.brk sp sf k:=by unfold Bn.brk; rw [hb]
 have ck:(le≤b.st sp sf k 0∧b.st sp sf k 3≤mo∧w1≤b.st sp sf k 4∧b.st sp sf k 5≤w2)↔b.kep sp sf k:=by unfold Bn.kep; rw [hb]
 rw [cb,ck]
 refine⟨fun h3=>Bn.vrd_brk h3 (by omega),fun h3=>?_⟩
 refine⟨T,⟨hx,rfl,hrx,fun _ _=>rfl⟩,R,⟨hy,rfl,hry,fun _ _=>rfl⟩,?_⟩
 have hinv:((k+1:Nat):Int)≤ho+1∧∀h,h < k+1→¬ b.brk sp sf h:=⟨by omega,fun i hi=>by
  by_cases e:i=k
  ·subst e; exact h3
  ·exact hnb i (by omega)⟩
 have hst:∀i,b.st sp sf (k+1) i=b.st sp sf (k+1) i:=fun _=>rfl
 constructor
 all_goals
  intro h4
  refine⟨hx,hy,hx,hy,T,⟨hx,rfl,hrx,fun _ _=>rfl⟩,R,⟨hy,rfl,hry,fun _ _=>rfl⟩,⟨hrl',hfl'⟩,T,⟨hx,rfl,hrx,fun _ _=>rfl⟩,R,⟨hy,rfl,hry,fun _ _=>rfl⟩,?_,by simp only [InR]; omega,k+1,⟨hinv,by omega⟩,by omega,?_⟩
  ·rw [hb]at hn ⊢
   exact hn
  ·refine⟨by rw [hb]; rfl,by rw [hb]; rfl,by rw [hb]; rfl,by rw [hb]; rfl,by rw [hb]; rfl,by rw [hb]; rfl,?_,by omega,hx,hy,hx,hy⟩
   first | exact Bn.sofar_neg h4 | exact Bn.sofar_pos (Classical.not_not.1 h4)
theorem e_verdict:V_verdict=needEI P [F_flow,F_keeps,F_breaks] [F_endsOf,F_nextW] I_verdict A_verdict F_verdict:=by kernel_rfl
theorem n_verdict:Ob (needEI P [F_flow,F_keeps,F_breaks] [F_endsOf,F_nextW] I_verdict A_verdict F_verdict):=by
 rw [← e_verdict]
 exact⟨v_verdict⟩
theorem b_verdict:((P.funcs[74]?).any fun fn=>fn.body.isSome)=true:=by kernel_rfl
theorem verdict_ok:FnE.Ok P F_verdict:=FnE.okI named (l:=[F_flow,F_keeps,F_breaks]) (es:=[F_endsOf,F_nextW]) (I:=I_verdict) (A:=A_verdict) (by rfl) (by rfl) (by rfl) (by
 intro F h
 simp only [List.mem_cons,List.not_mem_nil,or_false]at h
 rcases h with rfl | rfl | rfl
 ·exact flow_ok
 ·exact keeps_ok
 ·exact breaks_ok
) (by
 intro F h
 simp only [List.mem_cons,List.not_mem_nil,or_false]at h
 rcases h with rfl | rfl
 ·exact endsOf_ok
 ·exact nextW_ok
) b_verdict (by
 rintro ds h o ho n sz e k z rfl
 simp only [F_verdict]at ho
 split at ho<;>simp at ho) n_verdict
end Go.Proofs.Ytgoiegaobhfocaa.Sy
