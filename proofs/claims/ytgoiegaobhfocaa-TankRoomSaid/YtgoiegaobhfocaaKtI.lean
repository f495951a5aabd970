import Derived.Test.YtgoiegaobhfocaaSyP2
import Derived.Test.YtgoiegaobhfocaaGrM
import Derived.Test.YtgoiegaobhfocaaKtG
import Derived.Test.YtgoiegaobhfocaaKtH
import Derived.Test.YtgoiegaobhfocaaSyP2
import Derived.KernelRfl
import Derived.Test.YtgoiegaobhfocaaProg
namespace Go.Proofs.Ytgoiegaobhfocaa.Sy
open Go Go.Rv
set_option linter.unusedVariables false
theorem NxtOk.sub {L F Gr:Int} {xs ys:List Int} (h:NxtOk L F Gr xs) (hs:∀x∈ys,x∈xs):NxtOk L F Gr ys:=⟨h.l,h.f,h.g,fun x hx=>h.x x (hs x hx)⟩
theorem NxtOk.dv {L F Gr:Int} {xs:List Int} {N S G U:Int} (h:NxtOk L F Gr xs) (hN:N∈xs) (hS:S∈xs) (hG:G∈xs) (hU:U∈xs):-4000000000000000000≤wTot L F Gr N S G U∧wTot L F Gr N S G U≤4000000000000000000∧0 < 1000*L∧1000*L≤4000000000000000000:=by
 have:=h.t hN hS hG hU
 have:=h.l
 omega
noncomputable def F_nextW:FnE:=⟨64,none,[.agg [.l [.i64,.i64,.i64,.i64,.i64,.i64,.i64,.i64],.l [.i64,.i64],.i .i64,.i .i64,.i .i64,.i .i64,.i .i64,.i .i64,.i .i64,.i .i64,.i .i64,.i .i64,.i .i64,.i .i64,.i .i64,.i .i64,.i .i64,.i .i64,.i .i64,.i .i64,.i .i64,.i .i64,.i .i64,.i .i64,.i .i64,.i .i64,.i .i64,.i .i64,.i .i64],.agg [.i .i64,.i .i64,.i .i64,.i .i64,.i .i64,.i .i64],i64],fun l=>match l with | .l T :: .l R :: .z s1 :: .z s2 :: .z s3 :: .z s4 :: .z s5 :: .z s6 :: .z u1 :: .z u2 :: .z v1 :: .z v2 :: .z a1 :: .z a2 :: .z g1 :: .z g2 :: .z le :: .z mo :: .z w1 :: .z w2 :: .z lt :: .z gr :: .z t1 :: .z t2 :: .z t3 :: .z t4 :: .z t5 :: .z t6 :: .z nu :: .z n1 :: .z n2 :: .z n3 :: .z n4 :: .z n5 :: .z n6 :: .z fl :: []=>NxtOk lt fl gr [0,0-u2,0-u1,s1,s2,s3,s4,s5,s6,u1,u2,v1,v2,a1,a2,g1,g2,n1,n2,n3,n4,n5,n6] | _=>False,fun l=>match l with | .l T :: .l R :: .z s1 :: .z s2 :: .z s3 :: .z s4 :: .z s5 :: .z s6 :: .z u1 :: .z u2 :: .z v1 :: .z v2 :: .z a1 :: .z a2 :: .z g1 :: .z g2 :: .z le :: .z mo :: .z w1 :: .z w2 :: .z lt :: .z gr :: .z t1 :: .z t2 :: .z t3 :: .z t4 :: .z t5 :: .z t6 :: .z nu :: .z n1 :: .z n2 :: .z n3 :: .z n4 :: .z n5 :: .z n6 :: .z fl :: []=>[.agg [.i .i64 (wLo lt fl gr n1 s1 a1 (0-u2) 0 100000),.i .i64 (wHi lt fl gr n2 s2 a2 (0-u1) 0 100000),.i .i64 (wLo lt fl gr n3 s3 0 v1 0 100000),.i .i64 (wHi lt fl gr n4 s4 0 v2 0 100000),.i .i64 (wLo lt fl gr n5 s5 g1 0 (-50) 400),.i .i64 (wHi lt fl gr n6 s6 g2 0 (-50) 400)]] | _=>[],fun l=>match l with | .l T :: .l R :: .z s1 :: .z s2 :: .z s3 :: .z s4 :: .z s5 :: .z s6 :: .z u1 :: .z u2 :: .z v1 :: .z v2 :: .z a1 :: .z a2 :: .z g1 :: .z g2 :: .z le :: .z mo :: .z w1 :: .z w2 :: .z lt :: .z gr :: .z t1 :: .z t2 :: .z t3 :: .z t4 :: .z t5 :: .z t6 :: .z nu :: .z n1 :: .z n2 :: .z n3 :: .z n4 :: .z n5 :: .z n6 :: .z fl :: []=>[] | _=>[],fun l=>match l with | .l T :: .l R :: .z s1 :: .z s2 :: .z s3 :: .z s4 :: .z s5 :: .z s6 :: .z u1 :: .z u2 :: .z v1 :: .z v2 :: .z a1 :: .z a2 :: .z g1 :: .z g2 :: .z le :: .z mo :: .z w1 :: .z w2 :: .z lt :: .z gr :: .z t1 :: .z t2 :: .z t3 :: .z t4 :: .z t5 :: .z t6 :: .z nu :: .z n1 :: .z n2 :: .z n3 :: .z n4 :: .z n5 :: .z n6 :: .z fl :: []=>[] | _=>[],false,none,none⟩
noncomputable def A_nextW:List SV→List Dat→Nat→List SV→Ann:=fun xs ds n ts=>match xs with
 | [.agg _,.agg _,.i _ _]=>match ds with
  | .l T :: .l R :: .z s1 :: .z s2 :: .z s3 :: .z s4 :: .z s5 :: .z s6 :: .z u1 :: .z u2 :: .z v1 :: .z v2 :: .z a1 :: .z a2 :: .z g1 :: .z g2 :: .z le :: .z mo :: .z w1 :: .z w2 :: .z lt :: .z gr :: .z t1 :: .z t2 :: .z t3 :: .z t4 :: .z t5 :: .z t6 :: .z nu :: .z n1 :: .z n2 :: .z n3 :: .z n4 :: .z n5 :: .z n6 :: .z fl :: []=>match n with
   | 3=>⟨Unit,fun _=>[],fun _=>[],fun _=>True,fun _=>0,4⟩
   | _=>noAnn
  | _=>noAnn
 | _=>noAnn
noncomputable def A_nextW_1:List SV→List Dat→List SV→List SObj→Nat→List SV→Ann:=fun _ _ _ _ _ _=>noAnn
noncomputable def I_nextW:List SV→List Dat→List In:=fun xs ds=>[⟨77,A_nextW_1 xs ds⟩]
def V_nextW:Prop:=
 ∀(B:RW) (l:RV) (b:List (List Int)),IsLst B l b.length 8 (Rv.elemOf [.i64,.i64,.i64,.i64,.i64,.i64,.i64,.i64] b)→oneB l=true→(∀row∈b,row.length=8)→∀(m:RV) (c:List (List Int)),IsLst B m c.length 2 (Rv.elemOf I2 c)→oneB m=true→(∀row∈c,row.length=2)→∀(s w q v A u n o z p x t r y M J K I a d D G H C L E F f i j k g h e:Int),F_nextW.pre ([Dat.l b,Dat.l c,Dat.z s,Dat.z w,Dat.z q,Dat.z v,Dat.z A,Dat.z u,Dat.z n,Dat.z o,Dat.z z,Dat.z p,Dat.z x,Dat.z t,Dat.z r,Dat.z y,Dat.z M,Dat.z J,Dat.z K,Dat.z I,Dat.z a,Dat.z d,Dat.z D,Dat.z G,Dat.z H,Dat.z C,Dat.z L,Dat.z E,Dat.z F]++([Dat.z f,Dat.z i,Dat.z j,Dat.z k,Dat.z g,Dat.z h]++([Dat.z e]++[])))→Ob True∧Ob True∧LsA B l [.i64,.i64,.i64,.i64,.i64,.i64,.i64,.i64] b∧LsA B m I2 c∧RwB B l b.length 8 [.i64,.i64,.i64,.i64,.i64,.i64,.i64,.i64] b fun a0=>RwB B m c.length 2 I2 c fun a8=>Ob ((-1000000:Int)≤n∧n≤(1000000:Int)∧(-1000000:Int)≤o∧o≤(1000000:Int))∧Ob True∧LsA B l [.i64,.i64,.i64,.i64,.i64,.i64,.i64,.i64] b∧LsA B m I2 c∧RwB B l b.length 8 [.i64,.i64,.i64,.i64,.i64,.i64,.i64,.i64] b fun V=>RwB B m c.length 2 I2 c fun Y=>Ob True∧Ob True∧Ob ((0:Int)≤(0:Int)∧(0:Int) < (↑2:Int))∧RwB B l b.length 8 [.i64,.i64,.i64,.i64,.i64,.i64,.i64,.i64] b fun a3=>RwB B m c.length 2 I2 c fun T=>Ob ((0:Int)≤(0:Int)∧(0:Int) < (↑3:Int))∧Ob (NxtOk a e d [f,i,j,k,g,h,s,w,x,t,(0:Int)-o,(0:Int)-n])∧Ob (InR .i64 ((1000:Int)*a))∧Ob ((-4000000000000000000:Int)≤wTot a e d (pick6 (0:Int) (0:Int) f i j k g h) (pick2 (0:Int) s w) (pick2 (0:Int) x t) (pick2 (0:Int) ((0:Int)-o) ((0:Int)-n))∧wTot a e d (pick6 (0:Int) (0:Int) f i j k g h) (pick2 (0:Int) s w) (pick2 (0:Int) x t) (pick2 (0:Int) ((0:Int)-o) ((0:Int)-n))≤(4000000000000000000:Int)∧(0:Int) < (1000:Int)*a∧(1000:Int)*a≤(4000000000000000000:Int))∧Ob True∧Ob ((0:Int)≤(1:Int)∧(1:Int) < (↑2:Int))∧RwB B l b.length 8 [.i64,.i64,.i64,.i64,.i64,.i64,.i64,.i64] b fun X=>RwB B m c.length 2 I2 c fun a7=>Ob ((0:Int)≤(0:Int)∧(0:Int) < (↑3:Int))∧Ob (NxtOk a e d [f,i,j,k,g,h,s,w,x,t,(0:Int)-o,(0:Int)-n])∧Ob (InR .i64 ((1000:Int)*a))∧Ob ((-4000000000000000000:Int)≤wTot a e d (pick6 (0:Int) (1:Int) f i j k g h) (pick2 (1:Int) s w) (pick2 (1:Int) x t) (pick2 (1:Int) ((0:Int)-o) ((0:Int)-n))∧wTot a e d (pick6 (0:Int) (1:Int) f i j k g h) (pick2 (1:Int) s w) (pick2 (1:Int) x t) (pick2 (1:Int) ((0:Int)-o) ((0:Int)-n))≤(4000000000000000000:Int)∧(0:Int) < (1000:Int)*a∧(1000:Int)*a≤(4000000000000000000:Int))∧Ob True∧Ob True∧Ob True∧LsA B l [.i64,.i64,.i64,.i64,.i64,.i64,.i64,.i64] b∧LsA B m I2 c∧RwB B l b.length 8 [.i64,.i64,.i64,.i64,.i64,.i64,.i64,.i64] b fun P=>RwB B m c.length 2 I2 c fun S=>Ob True∧Ob True∧LsA B l [.i64,.i64,.i64,.i64,.i64,.i64,.i64,.i64] b∧LsA B m I2 c∧RwB B l b.length 8 [.i64,.i64,.i64,.i64,.i64,.i64,.i64,.i64] b fun W=>RwB B m c.length 2 I2 c fun a1=>Ob True∧Ob True∧Ob ((0:Int)≤(0:Int)∧(0:Int) < (↑2:Int))∧RwB B l b.length 8 [.i64,.i64,.i64,.i64,.i64,.i64,.i64,.i64] b fun O=>RwB B m c.length 2 I2 c fun Z=>Ob ((0:Int)≤Int.ofNat 1∧Int.ofNat 1 < (↑3:Int))∧Ob (NxtOk a e d [f,i,j,k,g,h,q,v,(0:Int),(0:Int),z,p])∧Ob (InR .i64 ((1000:Int)*a))∧Ob ((-4000000000000000000:Int)≤wTot a e d (pick6 (Int.ofNat 1) (0:Int) f i j k g h) (pick2 (0:Int) q v) (pick2 (0:Int) (0:Int) (0:Int)) (pick2 (0:Int) z p)∧wTot a e d (pick6 (Int.ofNat 1) (0:Int) f i j k g h) (pick2 (0:Int) q v) (pick2 (0:Int) (0:Int) (0:Int)) (pick2 (0:Int) z p)≤(4000000000000000000:Int)∧(0:Int) < (1000:Int)*a∧(1000:Int)*a≤(4000000000000000000:Int))∧Ob True∧Ob ((0:Int)≤(1:Int)∧(1:Int) < (↑2:Int))∧RwB B l b.length 8 [.i64,.i64,.i64,.i64,.i64,.i64,.i64,.i64] b fun N=>RwB B m c.length 2 I2 c fun R=>Ob ((0:Int)≤Int.ofNat 1∧Int.ofNat 1 < (↑3:Int))∧Ob (NxtOk a e d [f,i,j,k,g,h,q,v,(0:Int),(0:Int),z,p])∧Ob (InR .i64 ((1000:Int)*a))∧Ob ((-4000000000000000000:Int)≤wTot a e d (pick6 (Int.ofNat 1) (1:Int) f i j k g h) (pick2 (1:Int) q v) (pick2 (1:Int) (0:Int) (0:Int)) (pick2 (1:Int) z p)∧wTot a e d (pick6 (Int.ofNat 1) (1:Int) f i j k g h) (pick2 (1:Int) q v) (pick2 (1:Int) (0:Int) (0:Int)) (pick2 (1:Int) z p)≤(4000000000000000000:Int)∧(0:Int) < (1000:Int)*a∧(1000:Int)*a≤(4000000000000000000:Int))∧Ob True∧Ob True∧Ob True∧LsA B l [.i64,.i64,.i64,.i64,.i64,.i64,.i64,.i64] b∧LsA B m I2 c∧RwB B l b.length 8 [.i64,.i64,.i64,.i64,.i64,.i64,.i64,.i64] b fun a2=>RwB B m c.length 2 I2 c fun Q=>Ob True∧Ob True∧LsA B l [.i64,.i64,.i64,.i64,.i64,.i64,.i64,.i64] b∧LsA B m I2 c∧RwB B l b.length 8 [.i64,.i64,.i64,.i64,.i64,.i64,.i64,.i64] b fun a5=>RwB B m c.length 2 I2 c fun a4=>Ob True∧Ob True∧Ob ((0:Int)≤(0:Int)∧(0:Int) < (↑2:Int))∧RwB B l b.length 8 [.i64,.i64,.i64,.i64,.i64,.i64,.i64,.i64] b fun aa=>RwB B m c.length 2 I2 c fun a9=>Ob ((0:Int)≤Int.ofNat 2∧Int.ofNat 2 < (↑3:Int))∧Ob (NxtOk a e d [f,i,j,k,g,h,A,u,r,y,(0:Int),(0:Int)])∧Ob (InR .i64 ((1000:Int)*a))∧Ob ((-4000000000000000000:Int)≤wTot a e d (pick6 (Int.ofNat 2) (0:Int) f i j k g h) (pick2 (0:Int) A u) (pick2 (0:Int) r y) (pick2 (0:Int) (0:Int) (0:Int))∧wTot a e d (pick6 (Int.ofNat 2) (0:Int) f i j k g h) (pick2 (0:Int) A u) (pick2 (0:Int) r y) (pick2 (0:Int) (0:Int) (0:Int))≤(4000000000000000000:Int)∧(0:Int) < (1000:Int)*a∧(1000:Int)*a≤(4000000000000000000:Int))∧Ob True∧Ob ((0:Int)≤(1:Int)∧(1:Int) < (↑2:Int))∧RwB B l b.length 8 [.i64,.i64,.i64,.i64,.i64,.i64,.i64,.i64] b fun a6=>RwB B m c.length 2 I2 c fun U=>Ob ((0:Int)≤Int.ofNat 2∧Int.ofNat 2 < (↑3:Int))∧Ob (NxtOk a e d [f,i,j,k,g,h,A,u,r,y,(0:Int),(0:Int)])∧Ob (InR .i64 ((1000:Int)*a))∧Ob ((-4000000000000000000:Int)≤wTot a e d (pick6 (Int.ofNat 2) (1:Int) f i j k g h) (pick2 (1:Int) A u) (pick2 (1:Int) r y) (pick2 (1:Int) (0:Int) (0:Int))∧wTot a e d (pick6 (Int.ofNat 2) (1:Int) f i j k g h) (pick2 (1:Int) A u) (pick2 (1:Int) r y) (pick2 (1:Int) (0:Int) (0:Int))≤(4000000000000000000:Int)∧(0:Int) < (1000:Int)*a∧(1000:Int)*a≤(4000000000000000000:Int))∧Ob True∧Ob (min (max (wTot a e d (pick6 (0:Int) (0:Int) f i j k g h) (pick2 (0:Int) s w) (pick2 (0:Int) x t) (pick2 (0:Int) ((0:Int)-o) ((0:Int)-n)) / ((1000:Int)*a)) (0:Int)) (100000:Int)=wLo a e d f s x ((0:Int)-o) (0:Int) (100000:Int))∧Ob (min (max ((0:Int)-((0:Int)-wTot a e d (pick6 (0:Int) (1:Int) f i j k g h) (pick2 (1:Int) s w) (pick2 (1:Int) x t) (pick2 (1:Int) ((0:Int)-o) ((0:Int)-n))) / ((1000:Int)*a)) (0:Int)) (100000:Int)=wHi a e d i w t ((0:Int)-n) (0:Int) (100000:Int))∧Ob (min (max (wTot a e d (pick6 (Int.ofNat 1) (0:Int) f i j k g h) (pick2 (0:Int) q v) (pick2 (0:Int) (0:Int) (0:Int)) (pick2 (0:Int) z p) / ((1000:Int)*a)) (0:Int)) (100000:Int)=wLo a e d j q (0:Int) z (0:Int) (100000:Int))∧Ob (min (max ((0:Int)-((0:Int)-wTot a e d (pick6 (Int.ofNat 1) (1:Int) f i j k g h) (pick2 (1:Int) q v) (pick2 (1:Int) (0:Int) (0:Int)) (pick2 (1:Int) z p)) / ((1000:Int)*a)) (0:Int)) (100000:Int)=wHi a e d k v (0:Int) p (0:Int) (100000:Int))∧Ob (min (max (wTot a e d (pick6 (Int.ofNat 2) (0:Int) f i j k g h) (pick2 (0:Int) A u) (pick2 (0:Int) r y) (pick2 (0:Int) (0:Int) (0:Int)) / ((1000:Int)*a)) (-50:Int)) (400:Int)=wLo a e d g A r (0:Int) (-50:Int) (400:Int))∧Ob (min (max ((0:Int)-((0:Int)-wTot a e d (pick6 (Int.ofNat 2) (1:Int) f i j k g h) (pick2 (1:Int) A u) (pick2 (1:Int) r y) (pick2 (1:Int) (0:Int) (0:Int))) / ((1000:Int)*a)) (-50:Int)) (400:Int)=wHi a e d h u y (0:Int) (-50:Int) (400:Int))∧True
set_option linter.unusedSimpArgs false in
set_option maxRecDepth 4000 in
set_option maxHeartbeats 4000000 in
theorem v_nextW:V_nextW:=by
 unfold V_nextW I2 LsA RwB
 intro B x T hx hox hrx y R hy hoy hry
 intro s1 s2 s3 s4 s5 s6 u1 u2 v1 v2 a1 a2 g1 g2 le mo w1 w2 lt gr t1 t2 t3 t4 t5 t6 nu n1 n2 n3 n4 n5 n6 fl
 intro hok
 have hok:NxtOk lt fl gr [0,0-u2,0-u1,s1,s2,s3,s4,s5,s6,u1,u2,v1,v2,a1,a2,g1,g2,n1,n2,n3,n4,n5,n6]:=hok
 have hl:=hok.l
 have hu1:=hok.x (0-u1) (by simp)
 have hu2:=hok.x (0-u2) (by simp)
 simp only [Ob_iff,and_true,true_and]
 repeat' (first | (with_reducible apply And.intro) | refine⟨T,⟨hx,rfl,hrx,fun _ _=>rfl⟩,?_⟩ | refine⟨R,⟨hy,rfl,hry,fun _ _=>rfl⟩,?_⟩ | fail)
 all_goals first | assumption | rfl | omega | decide | (simp only [InR]; omega) | (refine hok.sub ?_; intro x hx; simp only [List.mem_cons,List.not_mem_nil,or_false]at hx ⊢; rcases hx with rfl | rfl | rfl | rfl | rfl | rfl | rfl | rfl | rfl | rfl | rfl | rfl<;>simp) | exact(hok.dv (by simp [pick6,pick2]) (by simp [pick2]) (by simp [pick2]) (by simp [pick2])).1 | exact(hok.dv (by simp [pick6,pick2]) (by simp [pick2]) (by simp [pick2]) (by simp [pick2])).2.1
theorem e_nextW:V_nextW=needEI P [F_nothing,F_ofO,F_loadO,F_givenO,F_ofA,F_loadA,F_ofW,F_givenW,F_bothEnds,F_bound,F_divDown,F_divUp,F_total] [] I_nextW A_nextW F_nextW:=by kernel_rfl
theorem n_nextW:Ob (needEI P [F_nothing,F_ofO,F_loadO,F_givenO,F_ofA,F_loadA,F_ofW,F_givenW,F_bothEnds,F_bound,F_divDown,F_divUp,F_total] [] I_nextW A_nextW F_nextW):=by
 rw [← e_nextW]
 exact⟨v_nextW⟩
theorem b_nextW:((P.funcs[64]?).any fun fn=>fn.body.isSome)=true:=by kernel_rfl
theorem nextW_ok:FnE.Ok P F_nextW:=FnE.okI named (l:=[F_nothing,F_ofO,F_loadO,F_givenO,F_ofA,F_loadA,F_ofW,F_givenW,F_bothEnds,F_bound,F_divDown,F_divUp,F_total]) (es:=[]) (I:=I_nextW) (A:=A_nextW) (by rfl) (by rfl) (by rfl) (by
 intro F h
 simp only [List.mem_cons,List.not_mem_nil,or_false]at h
 rcases h with rfl | rfl | rfl | rfl | rfl | rfl | rfl | rfl | rfl | rfl | rfl | rfl | rfl
 ·exact nothing_ok
 ·exact ofO_ok
 ·exact loadO_ok
 ·exact givenO_ok
 ·exact ofA_ok
 ·exact loadA_ok
 ·exact ofW_ok
 ·exact givenW_ok
 ·exact bothEnds_ok
 ·exact bound_ok
 ·exact divDown_ok
 ·exact divUp_ok
 ·exact total_ok
) (by
 intro F h; simp at h) b_nextW (by
 rintro ds h o ho n sz e k z rfl
 simp only [F_nextW]at ho
 split at ho<;>simp at ho) n_nextW
end Go.Proofs.Ytgoiegaobhfocaa.Sy
