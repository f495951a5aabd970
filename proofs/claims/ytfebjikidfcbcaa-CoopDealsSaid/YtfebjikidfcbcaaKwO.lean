import Derived.Test.YtfebjikidfcbcaaSyP2
import Derived.Test.YtfebjikidfcbcaaGrM
import Derived.Test.YtfebjikidfcbcaaStM
import Derived.Test.YtfebjikidfcbcaaKtT
import Derived.Test.YtfebjikidfcbcaaKtA
import Derived.Test.YtfebjikidfcbcaaKtB
import Derived.Test.YtfebjikidfcbcaaKwA
import Derived.Test.YtfebjikidfcbcaaSyP2
import Derived.KernelRfl
import Derived.Test.YtfebjikidfcbcaaProg
namespace Go.Proofs.Ytfebjikidfcbcaa.Sy
open Go Go.Rv
set_option linter.unusedVariables false
def dlA1 (a kd:Int):Int:=if kd=0 then belowA a (8-1+1)else a
def dlK1 (a kd:Int):Int:=if kd=0 then 1+belowV a (8-1+1)else kd
def dlK (n a kd:Int):Int:=if dlK1 a kd=6∧n < 2 then 1 else dlK1 a kd
def dlM0 (n a kd:Int):Int:=belowV (dlA1 a kd) n
def dlA2 (n a kd:Int):Int:=belowA (dlA1 a kd) n
def dlW (n a kd:Int):Int:=ofV (dlA2 n a kd) [[20],[300],[3000]]
def dlA3 (n a kd:Int):Int:=ofA (dlA2 n a kd) [[20],[300],[3000]]
def dlQ0 (n a kd:Int):Int:=1+belowV (dlA3 n a kd) (dlW n a kd-1+1)
def dlA4 (n a kd:Int):Int:=belowA (dlA3 n a kd) (dlW n a kd-1+1)
def dlM (n a kd:Int):Int:=if dlK n a kd=7∨dlK n a kd=8 then 0 else dlM0 n a kd
def dlO (n a kd:Int):Int:=if dlK n a kd=6 then wrapZ (dlM0 n a kd+(1+belowV (dlA4 n a kd) (n-1-1+1))) n else 0
def dlQ (n a kd:Int):Int:=if dlK n a kd=2 then 1+belowV (dlA4 n a kd) (60-1+1)else dlQ0 n a kd
def dlE (n a kd:Int):Int:=if dlK n a kd=6 then belowA (dlA4 n a kd) (n-1-1+1)else if dlK n a kd=2 then belowA (dlA4 n a kd) (60-1+1)else dlA4 n a kd
theorem ofV_three' (a x y z:Int):ofV a [[x],[y],[z]]=x∨ofV a [[x],[y],[z]]=y∨ofV a [[x],[y],[z]]=z:=by
 have h:=belowV_in a 3
 have e:ofV a [[x],[y],[z]]=cell [[x],[y],[z]] (belowV a 3).toNat 0:=by simp [ofV]
 rw [e]
 have:(belowV a 3).toNat=0∨(belowV a 3).toNat=1∨(belowV a 3).toNat=2:=by
  generalize belowV a 3=q at *
  omega
 rcases this with h0 | h0 | h0<;>rw [h0]
 ·exact .inl rfl
 ·exact .inr (.inl rfl)
 ·exact .inr (.inr rfl)
def dsQ (n b:Int):Int:=dlE n (ofA b [[0],[0],[1]]) (ofV b [[0],[0],[1]])
def dsR (n b:Int):List Int:=[dlK n (ofA b [[0],[0],[1]]) (ofV b [[0],[0],[1]]),dlM n (ofA b [[0],[0],[1]]) (ofV b [[0],[0],[1]]),dlO n (ofA b [[0],[0],[1]]) (ofV b [[0],[0],[1]]),dlQ n (ofA b [[0],[0],[1]]) (ofV b [[0],[0],[1]])]
theorem snoc4 {R:Rows} {k:Nat} {x y z w:Int} (hl:R.length=k):∀i,i < k+1→(behind k (.fn (Rv.elemOf [.i64,.i64,.i64,.i64] R)) 1 (litEl [SV.i .i64 x,SV.i .i64 y,SV.i .i64 z,SV.i .i64 w] 4 1)).at i=(El.fn (Rv.elemOf [.i64,.i64,.i64,.i64] (R++[[x,y,z,w]]))).at i:=fun i hi=>by
 have:=snoc_at (R:=R) (ks:=[.i64,.i64,.i64,.i64]) (r:=[x,y,z,w]) (cs:=[SV.i .i64 x,SV.i .i64 y,SV.i .i64 z,SV.i .i64 w]) rfl (i:=i) (by omega)
 rw [hl]at this
 exact this
structure EqZ (a b:Int):Prop where
 h:a=b
structure KdS where
 k:Int
 a:Int
noncomputable def F_DealOf:FnE:=⟨11,(some [.i .u64]),[.agg [.i .i64,.i .i64,.i .i64,.i .i64,.l [.i64,.i64,.i64],.i .i64],i64],fun l=>match l with | [.z a,.z fee,.z itr,.z pri,.z cre,.l A,.z till,.z kd]=>(1≤A.length∧A.length≤1000)∧0≤kd∧kd≤8 | _=>False,fun l=>match l with | [.z a,.z fee,.z itr,.z pri,.z cre,.l A,.z till,.z kd]=>[.agg [.i .i64 (dlK A.length a kd),.i .i64 (dlM A.length a kd),.i .i64 (dlO A.length a kd),.i .i64 (dlQ A.length a kd)]] | _=>[],fun l=>match l with | [.z a,.z fee,.z itr,.z pri,.z cre,.l A,.z till,.z kd]=>[] | _=>[],fun l=>match l with | [.z a,.z fee,.z itr,.z pri,.z cre,.l A,.z till,.z kd]=>[.i .u64 (dlE A.length a kd)] | _=>[],false,none,none⟩
noncomputable def A_DealOf:List SV→List Dat→Nat→List SV→Ann:=fun xs ds n ts=>match xs with
 | [.agg _,.agg [_,_,_,_,.lst x _ _ _,_],.i _ _]=>match ds with
  | [.z a,.z fee,.z itr,.z pri,.z cre,.l A,.z till,.z kd]=>match n with
   | 4=>⟨KdS,fun v=>([some (SV.ptr ((0:Nat)) ((0:Nat))),none,some (.i .i64 v.k),none,none,none,some (SV.ptr ((2:Nat)) ((0:Nat))),some (SV.i IntKind.i64 (↑A.length:Int))]++nN 47),fun v=>[SObj.cells [SV.v (Value.int IntKind.i64 (0:Int)),SV.v (Value.int IntKind.i64 (0:Int)),SV.v (Value.int IntKind.i64 (0:Int)),SV.v (Value.int IntKind.i64 (0:Int))] Kd.ex,SObj.cells [SV.i IntKind.i64 fee,SV.i IntKind.i64 itr,SV.i IntKind.i64 pri,SV.i IntKind.i64 cre,SV.lst x A.length ((3:Nat)) (Rv.elemOf [IntKind.i64,IntKind.i64,IntKind.i64] A),SV.i IntKind.i64 till] Kd.ex,.cells [.i .u64 v.a] .ex],fun v=>v.k=dlK1 a kd∧v.a=dlA1 a kd∧1≤v.k∧v.k≤8,fun v=>0,1000000⟩
   | 6=>⟨KdS,fun v=>([some (SV.ptr ((0:Nat)) ((0:Nat))),none,some (.i .i64 v.k),none,none,none,some (SV.ptr ((2:Nat)) ((0:Nat))),some (SV.i IntKind.i64 (↑A.length:Int))]++nN 47),fun v=>[SObj.cells [SV.v (Value.int IntKind.i64 (0:Int)),SV.v (Value.int IntKind.i64 (0:Int)),SV.v (Value.int IntKind.i64 (0:Int)),SV.v (Value.int IntKind.i64 (0:Int))] Kd.ex,SObj.cells [SV.i IntKind.i64 fee,SV.i IntKind.i64 itr,SV.i IntKind.i64 pri,SV.i IntKind.i64 cre,SV.lst x A.length ((3:Nat)) (Rv.elemOf [IntKind.i64,IntKind.i64,IntKind.i64] A),SV.i IntKind.i64 till] Kd.ex,.cells [.i .u64 v.a] .ex],fun v=>v.k=dlK A.length a kd∧v.a=dlA1 a kd∧1≤v.k∧v.k≤8,fun v=>0,1000000⟩
   | _=>noAnn
  | _=>noAnn
 | _=>noAnn
def V_DealOf:Prop:=
 ∀(B:RW) (b k i g j:Int) (f:RV) (a:List (List Int)),IsLst B f a.length 3 (Rv.elemOf I3 a)→oneB f=true→(∀row∈a,row.length=3)→∀(h c:Int),F_DealOf.pre ([Dat.z b]++([Dat.z k,Dat.z i,Dat.z g,Dat.z j,Dat.l a,Dat.z h]++([Dat.z c]++[])))→LsA B f I3 a∧((c=(0:Int)→Ob (F_From.named.pre ([Dat.z b]++[Dat.z (1:Int),Dat.z (8:Int)]))∧∀(n:Int),n=belowA b ((8:Int)-(1:Int)+(1:Int))→∀(m:Int),m=(1:Int)+belowV b ((8:Int)-(1:Int)+(1:Int))→∃(e:KdS),Ob (e.k=dlK1 b c∧e.a=dlA1 b c∧(1:Int)≤e.k∧e.k≤(8:Int))∧Ob (m=e.k)∧Ob ((↑a.length:Int)=(↑a.length:Int))∧Ob (Value.int .i64 (0:Int)=Value.int .i64 (0:Int))∧Ob (Value.int .i64 (0:Int)=Value.int .i64 (0:Int))∧Ob (Value.int .i64 (0:Int)=Value.int .i64 (0:Int))∧Ob (Value.int .i64 (0:Int)=Value.int .i64 (0:Int))∧Ob (k=k)∧Ob (i=i)∧Ob (g=g)∧Ob (j=j)∧Ob (SV.lst f a.length 3 (Rv.elemOf I3 a)=SV.lst f a.length 3 (Rv.elemOf I3 a))∧Ob (h=h)∧Ob (n=e.a)∧LsA B f I3 a∧True)∧(¬c=(0:Int)→∃(e:KdS),Ob (e.k=dlK1 b c∧e.a=dlA1 b c∧(1:Int)≤e.k∧e.k≤(8:Int))∧Ob (c=e.k)∧Ob ((↑a.length:Int)=(↑a.length:Int))∧Ob (Value.int .i64 (0:Int)=Value.int .i64 (0:Int))∧Ob (Value.int .i64 (0:Int)=Value.int .i64 (0:Int))∧Ob (Value.int .i64 (0:Int)=Value.int .i64 (0:Int))∧Ob (Value.int .i64 (0:Int)=Value.int .i64 (0:Int))∧Ob (k=k)∧Ob (i=i)∧Ob (g=g)∧Ob (j=j)∧Ob (SV.lst f a.length 3 (Rv.elemOf I3 a)=SV.lst f a.length 3 (Rv.elemOf I3 a))∧Ob (h=h)∧Ob (b=e.a)∧LsA B f I3 a∧True))∧∀(e:KdS),e.k=dlK1 b c∧e.a=dlA1 b c∧(1:Int)≤e.k∧e.k≤(8:Int)→∀(_ _ _ _ _ _ _ _ _ _ _ _ _ _ _ _ _ _ _ _ _ _ _ _ _ _ _ _ _ _ _ _ _ _ _ _ _ _ _ _ _ _ _ _ _ _ _ _ _ _ _:Value),((e.k=(6:Int)→((↑a.length:Int) < (2:Int)→∃(d:KdS),Ob (d.k=dlK (↑a.length:Int) b c∧d.a=dlA1 b c∧(1:Int)≤d.k∧d.k≤(8:Int))∧Ob ((1:Int)=d.k)∧Ob ((↑a.length:Int)=(↑a.length:Int))∧Ob (Value.int .i64 (0:Int)=Value.int .i64 (0:Int))∧Ob (Value.int .i64 (0:Int)=Value.int .i64 (0:Int))∧Ob (Value.int .i64 (0:Int)=Value.int .i64 (0:Int))∧Ob (Value.int .i64 (0:Int)=Value.int .i64 (0:Int))∧Ob (k=k)∧Ob (i=i)∧Ob (g=g)∧Ob (j=j)∧Ob (SV.lst f a.length 3 (Rv.elemOf I3 a)=SV.lst f a.length 3 (Rv.elemOf I3 a))∧Ob (h=h)∧Ob (e.a=d.a)∧LsA B f I3 a∧True)∧(¬(↑a.length:Int) < (2:Int)→∃(d:KdS),Ob (d.k=dlK (↑a.length:Int) b c∧d.a=dlA1 b c∧(1:Int)≤d.k∧d.k≤(8:Int))∧Ob (e.k=d.k)∧Ob ((↑a.length:Int)=(↑a.length:Int))∧Ob (Value.int .i64 (0:Int)=Value.int .i64 (0:Int))∧Ob (Value.int .i64 (0:Int)=Value.int .i64 (0:Int))∧Ob (Value.int .i64 (0:Int)=Value.int .i64 (0:Int))∧Ob (Value.int .i64 (0:Int)=Value.int .i64 (0:Int))∧Ob (k=k)∧Ob (i=i)∧Ob (g=g)∧Ob (j=j)∧Ob (SV.lst f a.length 3 (Rv.elemOf I3 a)=SV.lst f a.length 3 (Rv.elemOf I3 a))∧Ob (h=h)∧Ob (e.a=d.a)∧LsA B f I3 a∧True))∧(¬e.k=(6:Int)→∃(d:KdS),Ob (d.k=dlK (↑a.length:Int) b c∧d.a=dlA1 b c∧(1:Int)≤d.k∧d.k≤(8:Int))∧Ob (e.k=d.k)∧Ob ((↑a.length:Int)=(↑a.length:Int))∧Ob (Value.int .i64 (0:Int)=Value.int .i64 (0:Int))∧Ob (Value.int .i64 (0:Int)=Value.int .i64 (0:Int))∧Ob (Value.int .i64 (0:Int)=Value.int .i64 (0:Int))∧Ob (Value.int .i64 (0:Int)=Value.int .i64 (0:Int))∧Ob (k=k)∧Ob (i=i)∧Ob (g=g)∧Ob (j=j)∧Ob (SV.lst f a.length 3 (Rv.elemOf I3 a)=SV.lst f a.length 3 (Rv.elemOf I3 a))∧Ob (h=h)∧Ob (e.a=d.a)∧LsA B f I3 a∧True))∧∀(d:KdS),d.k=dlK (↑a.length:Int) b c∧d.a=dlA1 b c∧(1:Int)≤d.k∧d.k≤(8:Int)→∀(_ _ _ _ _ _ _ _ _ _ _ _ _ _ _ _ _ _ _ _ _ _ _ _ _ _ _ _ _ _ _ _ _ _ _ _ _ _ _ _ _ _ _ _ _ _ _ _ _ _ _:Value),Ob (F_Below.named.pre ([Dat.z d.a]++[Dat.z (↑a.length:Int)]))∧∀(n:Int),n=belowA d.a (↑a.length:Int)→∀(m:Int),m=belowV d.a (↑a.length:Int)→Ob (F_Of.named.pre ([Dat.z n]++[Dat.l [[(20:Int)],[(300:Int)],[(3000:Int)]]]))∧∀(s:Int),s=ofA n [[(20:Int)],[(300:Int)],[(3000:Int)]]→∀(r:Int),r=ofV n [[(20:Int)],[(300:Int)],[(3000:Int)]]→Ob (F_From.named.pre ([Dat.z s]++[Dat.z (1:Int),Dat.z r]))∧∀(l:Int),l=belowA s (r-(1:Int)+(1:Int))→∀(q:Int),q=(1:Int)+belowV s (r-(1:Int)+(1:Int))→(d.k=(6:Int)→Ob (InR .i64 ((↑a.length:Int)-(1:Int)))∧Ob (F_From.named.pre ([Dat.z l]++[Dat.z (1:Int),Dat.z ((↑a.length:Int)-(1:Int))]))∧∀(p:Int),p=belowA l ((↑a.length:Int)-(1:Int)-(1:Int)+(1:Int))→∀(o:Int),o=(1:Int)+belowV l ((↑a.length:Int)-(1:Int)-(1:Int)+(1:Int))→Ob (InR .i64 (m+o))∧Ob ((↑a.length:Int)≤(1000000000:Int))∧Ob (d.k=dlK (↑a.length:Int) b c)∧Ob (m=dlM (↑a.length:Int) b c)∧Ob (wrapZ (m+o) (↑a.length:Int)=dlO (↑a.length:Int) b c)∧Ob (q=dlQ (↑a.length:Int) b c)∧Ob (p=dlE (↑a.length:Int) b c)∧True)∧(¬d.k=(6:Int)→(d.k=(7:Int)→Ob (d.k=dlK (↑a.length:Int) b c)∧Ob ((0:Int)=dlM (↑a.length:Int) b c)∧Ob ((0:Int)=dlO (↑a.length:Int) b c)∧Ob (q=dlQ (↑a.length:Int) b c)∧Ob (l=dlE (↑a.length:Int) b c)∧True)∧(¬d.k=(7:Int)→(d.k=(8:Int)→Ob (d.k=dlK (↑a.length:Int) b c)∧Ob ((0:Int)=dlM (↑a.length:Int) b c)∧Ob ((0:Int)=dlO (↑a.length:Int) b c)∧Ob (q=dlQ (↑a.length:Int) b c)∧Ob (l=dlE (↑a.length:Int) b c)∧True)∧(¬d.k=(8:Int)→(d.k=(2:Int)→Ob (F_From.named.pre ([Dat.z l]++[Dat.z (1:Int),Dat.z (60:Int)]))∧∀(p:Int),p=belowA l ((60:Int)-(1:Int)+(1:Int))→∀(o:Int),o=(1:Int)+belowV l ((60:Int)-(1:Int)+(1:Int))→Ob (d.k=dlK (↑a.length:Int) b c)∧Ob (m=dlM (↑a.length:Int) b c)∧Ob ((0:Int)=dlO (↑a.length:Int) b c)∧Ob (o=dlQ (↑a.length:Int) b c)∧Ob (p=dlE (↑a.length:Int) b c)∧True)∧(¬d.k=(2:Int)→Ob (d.k=dlK (↑a.length:Int) b c)∧Ob (m=dlM (↑a.length:Int) b c)∧Ob ((0:Int)=dlO (↑a.length:Int) b c)∧Ob (q=dlQ (↑a.length:Int) b c)∧Ob (l=dlE (↑a.length:Int) b c)∧True))))
set_option linter.unusedSimpArgs false in
set_option maxRecDepth 4000 in
set_option maxHeartbeats 400000 in
theorem v_DealOf:V_DealOf:=by
 unfold V_DealOf I3 LsA
 intro B a fee itr pri cre x A hx hox hrx till kd hpre
 obtain⟨⟨hA1,hA2⟩,h0,h8⟩:(1≤A.length∧A.length≤1000)∧0≤kd∧kd≤8:=hpre
 simp only [F_Below,F_From,F_Of,FnE.named,List.cons_append,List.nil_append,Ob_iff,and_true,true_and]at ⊢
 refine⟨hx,⟨fun h1=>?_,fun h1=>?_⟩,?_⟩
 ·refine⟨by omega,?_⟩
  intro v hv v1 hv1
  have hb:=belowV_in a (8-1+1)
  refine⟨⟨v1,v⟩,⟨?_,?_,?_,?_⟩,rfl,rfl,hx⟩
  ·show v1=dlK1 a kd
   unfold dlK1
   rw [if_pos h1]; exact hv1
  ·show v=dlA1 a kd
   unfold dlA1
   rw [if_pos h1]; exact hv
  ·show 1≤v1
   omega
  ·show v1≤8
   omega
 ·refine⟨⟨kd,a⟩,⟨?_,?_,?_,?_⟩,rfl,rfl,hx⟩
  ·show kd=dlK1 a kd
   unfold dlK1
   rw [if_neg h1]
  ·show a=dlA1 a kd
   unfold dlA1
   rw [if_neg h1]
  ·show 1≤kd
   omega
  ·show kd≤8
   omega
 intro u hu
 obtain⟨hu1,hu2,hu3,hu4⟩:=hu
 intros
 refine⟨⟨fun h1=>⟨fun h2=>?_,fun h2=>?_⟩,fun h1=>?_⟩,?_⟩
 ·refine⟨⟨1,u.a⟩,⟨?_,hu2,Int.le_refl _,by show(1:Int)≤8; omega⟩,rfl,rfl,hx⟩
  show 1=dlK A.length a kd
  unfold dlK
  rw [if_pos ⟨hu1 ▸ h1,by omega⟩]
 ·refine⟨⟨u.k,u.a⟩,⟨?_,hu2,hu3,hu4⟩,rfl,rfl,hx⟩
  show u.k=dlK A.length a kd
  unfold dlK
  rw [if_neg (fun h=>h2 (by omega)),hu1]
 ·refine⟨⟨u.k,u.a⟩,⟨?_,hu2,hu3,hu4⟩,rfl,rfl,hx⟩
  show u.k=dlK A.length a kd
  unfold dlK
  rw [if_neg (fun h=>h1 (hu1 ▸ h.1)),hu1]
 intro v hv
 obtain⟨hk,ha,hk1,hk2⟩:=hv
 intros
 have hm:=belowV_in v.a (A.length:Int)
 refine⟨by omega,?_⟩
 intro v2 hv2; replace hv2:EqZ _ _:=⟨hv2⟩
 intro v3 hv3; rw [← hv3]at hm; replace hv3:EqZ _ _:=⟨hv3⟩
 have hm:0≤v3∧v3≤1000:=by omega
 refine⟨by simp,?_⟩
 intro v4 hv4; replace hv4:EqZ _ _:=⟨hv4⟩
 intro v5 hv5
 have hw:v5=20∨v5=300∨v5=3000:=by rw [hv5]; exact ofV_three' _ _ _ _
 replace hv5:EqZ _ _:=⟨hv5⟩
 refine⟨by omega,?_⟩
 intro v6 hv6; replace hv6:EqZ _ _:=⟨hv6⟩
 intro v7 hv7; replace hv7:EqZ _ _:=⟨hv7⟩
 have g2:v2=dlA2 A.length a kd:=by rw [hv2.h,ha]; rfl
 have g3:v3=dlM0 A.length a kd:=by rw [hv3.h,ha]; rfl
 have g4:v4=dlA3 A.length a kd:=by rw [hv4.h,g2]; rfl
 have g5:v5=dlW A.length a kd:=by rw [hv5.h,g2]; rfl
 have g6:v6=dlA4 A.length a kd:=by rw [hv6.h,g4,g5]; rfl
 have g7:v7=dlQ0 A.length a kd:=by rw [hv7.h,g4,g5]; rfl
 clear hv2 hv3 hv4 hv5 hv6 hv7 g2 g4 g5
 have eM:¬ (v.k=7∨v.k=8)→v3=dlM A.length a kd:=fun h=>by unfold dlM; rw [← hk,if_neg h]; exact g3
 have eM0:v.k=7∨v.k=8→0=dlM A.length a kd:=fun h=>by unfold dlM; rw [← hk,if_pos h]
 have eO:¬ v.k=6→0=dlO A.length a kd:=fun h=>by unfold dlO; rw [← hk,if_neg h]
 have eQ:¬ v.k=2→v7=dlQ A.length a kd:=fun h=>by unfold dlQ; rw [← hk,if_neg h]; exact g7
 have eE:¬ v.k=6→¬ v.k=2→v6=dlE A.length a kd:=fun h h2=>by unfold dlE; rw [← hk,if_neg h,if_neg h2]; exact g6
 have h6:v.k=6→2≤A.length:=fun h1=>by
  have e:dlK A.length a kd=if dlK1 a kd=6∧(A.length:Int) < 2 then 1 else dlK1 a kd:=rfl
  rw [← hk]at e
  by_cases h7:dlK1 a kd=6∧(A.length:Int) < 2
  ·rw [if_pos h7]at e
   omega
  ·rw [if_neg h7]at e
   have:¬ (A.length:Int) < 2:=fun hh=>h7 ⟨e ▸ h1,hh⟩
   omega
 replace hk:EqZ _ _:=⟨hk⟩
 replace g3:EqZ _ _:=⟨g3⟩
 replace g6:EqZ _ _:=⟨g6⟩
 replace g7:EqZ _ _:=⟨g7⟩
 clear hu1 hu2 hu3 hu4 ha
 refine⟨fun h1=>?_,fun h1=>⟨fun h2=>?_,fun h2=>⟨fun h3=>?_,fun h3=>⟨fun h4=>?_,fun h4=>?_⟩⟩⟩⟩
 ·have h6:=h6 h1
  have hd:=belowV_in v6 ((A.length:Int)-1-1+1)
  refine⟨by simp only [InR]; omega,by omega,?_⟩
  intro v8 hv8 v9 hv9
  have hd:1≤v9∧v9≤1000:=by rw [hv9]; clear hv8 hv9; omega
  replace hv8:EqZ _ _:=⟨hv8⟩
  replace hv9:EqZ _ _:=⟨hv9⟩
  have n2:¬ v.k=2:=by omega
  have n78:¬ (v.k=7∨v.k=8):=by omega
  refine⟨by simp only [InR]; omega,by omega,hk.h,eM n78,?_,eQ n2,?_⟩
  ·unfold dlO
   rw [← hk.h,if_pos h1,hv9.h,g3.h,g6.h]
  ·unfold dlE
   rw [← hk.h,if_pos h1,hv8.h,g6.h]
 ·have n2:¬ v.k=2:=by omega
  exact⟨hk.h,eM0 (.inl h2),eO h1,eQ n2,eE h1 n2⟩
 ·have n2:¬ v.k=2:=by omega
  exact⟨hk.h,eM0 (.inr h3),eO h1,eQ n2,eE h1 n2⟩
 ·refine⟨by omega,?_⟩
  intro v8 hv8 v9 hv9
  have n78:¬ (v.k=7∨v.k=8):=fun h=>h.elim h2 h3
  refine⟨hk.h,eM n78,eO h1,?_,?_⟩
  ·unfold dlQ
   rw [← hk.h,if_pos h4,hv9,g6.h]
  ·unfold dlE
   rw [← hk.h,if_neg h1,if_pos h4,hv8,g6.h]
 ·exact⟨hk.h,eM (fun h=>h.elim h2 h3),eO h1,eQ h4,eE h1 h4⟩
theorem e_DealOf:V_DealOf=needE P [F_Wrap] [F_Below.named,F_From.named,F_Of.named] A_DealOf F_DealOf:=by kernel_rfl
theorem n_DealOf:Ob (needE P [F_Wrap] [F_Below.named,F_From.named,F_Of.named] A_DealOf F_DealOf):=by
 rw [← e_DealOf]
 exact⟨v_DealOf⟩
theorem b_DealOf:((P.funcs[11]?).any fun fn=>fn.body.isSome)=true:=by kernel_rfl
theorem DealOf_ok:FnE.Ok P F_DealOf:=FnE.ok named (l:=[F_Wrap]) (es:=[F_Below.named,F_From.named,F_Of.named]) (A:=A_DealOf) (by rfl) (by rfl) (by rfl) (by
 intro F h
 simp only [List.mem_cons,List.not_mem_nil,or_false]at h
 rcases h with rfl
 ·exact Wrap_ok
) (by
 intro F h
 simp only [List.mem_cons,List.not_mem_nil,or_false]at h
 rcases h with rfl | rfl | rfl
 ·exact Below_ok.named
 ·exact From_ok.named
 ·exact Of_ok.named
) b_DealOf (by
 rintro ds h o ho n sz e k z rfl
 simp only [F_DealOf]at ho
 split at ho<;>simp at ho) n_DealOf
noncomputable def F_DealsOf:FnE:=⟨12,(some [.i .u64]),[.agg [.i .i64,.i .i64,.i .i64,.i .i64,.l [.i64,.i64,.i64],.i .i64],i64],fun l=>match l with | [.z a,.z fee,.z itr,.z pri,.z cre,.l A,.z till,.z most]=>(1≤A.length∧A.length≤1000)∧0≤most∧most≤1000 | _=>False,fun l=>match l with | [.z a,.z fee,.z itr,.z pri,.z cre,.l A,.z till,.z most]=>[.gsl 0 (belowV a (most+1)).toNat 4 true] | _=>[],fun l=>match l with | [.z a,.z fee,.z itr,.z pri,.z cre,.l A,.z till,.z most]=>[.gr (belowV a (most+1)).toNat 4 (.fn (Rv.elemOf [.i64,.i64,.i64,.i64] (itR (dsQ A.length) (dsR A.length) (belowA a (most+1)) (belowV a (most+1)).toNat))) .gr true] | _=>[],fun l=>match l with | [.z a,.z fee,.z itr,.z pri,.z cre,.l A,.z till,.z most]=>[.i .u64 (itQ (dsQ A.length) (belowA a (most+1)) (belowV a (most+1)).toNat)] | _=>[],false,none,none⟩
noncomputable def A_DealsOf:List SV→List Dat→Nat→List SV→Ann:=fun xs ds n ts=>match xs with
 | [.agg _,.agg [_,_,_,_,.lst x _ _ _,_],.i _ _]=>match ds with
  | [.z a,.z fee,.z itr,.z pri,.z cre,.l A,.z till,.z most]=>match n with
   | 3=>⟨Nat,fun k=>([some (SV.ptr ((0:Nat)) ((0:Nat))),none,none,none,some (SV.ptr ((1:Nat)) ((0:Nat))),none,some (SV.v (Value.slice none ((0:Nat)) ((0:Nat)))),some (.gsl 2 k 4 true),some (.i .i64 (belowV a (most+1)-k))]++nN 18),fun k=>[.gr k 4 (.fn (Rv.elemOf [.i64,.i64,.i64,.i64] (itR (dsQ A.length) (dsR A.length) (belowA a (most+1)) k))) .gr true,SObj.cells [SV.i IntKind.i64 fee,SV.i IntKind.i64 itr,SV.i IntKind.i64 pri,SV.i IntKind.i64 cre,SV.lst x A.length ((3:Nat)) (Rv.elemOf [IntKind.i64,IntKind.i64,IntKind.i64] A),SV.i IntKind.i64 till] Kd.ex,.cells [.i .u64 (itQ (dsQ A.length) (belowA a (most+1)) k)] .ex],fun k=>(k:Int)≤belowV a (most+1),fun k=>(belowV a (most+1)-k).toNat,0⟩
   | _=>noAnn
  | _=>noAnn
 | _=>noAnn
def V_DealsOf:Prop:=
 ∀(B:RW) (c n l i m:Int) (e:RV) (a:List (List Int)),IsLst B e a.length 3 (Rv.elemOf I3 a)→oneB e=true→(∀row∈a,row.length=3)→∀(k b:Int),F_DealsOf.pre ([Dat.z c]++([Dat.z n,Dat.z l,Dat.z i,Dat.z m,Dat.l a,Dat.z k]++([Dat.z b]++[])))→Ob (InR .i64 (b+(1:Int)))∧Ob (F_Below.named.pre ([Dat.z c]++[Dat.z (b+(1:Int))]))∧∀(p:Int),p=belowA c (b+(1:Int))→∀(o:Int),o=belowV c (b+(1:Int))→(∃(d:Nat),Ob ((↑d:Int)≤belowV c (b+(1:Int)))∧Ob (SV.v (Value.slice none 0 0)=SV.v (Value.slice none 0 0))∧Ob (d=(0:Nat))∧Ob (o=belowV c (b+(1:Int))-(↑d:Int))∧Ob (d=(0:Nat))∧Ob (n=n)∧Ob (l=l)∧Ob (i=i)∧Ob (m=m)∧Ob (SV.lst e a.length 3 (Rv.elemOf I3 a)=SV.lst e a.length 3 (Rv.elemOf I3 a))∧Ob (k=k)∧Ob (p=itQ (dsQ (↑a.length:Int)) (belowA c (b+(1:Int))) d)∧Ob (PlainE d (El.fn (Rv.elemOf I4 (itR (dsQ (↑a.length:Int)) (dsR (↑a.length:Int)) (belowA c (b+(1:Int))) d))))∧LsA B e I3 a∧True)∧∀(d:Nat),(↑d:Int)≤belowV c (b+(1:Int))→∀(_ _ _ _ _ _ _ _ _ _ _ _ _ _ _ _ _ _ _ _ _ _:Value),((0:Int) < belowV c (b+(1:Int))-(↑d:Int)→LsA B e I3 a∧Ob (F_Of.named.pre ([Dat.z (itQ (dsQ (↑a.length:Int)) (belowA c (b+(1:Int))) d)]++[Dat.l [[(0:Int)],[(0:Int)],[(1:Int)]]]))∧∀(h:Int),h=ofA (itQ (dsQ (↑a.length:Int)) (belowA c (b+(1:Int))) d) [[(0:Int)],[(0:Int)],[(1:Int)]]→∀(g:Int),g=ofV (itQ (dsQ (↑a.length:Int)) (belowA c (b+(1:Int))) d) [[(0:Int)],[(0:Int)],[(1:Int)]]→RwB B e a.length 3 I3 a fun j=>Ob (F_DealOf.named.pre ([Dat.z h]++([Dat.z n,Dat.z l,Dat.z i,Dat.z m,Dat.l j,Dat.z k]++[Dat.z g])))∧∀(t:Int),t=dlE (↑j.length:Int) h g→∀(u:Int),u=dlK (↑j.length:Int) h g→∀(q:Int),q=dlM (↑j.length:Int) h g→∀(r:Int),r=dlO (↑j.length:Int) h g→∀(v:Int),v=dlQ (↑j.length:Int) h g→Ob (d=d∧∀(s:Nat),s < d→((El.fn (Rv.elemOf I4 (itR (dsQ (↑a.length:Int)) (dsR (↑a.length:Int)) (belowA c (b+(1:Int))) d))).at s).length=(4:Nat))∧Ob ((d+(1:Nat))*(2:Nat)*(33:Nat)≤1099511627776)∧Ob (d=d)∧Ob (InR .i64 (belowV c (b+(1:Int))-(↑d:Int)-(1:Int)))∧∃(f:Nat),Ob ((↑f:Int)≤belowV c (b+(1:Int))∧(belowV c (b+(1:Int))-(↑f:Int)).toNat < (belowV c (b+(1:Int))-(↑d:Int)).toNat)∧Ob (SV.v (Value.slice none 0 0)=SV.v (Value.slice none 0 0))∧Ob (d+(1:Nat)=f)∧Ob (belowV c (b+(1:Int))-(↑d:Int)-(1:Int)=belowV c (b+(1:Int))-(↑f:Int))∧EqA (d+(1:Nat)) f (behind d (El.fn (Rv.elemOf I4 (itR (dsQ (↑a.length:Int)) (dsR (↑a.length:Int)) (belowA c (b+(1:Int))) d))) 1 (litEl (symL [SV.i .i64 u,SV.i .i64 q,SV.i .i64 r,SV.i .i64 v]) 4 1)) (El.fn (Rv.elemOf I4 (itR (dsQ (↑a.length:Int)) (dsR (↑a.length:Int)) (belowA c (b+(1:Int))) f)))∧Ob (n=n)∧Ob (l=l)∧Ob (i=i)∧Ob (m=m)∧Ob (SV.lst e a.length 3 (Rv.elemOf I3 a)=SV.lst e a.length 3 (Rv.elemOf I3 a))∧Ob (k=k)∧Ob (t=itQ (dsQ (↑a.length:Int)) (belowA c (b+(1:Int))) f)∧Ob (PlainE f (El.fn (Rv.elemOf I4 (itR (dsQ (↑a.length:Int)) (dsR (↑a.length:Int)) (belowA c (b+(1:Int))) f))))∧LsA B e I3 a∧True)∧(¬(0:Int) < belowV c (b+(1:Int))-(↑d:Int)→Ob (d=(belowV c (b+(1:Int))).toNat)∧EqA d ((belowV c (b+(1:Int))).toNat) (El.fn (Rv.elemOf I4 (itR (dsQ (↑a.length:Int)) (dsR (↑a.length:Int)) (belowA c (b+(1:Int))) d))) (El.fn (Rv.elemOf I4 (itR (dsQ (↑a.length:Int)) (dsR (↑a.length:Int)) (belowA c (b+(1:Int))) (belowV c (b+(1:Int))).toNat)))∧Ob (itQ (dsQ (↑a.length:Int)) (belowA c (b+(1:Int))) d=itQ (dsQ (↑a.length:Int)) (belowA c (b+(1:Int))) (belowV c (b+(1:Int))).toNat)∧Ob (PlainE (belowV c (b+(1:Int))).toNat (El.fn (Rv.elemOf I4 (itR (dsQ (↑a.length:Int)) (dsR (↑a.length:Int)) (belowA c (b+(1:Int))) (belowV c (b+(1:Int))).toNat))))∧True)
set_option linter.unusedSimpArgs false in
set_option maxRecDepth 4000 in
set_option maxHeartbeats 400000 in
theorem v_DealsOf:V_DealsOf:=by
 unfold V_DealsOf EqA I3 I4 LsA RwB
 intro B a fee itr pri cre x A hx hox hrx till most hpre
 obtain⟨⟨hA1,hA2⟩,h1,h2⟩:(1≤A.length∧A.length≤1000)∧0≤most∧most≤1000:=hpre
 simp only [F_Below,F_Of,F_DealOf,FnE.named,List.cons_append,List.nil_append,Ob_iff,and_true,true_and]at ⊢
 have hN:=belowV_in a (most+1)
 obtain⟨M,hM⟩:∃M,M=belowV a (most+1):=⟨_,rfl⟩
 rw [← hM]at hN ⊢
 have hN:0≤M∧M≤most:=by omega
 refine⟨by simp only [InR]; omega,by omega,?_⟩
 intro v hv v1 hv1
 obtain rfl:v1=M:=hv1
 clear hM
 obtain⟨q,hq⟩:∃q,belowA a (most+1)=q:=⟨_,rfl⟩
 rw [hq]at hv ⊢
 subst hv
 clear hq
 refine⟨⟨0,by omega,?_⟩,?_⟩
 ·repeat' (with_reducible apply And.intro)
  all_goals first | exact plain_elemOf _ _ _ | trivial | exact hx | omega | rfl
 intro k hk
 intros
 obtain⟨b,hb⟩:∃b,itQ (dsQ (A.length:Int)) v k=b:=⟨_,rfl⟩
 refine⟨fun h1=>?_,fun h1=>?_⟩
 ·rw [hb]
  refine⟨hx,by simp,?_⟩
  intro v2 hv2 v3 hv3
  have hw:0≤v3∧v3≤8:=by
   have:v3=0∨v3=0∨v3=1:=by rw [hv3]; exact ofV_three' _ _ _ _
   clear hv3 hv2
   omega
  refine⟨A,⟨hx,rfl,hrx,fun _ _=>rfl⟩,⟨⟨hA1,hA2⟩,hw⟩,?_⟩
  clear hw
  intro v4 hv4 v5 hv5 v6 hv6 v7 hv7 v8 hv8
  have hl:=it_len (dsQ (A.length:Int)) (dsR A.length) v k
  have hs:=snoc4 (x:=v5) (y:=v6) (z:=v7) (w:=v8) hl
  have e2r:itR (dsQ (A.length:Int)) (dsR A.length) v (k+1)=itR (dsQ (A.length:Int)) (dsR A.length) v k++[[v5,v6,v7,v8]]:=by
   rw [itR_succ,hb,hv5,hv6,hv7,hv8,hv2,hv3]
   rfl
  rw [← e2r]at hs
  have e2:v4=itQ (dsQ (A.length:Int)) v (k+1):=by rw [itQ_succ,hb,hv4,hv2,hv3]; rfl
  clear hv2 hv3 hv4 hv5 hv6 hv7 hv8 e2r hb hl
  have e3:(v1-((k+1:Nat):Int)).toNat < (v1-(k:Int)).toNat:=by clear e2 hs; omega
  replace e2:EqZ _ _:=⟨e2⟩
  refine⟨fun i hi=>rfl,by clear e2 hs; omega,by clear e2 hs; simp only [InR]; omega,k+1,⟨by clear e2 hs; omega,e3⟩,rfl,by clear e2 hs; omega,⟨rfl,hs⟩,e2.h,plain_elemOf _ _ _,hx⟩
 ·have e:k=v1.toNat:=by omega
  subst e
  repeat' (with_reducible apply And.intro)
  all_goals first | exact plain_elemOf _ _ _ | trivial | rfl | exact fun _ _=>rfl
theorem e_DealsOf:V_DealsOf=needE P [] [F_Below.named,F_Of.named,F_DealOf.named] A_DealsOf F_DealsOf:=by kernel_rfl
theorem n_DealsOf:Ob (needE P [] [F_Below.named,F_Of.named,F_DealOf.named] A_DealsOf F_DealsOf):=by
 rw [← e_DealsOf]
 exact⟨v_DealsOf⟩
theorem b_DealsOf:((P.funcs[12]?).any fun fn=>fn.body.isSome)=true:=by kernel_rfl
theorem DealsOf_ok:FnE.Ok P F_DealsOf:=FnE.ok named (l:=[]) (es:=[F_Below.named,F_Of.named,F_DealOf.named]) (A:=A_DealsOf) (by rfl) (by rfl) (by rfl) (by
 intro F h; simp at h) (by
 intro F h
 simp only [List.mem_cons,List.not_mem_nil,or_false]at h
 rcases h with rfl | rfl | rfl
 ·exact Below_ok.named
 ·exact Of_ok.named
 ·exact DealOf_ok.named
) b_DealsOf (by
 intro ds h o ho n sz e k z he
 subst he
 simp only [F_DealsOf]at ho
 split at ho
 ·simp only [List.mem_cons,List.not_mem_nil,or_false,SObj.gr.injEq]at ho
  obtain⟨rfl,rfl,rfl,rfl,rfl⟩:=ho
  exact plain_elemOf _ _ _
 ·simp at ho) n_DealsOf
end Go.Proofs.Ytfebjikidfcbcaa.Sy
