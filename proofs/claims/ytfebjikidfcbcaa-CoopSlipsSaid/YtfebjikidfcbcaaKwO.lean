import Derived.Test.YtfebjikidfcbcaaSyP2
import Derived.Test.YtfebjikidfcbcaaGrM
import Derived.Test.YtfebjikidfcbcaaStM
import Derived.Test.YtfebjikidfcbcaaKtT
import Derived.Test.YtfebjikidfcbcaaKtA
import Derived.Test.YtfebjikidfcbcaaKtB
import Derived.Test.YtfebjikidfcbcaaKwA
import Derived.Test.YtfebjikidfcbcaaSyP2
import Derived.KernelRfl
import Derived.Test.YtfebjikidfcbcaaProg
namespace Go.Proofs.Ytfebjikidfcbcaa.Sy
open Go Go.Rv
set_option linter.unusedVariables false
def dlA1 (a kd:Int):Int:=if kd=0 then belowA a (8-1+1)else a
def dlK1 (a kd:Int):Int:=if kd=0 then 1+belowV a (8-1+1)else kd
def dlK (n a kd:Int):Int:=if dlK1 a kd=6∧n < 2 then 1 else dlK1 a kd
def dlM0 (n a kd:Int):Int:=belowV (dlA1 a kd) n
def dlA2 (n a kd:Int):Int:=belowA (dlA1 a kd) n
def dlW (n a kd:Int):Int:=ofV (dlA2 n a kd) [[20],[300],[3000]]
def dlA3 (n a kd:Int):Int:=ofA (dlA2 n a kd) [[20],[300],[3000]]
def dlQ0 (n a kd:Int):Int:=1+belowV (dlA3 n a kd) (dlW n a kd-1+1)
def dlA4 (n a kd:Int):Int:=belowA (dlA3 n a kd) (dlW n a kd-1+1)
def dlM (n a kd:Int):Int:=if dlK n a kd=7∨dlK n a kd=8 then 0 else dlM0 n a kd
def dlO (n a kd:Int):Int:=if dlK n a kd=6 then wrapZ (dlM0 n a kd+(1+belowV (dlA4 n a kd) (n-1-1+1))) n else 0
def dlQ (n a kd:Int):Int:=if dlK n a kd=2 then 1+belowV (dlA4 n a kd) (60-1+1)else dlQ0 n a kd
def dlE (n a kd:Int):Int:=if dlK n a kd=6 then belowA (dlA4 n a kd) (n-1-1+1)else if dlK n a kd=2 then belowA (dlA4 n a kd) (60-1+1)else dlA4 n a kd
theorem ofV_three' (a x y z:Int):ofV a [[x],[y],[z]]=x∨ofV a [[x],[y],[z]]=y∨ofV a [[x],[y],[z]]=z:=by
 have h:=belowV_in a 3
 have e:ofV a [[x],[y],[z]]=cell [[x],[y],[z]] (belowV a 3).toNat 0:=by simp [ofV]
 rw [e]
 have:(belowV a 3).toNat=0∨(belowV a 3).toNat=1∨(belowV a 3).toNat=2:=by
  generalize belowV a 3=q at *
  omega
 rcases this with h0 | h0 | h0<;>rw [h0]
 ·exact .inl rfl
 ·exact .inr (.inl rfl)
 ·exact .inr (.inr rfl)
theorem snoc4 {R:Rows} {k:Nat} {x y z w:Int} (hl:R.length=k):∀i,i < k+1→(behind k (.fn (Rv.elemOf [.i64,.i64,.i64,.i64] R)) 1 (litEl [SV.i .i64 x,SV.i .i64 y,SV.i .i64 z,SV.i .i64 w] 4 1)).at i=(El.fn (Rv.elemOf [.i64,.i64,.i64,.i64] (R++[[x,y,z,w]]))).at i:=fun i hi=>by
 have:=snoc_at (R:=R) (ks:=[.i64,.i64,.i64,.i64]) (r:=[x,y,z,w]) (cs:=[SV.i .i64 x,SV.i .i64 y,SV.i .i64 z,SV.i .i64 w]) rfl (i:=i) (by omega)
 rw [hl]at this
 exact this
structure EqZ (a b:Int):Prop where
 h:a=b
structure KdS where
 k:Int
 a:Int
noncomputable def F_DealOf:FnE:=⟨11,(some [.i .u64]),[.agg [.i .i64,.i .i64,.i .i64,.i .i64,.l [.i64,.i64,.i64],.i .i64],i64],fun l=>match l with | [.z a,.z fee,.z itr,.z pri,.z cre,.l A,.z till,.z kd]=>(1≤A.length∧A.length≤1000)∧0≤kd∧kd≤8 | _=>False,fun l=>match l with | [.z a,.z fee,.z itr,.z pri,.z cre,.l A,.z till,.z kd]=>[.agg [.i .i64 (dlK A.length a kd),.i .i64 (dlM A.length a kd),.i .i64 (dlO A.length a kd),.i .i64 (dlQ A.length a kd)]] | _=>[],fun l=>match l with | [.z a,.z fee,.z itr,.z pri,.z cre,.l A,.z till,.z kd]=>[] | _=>[],fun l=>match l with | [.z a,.z fee,.z itr,.z pri,.z cre,.l A,.z till,.z kd]=>[.i .u64 (dlE A.length a kd)] | _=>[],false,none,none⟩
noncomputable def A_DealOf:List SV→List Dat→Nat→List SV→Ann:=fun xs ds n ts=>match xs with
 | [.agg _,.agg [_,_,_,_,.lst x _ _ _,_],.i _ _]=>match ds with
  | [.z a,.z fee,.z itr,.z pri,.z cre,.l A,.z till,.z kd]=>match n with
   | 4=>⟨KdS,fun v=>[some (SV.ptr ((0:Nat)) ((0:Nat))),none,some (.i .i64 v.k),none,none,none,some (SV.ptr ((2:Nat)) ((0:Nat))),some (SV.i IntKind.i64 (↑A.length:Int)),none,none,none,none,none,none,none,none,none,none,none,none,none,none,none,none,none,none,none,none,none,none,none,none,none,none,none,none,none,none,none,none,none,none,none,none,none,none,none,none,none,none,none,none,none,none,none],fun v=>[SObj.cells [SV.v (Value.int IntKind.i64 (0:Int)),SV.v (Value.int IntKind.i64 (0:Int)),SV.v (Value.int IntKind.i64 (0:Int)),SV.v (Value.int IntKind.i64 (0:Int))] Kd.ex,SObj.cells [SV.i IntKind.i64 fee,SV.i IntKind.i64 itr,SV.i IntKind.i64 pri,SV.i IntKind.i64 cre,SV.lst x A.length ((3:Nat)) (Rv.elemOf [IntKind.i64,IntKind.i64,IntKind.i64] A),SV.i IntKind.i64 till] Kd.ex,.cells [.i .u64 v.a] .ex],fun v=>v.k=dlK1 a kd∧v.a=dlA1 a kd∧1≤v.k∧v.k≤8,fun v=>0,1000000⟩
   | 6=>⟨KdS,fun v=>[some (SV.ptr ((0:Nat)) ((0:Nat))),none,some (.i .i64 v.k),none,none,none,some (SV.ptr ((2:Nat)) ((0:Nat))),some (SV.i IntKind.i64 (↑A.length:Int)),none,none,none,none,none,none,none,none,none,none,none,none,none,none,none,none,none,none,none,none,none,none,none,none,none,none,none,none,none,none,none,none,none,none,none,none,none,none,none,none,none,none,none,none,none,none,none],fun v=>[SObj.cells [SV.v (Value.int IntKind.i64 (0:Int)),SV.v (Value.int IntKind.i64 (0:Int)),SV.v (Value.int IntKind.i64 (0:Int)),SV.v (Value.int IntKind.i64 (0:Int))] Kd.ex,SObj.cells [SV.i IntKind.i64 fee,SV.i IntKind.i64 itr,SV.i IntKind.i64 pri,SV.i IntKind.i64 cre,SV.lst x A.length ((3:Nat)) (Rv.elemOf [IntKind.i64,IntKind.i64,IntKind.i64] A),SV.i IntKind.i64 till] Kd.ex,.cells [.i .u64 v.a] .ex],fun v=>v.k=dlK A.length a kd∧v.a=dlA1 a kd∧1≤v.k∧v.k≤8,fun v=>0,1000000⟩
   | _=>noAnn
  | _=>noAnn
 | _=>noAnn
def V_DealOf:Prop:=∀(B:RW) (n n_1 n_2 n_3 n_4:Int) (x:RV) (rows:List (List Int)),IsLst B x rows.length 3 (Rv.elemOf [.i64,.i64,.i64] rows)→oneB x=true→(∀row∈rows,row.length=3)→∀(n_5 n_6:Int),F_DealOf.pre ([Dat.z n]++([Dat.z n_1,Dat.z n_2,Dat.z n_3,Dat.z n_4,Dat.l rows,Dat.z n_5]++([Dat.z n_6]++[])))→Ob (IsLst B x rows.length 3 (Rv.elemOf [.i64,.i64,.i64] rows))∧((n_6=(0:Int)→Ob (F_From.named.pre ([Dat.z n]++[Dat.z (1:Int),Dat.z (8:Int)]))∧∀(v:Int),v=belowA n ((8:Int)-(1:Int)+(1:Int))→∀(v_1:Int),v_1=(1:Int)+belowV n ((8:Int)-(1:Int)+(1:Int))→∃(a:KdS),Ob (a.k=dlK1 n n_6∧a.a=dlA1 n n_6∧(1:Int)≤a.k∧a.k≤(8:Int))∧Ob (v_1=a.k)∧Ob ((↑rows.length:Int)=(↑rows.length:Int))∧Ob (Value.int .i64 (0:Int)=Value.int .i64 (0:Int))∧Ob (Value.int .i64 (0:Int)=Value.int .i64 (0:Int))∧Ob (Value.int .i64 (0:Int)=Value.int .i64 (0:Int))∧Ob (Value.int .i64 (0:Int)=Value.int .i64 (0:Int))∧Ob (n_1=n_1)∧Ob (n_2=n_2)∧Ob (n_3=n_3)∧Ob (n_4=n_4)∧Ob (SV.lst x rows.length 3 (Rv.elemOf [.i64,.i64,.i64] rows)=SV.lst x rows.length 3 (Rv.elemOf [.i64,.i64,.i64] rows))∧Ob (n_5=n_5)∧Ob (v=a.a)∧Ob (IsLst B x rows.length 3 (Rv.elemOf [.i64,.i64,.i64] rows))∧True)∧(¬n_6=(0:Int)→∃(a:KdS),Ob (a.k=dlK1 n n_6∧a.a=dlA1 n n_6∧(1:Int)≤a.k∧a.k≤(8:Int))∧Ob (n_6=a.k)∧Ob ((↑rows.length:Int)=(↑rows.length:Int))∧Ob (Value.int .i64 (0:Int)=Value.int .i64 (0:Int))∧Ob (Value.int .i64 (0:Int)=Value.int .i64 (0:Int))∧Ob (Value.int .i64 (0:Int)=Value.int .i64 (0:Int))∧Ob (Value.int .i64 (0:Int)=Value.int .i64 (0:Int))∧Ob (n_1=n_1)∧Ob (n_2=n_2)∧Ob (n_3=n_3)∧Ob (n_4=n_4)∧Ob (SV.lst x rows.length 3 (Rv.elemOf [.i64,.i64,.i64] rows)=SV.lst x rows.length 3 (Rv.elemOf [.i64,.i64,.i64] rows))∧Ob (n_5=n_5)∧Ob (n=a.a)∧Ob (IsLst B x rows.length 3 (Rv.elemOf [.i64,.i64,.i64] rows))∧True))∧∀(a:KdS),a.k=dlK1 n n_6∧a.a=dlA1 n n_6∧(1:Int)≤a.k∧a.k≤(8:Int)→∀(_ _ _ _ _ _ _ _ _ _ _ _ _ _ _ _ _ _ _ _ _ _ _ _ _ _ _ _ _ _ _ _ _ _ _ _ _ _ _ _ _ _ _ _ _ _ _ _ _ _ _:Value),((a.k=(6:Int)→((↑rows.length:Int) < (2:Int)→∃(a_1:KdS),Ob (a_1.k=dlK (↑rows.length:Int) n n_6∧a_1.a=dlA1 n n_6∧(1:Int)≤a_1.k∧a_1.k≤(8:Int))∧Ob ((1:Int)=a_1.k)∧Ob ((↑rows.length:Int)=(↑rows.length:Int))∧Ob (Value.int .i64 (0:Int)=Value.int .i64 (0:Int))∧Ob (Value.int .i64 (0:Int)=Value.int .i64 (0:Int))∧Ob (Value.int .i64 (0:Int)=Value.int .i64 (0:Int))∧Ob (Value.int .i64 (0:Int)=Value.int .i64 (0:Int))∧Ob (n_1=n_1)∧Ob (n_2=n_2)∧Ob (n_3=n_3)∧Ob (n_4=n_4)∧Ob (SV.lst x rows.length 3 (Rv.elemOf [.i64,.i64,.i64] rows)=SV.lst x rows.length 3 (Rv.elemOf [.i64,.i64,.i64] rows))∧Ob (n_5=n_5)∧Ob (a.a=a_1.a)∧Ob (IsLst B x rows.length 3 (Rv.elemOf [.i64,.i64,.i64] rows))∧True)∧(¬(↑rows.length:Int) < (2:Int)→∃(a_1:KdS),Ob (a_1.k=dlK (↑rows.length:Int) n n_6∧a_1.a=dlA1 n n_6∧(1:Int)≤a_1.k∧a_1.k≤(8:Int))∧Ob (a.k=a_1.k)∧Ob ((↑rows.length:Int)=(↑rows.length:Int))∧Ob (Value.int .i64 (0:Int)=Value.int .i64 (0:Int))∧Ob (Value.int .i64 (0:Int)=Value.int .i64 (0:Int))∧Ob (Value.int .i64 (0:Int)=Value.int .i64 (0:Int))∧Ob (Value.int .i64 (0:Int)=Value.int .i64 (0:Int))∧Ob (n_1=n_1)∧Ob (n_2=n_2)∧Ob (n_3=n_3)∧Ob (n_4=n_4)∧Ob (SV.lst x rows.length 3 (Rv.elemOf [.i64,.i64,.i64] rows)=SV.lst x rows.length 3 (Rv.elemOf [.i64,.i64,.i64] rows))∧Ob (n_5=n_5)∧Ob (a.a=a_1.a)∧Ob (IsLst B x rows.length 3 (Rv.elemOf [.i64,.i64,.i64] rows))∧True))∧(¬a.k=(6:Int)→∃(a_1:KdS),Ob (a_1.k=dlK (↑rows.length:Int) n n_6∧a_1.a=dlA1 n n_6∧(1:Int)≤a_1.k∧a_1.k≤(8:Int))∧Ob (a.k=a_1.k)∧Ob ((↑rows.length:Int)=(↑rows.length:Int))∧Ob (Value.int .i64 (0:Int)=Value.int .i64 (0:Int))∧Ob (Value.int .i64 (0:Int)=Value.int .i64 (0:Int))∧Ob (Value.int .i64 (0:Int)=Value.int .i64 (0:Int))∧Ob (Value.int .i64 (0:Int)=Value.int .i64 (0:Int))∧Ob (n_1=n_1)∧Ob (n_2=n_2)∧Ob (n_3=n_3)∧Ob (n_4=n_4)∧Ob (SV.lst x rows.length 3 (Rv.elemOf [.i64,.i64,.i64] rows)=SV.lst x rows.length 3 (Rv.elemOf [.i64,.i64,.i64] rows))∧Ob (n_5=n_5)∧Ob (a.a=a_1.a)∧Ob (IsLst B x rows.length 3 (Rv.elemOf [.i64,.i64,.i64] rows))∧True))∧∀(a_1:KdS),a_1.k=dlK (↑rows.length:Int) n n_6∧a_1.a=dlA1 n n_6∧(1:Int)≤a_1.k∧a_1.k≤(8:Int)→∀(_ _ _ _ _ _ _ _ _ _ _ _ _ _ _ _ _ _ _ _ _ _ _ _ _ _ _ _ _ _ _ _ _ _ _ _ _ _ _ _ _ _ _ _ _ _ _ _ _ _ _:Value),Ob (F_Below.named.pre ([Dat.z a_1.a]++[Dat.z (↑rows.length:Int)]))∧∀(v:Int),v=belowA a_1.a (↑rows.length:Int)→∀(v_1:Int),v_1=belowV a_1.a (↑rows.length:Int)→Ob (F_Of.named.pre ([Dat.z v]++[Dat.l [[(20:Int)],[(300:Int)],[(3000:Int)]]]))∧∀(v_2:Int),v_2=ofA v [[(20:Int)],[(300:Int)],[(3000:Int)]]→∀(v_3:Int),v_3=ofV v [[(20:Int)],[(300:Int)],[(3000:Int)]]→Ob (F_From.named.pre ([Dat.z v_2]++[Dat.z (1:Int),Dat.z v_3]))∧∀(v_4:Int),v_4=belowA v_2 (v_3-(1:Int)+(1:Int))→∀(v_5:Int),v_5=(1:Int)+belowV v_2 (v_3-(1:Int)+(1:Int))→(a_1.k=(6:Int)→Ob (InR .i64 ((↑rows.length:Int)-(1:Int)))∧Ob (F_From.named.pre ([Dat.z v_4]++[Dat.z (1:Int),Dat.z ((↑rows.length:Int)-(1:Int))]))∧∀(v_6:Int),v_6=belowA v_4 ((↑rows.length:Int)-(1:Int)-(1:Int)+(1:Int))→∀(v_7:Int),v_7=(1:Int)+belowV v_4 ((↑rows.length:Int)-(1:Int)-(1:Int)+(1:Int))→Ob (InR .i64 (v_1+v_7))∧Ob ((↑rows.length:Int)≤(1000000000:Int))∧Ob (a_1.k=dlK (↑rows.length:Int) n n_6)∧Ob (v_1=dlM (↑rows.length:Int) n n_6)∧Ob (wrapZ (v_1+v_7) (↑rows.length:Int)=dlO (↑rows.length:Int) n n_6)∧Ob (v_5=dlQ (↑rows.length:Int) n n_6)∧Ob (v_6=dlE (↑rows.length:Int) n n_6)∧True)∧(¬a_1.k=(6:Int)→(a_1.k=(7:Int)→Ob (a_1.k=dlK (↑rows.length:Int) n n_6)∧Ob ((0:Int)=dlM (↑rows.length:Int) n n_6)∧Ob ((0:Int)=dlO (↑rows.length:Int) n n_6)∧Ob (v_5=dlQ (↑rows.length:Int) n n_6)∧Ob (v_4=dlE (↑rows.length:Int) n n_6)∧True)∧(¬a_1.k=(7:Int)→(a_1.k=(8:Int)→Ob (a_1.k=dlK (↑rows.length:Int) n n_6)∧Ob ((0:Int)=dlM (↑rows.length:Int) n n_6)∧Ob ((0:Int)=dlO (↑rows.length:Int) n n_6)∧Ob (v_5=dlQ (↑rows.length:Int) n n_6)∧Ob (v_4=dlE (↑rows.length:Int) n n_6)∧True)∧(¬a_1.k=(8:Int)→(a_1.k=(2:Int)→Ob (F_From.named.pre ([Dat.z v_4]++[Dat.z (1:Int),Dat.z (60:Int)]))∧∀(v_6:Int),v_6=belowA v_4 ((60:Int)-(1:Int)+(1:Int))→∀(v_7:Int),v_7=(1:Int)+belowV v_4 ((60:Int)-(1:Int)+(1:Int))→Ob (a_1.k=dlK (↑rows.length:Int) n n_6)∧Ob (v_1=dlM (↑rows.length:Int) n n_6)∧Ob ((0:Int)=dlO (↑rows.length:Int) n n_6)∧Ob (v_7=dlQ (↑rows.length:Int) n n_6)∧Ob (v_6=dlE (↑rows.length:Int) n n_6)∧True)∧(¬a_1.k=(2:Int)→Ob (a_1.k=dlK (↑rows.length:Int) n n_6)∧Ob (v_1=dlM (↑rows.length:Int) n n_6)∧Ob ((0:Int)=dlO (↑rows.length:Int) n n_6)∧Ob (v_5=dlQ (↑rows.length:Int) n n_6)∧Ob (v_4=dlE (↑rows.length:Int) n n_6)∧True))))
set_option linter.unusedSimpArgs false in
set_option maxRecDepth 4000 in
set_option maxHeartbeats 400000 in
theorem v_DealOf:V_DealOf:=by
 unfold V_DealOf
 intro B a fee itr pri cre x A hx hox hrx till kd hpre
 obtain⟨⟨hA1,hA2⟩,h0,h8⟩:(1≤A.length∧A.length≤1000)∧0≤kd∧kd≤8:=hpre
 simp only [F_Below,F_From,F_Of,FnE.named,List.cons_append,List.nil_append,Ob_iff,and_true,true_and]at ⊢
 refine⟨hx,⟨fun h1=>?_,fun h1=>?_⟩,?_⟩
 ·refine⟨by omega,?_⟩
  intro v hv v1 hv1
  have hb:=belowV_in a (8-1+1)
  refine⟨⟨v1,v⟩,⟨?_,?_,?_,?_⟩,rfl,rfl,hx⟩
  ·show v1=dlK1 a kd
   unfold dlK1
   rw [if_pos h1]; exact hv1
  ·show v=dlA1 a kd
   unfold dlA1
   rw [if_pos h1]; exact hv
  ·show 1≤v1
   omega
  ·show v1≤8
   omega
 ·refine⟨⟨kd,a⟩,⟨?_,?_,?_,?_⟩,rfl,rfl,hx⟩
  ·show kd=dlK1 a kd
   unfold dlK1
   rw [if_neg h1]
  ·show a=dlA1 a kd
   unfold dlA1
   rw [if_neg h1]
  ·show 1≤kd
   omega
  ·show kd≤8
   omega
 intro u hu
 obtain⟨hu1,hu2,hu3,hu4⟩:=hu
 intros
 refine⟨⟨fun h1=>⟨fun h2=>?_,fun h2=>?_⟩,fun h1=>?_⟩,?_⟩
 ·refine⟨⟨1,u.a⟩,⟨?_,hu2,Int.le_refl _,by show(1:Int)≤8; omega⟩,rfl,rfl,hx⟩
  show 1=dlK A.length a kd
  unfold dlK
  rw [if_pos ⟨hu1 ▸ h1,by omega⟩]
 ·refine⟨⟨u.k,u.a⟩,⟨?_,hu2,hu3,hu4⟩,rfl,rfl,hx⟩
  show u.k=dlK A.length a kd
  unfold dlK
  rw [if_neg (fun h=>h2 (by omega)),hu1]
 ·refine⟨⟨u.k,u.a⟩,⟨?_,hu2,hu3,hu4⟩,rfl,rfl,hx⟩
  show u.k=dlK A.length a kd
  unfold dlK
  rw [if_neg (fun h=>h1 (hu1 ▸ h.1)),hu1]
 intro v hv
 obtain⟨hk,ha,hk1,hk2⟩:=hv
 intros
 have hm:=belowV_in v.a (A.length:Int)
 refine⟨by omega,?_⟩
 intro v2 hv2; replace hv2:EqZ _ _:=⟨hv2⟩
 intro v3 hv3; rw [← hv3]at hm; replace hv3:EqZ _ _:=⟨hv3⟩
 have hm:0≤v3∧v3≤1000:=by omega
 refine⟨by simp,?_⟩
 intro v4 hv4; replace hv4:EqZ _ _:=⟨hv4⟩
 intro v5 hv5
 have hw:v5=20∨v5=300∨v5=3000:=by rw [hv5]; exact ofV_three' _ _ _ _
 replace hv5:EqZ _ _:=⟨hv5⟩
 refine⟨by omega,?_⟩
 intro v6 hv6; replace hv6:EqZ _ _:=⟨hv6⟩
 intro v7 hv7; replace hv7:EqZ _ _:=⟨hv7⟩
 have g2:v2=dlA2 A.length a kd:=by rw [hv2.h,ha]; rfl
 have g3:v3=dlM0 A.length a kd:=by rw [hv3.h,ha]; rfl
 have g4:v4=dlA3 A.length a kd:=by rw [hv4.h,g2]; rfl
 have g5:v5=dlW A.length a kd:=by rw [hv5.h,g2]; rfl
 have g6:v6=dlA4 A.length a kd:=by rw [hv6.h,g4,g5]; rfl
 have g7:v7=dlQ0 A.length a kd:=by rw [hv7.h,g4,g5]; rfl
 clear hv2 hv3 hv4 hv5 hv6 hv7 g2 g4 g5
 have eM:¬ (v.k=7∨v.k=8)→v3=dlM A.length a kd:=fun h=>by unfold dlM; rw [← hk,if_neg h]; exact g3
 have eM0:v.k=7∨v.k=8→0=dlM A.length a kd:=fun h=>by unfold dlM; rw [← hk,if_pos h]
 have eO:¬ v.k=6→0=dlO A.length a kd:=fun h=>by unfold dlO; rw [← hk,if_neg h]
 have eQ:¬ v.k=2→v7=dlQ A.length a kd:=fun h=>by unfold dlQ; rw [← hk,if_neg h]; exact g7
 have eE:¬ v.k=6→¬ v.k=2→v6=dlE A.length a kd:=fun h h2=>by unfold dlE; rw [← hk,if_neg h,if_neg h2]; exact g6
 have h6:v.k=6→2≤A.length:=fun h1=>by
  have e:dlK A.length a kd=if dlK1 a kd=6∧(A.length:Int) < 2 then 1 else dlK1 a kd:=rfl
  rw [← hk]at e
  by_cases h7:dlK1 a kd=6∧(A.length:Int) < 2
  ·rw [if_pos h7]at e
   omega
  ·rw [if_neg h7]at e
   have:¬ (A.length:Int) < 2:=fun hh=>h7 ⟨e ▸ h1,hh⟩
   omega
 replace hk:EqZ _ _:=⟨hk⟩
 replace g3:EqZ _ _:=⟨g3⟩
 replace g6:EqZ _ _:=⟨g6⟩
 replace g7:EqZ _ _:=⟨g7⟩
 clear hu1 hu2 hu3 hu4 ha
 refine⟨fun h1=>?_,fun h1=>⟨fun h2=>?_,fun h2=>⟨fun h3=>?_,fun h3=>⟨fun h4=>?_,fun h4=>?_⟩⟩⟩⟩
 ·have h6:=h6 h1
  have hd:=belowV_in v6 ((A.length:Int)-1-1+1)
  refine⟨by simp only [InR]; omega,by omega,?_⟩
  intro v8 hv8 v9 hv9
  have hd:1≤v9∧v9≤1000:=by rw [hv9]; clear hv8 hv9; omega
  replace hv8:EqZ _ _:=⟨hv8⟩
  replace hv9:EqZ _ _:=⟨hv9⟩
  have n2:¬ v.k=2:=by omega
  have n78:¬ (v.k=7∨v.k=8):=by omega
  refine⟨by simp only [InR]; omega,by omega,hk.h,eM n78,?_,eQ n2,?_⟩
  ·unfold dlO
   rw [← hk.h,if_pos h1,hv9.h,g3.h,g6.h]
  ·unfold dlE
   rw [← hk.h,if_pos h1,hv8.h,g6.h]
 ·have n2:¬ v.k=2:=by omega
  exact⟨hk.h,eM0 (.inl h2),eO h1,eQ n2,eE h1 n2⟩
 ·have n2:¬ v.k=2:=by omega
  exact⟨hk.h,eM0 (.inr h3),eO h1,eQ n2,eE h1 n2⟩
 ·refine⟨by omega,?_⟩
  intro v8 hv8 v9 hv9
  have n78:¬ (v.k=7∨v.k=8):=fun h=>h.elim h2 h3
  refine⟨hk.h,eM n78,eO h1,?_,?_⟩
  ·unfold dlQ
   rw [← hk.h,if_pos h4,hv9,g6.h]
  ·unfold dlE
   rw [← hk.h,if_neg h1,if_pos h4,hv8,g6.h]
 ·exact⟨hk.h,eM (fun h=>h.elim h2 h3),eO h1,eQ h4,eE h1 h4⟩
theorem e_DealOf:V_DealOf=needE P [F_Wrap] [F_Below.named,F_From.named,F_Of.named] A_DealOf F_DealOf:=by kernel_rfl
theorem n_DealOf:Ob (needE P [F_Wrap] [F_Below.named,F_From.named,F_Of.named] A_DealOf F_DealOf):=by
 rw [← e_DealOf]
 exact⟨v_DealOf⟩
theorem b_DealOf:((P.funcs[11]?).any fun fn=>fn.body.isSome)=true:=by kernel_rfl
theorem DealOf_ok:FnE.Ok P F_DealOf:=FnE.ok named (l:=[F_Wrap]) (es:=[F_Below.named,F_From.named,F_Of.named]) (A:=A_DealOf) (by rfl) (by rfl) (by rfl) (by
 intro F h
 simp only [List.mem_cons,List.not_mem_nil,or_false]at h
 rcases h with rfl
 ·exact Wrap_ok
) (by
 intro F h
 simp only [List.mem_cons,List.not_mem_nil,or_false]at h
 rcases h with rfl | rfl | rfl
 ·exact Below_ok.named
 ·exact From_ok.named
 ·exact Of_ok.named
) b_DealOf (by
 rintro ds h o ho n sz e k z rfl
 simp only [F_DealOf]at ho
 split at ho<;>simp at ho) n_DealOf
end Go.Proofs.Ytfebjikidfcbcaa.Sy
