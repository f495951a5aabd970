import Derived.Test.YtfebjikidfcbcaaSyP2
import Derived.Test.YtfebjikidfcbcaaGrM
import Derived.Test.YtfebjikidfcbcaaStM
import Derived.Test.YtfebjikidfcbcaaKtT
import Derived.Test.YtfebjikidfcbcaaKtA
import Derived.Test.YtfebjikidfcbcaaKtB
import Derived.Test.YtfebjikidfcbcaaKwA
import Derived.Test.YtfebjikidfcbcaaSyP2
import Derived.KernelRfl
import Derived.Test.YtfebjikidfcbcaaProg
namespace Go.Proofs.Ytfebjikidfcbcaa.Sy
open Go Go.Rv
set_option linter.unusedVariables false
def coV1 (a:Int):Int:=belowV a 300000
def coA1 (a:Int):Int:=belowA a 300000
def coF (a:Int):Int:=ofV (coA1 a) [[0],[20000],[coV1 a]]
def coA2 (a:Int):Int:=ofA (coA1 a) [[0],[20000],[coV1 a]]
def coV2 (a:Int):Int:=belowV (coA2 a) 200000
def coA3 (a:Int):Int:=belowA (coA2 a) 200000
def coI (a:Int):Int:=ofV (coA3 a) [[0],[coV2 a]]
def coA4 (a:Int):Int:=ofA (coA3 a) [[0],[coV2 a]]
def coP (a:Int):Int:=belowV (coA4 a) 30
def coA5 (a:Int):Int:=belowA (coA4 a) 30
def coC (a:Int):Int:=ofV (coA5 a) [[0],[1000],[50000]]
def coA6 (a:Int):Int:=ofA (coA5 a) [[0],[1000],[50000]]
def coN (a most:Int):Int:=1+belowV (coA6 a) (most-1+1)
def coA7 (a most:Int):Int:=belowA (coA6 a) (most-1+1)
def acV1 (b:Int):Int:=belowV b 3000
def acB1 (b:Int):Int:=belowA b 3000
def acB (b:Int):Int:=ofV (acB1 b) [[0],[acV1 b]]
def acB2 (b:Int):Int:=ofA (acB1 b) [[0],[acV1 b]]
def acV2 (b:Int):Int:=belowV (acB2 b) 1000
def acB3 (b:Int):Int:=belowA (acB2 b) 1000
def acD (b:Int):Int:=ofV (acB3 b) [[0],[acV2 b]]
def acB4 (b:Int):Int:=ofA (acB3 b) [[0],[acV2 b]]
def acV3 (b:Int):Int:=belowV (acB4 b) 5000
def acB5 (b:Int):Int:=belowA (acB4 b) 5000
def acS (b:Int):Int:=ofV (acB5 b) [[0],[0],[acV3 b]]
def acQ (b:Int):Int:=ofA (acB5 b) [[0],[0],[acV3 b]]
def acR (b:Int):List Int:=[acB b,acD b,acS b]
def coR (a most:Int) (k:Nat):Rows:=itR acQ acR (coA7 a most) k
def coO (a most:Int):Nat→Int
 | 0=>0
 | k+1=>coO a most k+acB (itQ acQ (coA7 a most) k)-acD (itQ acQ (coA7 a most) k)
theorem acB_in (b:Int):0≤acB b∧acB b≤3000:=by
 have h:=belowV_in (b) 3000
 have h1:0≤acV1 b∧acV1 b≤3000:=by
  unfold acV1
  omega
 unfold acB
 rcases ofV_two (acB1 b) 0 (acV1 b)with e | e<;>rw [e]<;>omega
theorem acD_in (b:Int):0≤acD b∧acD b≤1000:=by
 have h:=belowV_in (acB2 b) 1000
 have h1:0≤acV2 b∧acV2 b≤1000:=by
  unfold acV2
  omega
 unfold acD
 rcases ofV_two (acB3 b) 0 (acV2 b)with e | e<;>rw [e]<;>omega
theorem coO_succ (a most:Int) (k:Nat):coO a most (k+1)=coO a most k+acB (itQ acQ (coA7 a most) k)-acD (itQ acQ (coA7 a most) k):=rfl
theorem coO_in (a most:Int):∀k:Nat,-(1000*(k:Int))≤coO a most k∧coO a most k≤3000*k
 | 0=>by
  show -(1000*((0:Nat):Int))≤0∧(0:Int)≤3000*((0:Nat):Int)
  omega
 | k+1=>by
  have ih:=coO_in a most k
  rw [coO_succ]
  have h1:=acB_in (itQ acQ (coA7 a most) k)
  have h2:=acD_in (itQ acQ (coA7 a most) k)
  generalize acB (itQ acQ (coA7 a most) k)=x at *
  generalize acD (itQ acQ (coA7 a most) k)=y at *
  omega
theorem coN_in {a most:Int} (h:1≤most):1≤coN a most∧coN a most≤most:=by
 have:=belowV_in (coA6 a) (most-1+1)
 unfold coN
 omega
theorem itQ_zero (Q:Int→Int) (a:Int):itQ Q a 0=a:=rfl
def coA8 (a most:Int):Int:=itQ acQ (coA7 a most) (coN a most).toNat
def coV3 (a most:Int):Int:=belowV (coA8 a most) 2000
def coA9 (a most:Int):Int:=belowA (coA8 a most) 2000
def coT (a most:Int):Int:=max 0 (coO a most (coN a most).toNat)+ofV (coA9 a most) [[0],[coV3 a most]]
def coAE (a most:Int):Int:=ofA (coA9 a most) [[0],[coV3 a most]]
def smC (f1 i1 p1 c1 t1 f2 i2 p2 c2 t2:Int):Prop:=(f1=f2∧i1=i2∧p1=p2∧c1=c2)∧t1=t2
theorem coR_succ (a most:Int) (k:Nat):coR a most (k+1)=coR a most k++[[acB (itQ acQ (coA7 a most) k),acD (itQ acQ (coA7 a most) k),acS (itQ acQ (coA7 a most) k)]]:=rfl
theorem coT_in (a:Int) {most:Int}:0≤ofV (coA9 a most) [[0],[coV3 a most]]∧ofV (coA9 a most) [[0],[coV3 a most]]≤2000:=by
 have h:=belowV_in (coA8 a most) 2000
 have h1:0≤coV3 a most∧coV3 a most≤2000:=by
  unfold coV3
  omega
 rcases ofV_two (coA9 a most) 0 (coV3 a most)with e | e<;>rw [e]<;>omega
noncomputable def F_OwnCoop:FnE:=⟨13,none,[.agg [.i .i64,.i .i64,.i .i64,.i .i64,.l [.i64,.i64,.i64],.i .i64]],fun l=>match l with | [.z fee,.z itr,.z pri,.z cre,.l A,.z till]=>A.length≤4000000 | _=>False,fun l=>match l with | [.z fee,.z itr,.z pri,.z cre,.l A,.z till]=>[.agg [.i .i64 fee,.i .i64 itr,.i .i64 pri,.i .i64 cre,.gsl 0 A.length 3 false,.i .i64 till]] | _=>[],fun l=>match l with | [.z fee,.z itr,.z pri,.z cre,.l A,.z till]=>[.gr A.length 3 (.fn (Rv.elemOf [.i64,.i64,.i64] A)) .gr false] | _=>[],fun l=>match l with | [.z fee,.z itr,.z pri,.z cre,.l A,.z till]=>[] | _=>[],false,none,none⟩
noncomputable def A_OwnCoop:List SV→List Dat→Nat→List SV→Ann:=fun _ _ _ _=>noAnn
def V_OwnCoop:Prop:=
 ∀(B:RW) (c d f e:Int) (g:RV) (a:List (List Int)),IsLst B g a.length 3 (Rv.elemOf I3 a)→oneB g=true→(∀row∈a,row.length=3)→∀(b:Int),F_OwnCoop.pre ([Dat.z c,Dat.z d,Dat.z f,Dat.z e,Dat.l a,Dat.z b]++[])→LsA B g I3 a∧(a.length=(0:Nat)→Ob (c=c)∧Ob (d=d)∧Ob (f=f)∧Ob (e=e)∧Ob ((0:Nat)=a.length)∧Ob (b=b)∧EqA (0:Nat) a.length (litEl (symL (replS 0 (List.map SV.v (Value.agg #[Value.int .i64 (0:Int),Value.int .i64 (0:Int),Value.int .i64 (0:Int)]).cells.toList))) 3 0) (El.fn (Rv.elemOf I3 a))∧PlA I3 a∧True)∧(¬a.length=(0:Nat)→Ob (((0:Nat)+a.length)*(2:Nat)*(25:Nat)≤1099511627776)∧Ob ((0:Nat) < 0+((0:Nat)+a.length)*(3:Nat))∧Ob (c=c)∧Ob (d=d)∧Ob (f=f)∧Ob (e=e)∧Ob ((0:Nat)+a.length=a.length)∧Ob (b=b)∧EqA ((0:Nat)+a.length) a.length (behind 0 (litEl (symL (replS 0 (List.map SV.v (Value.agg #[Value.int .i64 (0:Int),Value.int .i64 (0:Int),Value.int .i64 (0:Int)]).cells.toList))) 3 0) a.length (El.fn (Rv.elemOf I3 a))) (El.fn (Rv.elemOf I3 a))∧PlA I3 a∧True)
set_option linter.unusedSimpArgs false in
set_option maxRecDepth 4000 in
set_option maxHeartbeats 400000 in
theorem v_OwnCoop:V_OwnCoop:=by
 unfold V_OwnCoop EqA I3 LsA PlA
 intro B fee itr pri cre x A hx hox hrx till hA
 have hA:A.length≤4000000:=hA
 simp only [Ob_iff,and_true,true_and]
 refine⟨hx,fun h0=>⟨h0.symm,⟨h0.symm,fun i hi=>by omega⟩,plain_elemOf _ _ _⟩,fun h0=>⟨by omega,by omega,by omega,⟨by omega,fun i _=>behind_at _ _ _ _⟩,plain_elemOf _ _ _⟩⟩
theorem e_OwnCoop:V_OwnCoop=needE P [] [] A_OwnCoop F_OwnCoop:=by kernel_rfl
theorem n_OwnCoop:Ob (needE P [] [] A_OwnCoop F_OwnCoop):=by
 rw [← e_OwnCoop]
 exact⟨v_OwnCoop⟩
theorem b_OwnCoop:((P.funcs[13]?).any fun fn=>fn.body.isSome)=true:=by kernel_rfl
theorem OwnCoop_ok:FnE.Ok P F_OwnCoop:=FnE.ok named (l:=[]) (es:=[]) (A:=A_OwnCoop) (by rfl) (by rfl) (by rfl) (by
 intro F h; simp at h) (by
 intro F h; simp at h) b_OwnCoop (by
 intro ds h o ho n sz e k z he
 subst he
 simp only [F_OwnCoop]at ho
 split at ho
 ·simp only [List.mem_cons,List.not_mem_nil,or_false,SObj.gr.injEq]at ho
  obtain⟨rfl,rfl,rfl,rfl,rfl⟩:=ho
  exact plain_elemOf _ _ _
 ·simp at ho) n_OwnCoop
noncomputable def F_SameCoops:Fn0:=⟨19,[.agg [.i .i64,.i .i64,.i .i64,.i .i64,.l [.i64,.i64,.i64],.i .i64],.agg [.i .i64,.i .i64,.i .i64,.i .i64,.l [.i64,.i64,.i64],.i .i64]],fun l=>match l with | [.z fee,.z itr,.z pri,.z cre,.l A,.z till,.z f2,.z i2,.z p2,.z c2,.l A2,.z t2]=>A.length≤4000000∧A2.length≤4000000 | _=>False,fun l=>match l with | [.z fee,.z itr,.z pri,.z cre,.l A,.z till,.z f2,.z i2,.z p2,.z c2,.l A2,.z t2]=>.p (smC fee itr pri cre till f2 i2 p2 c2 t2∧samTo 3 A A2 A.length) | _=>.v undef⟩
noncomputable def A_SameCoops:List SV→List Dat→Nat→List SV→Ann:=fun xs ds n ts=>match xs with
 | [.agg [_,_,_,_,.lst x _ _ _,_],.agg [_,_,_,_,.lst y _ _ _,_]]=>match ds with
  | [.z fee,.z itr,.z pri,.z cre,.l A,.z till,.z f2,.z i2,.z p2,.z c2,.l A2,.z t2]=>match n with
   | 3=>⟨Nat,fun k=>([none,none,some (SV.ptr ((0:Nat)) ((0:Nat))),some (SV.ptr ((1:Nat)) ((0:Nat))),some (SV.v (Value.bool false)),some (.p (smC fee itr pri cre till f2 i2 p2 c2 t2∧samTo 3 A A2 k)),some (.i .i64 k)]++nN 43),fun k=>[SObj.cells [SV.i IntKind.i64 f2,SV.i IntKind.i64 i2,SV.i IntKind.i64 p2,SV.i IntKind.i64 c2,SV.lst y A2.length ((3:Nat)) (Rv.elemOf [IntKind.i64,IntKind.i64,IntKind.i64] A2),SV.i IntKind.i64 t2] Kd.ex,SObj.cells [SV.i IntKind.i64 fee,SV.i IntKind.i64 itr,SV.i IntKind.i64 pri,SV.i IntKind.i64 cre,SV.lst x A.length ((3:Nat)) (Rv.elemOf [IntKind.i64,IntKind.i64,IntKind.i64] A),SV.i IntKind.i64 till] Kd.ex],fun k=>k≤A.length,fun k=>A.length-k,0⟩
   | _=>noAnn
  | _=>noAnn
 | _=>noAnn
def V_SameCoops:Prop:=
 ∀(B:RW) (f h k i:Int) (n:RV) (a:List (List Int)),IsLst B n a.length 3 (Rv.elemOf I3 a)→oneB n=true→(∀row∈a,row.length=3)→∀(e g l m j:Int) (o:RV) (b:List (List Int)),IsLst B o b.length 3 (Rv.elemOf I3 b)→oneB o=true→(∀row∈b,row.length=3)→∀(d:Int),a.length≤4000000∧b.length≤4000000→(f=g∧h=l∧k=m∧i=j∧True→(e=d→LsA B n I3 a∧LsA B o I3 b∧(∃(c:Nat),Ob (c≤a.length)∧Ob (SV.v (Value.bool false)=SV.v (Value.bool false))∧Ob ((↑a.length:Int)=(↑b.length:Int)↔smC f h k i e g l m j d∧samTo 3 a b c)∧Ob ((0:Int)=(↑c:Int))∧Ob (g=g)∧Ob (l=l)∧Ob (m=m)∧Ob (j=j)∧Ob (SV.lst o b.length 3 (Rv.elemOf I3 b)=SV.lst o b.length 3 (Rv.elemOf I3 b))∧Ob (d=d)∧Ob (f=f)∧Ob (h=h)∧Ob (k=k)∧Ob (i=i)∧Ob (SV.lst n a.length 3 (Rv.elemOf I3 a)=SV.lst n a.length 3 (Rv.elemOf I3 a))∧Ob (e=e)∧LsA B o I3 b∧LsA B n I3 a∧True)∧∀(c:Nat),c≤a.length→∀(_ _ _ _ _ _ _ _ _ _ _ _ _ _ _ _ _ _ _ _ _ _ _ _ _ _ _ _ _ _ _ _ _ _ _ _ _ _ _ _ _ _ _ _ _:Value),(smC f h k i e g l m j d∧samTo 3 a b c→LsA B n I3 a∧((↑c:Int) < (↑a.length:Int)→LsA B n I3 a∧Ob ((0:Int)≤(↑c:Int)∧c < a.length∧IsLst B n a.length 3 (Rv.elemOf I3 a))∧Ob (IsLst B n a.length 3 (Rv.elemOf I3 a)∧c < a.length)∧Ob (IsLst B n a.length 3 (Rv.elemOf I3 a)∧c < a.length)∧LsA B o I3 b∧Ob ((0:Int)≤(↑c:Int)∧c < b.length∧IsLst B o b.length 3 (Rv.elemOf I3 b))∧Ob (IsLst B o b.length 3 (Rv.elemOf I3 b)∧c < b.length)∧Ob (IsLst B o b.length 3 (Rv.elemOf I3 b)∧c < b.length)∧Ob (InR .i64 ((↑c:Int)+(1:Int)))∧∃(p:Nat),Ob (p≤a.length∧a.length-p < a.length-c)∧Ob (SV.v (Value.bool false)=SV.v (Value.bool false))∧Ob (cell a c 0=cell b c 0∧cell a c 1=cell b c 1∧cell a c 2=cell b c 2∧True↔smC f h k i e g l m j d∧samTo 3 a b p)∧Ob ((↑c:Int)+(1:Int)=(↑p:Int))∧Ob (g=g)∧Ob (l=l)∧Ob (m=m)∧Ob (j=j)∧Ob (SV.lst o b.length 3 (Rv.elemOf I3 b)=SV.lst o b.length 3 (Rv.elemOf I3 b))∧Ob (d=d)∧Ob (f=f)∧Ob (h=h)∧Ob (k=k)∧Ob (i=i)∧Ob (SV.lst n a.length 3 (Rv.elemOf I3 a)=SV.lst n a.length 3 (Rv.elemOf I3 a))∧Ob (e=e)∧LsA B o I3 b∧LsA B n I3 a∧True)∧(¬(↑c:Int) < (↑a.length:Int)→Ob (smC f h k i e g l m j d∧samTo 3 a b c↔smC f h k i e g l m j d∧samTo 3 a b a.length)∧True))∧(¬(smC f h k i e g l m j d∧samTo 3 a b c)→Ob (smC f h k i e g l m j d∧samTo 3 a b c↔smC f h k i e g l m j d∧samTo 3 a b a.length)∧True))∧(¬e=d→(∃(c:Nat),Ob (c≤a.length)∧Ob (SV.v (Value.bool false)=SV.v (Value.bool false))∧Ob (false=true↔smC f h k i e g l m j d∧samTo 3 a b c)∧Ob ((0:Int)=(↑c:Int))∧Ob (g=g)∧Ob (l=l)∧Ob (m=m)∧Ob (j=j)∧Ob (SV.lst o b.length 3 (Rv.elemOf I3 b)=SV.lst o b.length 3 (Rv.elemOf I3 b))∧Ob (d=d)∧Ob (f=f)∧Ob (h=h)∧Ob (k=k)∧Ob (i=i)∧Ob (SV.lst n a.length 3 (Rv.elemOf I3 a)=SV.lst n a.length 3 (Rv.elemOf I3 a))∧Ob (e=e)∧LsA B o I3 b∧LsA B n I3 a∧True)∧∀(c:Nat),c≤a.length→∀(_ _ _ _ _ _ _ _ _ _ _ _ _ _ _ _ _ _ _ _ _ _ _ _ _ _ _ _ _ _ _ _ _ _ _ _ _ _ _ _ _ _ _ _ _:Value),(smC f h k i e g l m j d∧samTo 3 a b c→LsA B n I3 a∧((↑c:Int) < (↑a.length:Int)→LsA B n I3 a∧Ob ((0:Int)≤(↑c:Int)∧c < a.length∧IsLst B n a.length 3 (Rv.elemOf I3 a))∧Ob (IsLst B n a.length 3 (Rv.elemOf I3 a)∧c < a.length)∧Ob (IsLst B n a.length 3 (Rv.elemOf I3 a)∧c < a.length)∧LsA B o I3 b∧Ob ((0:Int)≤(↑c:Int)∧c < b.length∧IsLst B o b.length 3 (Rv.elemOf I3 b))∧Ob (IsLst B o b.length 3 (Rv.elemOf I3 b)∧c < b.length)∧Ob (IsLst B o b.length 3 (Rv.elemOf I3 b)∧c < b.length)∧Ob (InR .i64 ((↑c:Int)+(1:Int)))∧∃(p:Nat),Ob (p≤a.length∧a.length-p < a.length-c)∧Ob (SV.v (Value.bool false)=SV.v (Value.bool false))∧Ob (cell a c 0=cell b c 0∧cell a c 1=cell b c 1∧cell a c 2=cell b c 2∧True↔smC f h k i e g l m j d∧samTo 3 a b p)∧Ob ((↑c:Int)+(1:Int)=(↑p:Int))∧Ob (g=g)∧Ob (l=l)∧Ob (m=m)∧Ob (j=j)∧Ob (SV.lst o b.length 3 (Rv.elemOf I3 b)=SV.lst o b.length 3 (Rv.elemOf I3 b))∧Ob (d=d)∧Ob (f=f)∧Ob (h=h)∧Ob (k=k)∧Ob (i=i)∧Ob (SV.lst n a.length 3 (Rv.elemOf I3 a)=SV.lst n a.length 3 (Rv.elemOf I3 a))∧Ob (e=e)∧LsA B o I3 b∧LsA B n I3 a∧True)∧(¬(↑c:Int) < (↑a.length:Int)→Ob (smC f h k i e g l m j d∧samTo 3 a b c↔smC f h k i e g l m j d∧samTo 3 a b a.length)∧True))∧(¬(smC f h k i e g l m j d∧samTo 3 a b c)→Ob (smC f h k i e g l m j d∧samTo 3 a b c↔smC f h k i e g l m j d∧samTo 3 a b a.length)∧True)))∧(¬(f=g∧h=l∧k=m∧i=j∧True)→(∃(c:Nat),Ob (c≤a.length)∧Ob (SV.v (Value.bool false)=SV.v (Value.bool false))∧Ob (false=true↔smC f h k i e g l m j d∧samTo 3 a b c)∧Ob ((0:Int)=(↑c:Int))∧Ob (g=g)∧Ob (l=l)∧Ob (m=m)∧Ob (j=j)∧Ob (SV.lst o b.length 3 (Rv.elemOf I3 b)=SV.lst o b.length 3 (Rv.elemOf I3 b))∧Ob (d=d)∧Ob (f=f)∧Ob (h=h)∧Ob (k=k)∧Ob (i=i)∧Ob (SV.lst n a.length 3 (Rv.elemOf I3 a)=SV.lst n a.length 3 (Rv.elemOf I3 a))∧Ob (e=e)∧LsA B o I3 b∧LsA B n I3 a∧True)∧∀(c:Nat),c≤a.length→∀(_ _ _ _ _ _ _ _ _ _ _ _ _ _ _ _ _ _ _ _ _ _ _ _ _ _ _ _ _ _ _ _ _ _ _ _ _ _ _ _ _ _ _ _ _:Value),(smC f h k i e g l m j d∧samTo 3 a b c→LsA B n I3 a∧((↑c:Int) < (↑a.length:Int)→LsA B n I3 a∧Ob ((0:Int)≤(↑c:Int)∧c < a.length∧IsLst B n a.length 3 (Rv.elemOf I3 a))∧Ob (IsLst B n a.length 3 (Rv.elemOf I3 a)∧c < a.length)∧Ob (IsLst B n a.length 3 (Rv.elemOf I3 a)∧c < a.length)∧LsA B o I3 b∧Ob ((0:Int)≤(↑c:Int)∧c < b.length∧IsLst B o b.length 3 (Rv.elemOf I3 b))∧Ob (IsLst B o b.length 3 (Rv.elemOf I3 b)∧c < b.length)∧Ob (IsLst B o b.length 3 (Rv.elemOf I3 b)∧c < b.length)∧Ob (InR .i64 ((↑c:Int)+(1:Int)))∧∃(p:Nat),Ob (p≤a.length∧a.length-p < a.length-c)∧Ob (SV.v (Value.bool false)=SV.v (Value.bool false))∧Ob (cell a c 0=cell b c 0∧cell a c 1=cell b c 1∧cell a c 2=cell b c 2∧True↔smC f h k i e g l m j d∧samTo 3 a b p)∧Ob ((↑c:Int)+(1:Int)=(↑p:Int))∧Ob (g=g)∧Ob (l=l)∧Ob (m=m)∧Ob (j=j)∧Ob (SV.lst o b.length 3 (Rv.elemOf I3 b)=SV.lst o b.length 3 (Rv.elemOf I3 b))∧Ob (d=d)∧Ob (f=f)∧Ob (h=h)∧Ob (k=k)∧Ob (i=i)∧Ob (SV.lst n a.length 3 (Rv.elemOf I3 a)=SV.lst n a.length 3 (Rv.elemOf I3 a))∧Ob (e=e)∧LsA B o I3 b∧LsA B n I3 a∧True)∧(¬(↑c:Int) < (↑a.length:Int)→Ob (smC f h k i e g l m j d∧samTo 3 a b c↔smC f h k i e g l m j d∧samTo 3 a b a.length)∧True))∧(¬(smC f h k i e g l m j d∧samTo 3 a b c)→Ob (smC f h k i e g l m j d∧samTo 3 a b c↔smC f h k i e g l m j d∧samTo 3 a b a.length)∧True))
set_option linter.unusedSimpArgs false in
set_option maxRecDepth 4000 in
set_option maxHeartbeats 2000000 in
theorem v_SameCoops:V_SameCoops:=by
 unfold V_SameCoops I3 LsA
 intro B fee itr pri cre x A hx hox hrx till f2 i2 p2 c2 y A2 hy hoy hry t2 ⟨hA,hA2⟩
 simp only [Ob_iff,and_true,true_and,InR]
 have z0:=sam_zero 3 A A2
 have body:∀k,k≤A.length→samTo 3 A A2 k→(k:Int) < (A.length:Int)→k < A2.length:=fun k h1 h2 h3=>by
  have:=h2.1
  omega
 have e0:∀k,k≤A.length→¬ (smC fee itr pri cre till f2 i2 p2 c2 t2∧samTo 3 A A2 k)→(smC fee itr pri cre till f2 i2 p2 c2 t2∧samTo 3 A A2 k↔smC fee itr pri cre till f2 i2 p2 c2 t2∧samTo 3 A A2 A.length):=fun k h1 h2=>⟨fun h=>absurd h h2,fun h=>absurd ⟨h.1,Classical.byContradiction fun h3=>sam_stop h1 h3 h.2⟩ h2⟩
 have e1:∀k,k≤A.length→¬ (k:Int) < (A.length:Int)→(smC fee itr pri cre till f2 i2 p2 c2 t2∧samTo 3 A A2 k↔smC fee itr pri cre till f2 i2 p2 c2 t2∧samTo 3 A A2 A.length):=fun k h1 h2=>by
  have e:k=A.length:=by omega
  subst e
  exact Iff.rfl
 have lp:∀k,k≤A.length→(smC fee itr pri cre till f2 i2 p2 c2 t2∧samTo 3 A A2 k)→k < A.length→(cell A k 0=cell A2 k 0∧cell A k 1=cell A2 k 1∧cell A k 2=cell A2 k 2↔smC fee itr pri cre till f2 i2 p2 c2 t2∧samTo 3 A A2 (k+1)):=fun k h1 h2 h3=>by
  have nx:=(sam_succ h2.2).trans (row3c A A2 k)
  rw [nx]
  exact⟨fun h=>⟨h2.1,h⟩,fun h=>h.2⟩
 have fin:∀k,k≤A.length→smC fee itr pri cre till f2 i2 p2 c2 t2∧samTo 3 A A2 k→k < A.length→_:=fun k h1 h2 h3=>(show(k < A2.length∧InR .i64 ((k:Int)+1)∧0≤(k:Int)∧(k+1≤A.length∧A.length-(k+1) < A.length-k))from⟨body k h1 h2.2 (by omega),by simp only [InR]; omega,by omega,by omega,by omega⟩)
 refine⟨fun h1=>⟨fun h2=>?_,fun h2=>?_⟩,fun h1=>?_⟩
 all_goals
  repeat' (first | exact hx | exact hy | with_reducible apply And.intro)
  ·refine⟨0,?_⟩
   repeat' (first | exact hx | exact hy | omega | with_reducible apply And.intro)
   rw [z0]
   unfold smC
   first
    | (constructor
       ·intro h; exact⟨⟨⟨h1.1,h1.2.1,h1.2.2.1,h1.2.2.2⟩,h2⟩,by omega⟩
       ·intro h; have:=h.2; omega)
    | (constructor
       ·intro h; cases h
       ·intro h; exact absurd h.1.2 h2)
    | (constructor
       ·intro h; cases h
       ·intro h; exact absurd ⟨h.1.1.1,h.1.1.2.1,h.1.1.2.2.1,h.1.1.2.2.2⟩ h1)
  ·intro k hk
   intros
   refine⟨fun h3=>?_,fun h3=>e0 k hk h3⟩
   refine⟨by assumption,fun h4=>?_,fun h4=>e1 k hk h4⟩
   have h5:k < A.length:=by omega
   obtain⟨f1,f2',f3,f4⟩:=fin k hk h3 h5
   have l:=lp k hk h3 h5
   simp only [InR]at f2'
   repeat' (first | exact hx | exact hy | exact h5 | exact f1 | exact f3 | exact f2' | omega | with_reducible apply And.intro)
   exact⟨k+1,f4,l,by omega,by assumption,by assumption⟩
theorem e_SameCoops:V_SameCoops=needF P [] A_SameCoops F_SameCoops:=by kernel_rfl
theorem n_SameCoops:Ob (needF P [] A_SameCoops F_SameCoops):=by
 rw [← e_SameCoops]
 exact⟨v_SameCoops⟩
theorem b_SameCoops:((P.funcs[19]?).any fun fn=>fn.body.isSome)=true:=by kernel_rfl
theorem SameCoops_ok:Fn0.Ok P F_SameCoops:=Fn0.ok named (l:=[]) (A:=A_SameCoops) (by rfl) (by
 intro F h; simp at h) b_SameCoops (by
 intro ds N
 simp only [F_SameCoops]
 split<;>rfl) n_SameCoops
noncomputable def F_CoopOf:FnE:=⟨10,(some [.i .u64]),[i64],fun l=>match l with | [.z a,.z most]=>1≤most∧most≤1000 | _=>False,fun l=>match l with | [.z a,.z most]=>[.agg [.i .i64 (coF a),.i .i64 (coI a),.i .i64 (coP a),.i .i64 (coC a),.gsl 0 (coN a most).toNat 3 true,.i .i64 (coT a most)]] | _=>[],fun l=>match l with | [.z a,.z most]=>[.gr (coN a most).toNat 3 (.fn (Rv.elemOf [.i64,.i64,.i64] (coR a most (coN a most).toNat))) .gr true] | _=>[],fun l=>match l with | [.z a,.z most]=>[.i .u64 (coAE a most)] | _=>[],false,none,none⟩
noncomputable def A_CoopOf:List SV→List Dat→Nat→List SV→Ann:=fun xs ds n ts=>match xs with
 | [.agg _,.i _ _]=>match ds with
  | [.z a,.z most]=>match n with
   | 4=>⟨Nat,fun k=>([some (SV.ptr ((0:Nat)) ((0:Nat))),none,none,none,some (SV.ptr ((1:Nat)) ((0:Nat))),some (SV.ptr ((5:Nat)) ((0:Nat))),some (.i .i64 (coO a most k)),some (.i .i64 (coN a most-k))]++nN 64),fun k=>[.gr k 3 (.fn (Rv.elemOf [.i64,.i64,.i64] (coR a most k))) .gr true,.cells [.i .i64 (coF a),.i .i64 (coI a),.i .i64 (coP a),.i .i64 (coC a),.gsl 6 k 3 true,.v (.int .i64 0)] .ex,.dead,.dead,.dead,SObj.cells [SV.v (Value.int IntKind.i64 (0:Int)),SV.v (Value.int IntKind.i64 (0:Int)),SV.v (Value.int IntKind.i64 (0:Int)),SV.v (Value.int IntKind.i64 (0:Int)),SV.v (Value.slice none ((0:Nat)) ((0:Nat))),SV.v (Value.int IntKind.i64 (0:Int))] Kd.ex,.cells [.i .u64 (itQ acQ (coA7 a most) k)] .ex],fun k=>(k:Int)≤coN a most,fun k=>(coN a most-k).toNat,0⟩
   | _=>noAnn
  | _=>noAnn
 | _=>noAnn
def V_CoopOf:Prop:=
 ∀(B:RW) (a b:Int),F_CoopOf.pre ([Dat.z a]++([Dat.z b]++[]))→Ob (F_Below.named.pre ([Dat.z a]++[Dat.z (300000:Int)]))∧∀(l:Int),l=belowA a (300000:Int)→∀(i:Int),i=belowV a (300000:Int)→Ob (F_Of.named.pre ([Dat.z l]++[Dat.l [[(0:Int)],[(20000:Int)],[i]]]))∧∀(p:Int),p=ofA l [[(0:Int)],[(20000:Int)],[i]]→∀(y:Int),y=ofV l [[(0:Int)],[(20000:Int)],[i]]→Ob (F_Below.named.pre ([Dat.z p]++[Dat.z (200000:Int)]))∧∀(t:Int),t=belowA p (200000:Int)→∀(u:Int),u=belowV p (200000:Int)→Ob (F_Of.named.pre ([Dat.z t]++[Dat.l [[(0:Int)],[u]]]))∧∀(n:Int),n=ofA t [[(0:Int)],[u]]→∀(z:Int),z=ofV t [[(0:Int)],[u]]→Ob (F_Below.named.pre ([Dat.z n]++[Dat.z (30:Int)]))∧∀(v:Int),v=belowA n (30:Int)→∀(D:Int),D=belowV n (30:Int)→Ob (F_Of.named.pre ([Dat.z v]++[Dat.l [[(0:Int)],[(1000:Int)],[(50000:Int)]]]))∧∀(j:Int),j=ofA v [[(0:Int)],[(1000:Int)],[(50000:Int)]]→∀(E:Int),E=ofV v [[(0:Int)],[(1000:Int)],[(50000:Int)]]→Ob (F_From.named.pre ([Dat.z j]++[Dat.z (1:Int),Dat.z b]))∧∀(F:Int),F=belowA j (b-(1:Int)+(1:Int))→∀(w:Int),w=(1:Int)+belowV j (b-(1:Int)+(1:Int))→(∃(c:Nat),Ob ((↑c:Int)≤coN a b)∧Ob ((0:Int)=coO a b c)∧Ob (w=coN a b-(↑c:Int))∧Ob (c=(0:Nat))∧Ob (y=coF a)∧Ob (z=coI a)∧Ob (D=coP a)∧Ob (E=coC a)∧Ob (c=(0:Nat))∧Ob (Value.int .i64 (0:Int)=Value.int .i64 (0:Int))∧Ob (Value.int .i64 (0:Int)=Value.int .i64 (0:Int))∧Ob (Value.int .i64 (0:Int)=Value.int .i64 (0:Int))∧Ob (Value.int .i64 (0:Int)=Value.int .i64 (0:Int))∧Ob (Value.int .i64 (0:Int)=Value.int .i64 (0:Int))∧Ob (SV.v (Value.slice none 0 0)=SV.v (Value.slice none 0 0))∧Ob (Value.int .i64 (0:Int)=Value.int .i64 (0:Int))∧Ob (F=itQ acQ (coA7 a b) c)∧Ob (PlainE c (El.fn (Rv.elemOf I3 (coR a b c))))∧True)∧∀(c:Nat),(↑c:Int)≤coN a b→∀(_ _ _ _ _ _ _ _ _ _ _ _ _ _ _ _ _ _ _ _ _ _ _ _ _ _ _ _ _ _ _ _ _ _ _ _ _ _ _ _ _ _ _ _ _ _ _ _ _ _ _ _ _ _ _ _ _ _ _ _ _ _ _ _ _ _ _:Value),((0:Int) < coN a b-(↑c:Int)→Ob (F_Below.named.pre ([Dat.z (itQ acQ (coA7 a b) c)]++[Dat.z (3000:Int)]))∧∀(f:Int),f=belowA (itQ acQ (coA7 a b) c) (3000:Int)→∀(e:Int),e=belowV (itQ acQ (coA7 a b) c) (3000:Int)→Ob (F_Of.named.pre ([Dat.z f]++[Dat.l [[(0:Int)],[e]]]))∧∀(h:Int),h=ofA f [[(0:Int)],[e]]→∀(g:Int),g=ofV f [[(0:Int)],[e]]→Ob (F_Below.named.pre ([Dat.z h]++[Dat.z (1000:Int)]))∧∀(o:Int),o=belowA h (1000:Int)→∀(q:Int),q=belowV h (1000:Int)→Ob (F_Of.named.pre ([Dat.z o]++[Dat.l [[(0:Int)],[q]]]))∧∀(m:Int),m=ofA o [[(0:Int)],[q]]→∀(s:Int),s=ofV o [[(0:Int)],[q]]→Ob (F_Below.named.pre ([Dat.z m]++[Dat.z (5000:Int)]))∧∀(r:Int),r=belowA m (5000:Int)→∀(k:Int),k=belowV m (5000:Int)→Ob (F_Of.named.pre ([Dat.z r]++[Dat.l [[(0:Int)],[(0:Int)],[k]]]))∧∀(x:Int),x=ofA r [[(0:Int)],[(0:Int)],[k]]→∀(C:Int),C=ofV r [[(0:Int)],[(0:Int)],[k]]→Ob (c=c∧∀(A:Nat),A < c→((El.fn (Rv.elemOf I3 (coR a b c))).at A).length=(3:Nat))∧Ob ((c+(1:Nat))*(2:Nat)*(25:Nat)≤1099511627776)∧Ob (c=c)∧Ob (InR .i64 (coO a b c+g))∧Ob (InR .i64 (coO a b c+g-s))∧Ob (InR .i64 (coN a b-(↑c:Int)-(1:Int)))∧∃(d:Nat),Ob ((↑d:Int)≤coN a b∧(coN a b-(↑d:Int)).toNat < (coN a b-(↑c:Int)).toNat)∧Ob (coO a b c+g-s=coO a b d)∧Ob (coN a b-(↑c:Int)-(1:Int)=coN a b-(↑d:Int))∧EqA (c+(1:Nat)) d (behind c (El.fn (Rv.elemOf I3 (coR a b c))) 1 (litEl (symL [SV.i .i64 g,SV.i .i64 s,SV.i .i64 C]) 3 1)) (El.fn (Rv.elemOf I3 (coR a b d)))∧Ob (coF a=coF a)∧Ob (coI a=coI a)∧Ob (coP a=coP a)∧Ob (coC a=coC a)∧Ob (c+(1:Nat)=d)∧Ob (Value.int .i64 (0:Int)=Value.int .i64 (0:Int))∧Ob (Value.int .i64 (0:Int)=Value.int .i64 (0:Int))∧Ob (Value.int .i64 (0:Int)=Value.int .i64 (0:Int))∧Ob (Value.int .i64 (0:Int)=Value.int .i64 (0:Int))∧Ob (Value.int .i64 (0:Int)=Value.int .i64 (0:Int))∧Ob (SV.v (Value.slice none 0 0)=SV.v (Value.slice none 0 0))∧Ob (Value.int .i64 (0:Int)=Value.int .i64 (0:Int))∧Ob (x=itQ acQ (coA7 a b) d)∧Ob (PlainE d (El.fn (Rv.elemOf I3 (coR a b d))))∧True)∧(¬(0:Int) < coN a b-(↑c:Int)→Ob (F_Below.named.pre ([Dat.z (itQ acQ (coA7 a b) c)]++[Dat.z (2000:Int)]))∧∀(f:Int),f=belowA (itQ acQ (coA7 a b) c) (2000:Int)→∀(e:Int),e=belowV (itQ acQ (coA7 a b) c) (2000:Int)→Ob (F_Of.named.pre ([Dat.z f]++[Dat.l [[(0:Int)],[e]]]))∧∀(h:Int),h=ofA f [[(0:Int)],[e]]→∀(g:Int),g=ofV f [[(0:Int)],[e]]→Ob (InR .i64 (max (0:Int) (coO a b c)+g))∧Ob (coF a=coF a)∧Ob (coI a=coI a)∧Ob (coP a=coP a)∧Ob (coC a=coC a)∧Ob (c=(coN a b).toNat)∧Ob (max (0:Int) (coO a b c)+g=coT a b)∧EqA c ((coN a b).toNat) (El.fn (Rv.elemOf I3 (coR a b c))) (El.fn (Rv.elemOf I3 (coR a b (coN a b).toNat)))∧Ob (h=coAE a b)∧Ob (PlainE (coN a b).toNat (El.fn (Rv.elemOf I3 (coR a b (coN a b).toNat))))∧True)
set_option linter.unusedSimpArgs false in
set_option maxRecDepth 4000 in
set_option maxHeartbeats 2000000 in
theorem v_CoopOf:V_CoopOf:=by
 unfold V_CoopOf EqA I3
 intro B a most h
 have h:1≤most∧most≤1000:=h
 simp only [F_Below,F_From,F_Of,FnE.named,List.cons_append,List.nil_append,Ob_iff,and_true,true_and]at ⊢
 refine⟨by omega,?_⟩
 intro q hq v hv
 obtain rfl:v=coV1 a:=hv
 obtain rfl:q=coA1 a:=hq
 refine⟨by simp,?_⟩
 intro q hq v hv
 obtain rfl:v=coF a:=hv
 obtain rfl:q=coA2 a:=hq
 refine⟨by omega,?_⟩
 intro q hq v hv
 obtain rfl:v=coV2 a:=hv
 obtain rfl:q=coA3 a:=hq
 refine⟨by simp,?_⟩
 intro q hq v hv
 obtain rfl:v=coI a:=hv
 obtain rfl:q=coA4 a:=hq
 refine⟨by omega,?_⟩
 intro q hq v hv
 obtain rfl:v=coP a:=hv
 obtain rfl:q=coA5 a:=hq
 refine⟨by simp,?_⟩
 intro q hq v hv
 obtain rfl:v=coC a:=hv
 obtain rfl:q=coA6 a:=hq
 refine⟨by omega,?_⟩
 intro q hq N hN
 obtain rfl:N=coN a most:=hN
 obtain rfl:q=coA7 a most:=hq
 have hN:=coN_in (a:=a) h.1
 refine⟨⟨0,by omega,?_⟩,?_⟩
 ·repeat' (with_reducible apply And.intro)
  all_goals first | with_reducible rfl | exact plain_elemOf _ _ _ | exact(itQ_zero _ _).symm | omega | rfl
 intro k hk
 intros
 refine⟨fun hlt=>?_,fun hge=>?_⟩
 ·obtain⟨b,hb⟩:∃b,itQ acQ (coA7 a most) k=b:=⟨_,rfl⟩
  have er:=coR_succ a most k
  have eo:=coO_succ a most k
  have eq:=itQ_succ acQ (coA7 a most) k
  rw [hb]at er eo eq ⊢
  refine⟨by omega,?_⟩
  intro q hq v hv
  obtain rfl:v=acV1 b:=hv
  obtain rfl:q=acB1 b:=hq
  refine⟨by simp,?_⟩
  intro q hq v hv
  obtain rfl:v=acB b:=hv
  obtain rfl:q=acB2 b:=hq
  refine⟨by omega,?_⟩
  intro q hq v hv
  obtain rfl:v=acV2 b:=hv
  obtain rfl:q=acB3 b:=hq
  refine⟨by simp,?_⟩
  intro q hq v hv
  obtain rfl:v=acD b:=hv
  obtain rfl:q=acB4 b:=hq
  refine⟨by omega,?_⟩
  intro q hq v hv
  obtain rfl:v=acV3 b:=hv
  obtain rfl:q=acB5 b:=hq
  refine⟨by simp,?_⟩
  intro q hq v hv
  obtain rfl:v=acS b:=hv
  obtain rfl:q=acQ b:=hq
  have hs:=snoc3 (x:=acB b) (y:=acD b) (z:=acS b) (it_len acQ acR (coA7 a most) k)
  have er:itR acQ acR (coA7 a most) k++[[acB b,acD b,acS b]]=coR a most (k+1):=er.symm
  rw [er]at hs
  have bo:=coO_in a most k
  have b1:=acB_in b
  have b2:=acD_in b
  clear er hb
  generalize acB b=xb at *
  generalize acD b=xd at *
  generalize acS b=xs at *
  have e3:(coN a most-((k+1:Nat):Int)).toNat < (coN a most-(k:Int)).toNat:=by omega
  refine⟨fun i hi=>rfl,by omega,by simp only [InR]; omega,by simp only [InR]; omega,by simp only [InR]; omega,k+1,⟨by omega,e3⟩,eo.symm,by omega,⟨rfl,hs⟩,rfl,eq.symm,plain_elemOf _ _ _⟩
 ·have e:k=(coN a most).toNat:=by omega
  subst e
  have hb:itQ acQ (coA7 a most) (coN a most).toNat=coA8 a most:=rfl
  rw [hb]
  refine⟨by omega,?_⟩
  intro q hq v hv
  obtain rfl:v=coV3 a most:=hv
  obtain rfl:q=coA9 a most:=hq
  refine⟨by simp,?_⟩
  intro q hq v hv
  have et:max 0 (coO a most (coN a most).toNat)+v=coT a most:=by rw [hv]; rfl
  have eq:q=coAE a most:=hq
  have bo:=coO_in a most (coN a most).toNat
  have bv:=coT_in a (most:=most)
  rw [← hv]at bv
  clear hv hq
  refine⟨?_,?_⟩
  ·simp only [InR]
   omega
  ·repeat' (with_reducible apply And.intro)
   all_goals first | with_reducible rfl | exact plain_elemOf _ _ _ | exact et | exact eq | omega | rfl | exact fun _ _=>rfl
theorem e_CoopOf:V_CoopOf=needE P [] [F_Below.named,F_From.named,F_Of.named] A_CoopOf F_CoopOf:=by kernel_rfl
theorem n_CoopOf:Ob (needE P [] [F_Below.named,F_From.named,F_Of.named] A_CoopOf F_CoopOf):=by
 rw [← e_CoopOf]
 exact⟨v_CoopOf⟩
theorem b_CoopOf:((P.funcs[10]?).any fun fn=>fn.body.isSome)=true:=by kernel_rfl
theorem CoopOf_ok:FnE.Ok P F_CoopOf:=FnE.ok named (l:=[]) (es:=[F_Below.named,F_From.named,F_Of.named]) (A:=A_CoopOf) (by rfl) (by rfl) (by rfl) (by
 intro F h; simp at h) (by
 intro F h
 simp only [List.mem_cons,List.not_mem_nil,or_false]at h
 rcases h with rfl | rfl | rfl
 ·exact Below_ok.named
 ·exact From_ok.named
 ·exact Of_ok.named
) b_CoopOf (by
 intro ds h o ho n sz e k z he
 subst he
 simp only [F_CoopOf]at ho
 split at ho
 ·simp only [List.mem_cons,List.not_mem_nil,or_false,SObj.gr.injEq]at ho
  obtain⟨rfl,rfl,rfl,rfl,rfl⟩:=ho
  exact plain_elemOf _ _ _
 ·simp at ho) n_CoopOf
end Go.Proofs.Ytfebjikidfcbcaa.Sy
