import Derived.Test.YtgoiegaobhfocaaSyP2
import Derived.Test.YtgoiegaobhfocaaGrM
import Derived.Test.YtgoiegaobhfocaaKtT
import Derived.Test.YtgoiegaobhfocaaKtG
import Derived.Test.YtgoiegaobhfocaaKtH
import Derived.Test.YtgoiegaobhfocaaKtI
import Derived.Test.YtgoiegaobhfocaaKuA
import Derived.Test.YtgoiegaobhfocaaKuB
import Derived.Test.YtgoiegaobhfocaaKuC
import Derived.Test.YtgoiegaobhfocaaKuD
import Derived.Test.YtgoiegaobhfocaaKuE
import Derived.Test.YtgoiegaobhfocaaSyP2
import Derived.KernelRfl
import Derived.Test.YtgoiegaobhfocaaProg
namespace Go.Proofs.Ytgoiegaobhfocaa.Sy
open Go Go.Rv
set_option linter.unusedVariables false
def waC (a:Int):Int:=ofV (spanA a 600 1000) [[0],[40]]
def waB (a:Int):Int:=ofA (spanA a 600 1000) [[0],[40]]
def waD (a:Int):Int:=spanA (waB a) 0 (waC a)
def waQ (a:Int):Int:=spanA (waD a) 30 120
theorem waC_is (a:Int):waC a=0∨waC a=40:=ofV_two _ _ _
theorem wa_ok (a:Int):WaOk (spanLo a 600 1000) (spanHi a 600 1000) (spanLo (waB a) 0 (waC a)) (spanHi (waB a) 0 (waC a)) (spanLo (waD a) 30 120) (spanHi (waD a) 30 120):=by
 have h1:=spanLo_in a (lo:=600) (hi:=1000) (by omega)
 have h2:=spanHi_in a (lo:=600) (hi:=1000) (by omega)
 have h3:=spanLo_in (waD a) (lo:=30) (hi:=120) (by omega)
 have h4:=spanHi_in (waD a) (lo:=30) (hi:=120) (by omega)
 have hc:=waC_is a
 have h5:=spanLo_in (waB a) (lo:=0) (hi:=waC a) (by omega)
 have h6:=spanHi_in (waB a) (lo:=0) (hi:=waC a) (by omega)
 refine⟨⟨?_,?_,?_⟩,⟨?_,?_,?_⟩,?_,?_,?_⟩<;>omega
theorem plain_behind0 (a:El) (m:Nat) (ks:List IntKind) (rows:Rows) (n:Nat):PlainE n (behind 0 a m (.fn (Rv.elemOf ks rows))):=fun i hi y hy=>plain_elemOf ks rows n i hi y (by rw [behind_at]at hy; exact hy)
noncomputable def F_refFlow:Fn0:=⟨34,[.one (.l [.i64,.i64]),i64],fun l=>match l with | [.l R,.z nu]=>R.length≤100∧∀i,i < R.length→0≤cell R i 1∧cell R i 1≤100000 | _=>False,fun l=>match l with | [.l R,.z nu]=>.i .i64 (flT R nu (-1) 0 0 R.length) | _=>.v undef⟩
noncomputable def A_refFlow:List SV→List Dat→Nat→List SV→Ann:=fun xs ds n ts=>match xs with
 | [.lst x _ _ _,.i _ _]=>match ds with
  | [.l R,.z nu]=>match n with
   | 3=>⟨Nat,fun k=>([some (SV.lst x R.length ((2:Nat)) (Rv.elemOf [IntKind.i64,IntKind.i64] R)),some (SV.i IntKind.i64 nu),none,none,some (SV.v (Value.int IntKind.i64 (0:Int))),some (.i .i64 (flT R nu (-1) 0 0 k)),some (.i .i64 k)]++nN 21),fun k=>[],fun k=>k≤R.length,fun k=>R.length-k,0⟩
   | _=>noAnn
  | _=>noAnn
 | _=>noAnn
def V_refFlow:Prop:=
 ∀(B:RW) (c:RV) (a:List (List Int)),IsLst B c a.length 2 (Rv.elemOf I2 a)→oneB c=true→(∀row∈a,row.length=2)→∀(d:Int),(a.length≤100∧∀(f:Nat),f < a.length→(0:Int)≤cell a f 1∧cell a f 1≤(100000:Int))→(∃(b:Nat),Ob (b≤a.length)∧Ob (SV.lst c a.length 2 (Rv.elemOf I2 a)=SV.lst c a.length 2 (Rv.elemOf I2 a))∧Ob (d=d)∧Ob (Value.int .i64 (0:Int)=Value.int .i64 (0:Int))∧Ob ((0:Int)=flT a d (-1:Int) (0:Int) (0:Int) b)∧Ob ((0:Int)=(↑b:Int))∧LsA B c I2 a∧True)∧∀(b:Nat),b≤a.length→∀(_ _ _ _ _ _ _ _ _ _ _ _ _ _ _ _ _ _ _ _ _ _ _:Value),LsA B c I2 a∧((↑b:Int) < (↑a.length:Int)→Ob ((0:Int)≤(↑b:Int)∧b < a.length∧IsLst B c a.length 2 (Rv.elemOf I2 a))∧Ob (IsLst B c a.length 2 (Rv.elemOf I2 a)∧b < a.length)∧(cell a b 0=d→Ob ((0:Int)≤(↑b:Int)∧b < a.length∧IsLst B c a.length 2 (Rv.elemOf I2 a))∧Ob (IsLst B c a.length 2 (Rv.elemOf I2 a)∧b < a.length)∧Ob (InR .i64 (flT a d (-1:Int) (0:Int) (0:Int) b+cell a b 1))∧Ob (InR .i64 ((↑b:Int)+(1:Int)))∧∃(e:Nat),Ob (e≤a.length∧a.length-e < a.length-b)∧Ob (SV.lst c a.length 2 (Rv.elemOf I2 a)=SV.lst c a.length 2 (Rv.elemOf I2 a))∧Ob (d=d)∧Ob (Value.int .i64 (0:Int)=Value.int .i64 (0:Int))∧Ob (flT a d (-1:Int) (0:Int) (0:Int) b+cell a b 1=flT a d (-1:Int) (0:Int) (0:Int) e)∧Ob ((↑b:Int)+(1:Int)=(↑e:Int))∧LsA B c I2 a∧True)∧(¬cell a b 0=d→Ob (InR .i64 ((↑b:Int)+(1:Int)))∧∃(e:Nat),Ob (e≤a.length∧a.length-e < a.length-b)∧Ob (SV.lst c a.length 2 (Rv.elemOf I2 a)=SV.lst c a.length 2 (Rv.elemOf I2 a))∧Ob (d=d)∧Ob (Value.int .i64 (0:Int)=Value.int .i64 (0:Int))∧Ob (flT a d (-1:Int) (0:Int) (0:Int) b=flT a d (-1:Int) (0:Int) (0:Int) e)∧Ob ((↑b:Int)+(1:Int)=(↑e:Int))∧LsA B c I2 a∧True))∧(¬(↑b:Int) < (↑a.length:Int)→Ob (flT a d (-1:Int) (0:Int) (0:Int) b=flT a d (-1:Int) (0:Int) (0:Int) a.length)∧True)
set_option linter.unusedSimpArgs false in
set_option maxRecDepth 4000 in
set_option maxHeartbeats 400000 in
theorem v_refFlow:V_refFlow:=by
 unfold V_refFlow I2 LsA
 intro B x R hx hox hrx nu ⟨hR,hc⟩
 simp only [Ob_iff,and_true,true_and,InR]
 refine⟨⟨0,by omega,rfl,by omega,hx⟩,?_⟩
 intro k hk
 intros
 have st:=flA_step R nu k
 refine⟨hx,fun h1=>?_,fun h1=>?_⟩
 ·have hk':k < R.length:=by omega
  have bd:=flT_bd (R:=R) (nu:=nu) (sp:=-1) (sf:=0) (h:=0) (k:=k) fun i hi=>hc i (by omega)
  have c:=hc k hk'
  refine⟨⟨by omega,hk',hx⟩,⟨hx,hk'⟩,fun h2=>⟨⟨by omega,hk',hx⟩,⟨hx,hk'⟩,by omega,by omega,k+1,by omega,?_,by omega,hx⟩,fun h2=>⟨by omega,k+1,by omega,?_,by omega,hx⟩⟩
  ·rw [st,if_pos h2]
  ·rw [st,if_neg h2]; omega
 ·have e:k=R.length:=by omega
  rw [e]
theorem e_refFlow:V_refFlow=needF P [] A_refFlow F_refFlow:=by kernel_rfl
theorem n_refFlow:Ob (needF P [] A_refFlow F_refFlow):=by
 rw [← e_refFlow]
 exact⟨v_refFlow⟩
theorem b_refFlow:((P.funcs[34]?).any fun fn=>fn.body.isSome)=true:=by kernel_rfl
theorem refFlow_ok:Fn0.Ok P F_refFlow:=Fn0.ok named (l:=[]) (A:=A_refFlow) (by rfl) (by
 intro F h; simp at h) b_refFlow (by
 intro ds N
 simp only [F_refFlow]
 split<;>rfl) n_refFlow
noncomputable def F_WaterOf:FnE:=⟨31,(some [.i .u64]),[],fun _=>True,fun l=>match l with | [.z a]=>[.agg [.i .i64 (spanLo a 600 1000),.i .i64 (spanHi a 600 1000),.i .i64 (spanLo (waB a) 0 (waC a)),.i .i64 (spanHi (waB a) 0 (waC a)),.i .i64 (spanLo (waD a) 30 120),.i .i64 (spanHi (waD a) 30 120)]] | _=>[],fun l=>match l with | [.z a]=>[] | _=>[],fun l=>match l with | [.z a]=>[.i .u64 (waQ a)] | _=>[],false,none,none⟩
noncomputable def A_WaterOf:List SV→List Dat→Nat→List SV→Ann:=fun _ _ _ _=>noAnn
def V_WaterOf:Prop:=
 ∀(B:RW) (a:Int),F_WaterOf.pre ([Dat.z a]++[])→Ob (F_Span.named.pre ([Dat.z a]++[Dat.z (600:Int),Dat.z (1000:Int)]))∧∀(e:Int),e=spanA a (600:Int) (1000:Int)→∀(g:Int),g=spanLo a (600:Int) (1000:Int)→∀(k:Int),k=spanHi a (600:Int) (1000:Int)→Ob (F_Of.named.pre ([Dat.z e]++[Dat.l [[(0:Int)],[(40:Int)]]]))∧∀(c:Int),c=ofA e [[(0:Int)],[(40:Int)]]→∀(b:Int),b=ofV e [[(0:Int)],[(40:Int)]]→Ob (F_Span.named.pre ([Dat.z c]++[Dat.z (0:Int),Dat.z b]))∧∀(d:Int),d=spanA c (0:Int) b→∀(f:Int),f=spanLo c (0:Int) b→∀(l:Int),l=spanHi c (0:Int) b→Ob (F_Span.named.pre ([Dat.z d]++[Dat.z (30:Int),Dat.z (120:Int)]))∧∀(j:Int),j=spanA d (30:Int) (120:Int)→∀(i:Int),i=spanLo d (30:Int) (120:Int)→∀(h:Int),h=spanHi d (30:Int) (120:Int)→Ob (g=spanLo a (600:Int) (1000:Int))∧Ob (k=spanHi a (600:Int) (1000:Int))∧Ob (f=spanLo (waB a) (0:Int) (waC a))∧Ob (l=spanHi (waB a) (0:Int) (waC a))∧Ob (i=spanLo (waD a) (30:Int) (120:Int))∧Ob (h=spanHi (waD a) (30:Int) (120:Int))∧Ob (j=waQ a)∧True
set_option linter.unusedSimpArgs false in
set_option maxRecDepth 4000 in
set_option maxHeartbeats 400000 in
theorem v_WaterOf:V_WaterOf:=by
 unfold V_WaterOf
 intro B a h
 simp only [F_Of,F_Span,FnE.named,List.cons_append,List.nil_append,Ob_iff,and_true,true_and]at ⊢
 refine⟨by omega,?_⟩
 intro v hv v1 h1 v2 h2
 obtain rfl:v=spanA a 600 1000:=hv
 refine⟨by simp,?_⟩
 intro c hc c1 hc1
 obtain rfl:c=waB a:=hc
 obtain rfl:c1=waC a:=hc1
 have hw:=waC_is a
 refine⟨by omega,?_⟩
 intro d hd d1 hd1 d2 hd2
 obtain rfl:d=waD a:=hd
 refine⟨by omega,?_⟩
 intro e he e1 he1 e2 he2
 exact⟨h1,h2,hd1,hd2,he1,he2,he⟩
theorem e_WaterOf:V_WaterOf=needE P [] [F_Of.named,F_Span.named] A_WaterOf F_WaterOf:=by kernel_rfl
theorem n_WaterOf:Ob (needE P [] [F_Of.named,F_Span.named] A_WaterOf F_WaterOf):=by
 rw [← e_WaterOf]
 exact⟨v_WaterOf⟩
theorem b_WaterOf:((P.funcs[31]?).any fun fn=>fn.body.isSome)=true:=by kernel_rfl
theorem WaterOf_ok:FnE.Ok P F_WaterOf:=FnE.ok named (l:=[]) (es:=[F_Of.named,F_Span.named]) (A:=A_WaterOf) (by rfl) (by rfl) (by rfl) (by
 intro F h; simp at h) (by
 intro F h
 simp only [List.mem_cons,List.not_mem_nil,or_false]at h
 rcases h with rfl | rfl
 ·exact Of_ok.named
 ·exact Span_ok.named
) b_WaterOf (by
 rintro ds h o ho n sz e k z rfl
 simp only [F_WaterOf]at ho
 split at ho<;>simp at ho) n_WaterOf
noncomputable def F_OwnPlant:FnE:=⟨10,none,[.agg [.l [.i64,.i64,.i64,.i64,.i64,.i64,.i64,.i64],.l [.i64,.i64],.i .i64,.i .i64,.i .i64,.i .i64,.i .i64,.i .i64,.i .i64,.i .i64,.i .i64,.i .i64,.i .i64,.i .i64,.i .i64,.i .i64,.i .i64,.i .i64,.i .i64,.i .i64]],fun l=>match l with | .l T :: .l R :: .z s1 :: .z s2 :: .z s3 :: .z s4 :: .z s5 :: .z s6 :: .z u1 :: .z u2 :: .z v1 :: .z v2 :: .z a1 :: .z a2 :: .z g1 :: .z g2 :: .z le :: .z mo :: .z w1 :: .z w2 :: []=>T.length≤100∧R.length≤100∧1≤T.length | _=>False,fun l=>match l with | .l T :: .l R :: .z s1 :: .z s2 :: .z s3 :: .z s4 :: .z s5 :: .z s6 :: .z u1 :: .z u2 :: .z v1 :: .z v2 :: .z a1 :: .z a2 :: .z g1 :: .z g2 :: .z le :: .z mo :: .z w1 :: .z w2 :: []=>[.agg [.gsl 0 T.length 8 false,.gsl 1 R.length 2 false,.i .i64 s1,.i .i64 s2,.i .i64 s3,.i .i64 s4,.i .i64 s5,.i .i64 s6,.i .i64 u1,.i .i64 u2,.i .i64 v1,.i .i64 v2,.i .i64 a1,.i .i64 a2,.i .i64 g1,.i .i64 g2,.i .i64 le,.i .i64 mo,.i .i64 w1,.i .i64 w2]] | _=>[],fun l=>match l with | .l T :: .l R :: .z s1 :: .z s2 :: .z s3 :: .z s4 :: .z s5 :: .z s6 :: .z u1 :: .z u2 :: .z v1 :: .z v2 :: .z a1 :: .z a2 :: .z g1 :: .z g2 :: .z le :: .z mo :: .z w1 :: .z w2 :: []=>[.gr R.length 2 (.fn (Rv.elemOf [.i64,.i64] R)) .gr false,.gr T.length 8 (.fn (Rv.elemOf [.i64,.i64,.i64,.i64,.i64,.i64,.i64,.i64] T)) .gr false] | _=>[],fun l=>match l with | .l T :: .l R :: .z s1 :: .z s2 :: .z s3 :: .z s4 :: .z s5 :: .z s6 :: .z u1 :: .z u2 :: .z v1 :: .z v2 :: .z a1 :: .z a2 :: .z g1 :: .z g2 :: .z le :: .z mo :: .z w1 :: .z w2 :: []=>[] | _=>[],false,none,none⟩
noncomputable def A_OwnPlant:List SV→List Dat→Nat→List SV→Ann:=fun _ _ _ _=>noAnn
def V_OwnPlant:Prop:=
 ∀(B:RW) (v:RV) (b:List (List Int)),IsLst B v b.length 8 (Rv.elemOf [.i64,.i64,.i64,.i64,.i64,.i64,.i64,.i64] b)→oneB v=true→(∀row∈b,row.length=8)→∀(u:RV) (a:List (List Int)),IsLst B u a.length 2 (Rv.elemOf I2 a)→oneB u=true→(∀row∈a,row.length=2)→∀(f l d k t j h m s c p g e q r n o i:Int),F_OwnPlant.pre ([Dat.l b,Dat.l a,Dat.z f,Dat.z l,Dat.z d,Dat.z k,Dat.z t,Dat.z j,Dat.z h,Dat.z m,Dat.z s,Dat.z c,Dat.z p,Dat.z g,Dat.z e,Dat.z q,Dat.z r,Dat.z n,Dat.z o,Dat.z i]++[])→LsA B v [.i64,.i64,.i64,.i64,.i64,.i64,.i64,.i64] b∧LsA B v [.i64,.i64,.i64,.i64,.i64,.i64,.i64,.i64] b∧(b.length=(0:Nat)→LsA B u I2 a∧LsA B u I2 a∧(a.length=(0:Nat)→Ob ((0:Nat)=b.length)∧Ob ((0:Nat)=a.length)∧Ob (f=f)∧Ob (l=l)∧Ob (d=d)∧Ob (k=k)∧Ob (t=t)∧Ob (j=j)∧Ob (h=h)∧Ob (m=m)∧Ob (s=s)∧Ob (c=c)∧Ob (p=p)∧Ob (g=g)∧Ob (e=e)∧Ob (q=q)∧Ob (r=r)∧Ob (n=n)∧Ob (o=o)∧Ob (i=i)∧EqA (0:Nat) a.length (litEl (symL (replS 0 (List.map SV.v (Value.agg #[Value.int .i64 (0:Int),Value.int .i64 (0:Int)]).cells.toList))) 2 0) (El.fn (Rv.elemOf I2 a))∧EqA (0:Nat) b.length (litEl (symL (replS 0 (List.map SV.v (Value.agg #[Value.int .i64 (0:Int),Value.int .i64 (0:Int),Value.int .i64 (0:Int),Value.int .i64 (0:Int),Value.int .i64 (0:Int),Value.int .i64 (0:Int),Value.int .i64 (0:Int),Value.int .i64 (0:Int)]).cells.toList))) 8 0) (El.fn (Rv.elemOf [.i64,.i64,.i64,.i64,.i64,.i64,.i64,.i64] b))∧PlA I2 a∧PlA [.i64,.i64,.i64,.i64,.i64,.i64,.i64,.i64] b∧True)∧(¬a.length=(0:Nat)→Ob (((0:Nat)+a.length)*(2:Nat)*(17:Nat)≤1099511627776)∧Ob ((0:Nat) < 0+((0:Nat)+a.length)*(2:Nat))∧Ob (PlainE ((0:Nat)+a.length) (behind 0 (litEl (symL (replS 0 (List.map SV.v (Value.agg #[Value.int .i64 (0:Int),Value.int .i64 (0:Int)]).cells.toList))) 2 0) a.length (El.fn (Rv.elemOf I2 a))))∧Ob ((0:Nat)=b.length)∧Ob ((0:Nat)+a.length=a.length)∧Ob (f=f)∧Ob (l=l)∧Ob (d=d)∧Ob (k=k)∧Ob (t=t)∧Ob (j=j)∧Ob (h=h)∧Ob (m=m)∧Ob (s=s)∧Ob (c=c)∧Ob (p=p)∧Ob (g=g)∧Ob (e=e)∧Ob (q=q)∧Ob (r=r)∧Ob (n=n)∧Ob (o=o)∧Ob (i=i)∧EqA ((0:Nat)+a.length) a.length (behind 0 (litEl (symL (replS 0 (List.map SV.v (Value.agg #[Value.int .i64 (0:Int),Value.int .i64 (0:Int)]).cells.toList))) 2 0) a.length (El.fn (Rv.elemOf I2 a))) (El.fn (Rv.elemOf I2 a))∧EqA (0:Nat) b.length (litEl (symL (replS 0 (List.map SV.v (Value.agg #[Value.int .i64 (0:Int),Value.int .i64 (0:Int),Value.int .i64 (0:Int),Value.int .i64 (0:Int),Value.int .i64 (0:Int),Value.int .i64 (0:Int),Value.int .i64 (0:Int),Value.int .i64 (0:Int)]).cells.toList))) 8 0) (El.fn (Rv.elemOf [.i64,.i64,.i64,.i64,.i64,.i64,.i64,.i64] b))∧PlA I2 a∧PlA [.i64,.i64,.i64,.i64,.i64,.i64,.i64,.i64] b∧True))∧(¬b.length=(0:Nat)→Ob (((0:Nat)+b.length)*(2:Nat)*(65:Nat)≤1099511627776)∧Ob ((0:Nat) < 0+((0:Nat)+b.length)*(8:Nat))∧Ob (PlainE ((0:Nat)+b.length) (behind 0 (litEl (symL (replS 0 (List.map SV.v (Value.agg #[Value.int .i64 (0:Int),Value.int .i64 (0:Int),Value.int .i64 (0:Int),Value.int .i64 (0:Int),Value.int .i64 (0:Int),Value.int .i64 (0:Int),Value.int .i64 (0:Int),Value.int .i64 (0:Int)]).cells.toList))) 8 0) b.length (El.fn (Rv.elemOf [.i64,.i64,.i64,.i64,.i64,.i64,.i64,.i64] b))))∧LsA B u I2 a∧LsA B u I2 a∧(a.length=(0:Nat)→Ob ((0:Nat)+b.length=b.length)∧Ob ((0:Nat)=a.length)∧Ob (f=f)∧Ob (l=l)∧Ob (d=d)∧Ob (k=k)∧Ob (t=t)∧Ob (j=j)∧Ob (h=h)∧Ob (m=m)∧Ob (s=s)∧Ob (c=c)∧Ob (p=p)∧Ob (g=g)∧Ob (e=e)∧Ob (q=q)∧Ob (r=r)∧Ob (n=n)∧Ob (o=o)∧Ob (i=i)∧EqA (0:Nat) a.length (litEl (symL (replS 0 (List.map SV.v (Value.agg #[Value.int .i64 (0:Int),Value.int .i64 (0:Int)]).cells.toList))) 2 0) (El.fn (Rv.elemOf I2 a))∧EqA ((0:Nat)+b.length) b.length (behind 0 (litEl (symL (replS 0 (List.map SV.v (Value.agg #[Value.int .i64 (0:Int),Value.int .i64 (0:Int),Value.int .i64 (0:Int),Value.int .i64 (0:Int),Value.int .i64 (0:Int),Value.int .i64 (0:Int),Value.int .i64 (0:Int),Value.int .i64 (0:Int)]).cells.toList))) 8 0) b.length (El.fn (Rv.elemOf [.i64,.i64,.i64,.i64,.i64,.i64,.i64,.i64] b))) (El.fn (Rv.elemOf [.i64,.i64,.i64,.i64,.i64,.i64,.i64,.i64] b))∧PlA I2 a∧PlA [.i64,.i64,.i64,.i64,.i64,.i64,.i64,.i64] b∧True)∧(¬a.length=(0:Nat)→Ob (((0:Nat)+a.length)*(2:Nat)*(17:Nat)≤1099511627776)∧Ob ((0:Nat) < 0+((0:Nat)+a.length)*(2:Nat))∧Ob (PlainE ((0:Nat)+a.length) (behind 0 (litEl (symL (replS 0 (List.map SV.v (Value.agg #[Value.int .i64 (0:Int),Value.int .i64 (0:Int)]).cells.toList))) 2 0) a.length (El.fn (Rv.elemOf I2 a))))∧Ob ((0:Nat)+b.length=b.length)∧Ob ((0:Nat)+a.length=a.length)∧Ob (f=f)∧Ob (l=l)∧Ob (d=d)∧Ob (k=k)∧Ob (t=t)∧Ob (j=j)∧Ob (h=h)∧Ob (m=m)∧Ob (s=s)∧Ob (c=c)∧Ob (p=p)∧Ob (g=g)∧Ob (e=e)∧Ob (q=q)∧Ob (r=r)∧Ob (n=n)∧Ob (o=o)∧Ob (i=i)∧EqA ((0:Nat)+a.length) a.length (behind 0 (litEl (symL (replS 0 (List.map SV.v (Value.agg #[Value.int .i64 (0:Int),Value.int .i64 (0:Int)]).cells.toList))) 2 0) a.length (El.fn (Rv.elemOf I2 a))) (El.fn (Rv.elemOf I2 a))∧EqA ((0:Nat)+b.length) b.length (behind 0 (litEl (symL (replS 0 (List.map SV.v (Value.agg #[Value.int .i64 (0:Int),Value.int .i64 (0:Int),Value.int .i64 (0:Int),Value.int .i64 (0:Int),Value.int .i64 (0:Int),Value.int .i64 (0:Int),Value.int .i64 (0:Int),Value.int .i64 (0:Int)]).cells.toList))) 8 0) b.length (El.fn (Rv.elemOf [.i64,.i64,.i64,.i64,.i64,.i64,.i64,.i64] b))) (El.fn (Rv.elemOf [.i64,.i64,.i64,.i64,.i64,.i64,.i64,.i64] b))∧PlA I2 a∧PlA [.i64,.i64,.i64,.i64,.i64,.i64,.i64,.i64] b∧True))
set_option linter.unusedSimpArgs false in
set_option maxRecDepth 4000 in
set_option maxHeartbeats 2000000 in
theorem v_OwnPlant:V_OwnPlant:=by
 unfold V_OwnPlant EqA I2 LsA PlA
 intro B x T hx hox hrx y R hy hoy hry
 intro s1 s2 s3 s4 s5 s6 u1 u2 v1 v2 a1 a2 g1 g2 le mo w1 w2
 intro ⟨q1,q2,q3⟩
 simp only [Ob_iff,and_true,true_and]
 repeat' (first | (with_reducible apply And.intro) | assumption | exact plain_behind0 _ _ _ _ _ | exact plain_elemOf _ _ _ | intro _)
 all_goals first | assumption | omega | exact behind_at _ _ _ _ | skip
theorem e_OwnPlant:V_OwnPlant=needE P [] [] A_OwnPlant F_OwnPlant:=by kernel_rfl
theorem n_OwnPlant:Ob (needE P [] [] A_OwnPlant F_OwnPlant):=by
 rw [← e_OwnPlant]
 exact⟨v_OwnPlant⟩
theorem b_OwnPlant:((P.funcs[10]?).any fun fn=>fn.body.isSome)=true:=by kernel_rfl
theorem OwnPlant_ok:FnE.Ok P F_OwnPlant:=FnE.ok named (l:=[]) (es:=[]) (A:=A_OwnPlant) (by rfl) (by rfl) (by rfl) (by
 intro F h; simp at h) (by
 intro F h; simp at h) b_OwnPlant (by
 intro ds h o ho n sz e k z he
 subst he
 simp only [F_OwnPlant]at ho
 split at ho
 ·simp only [List.mem_cons,List.not_mem_nil,or_false,SObj.gr.injEq]at ho
  rcases ho with ⟨rfl,rfl,rfl,rfl,rfl⟩ | ⟨rfl,rfl,rfl,rfl,rfl⟩<;>exact plain_elemOf _ _ _
 ·simp at ho) n_OwnPlant
end Go.Proofs.Ytgoiegaobhfocaa.Sy
