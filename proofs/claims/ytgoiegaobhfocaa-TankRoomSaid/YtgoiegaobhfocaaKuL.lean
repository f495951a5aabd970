import Derived.Test.YtgoiegaobhfocaaSyP2
import Derived.Test.YtgoiegaobhfocaaGrM
import Derived.Test.YtgoiegaobhfocaaKtT
import Derived.Test.YtgoiegaobhfocaaKtG
import Derived.Test.YtgoiegaobhfocaaKtH
import Derived.Test.YtgoiegaobhfocaaKtI
import Derived.Test.YtgoiegaobhfocaaKuA
import Derived.Test.YtgoiegaobhfocaaKuB
import Derived.Test.YtgoiegaobhfocaaKuC
import Derived.Test.YtgoiegaobhfocaaKuD
import Derived.Test.YtgoiegaobhfocaaKuE
import Derived.Test.YtgoiegaobhfocaaKuF
import Derived.Test.YtgoiegaobhfocaaKuG
import Derived.Test.YtgoiegaobhfocaaKuH
import Derived.Test.YtgoiegaobhfocaaKuI
import Derived.Test.YtgoiegaobhfocaaKuJ
import Derived.Test.YtgoiegaobhfocaaSyP2
import Derived.KernelRfl
import Derived.Test.YtgoiegaobhfocaaProg
namespace Go.Proofs.Ytgoiegaobhfocaa.Sy
open Go Go.Rv
set_option linter.unusedVariables false
structure Tst where
 p:Pl
 q:Int
 h:Int
 L:Rows
 K:Nat→Prop
 k:Nat
 a:Int
 e:Int
structure Tst.Pk (v:Tst):Prop where
 p:v.p.Ok
 o:v.p.T.length=1
 t:∀r∈v.p.T,r.length=8
 r:∀r∈v.p.R,r.length=2
structure Tst.Rm (v:Tst):Prop where
 p:v.Pk
 h:0≤v.h∧v.h≤5
 a:v.a=roomV (v.p.bn 0) v.h
 e:v.e=roomE (v.p.bn 0) v.h
structure Tst.Ok (v:Tst):Prop where
 p:v.Pk
 h:0≤v.h∧v.h≤5
 l:v.L.length≤5
 r:∀r∈v.L,r.length=1
 g:∀i,i < v.L.length→0≤cell v.L i 0∧cell v.L i 0≤10000000
 k:∀i,i < v.L.length→(v.K i↔((v.p.bn 0).wg (cell v.L i 0)).safe v.h)
theorem thr {p:Nat→Prop}:∀n:Nat,(∀a b:Nat,a≤b→b < n→p b→p a)→∃r,r≤n∧∀g,g < n→(p g↔g < r)
 | 0,_=>⟨0,Nat.le_refl _,fun g hg=>absurd hg (Nat.not_lt_zero g)⟩
 | n+1,h=>by
  obtain⟨r,hr,hh⟩:=thr n fun a b h1 h2 h3=>h a b h1 (by omega) h3
  by_cases hn:p n
  ·refine⟨n+1,Nat.le_refl _,fun g hg=>⟨fun _=>hg,fun _=>h g n (by omega) (by omega) hn⟩⟩
  ·refine⟨r,by omega,fun g hg=>?_⟩
   by_cases e:g=n
   ·subst e
    exact⟨fun hp=>absurd hp hn,fun hp=>by omega⟩
   ·exact hh g (by omega)
theorem room_is {b:Bn} (hb:b.Ok) (hs:b.Sgn) {H:Int} (hH:0≤H):(0≤roomR b H∧roomR b H≤10000001)∧∀g:Int,0≤g→g≤10000000→((b.wg g).safe H↔g < roomR b H):=by
 obtain⟨r,hr,hh⟩:=thr (p:=fun g=>(b.wg g).safe H) 10000001 fun x y h1 _ h3=>Bn.safe_mono hb hs (by omega) hH h3
 have e:roomR b H=(r:Int):=by
  unfold roomR
  rw [roomC_is hr hh]
 rw [e]
 refine⟨by omega,fun g h1 h2=>?_⟩
 obtain⟨n,rfl⟩:=Int.eq_ofNat_of_zero_le h1
 rw [hh n (by omega)]
 omega
def setT (T:Rows) (g:Int):Rows:=[[cell T 0 0,g,cell T 0 2,cell T 0 3,cell T 0 4,cell T 0 5,cell T 0 6,cell T 0 7]]
theorem setT_ok {p:Pl} (h:p.Ok) (h1:p.T.length=1) {g:Int} (hg:0≤g∧g≤10000000):(Pl.mk (setT p.T g) p.R p.s1 p.s2 p.s3 p.s4 p.s5 p.s6 p.u1 p.u2 p.v1 p.v2 p.a1 p.a2 p.g1 p.g2 p.le p.mo p.w1 p.w2).Ok:=by
 have k:=h.t 0 (by omega)
 refine⟨⟨Nat.le_refl _,by show 1≤6; omega⟩,fun i hi=>?_,h.m,fun i hi=>?_,fun i hi=>?_,h.s,h.u,h.v,h.a,h.g,h.e,h.w⟩
 ·have e:i=0:=by have:i < 1:=hi; omega
  subst e
  exact⟨k.l,hg,k.w⟩
 ·have:=h.r i hi
  rw [h1]at this
  exact this
 ·have e:i=0:=by have:i < 1:=hi; omega
  subst e
  exact h.f 0 (by omega)
theorem vrd_one {p:Pl} (h1:p.T.length=1) (sp sf H:Int):p.vrd sp sf H=1↔(p.bn 0).vrd sp sf H=1:=by
 have hv:=(p.bn 0).vrd_in sp sf H
 unfold Pl.vrd Pl.vto
 constructor
 ·intro h
  split at h
  ·omega
  ·split at h
   ·rename_i h3; exact h3 0 (by omega)
   ·omega
 ·intro h
  rw [if_neg fun⟨t,h2,h3⟩=>by
   have e:t=0:=by omega
   subst e
   omega,if_pos fun t ht=>by
   have e:t=0:=by omega
   subst e
   exact h]
theorem hV_safe {p:Pl} (h1:p.T.length=1) {H:Int}:hV (fun sp sf=>p.vrd sp sf H) p.R.length H=1↔(p.bn 0).safe H:=by
 rw [hV_one]
 constructor
 ·intro h
  refine⟨(vrd_one h1 _ _ _).1 (h (-1) 0 (.inl ⟨rfl,rfl⟩)),fun k f hk hf=>(vrd_one h1 _ _ _).1 (h k f (.inr ⟨by omega,?_,by omega,hf⟩))⟩
  have:k < p.R.length:=hk
  omega
 ·rintro⟨h2,h3⟩ x y (⟨rfl,rfl⟩ | ⟨g1,g2,g3,g4⟩)
  ·exact(vrd_one h1 _ _ _).2 h2
  ·obtain⟨k,rfl⟩:=Int.eq_ofNat_of_zero_le g1
   obtain⟨f,rfl⟩:=Int.eq_ofNat_of_zero_le g3
   exact(vrd_one h1 _ _ _).2 (h3 k f (by show k < p.R.length; omega) g4)
theorem setT_bn (p:Pl) (g:Int):(Pl.mk (setT p.T g) p.R p.s1 p.s2 p.s3 p.s4 p.s5 p.s6 p.u1 p.u2 p.v1 p.v2 p.a1 p.a2 p.g1 p.g2 p.le p.mo p.w1 p.w2).bn 0=(p.bn 0).wg g:=rfl
theorem plain_K (n:Nat) (f:Nat→Prop):PlainE n (.fn fun i=>[SV.p (f i)]):=by
 intro i hi y hy
 have hy:y∈[SV.p (f i)]:=hy
 rw [List.mem_singleton.1 hy]
 exact trivial
theorem p_eq {a b:Prop} (h:a↔b):[SV.p a]=[SV.p b]:=by rw [propext h]
noncomputable def F_law:LawF:=⟨5,[.one (.l [.i64])],fun l=>match l with | [.l N]=>N.length≤9223372036854775807 | _=>False⟩
noncomputable def A_law:List SV→List Dat→Nat→List SV→Ann:=fun xs ds n ts=>match xs with
 | [.lst xz _ _ _]=>match ds with
  | [.l N]=>match n with
   | 3=>⟨Tst,fun v=>([none,none,none,some (.ptr 0 0),some (.ptr 3 0)]++nN 99),fun v=>[.cells (.gsl 1 v.p.T.length 8 true :: .gsl 2 v.p.R.length 2 true :: .i .i64 v.p.s1 :: .i .i64 v.p.s2 :: .i .i64 v.p.s3 :: .i .i64 v.p.s4 :: .i .i64 v.p.s5 :: .i .i64 v.p.s6 :: .i .i64 v.p.u1 :: .i .i64 v.p.u2 :: .i .i64 v.p.v1 :: .i .i64 v.p.v2 :: .i .i64 v.p.a1 :: .i .i64 v.p.a2 :: .i .i64 v.p.g1 :: .i .i64 v.p.g2 :: .i .i64 v.p.le :: .i .i64 v.p.mo :: .i .i64 v.p.w1 :: .i .i64 v.p.w2 :: []) .ex,.gr v.p.R.length 2 (.fn (Rv.elemOf [.i64,.i64] v.p.R)) .gr true,.gr v.p.T.length 8 (.fn (Rv.elemOf [.i64,.i64,.i64,.i64,.i64,.i64,.i64,.i64] v.p.T)) .gr true,.cells [.i .u64 v.q] .ex],fun v=>v.Pk,fun _=>0,1000000⟩
   | 7=>⟨Tst,fun v=>([none,none,none,some (.ptr 0 0),some (.ptr 3 0),some (.i .i64 v.h),some (.i .i64 v.a),some (.i .i64 v.e)]++nN 96),fun v=>[.cells (.gsl 1 v.p.T.length 8 true :: .gsl 2 v.p.R.length 2 true :: .i .i64 v.p.s1 :: .i .i64 v.p.s2 :: .i .i64 v.p.s3 :: .i .i64 v.p.s4 :: .i .i64 v.p.s5 :: .i .i64 v.p.s6 :: .i .i64 v.p.u1 :: .i .i64 v.p.u2 :: .i .i64 v.p.v1 :: .i .i64 v.p.v2 :: .i .i64 v.p.a1 :: .i .i64 v.p.a2 :: .i .i64 v.p.g1 :: .i .i64 v.p.g2 :: .i .i64 v.p.le :: .i .i64 v.p.mo :: .i .i64 v.p.w1 :: .i .i64 v.p.w2 :: []) .ex,.gr v.p.R.length 2 (.fn (Rv.elemOf [.i64,.i64] v.p.R)) .gr true,.gr v.p.T.length 8 (.fn (Rv.elemOf [.i64,.i64,.i64,.i64,.i64,.i64,.i64,.i64] v.p.T)) .gr true,.cells [.i .u64 v.q] .ex],fun v=>v.Rm,fun _=>0,1000000⟩
   | 12=>⟨Tst,fun v=>([none,none,none,none,some (.ptr 3 0),some (.i .i64 v.h),none,none,some (.gsl 4 v.L.length 1 false),some (.gsl 5 v.L.length 1 false)]++nN 94),fun v=>[.gr v.L.length 1 (.fn fun i=>[.p (v.K i)]) .gr false,.gr v.L.length 1 (.fn (Rv.elemOf [.i64] v.L)) .gr false,.cells (.gsl 1 v.p.T.length 8 true :: .gsl 2 v.p.R.length 2 true :: .i .i64 v.p.s1 :: .i .i64 v.p.s2 :: .i .i64 v.p.s3 :: .i .i64 v.p.s4 :: .i .i64 v.p.s5 :: .i .i64 v.p.s6 :: .i .i64 v.p.u1 :: .i .i64 v.p.u2 :: .i .i64 v.p.v1 :: .i .i64 v.p.v2 :: .i .i64 v.p.a1 :: .i .i64 v.p.a2 :: .i .i64 v.p.g1 :: .i .i64 v.p.g2 :: .i .i64 v.p.le :: .i .i64 v.p.mo :: .i .i64 v.p.w1 :: .i .i64 v.p.w2 :: []) .ex,.gr v.p.R.length 2 (.fn (Rv.elemOf [.i64,.i64] v.p.R)) .gr true,.gr v.p.T.length 8 (.fn (Rv.elemOf [.i64,.i64,.i64,.i64,.i64,.i64,.i64,.i64] v.p.T)) .gr true,.dead],fun v=>v.Ok,fun _=>0,1000000⟩
   | 13=>⟨Tst,fun v=>([none,none,none,none,some (.ptr 3 0),some (.i .i64 v.h),none,none,some (.gsl 4 v.L.length 1 false),some (.gsl 5 v.L.length 1 false),some (.i .i64 v.k)]++nN 93),fun v=>[.gr v.L.length 1 (.fn fun i=>[.p (v.K i)]) .gr false,.gr v.L.length 1 (.fn (Rv.elemOf [.i64] v.L)) .gr false,.cells (.gsl 1 v.p.T.length 8 true :: .gsl 2 v.p.R.length 2 true :: .i .i64 v.p.s1 :: .i .i64 v.p.s2 :: .i .i64 v.p.s3 :: .i .i64 v.p.s4 :: .i .i64 v.p.s5 :: .i .i64 v.p.s6 :: .i .i64 v.p.u1 :: .i .i64 v.p.u2 :: .i .i64 v.p.v1 :: .i .i64 v.p.v2 :: .i .i64 v.p.a1 :: .i .i64 v.p.a2 :: .i .i64 v.p.g1 :: .i .i64 v.p.g2 :: .i .i64 v.p.le :: .i .i64 v.p.mo :: .i .i64 v.p.w1 :: .i .i64 v.p.w2 :: []) .ex,.gr v.p.R.length 2 (.fn (Rv.elemOf [.i64,.i64] v.p.R)) .gr true,.gr v.p.T.length 8 (.fn (Rv.elemOf [.i64,.i64,.i64,.i64,.i64,.i64,.i64,.i64] v.p.T)) .gr true,.dead],fun v=>v.Ok∧v.k≤v.L.length,fun v=>v.L.length-v.k,0⟩
   | _=>noAnn
  | _=>noAnn
 | _=>noAnn
set_option maxRecDepth 10000 in
def V_law:Prop:=
 ∀(B:RW),hasTabs [] B→∀(M:RV) (A:List (List Int)),IsLst B M A.length 1 (Rv.elemOf [.i64] A)→oneB M=true→(∀row∈A,row.length=1)→A.length≤9223372036854775807→RwB B M A.length 1 [.i64] A fun e=>Ob (F_TideOf.named.pre [Dat.l e])∧(Ob (F_PlantOf.named.pre ([Dat.z (tideK e e.length)]++[Dat.z (1:Int),Dat.z (3:Int)]))∧∀(C:Int),C=puQ (plT (tideK e e.length) (1:Int)) (plA16 (tideK e e.length) (1:Int) (3:Int)) (plP (tideK e e.length) (1:Int) (3:Int)).toNat→∀(n:Int),n=plv_s1 (tideK e e.length)→∀(h:Int),h=plv_s2 (tideK e e.length)→∀(m:Int),m=plv_s3 (tideK e e.length)→∀(z:Int),z=plv_s4 (tideK e e.length)→∀(K:Int),K=plv_s5 (tideK e e.length)→∀(i:Int),i=plv_s6 (tideK e e.length)→∀(j:Int),j=plv_u1 (tideK e e.length)→∀(l:Int),l=plv_u2 (tideK e e.length)→∀(k:Int),k=plv_v1 (tideK e e.length)→∀(s:Int),s=plv_v2 (tideK e e.length)→∀(u:Int),u=plv_a1 (tideK e e.length)→∀(v:Int),v=plv_a2 (tideK e e.length)→∀(o:Int),o=plv_g1 (tideK e e.length)→∀(q:Int),q=plv_g2 (tideK e e.length)→∀(r:Int),r=plv_le (tideK e e.length)→∀(t:Int),t=plv_mo (tideK e e.length)→∀(p:Int),p=plv_w1 (tideK e e.length)→∀(w:Int),w=plv_w2 (tideK e e.length)→∃(d:Tst),Ob d.Pk∧Ob ((plN (tideK e e.length) (1:Int)).toNat=List.length d.p.T)∧Ob ((plP (tideK e e.length) (1:Int) (3:Int)).toNat=List.length d.p.R)∧Ob (n=d.p.s1)∧Ob (h=d.p.s2)∧Ob (m=d.p.s3)∧Ob (z=d.p.s4)∧Ob (K=d.p.s5)∧Ob (i=d.p.s6)∧Ob (j=d.p.u1)∧Ob (l=d.p.u2)∧Ob (k=d.p.v1)∧Ob (s=d.p.v2)∧Ob (u=d.p.a1)∧Ob (v=d.p.a2)∧Ob (o=d.p.g1)∧Ob (q=d.p.g2)∧Ob (r=d.p.le)∧Ob (t=d.p.mo)∧Ob (p=d.p.w1)∧Ob (w=d.p.w2)∧EqA ((plP (tideK e e.length) (1:Int) (3:Int)).toNat) (List.length d.p.R) (El.fn (Rv.elemOf I2 (puR (plT (tideK e e.length) (1:Int)) (plA16 (tideK e e.length) (1:Int) (3:Int)) (plP (tideK e e.length) (1:Int) (3:Int)).toNat))) (El.fn (Rv.elemOf I2 d.p.R))∧EqA ((plN (tideK e e.length) (1:Int)).toNat) (List.length d.p.T) (El.fn (Rv.elemOf [.i64,.i64,.i64,.i64,.i64,.i64,.i64,.i64] (plT (tideK e e.length) (1:Int)))) (El.fn (Rv.elemOf [.i64,.i64,.i64,.i64,.i64,.i64,.i64,.i64] d.p.T))∧Ob (C=d.q)∧PlA I2 d.p.R∧PlA [.i64,.i64,.i64,.i64,.i64,.i64,.i64,.i64] d.p.T∧True)∧∀(d:Tst),d.Pk→∀(_ _ _ _ _ _ _ _ _ _ _ _ _ _ _ _ _ _ _ _ _ _ _ _ _ _ _ _ _ _ _ _ _ _ _ _ _ _ _ _ _ _ _ _ _ _ _ _ _ _ _ _ _ _ _ _ _ _ _ _ _ _ _ _ _ _ _ _ _ _ _ _ _ _ _ _ _ _ _ _ _ _ _ _ _ _ _ _ _ _ _ _ _ _ _ _ _ _ _ _ _ _:Value),Ob (F_Below.named.pre ([Dat.z d.q]++[Dat.z (6:Int)]))∧∀(C:Int),C=belowA d.q (6:Int)→∀(n:Int),n=belowV d.q (6:Int)→RwE 8 [.i64,.i64,.i64,.i64,.i64,.i64,.i64,.i64] d.p.T fun O=>RwE 2 I2 d.p.R fun P=>Ob (F_Room.named.pre ([Dat.l O,Dat.l P,Dat.z d.p.s1,Dat.z d.p.s2,Dat.z d.p.s3,Dat.z d.p.s4,Dat.z d.p.s5,Dat.z d.p.s6,Dat.z d.p.u1,Dat.z d.p.u2,Dat.z d.p.v1,Dat.z d.p.v2,Dat.z d.p.a1,Dat.z d.p.a2,Dat.z d.p.g1,Dat.z d.p.g2,Dat.z d.p.le,Dat.z d.p.mo,Dat.z d.p.w1,Dat.z d.p.w2]++[Dat.z (0:Int),Dat.z n]))∧∀(h:Int),h=roomV (tkB O P d.p.s1 d.p.s2 d.p.s3 d.p.s4 d.p.s5 d.p.s6 d.p.u1 d.p.u2 d.p.v1 d.p.v2 d.p.a1 d.p.a2 d.p.g1 d.p.g2 d.p.le d.p.mo d.p.w1 d.p.w2 (0:Int)) n→∀(m:Int),m=roomE (tkB O P d.p.s1 d.p.s2 d.p.s3 d.p.s4 d.p.s5 d.p.s6 d.p.u1 d.p.u2 d.p.v1 d.p.v2 d.p.a1 d.p.a2 d.p.g1 d.p.g2 d.p.le d.p.mo d.p.w1 d.p.w2 (0:Int)) n→((¬m=(0:Int)→(¬¬m=(6:Int)→(¬h < (0:Int)→((10000000:Int) < h→False)∧(¬(10000000:Int) < h→∃(a:Tst),Ob a.Rm∧Ob (n=a.h)∧Ob (h=a.a)∧Ob (m=a.e)∧Ob (List.length d.p.T=List.length a.p.T)∧Ob (List.length d.p.R=List.length a.p.R)∧Ob (d.p.s1=a.p.s1)∧Ob (d.p.s2=a.p.s2)∧Ob (d.p.s3=a.p.s3)∧Ob (d.p.s4=a.p.s4)∧Ob (d.p.s5=a.p.s5)∧Ob (d.p.s6=a.p.s6)∧Ob (d.p.u1=a.p.u1)∧Ob (d.p.u2=a.p.u2)∧Ob (d.p.v1=a.p.v1)∧Ob (d.p.v2=a.p.v2)∧Ob (d.p.a1=a.p.a1)∧Ob (d.p.a2=a.p.a2)∧Ob (d.p.g1=a.p.g1)∧Ob (d.p.g2=a.p.g2)∧Ob (d.p.le=a.p.le)∧Ob (d.p.mo=a.p.mo)∧Ob (d.p.w1=a.p.w1)∧Ob (d.p.w2=a.p.w2)∧EqR I2 d.p.R a.p.R∧EqR [.i64,.i64,.i64,.i64,.i64,.i64,.i64,.i64] d.p.T a.p.T∧Ob (C=a.q)∧PlA I2 a.p.R∧PlA [.i64,.i64,.i64,.i64,.i64,.i64,.i64,.i64] a.p.T∧True))∧(h < (0:Int)→False))∧(¬m=(6:Int)→False))∧(¬¬m=(0:Int)→(¬h < (0:Int)→((10000000:Int) < h→False)∧(¬(10000000:Int) < h→∃(a:Tst),Ob a.Rm∧Ob (n=a.h)∧Ob (h=a.a)∧Ob (m=a.e)∧Ob (List.length d.p.T=List.length a.p.T)∧Ob (List.length d.p.R=List.length a.p.R)∧Ob (d.p.s1=a.p.s1)∧Ob (d.p.s2=a.p.s2)∧Ob (d.p.s3=a.p.s3)∧Ob (d.p.s4=a.p.s4)∧Ob (d.p.s5=a.p.s5)∧Ob (d.p.s6=a.p.s6)∧Ob (d.p.u1=a.p.u1)∧Ob (d.p.u2=a.p.u2)∧Ob (d.p.v1=a.p.v1)∧Ob (d.p.v2=a.p.v2)∧Ob (d.p.a1=a.p.a1)∧Ob (d.p.a2=a.p.a2)∧Ob (d.p.g1=a.p.g1)∧Ob (d.p.g2=a.p.g2)∧Ob (d.p.le=a.p.le)∧Ob (d.p.mo=a.p.mo)∧Ob (d.p.w1=a.p.w1)∧Ob (d.p.w2=a.p.w2)∧EqR I2 d.p.R a.p.R∧EqR [.i64,.i64,.i64,.i64,.i64,.i64,.i64,.i64] d.p.T a.p.T∧Ob (C=a.q)∧PlA I2 a.p.R∧PlA [.i64,.i64,.i64,.i64,.i64,.i64,.i64,.i64] a.p.T∧True))∧(h < (0:Int)→False)))∧∀(a:Tst),a.Rm→∀(_ _ _ _ _ _ _ _ _ _ _ _ _ _ _ _ _ _ _ _ _ _ _ _ _ _ _ _ _ _ _ _ _ _ _ _ _ _ _ _ _ _ _ _ _ _ _ _ _ _ _ _ _ _ _ _ _ _ _ _ _ _ _ _ _ _ _ _ _ _ _ _ _ _ _ _ _ _ _ _ _ _ _ _ _ _ _ _ _ _ _ _ _ _ _ _ _ _ _:Value),Ob (F_Below.named.pre ([Dat.z a.q]++[Dat.z (40000:Int)]))∧∀(z:Int),z=belowA a.q (40000:Int)→∀(K:Int),K=belowV a.q (40000:Int)→((a.e=(0:Int)→Ob (F_From.named.pre ([Dat.z z]++[Dat.z (0:Int),Dat.z a.a]))∧∀(i:Int),i=belowA z (a.a-(0:Int)+(1:Int))→∀(j:Int),j=(0:Int)+belowV z (a.a-(0:Int)+(1:Int))→(a.a < (10000000:Int)→Ob (InR .i64 (a.a+(1:Int)))∧Ob (InR .i64 (a.a+(1:Int)))∧Ob (F_From.named.pre ([Dat.z i]++[Dat.z (a.a+(1:Int)),Dat.z (10000000:Int)]))∧∀(l:Int),l=belowA i ((10000000:Int)-(a.a+(1:Int))+(1:Int))→∀(k:Int),k=a.a+(1:Int)+belowV i ((10000000:Int)-(a.a+(1:Int))+(1:Int))→Ob ((90:Nat)≤1099511627776)∧Ob ([SV.v (Value.int .i64 (0:Int)),SV.i .i64 a.a,SV.i .i64 j].length < 5)∧Ob ((20:Nat)≤1099511627776)∧Ob ((3:Nat) < 5)∧∃(c:Tst),Ob c.Ok∧Ob (a.h=c.h)∧Ob ((5:Nat)=c.L.length)∧Ob ((5:Nat)=c.L.length)∧EqA (5:Nat) c.L.length (behind 3 (litEl (symL [SV.v (Value.bool true),SV.v (Value.bool true),SV.v (Value.bool true)]) 1 3) 2 (litEl (symL [SV.v (Value.bool false),SV.v (Value.bool false)]) 1 2)) (El.fn fun(g:Nat)↦[SV.p (c.K g)])∧EqA (5:Nat) c.L.length (behind 3 (litEl (symL [SV.v (Value.int .i64 (0:Int)),SV.i .i64 a.a,SV.i .i64 j]) 1 3) 2 (litEl (symL [SV.i .i64 (a.a+(1:Int)),SV.i .i64 k]) 1 2)) (El.fn (Rv.elemOf [.i64] c.L))∧Ob (List.length a.p.T=List.length c.p.T)∧Ob (List.length a.p.R=List.length c.p.R)∧Ob (a.p.s1=c.p.s1)∧Ob (a.p.s2=c.p.s2)∧Ob (a.p.s3=c.p.s3)∧Ob (a.p.s4=c.p.s4)∧Ob (a.p.s5=c.p.s5)∧Ob (a.p.s6=c.p.s6)∧Ob (a.p.u1=c.p.u1)∧Ob (a.p.u2=c.p.u2)∧Ob (a.p.v1=c.p.v1)∧Ob (a.p.v2=c.p.v2)∧Ob (a.p.a1=c.p.a1)∧Ob (a.p.a2=c.p.a2)∧Ob (a.p.g1=c.p.g1)∧Ob (a.p.g2=c.p.g2)∧Ob (a.p.le=c.p.le)∧Ob (a.p.mo=c.p.mo)∧Ob (a.p.w1=c.p.w1)∧Ob (a.p.w2=c.p.w2)∧EqR I2 a.p.R c.p.R∧EqR [.i64,.i64,.i64,.i64,.i64,.i64,.i64,.i64] a.p.T c.p.T∧Ob (PlainE (c.L.length) (El.fn fun(g:Nat)↦[SV.p (c.K g)]))∧PlA [.i64] c.L∧PlA I2 c.p.R∧PlA [.i64,.i64,.i64,.i64,.i64,.i64,.i64,.i64] c.p.T∧True)∧(¬a.a < (10000000:Int)→∃(c:Tst),Ob c.Ok∧Ob (a.h=c.h)∧Ob ((3:Nat)=c.L.length)∧Ob ((3:Nat)=c.L.length)∧EqA (3:Nat) c.L.length (litEl (symL [SV.v (Value.bool true),SV.v (Value.bool true),SV.v (Value.bool true)]) 1 3) (El.fn fun(g:Nat)↦[SV.p (c.K g)])∧EqA (3:Nat) c.L.length (litEl (symL [SV.v (Value.int .i64 (0:Int)),SV.i .i64 a.a,SV.i .i64 j]) 1 3) (El.fn (Rv.elemOf [.i64] c.L))∧Ob (List.length a.p.T=List.length c.p.T)∧Ob (List.length a.p.R=List.length c.p.R)∧Ob (a.p.s1=c.p.s1)∧Ob (a.p.s2=c.p.s2)∧Ob (a.p.s3=c.p.s3)∧Ob (a.p.s4=c.p.s4)∧Ob (a.p.s5=c.p.s5)∧Ob (a.p.s6=c.p.s6)∧Ob (a.p.u1=c.p.u1)∧Ob (a.p.u2=c.p.u2)∧Ob (a.p.v1=c.p.v1)∧Ob (a.p.v2=c.p.v2)∧Ob (a.p.a1=c.p.a1)∧Ob (a.p.a2=c.p.a2)∧Ob (a.p.g1=c.p.g1)∧Ob (a.p.g2=c.p.g2)∧Ob (a.p.le=c.p.le)∧Ob (a.p.mo=c.p.mo)∧Ob (a.p.w1=c.p.w1)∧Ob (a.p.w2=c.p.w2)∧EqR I2 a.p.R c.p.R∧EqR [.i64,.i64,.i64,.i64,.i64,.i64,.i64,.i64] a.p.T c.p.T∧Ob (PlainE (c.L.length) (El.fn fun(g:Nat)↦[SV.p (c.K g)]))∧PlA [.i64] c.L∧PlA I2 c.p.R∧PlA [.i64,.i64,.i64,.i64,.i64,.i64,.i64,.i64] c.p.T∧True))∧(¬a.e=(0:Int)→∃(c:Tst),Ob c.Ok∧Ob (a.h=c.h)∧Ob ((2:Nat)=c.L.length)∧Ob ((2:Nat)=c.L.length)∧EqA (2:Nat) c.L.length (litEl (symL [SV.v (Value.bool false),SV.v (Value.bool false)]) 1 2) (El.fn fun(g:Nat)↦[SV.p (c.K g)])∧EqA (2:Nat) c.L.length (litEl (symL [SV.v (Value.int .i64 (0:Int)),SV.i .i64 K]) 1 2) (El.fn (Rv.elemOf [.i64] c.L))∧Ob (List.length a.p.T=List.length c.p.T)∧Ob (List.length a.p.R=List.length c.p.R)∧Ob (a.p.s1=c.p.s1)∧Ob (a.p.s2=c.p.s2)∧Ob (a.p.s3=c.p.s3)∧Ob (a.p.s4=c.p.s4)∧Ob (a.p.s5=c.p.s5)∧Ob (a.p.s6=c.p.s6)∧Ob (a.p.u1=c.p.u1)∧Ob (a.p.u2=c.p.u2)∧Ob (a.p.v1=c.p.v1)∧Ob (a.p.v2=c.p.v2)∧Ob (a.p.a1=c.p.a1)∧Ob (a.p.a2=c.p.a2)∧Ob (a.p.g1=c.p.g1)∧Ob (a.p.g2=c.p.g2)∧Ob (a.p.le=c.p.le)∧Ob (a.p.mo=c.p.mo)∧Ob (a.p.w1=c.p.w1)∧Ob (a.p.w2=c.p.w2)∧EqR I2 a.p.R c.p.R∧EqR [.i64,.i64,.i64,.i64,.i64,.i64,.i64,.i64] a.p.T c.p.T∧Ob (PlainE (c.L.length) (El.fn fun(g:Nat)↦[SV.p (c.K g)]))∧PlA [.i64] c.L∧PlA I2 c.p.R∧PlA [.i64,.i64,.i64,.i64,.i64,.i64,.i64,.i64] c.p.T∧True))∧∀(c:Tst),c.Ok→∀(_ _ _ _ _ _ _ _ _ _ _ _ _ _ _ _ _ _ _ _ _ _ _ _ _ _ _ _ _ _ _ _ _ _ _ _ _ _ _ _ _ _ _ _ _ _ _ _ _ _ _ _ _ _ _ _ _ _ _ _ _ _ _ _ _ _ _ _ _ _ _ _ _ _ _ _ _ _ _ _ _ _ _ _ _ _ _ _ _ _ _ _ _ _ _ _ _ _ _ _:Value),(∃(b:Tst),Ob (b.Ok∧b.k≤b.L.length)∧Ob (c.h=b.h)∧Ob (c.L.length=b.L.length)∧Ob (c.L.length=b.L.length)∧Ob ((0:Int)=(↑b.k:Int))∧EqA c.L.length b.L.length (El.fn fun(g:Nat)↦[SV.p (c.K g)]) (El.fn fun(g:Nat)↦[SV.p (b.K g)])∧EqR [.i64] c.L b.L∧Ob (List.length c.p.T=List.length b.p.T)∧Ob (List.length c.p.R=List.length b.p.R)∧Ob (c.p.s1=b.p.s1)∧Ob (c.p.s2=b.p.s2)∧Ob (c.p.s3=b.p.s3)∧Ob (c.p.s4=b.p.s4)∧Ob (c.p.s5=b.p.s5)∧Ob (c.p.s6=b.p.s6)∧Ob (c.p.u1=b.p.u1)∧Ob (c.p.u2=b.p.u2)∧Ob (c.p.v1=b.p.v1)∧Ob (c.p.v2=b.p.v2)∧Ob (c.p.a1=b.p.a1)∧Ob (c.p.a2=b.p.a2)∧Ob (c.p.g1=b.p.g1)∧Ob (c.p.g2=b.p.g2)∧Ob (c.p.le=b.p.le)∧Ob (c.p.mo=b.p.mo)∧Ob (c.p.w1=b.p.w1)∧Ob (c.p.w2=b.p.w2)∧EqR I2 c.p.R b.p.R∧EqR [.i64,.i64,.i64,.i64,.i64,.i64,.i64,.i64] c.p.T b.p.T∧Ob (PlainE (b.L.length) (El.fn fun(g:Nat)↦[SV.p (b.K g)]))∧PlA [.i64] b.L∧PlA I2 b.p.R∧PlA [.i64,.i64,.i64,.i64,.i64,.i64,.i64,.i64] b.p.T∧True)∧∀(b:Tst),b.Ok∧b.k≤b.L.length→∀(_ _ _ _ _ _ _ _ _ _ _ _ _ _ _ _ _ _ _ _ _ _ _ _ _ _ _ _ _ _ _ _ _ _ _ _ _ _ _ _ _ _ _ _ _ _ _ _ _ _ _ _ _ _ _ _ _ _ _ _ _ _ _ _ _ _ _ _ _ _ _ _ _ _ _ _ _ _ _ _ _ _ _ _ _ _ _ _ _ _ _ _ _ _ _ _ _ _ _:Value),((↑b.k:Int) < (↑(b.L.length):Int)→RwE 8 [.i64,.i64,.i64,.i64,.i64,.i64,.i64,.i64] b.p.T fun y=>RwE 2 I2 b.p.R fun R=>Ob (F_OwnPlant.named.pre ([Dat.l y,Dat.l R,Dat.z b.p.s1,Dat.z b.p.s2,Dat.z b.p.s3,Dat.z b.p.s4,Dat.z b.p.s5,Dat.z b.p.s6,Dat.z b.p.u1,Dat.z b.p.u2,Dat.z b.p.v1,Dat.z b.p.v2,Dat.z b.p.a1,Dat.z b.p.a2,Dat.z b.p.g1,Dat.z b.p.g2,Dat.z b.p.le,Dat.z b.p.mo,Dat.z b.p.w1,Dat.z b.p.w2]++[]))∧∀(i:Int),i=b.p.s1→∀(j:Int),j=b.p.s2→∀(l:Int),l=b.p.s3→∀(k:Int),k=b.p.s4→∀(s:Int),s=b.p.s5→∀(u:Int),u=b.p.s6→∀(v:Int),v=b.p.u1→∀(o:Int),o=b.p.u2→∀(q:Int),q=b.p.v1→∀(r:Int),r=b.p.v2→∀(t:Int),t=b.p.a1→∀(p:Int),p=b.p.a2→∀(w:Int),w=b.p.g1→∀(D:Int),D=b.p.g2→∀(H:Int),H=b.p.le→∀(E:Int),E=b.p.mo→∀(J:Int),J=b.p.w1→∀(F:Int),F=b.p.w2→Ob ((0:Int)≤(↑b.k:Int)∧b.k < b.L.length)∧Ob (b.k < b.L.length)∧Ob ((0:Nat) < y.length)∧Ob ((0:Nat) < y.length∧((El.fn (Rv.elemOf [.i64,.i64,.i64,.i64,.i64,.i64,.i64,.i64] y)).at 0).length=(8:Nat))∧RwA y.length y.length 8 [.i64,.i64,.i64,.i64,.i64,.i64,.i64,.i64] ((updL (El.fn (Rv.elemOf [.i64,.i64,.i64,.i64,.i64,.i64,.i64,.i64] y)) 0 1 [SV.i .i64 (cell b.L b.k 0)]).at) fun L=>RwE 2 I2 R fun x=>Ob (F_Holds.named.pre ([Dat.l L,Dat.l x,Dat.z i,Dat.z j,Dat.z l,Dat.z k,Dat.z s,Dat.z u,Dat.z v,Dat.z o,Dat.z q,Dat.z r,Dat.z t,Dat.z p,Dat.z w,Dat.z D,Dat.z H,Dat.z E,Dat.z J,Dat.z F]++[Dat.z b.h]))∧∀(Q:Int),Q=hV (fun(I G:Int)↦(Pl.mk L x i j l k s u v o q r t p w D H E J F).vrd I G b.h) (↑x.length:Int) b.h→∀(S:Int),S=hA (fun(I G:Int)↦(Pl.mk L x i j l k s u v o q r t p w D H E J F).vrd I G b.h) (↑x.length:Int) b.h→∀(T:Int),T=hC (fun(I G:Int)↦(Pl.mk L x i j l k s u v o q r t p w D H E J F).vrd I G b.h) (↑x.length:Int) b.h→∀(N:Int),N=(0:Int)→(¬¬N=(0:Int)→Ob ((0:Int)≤(↑b.k:Int)∧b.k < b.L.length)∧Ob (b.k < b.L.length)∧(¬(Q=(1:Int)↔b.K b.k)→False)∧(¬¬(Q=(1:Int)↔b.K b.k)→Ob (InR .i64 ((↑b.k:Int)+(1:Int)))∧∃(f:Tst),Ob ((f.Ok∧f.k≤List.length f.L)∧List.length f.L-f.k < b.L.length-b.k)∧Ob (b.h=f.h)∧Ob (b.L.length=List.length f.L)∧Ob (b.L.length=List.length f.L)∧Ob ((↑b.k:Int)+(1:Int)=(↑f.k:Int))∧EqA b.L.length (List.length f.L) (El.fn fun(g:Nat)↦[SV.p (b.K g)]) (El.fn fun(g:Nat)↦[SV.p (f.K g)])∧EqR [.i64] b.L f.L∧Ob (List.length b.p.T=List.length f.p.T)∧Ob (List.length b.p.R=List.length f.p.R)∧Ob (b.p.s1=f.p.s1)∧Ob (b.p.s2=f.p.s2)∧Ob (b.p.s3=f.p.s3)∧Ob (b.p.s4=f.p.s4)∧Ob (b.p.s5=f.p.s5)∧Ob (b.p.s6=f.p.s6)∧Ob (b.p.u1=f.p.u1)∧Ob (b.p.u2=f.p.u2)∧Ob (b.p.v1=f.p.v1)∧Ob (b.p.v2=f.p.v2)∧Ob (b.p.a1=f.p.a1)∧Ob (b.p.a2=f.p.a2)∧Ob (b.p.g1=f.p.g1)∧Ob (b.p.g2=f.p.g2)∧Ob (b.p.le=f.p.le)∧Ob (b.p.mo=f.p.mo)∧Ob (b.p.w1=f.p.w1)∧Ob (b.p.w2=f.p.w2)∧EqR I2 b.p.R f.p.R∧EqR [.i64,.i64,.i64,.i64,.i64,.i64,.i64,.i64] b.p.T f.p.T∧Ob (PlainE (List.length f.L) (El.fn fun(g:Nat)↦[SV.p (f.K g)]))∧PlA [.i64] f.L∧PlA I2 f.p.R∧PlA [.i64,.i64,.i64,.i64,.i64,.i64,.i64,.i64] f.p.T∧True))∧(¬N=(0:Int)→False))∧(¬(↑b.k:Int) < (↑(b.L.length):Int)→Ob (hasTabs [] B)∧True)
set_option linter.unusedSimpArgs false in
set_option maxRecDepth 4000 in
set_option maxHeartbeats 2000000 in
theorem v_law:V_law:=by
 unfold V_law EqA EqR I2 PlA RwA RwB RwE
 intro B htab xz N hz hoz hrz hN
 simp only [F_Below,F_From,FnE.named,List.cons_append,List.nil_append,Ob_iff,and_true,true_and,Classical.not_not]
 refine⟨N,⟨hz,rfl,hrz,fun _ _=>rfl⟩,hN,?_,?_⟩
 ·obtain⟨a0,ha0⟩:∃a0,tideK N N.length=a0:=⟨_,rfl⟩
  rw [ha0]
  clear ha0
  refine⟨⟨by omega,by omega,by omega,by omega⟩,?_⟩
  have hp:=pl_ok (a:=a0) (tanks:=1) (pumps:=3) (by omega) (by omega)
  have hl:=plT_len a0 1
  have hw:∀r∈plT a0 1,r.length=8:=it_mem (p:=fun r=>r.length=8) (fun _=>rfl) _
  have hr:=pu_len (plT a0 1) (plA16 a0 1 3) (plP a0 1 3).toNat
  have hv:=pu_w (plT a0 1) (plA16 a0 1 3) (plP a0 1 3).toNat
  have hn:=plN_in (a:=a0) (tanks:=1) (by omega)
  intro q hq y1 h1 y2 h2 y3 h3 y4 h4 y5 h5 y6 h6 y7 h7 y8 h8 y9 h9 y10 h10 y11 h11 y12 h12 y13 h13 y14 h14 y15 h15 y16 h16 y17 h17 y18 h18
  rw [← h1,← h2,← h3,← h4,← h5,← h6,← h7,← h8,← h9,← h10,← h11,← h12,← h13,← h14,← h15,← h16,← h17,← h18]at hp
  clear hq h1 h2 h3 h4 h5 h6 h7 h8 h9 h10 h11 h12 h13 h14 h15 h16 h17 h18
  obtain⟨R,hR⟩:∃R,puR (plT a0 1) (plA16 a0 1 3) (plP a0 1 3).toNat=R:=⟨_,rfl⟩
  rw [hR]at hp hr hv ⊢
  clear hR
  obtain⟨T,hT⟩:∃T,plT a0 1=T:=⟨_,rfl⟩
  rw [hT]at hp hl hw ⊢
  clear hT
  obtain⟨n,hn'⟩:∃n,(plN a0 1).toNat=n:=⟨_,rfl⟩
  have hn1:n=1:=by omega
  rw [hn']at hl ⊢
  obtain⟨k,hk⟩:∃k,(plP a0 1 3).toNat=k:=⟨_,rfl⟩
  rw [hk]at hr ⊢
  clear hn hn' hk
  subst hr hl
  refine⟨⟨⟨T,R,y1,y2,y3,y4,y5,y6,y7,y8,y9,y10,y11,y12,y13,y14,y15,y16,y17,y18⟩,q,0,[],fun _=>False,0,0,0⟩,⟨hp,hn1,hw,hv⟩,?_⟩
  repeat' (with_reducible apply And.intro)
  all_goals first | rfl | exact plain_elemOf _ _ _ | exact fun _ _=>rfl | exact plain_K _ _
 intro v hv
 intros
 have hv':=hv
 have hbo:=hv.p.bn (t:=0) (by rw [hv.o]; omega)
 have hT1:=hv.o
 refine⟨by omega,?_⟩
 intro q hq h hh
 clear hq
 have h5:=belowV_in v.q 6
 rw [← hh]at h5
 clear hh
 have hH:0≤h∧h≤5:=by omega
 refine⟨v.p.T,⟨rfl,hv.t,fun _ _=>rfl⟩,v.p.R,⟨rfl,hv.r,fun _ _=>rfl⟩,⟨hv.p,⟨by omega,by omega⟩,by omega,by omega⟩,?_⟩
 have hbs:(v.p.bn 0).Sgn:=(tkB_ok (tk:=0) hv.p ⟨by omega,by show(0:Int) < v.p.T.length; omega⟩).2
 have eb:tkB v.p.T v.p.R v.p.s1 v.p.s2 v.p.s3 v.p.s4 v.p.s5 v.p.s6 v.p.u1 v.p.u2 v.p.v1 v.p.v2 v.p.a1 v.p.a2 v.p.g1 v.p.g2 v.p.le v.p.mo v.p.w1 v.p.w2 0=v.p.bn 0:=rfl
 rw [eb]
 have hroom:=room_is hbo hbs hH.1
 intro a ha e he
 have ha0:0≤a∧a≤10000000:=by
  rw [ha]
  unfold roomV
  split<;>omega
 have he0:e=0∨e=6:=by
  rw [he]
  unfold roomE
  split
  ·exact .inr rfl
  ·exact .inl rfl
 refine⟨⟨fun g1=>⟨fun g2=>⟨fun g3=>⟨fun g4=>absurd g4 (by omega),fun g4=>?_⟩,fun g3=>absurd g3 (by omega)⟩,fun g2=>absurd g2 (by omega)⟩,fun g1=>⟨fun g3=>⟨fun g4=>absurd g4 (by omega),fun g4=>?_⟩,fun g3=>absurd g3 (by omega)⟩⟩,?_⟩
 ·refine⟨{ v with q:=q,h:=h,a:=a,e:=e },⟨⟨hv.p,hv.o,hv.t,hv.r⟩,hH,ha,he⟩,?_⟩
  repeat' (with_reducible apply And.intro)
  all_goals first | rfl | exact plain_elemOf _ _ _ | exact fun _ _=>rfl | exact plain_K _ _
 ·refine⟨{ v with q:=q,h:=h,a:=a,e:=e },⟨⟨hv.p,hv.o,hv.t,hv.r⟩,hH,ha,he⟩,?_⟩
  repeat' (with_reducible apply And.intro)
  all_goals first | rfl | exact plain_elemOf _ _ _ | exact fun _ _=>rfl | exact plain_K _ _
 clear ha0 he0 ha he hroom eb hbs hH h5 hT1 hbo hv' hv
 intro u hu
 intros
 have hv:=hu.p
 have hH:=hu.h
 have hbo:=hv.p.bn (t:=0) (by rw [hv.o]; omega)
 have hbs:(u.p.bn 0).Sgn:=(tkB_ok (tk:=0) hv.p ⟨by omega,by show(0:Int) < u.p.T.length; have:=hv.o; omega⟩).2
 obtain⟨hr1,hr2⟩:=room_is hbo hbs hH.1
 have ha:=hu.a
 have he:=hu.e
 refine⟨by omega,?_⟩
 intro q4 hq4 w5 hw5
 clear hq4
 have b5:=belowV_in u.q 40000
 rw [← hw5]at b5
 clear hw5
 refine⟨⟨fun e0=>?_,fun e0=>?_⟩,?_⟩
 ·have n0:¬ roomR (u.p.bn 0) u.h=0:=fun h0=>by
   unfold roomE at he
   rw [if_pos h0]at he
   omega
  have ea:u.a=roomR (u.p.bn 0) u.h-1:=by
   rw [ha]
   unfold roomV
   rw [if_neg n0]
  refine⟨by omega,?_⟩
  intro w6 hw6 w7 hw7
  clear hw6
  have b7:=belowV_in q4 (u.a-0+1)
  have b7:0≤w7∧w7≤u.a:=by omega
  clear hw7
  refine⟨fun g1=>?_,fun g1=>?_⟩
  ·refine⟨by simp only [InR]; omega,by simp only [InR]; omega,by omega,?_⟩
   intro w8 hw8 w9 hw9
   clear hw8
   have b9:=belowV_in w6 (10000000-(u.a+1)+1)
   have b9:u.a+1≤w9∧w9≤10000000:=by omega
   clear hw9
   refine⟨by omega,by show 3 < 5; omega,by omega,by omega,{ u with L:=[[0],[u.a],[w7],[u.a+1],[w9]],K:=fun i=>i < 3 },⟨⟨hv.p,hv.o,hv.t,hv.r⟩,hH,by show 5≤5; omega,by intro r hr; simp at hr; rcases hr with rfl | rfl | rfl | rfl | rfl<;>rfl,?_,?_⟩,?_⟩
   ·intro i hi
    have hi:i < 5:=hi
    have hi':i=0∨i=1∨i=2∨i=3∨i=4:=by omega
    rcases hi' with rfl | rfl | rfl | rfl | rfl<;>simp [cell]<;>omega
   ·intro i hi
    have hi:i < 5:=hi
    have hi':i=0∨i=1∨i=2∨i=3∨i=4:=by omega
    show i < 3↔((u.p.bn 0).wg (cell [[0],[u.a],[w7],[u.a+1],[w9]] i 0)).safe u.h
    rcases hi' with rfl | rfl | rfl | rfl | rfl<;>(simp only [cell,List.getD_cons_zero,List.getD_cons_succ]; rw [hr2 _ (by omega) (by omega)]; omega)
   ·have k5:∀i,i < 5→(behind 3 (litEl (symL [SV.v (Value.bool true),SV.v (Value.bool true),SV.v (Value.bool true)]) 1 3) 2 (litEl (symL [SV.v (Value.bool false),SV.v (Value.bool false)]) 1 2)).at i=(El.fn fun i=>[SV.p (i < 3)]).at i:=fun i hi=>by
     have hi':i=0∨i=1∨i=2∨i=3∨i=4:=by omega
     rcases hi' with rfl | rfl | rfl | rfl | rfl
     ·exact p_eq (a:=true=true) (b:=0 < 3) (by simp)
     ·exact p_eq (a:=true=true) (b:=1 < 3) (by simp)
     ·exact p_eq (a:=true=true) (b:=2 < 3) (by simp)
     ·exact p_eq (a:=false=true) (b:=3 < 3) (by simp)
     ·exact p_eq (a:=false=true) (b:=4 < 3) (by simp)
    have l5:∀i,i < 5→(behind 3 (litEl (symL [SV.v (Value.int .i64 0),SV.i .i64 u.a,SV.i .i64 w7]) 1 3) 2 (litEl (symL [SV.i .i64 (u.a+1),SV.i .i64 w9]) 1 2)).at i=(El.fn (Rv.elemOf [.i64] [[0],[u.a],[w7],[u.a+1],[w9]])).at i:=fun i hi=>by
     have hi':i=0∨i=1∨i=2∨i=3∨i=4:=by omega
     rcases hi' with rfl | rfl | rfl | rfl | rfl<;>rfl
    repeat' (with_reducible apply And.intro)
    all_goals first | rfl | exact plain_elemOf _ _ _ | exact k5 | exact l5 | exact fun _ _=>rfl | exact plain_K _ _
  ·refine⟨{ u with L:=[[0],[u.a],[w7]],K:=fun i=>i < 3 },⟨⟨hv.p,hv.o,hv.t,hv.r⟩,hH,by show 3≤5; omega,by intro r hr; simp at hr; rcases hr with rfl | rfl | rfl<;>rfl,?_,?_⟩,?_⟩
   ·intro i hi
    have hi:i < 3:=hi
    have hi':i=0∨i=1∨i=2:=by omega
    rcases hi' with rfl | rfl | rfl<;>simp [cell]<;>omega
   ·intro i hi
    have hi:i < 3:=hi
    have hi':i=0∨i=1∨i=2:=by omega
    show i < 3↔((u.p.bn 0).wg (cell [[0],[u.a],[w7]] i 0)).safe u.h
    rcases hi' with rfl | rfl | rfl<;>(simp only [cell,List.getD_cons_zero,List.getD_cons_succ]; rw [hr2 _ (by omega) (by omega)]; omega)
   ·have k3:∀i,i < 3→(litEl (symL [SV.v (Value.bool true),SV.v (Value.bool true),SV.v (Value.bool true)]) 1 3).at i=(El.fn fun i=>[SV.p (i < 3)]).at i:=fun i hi=>by
     have hi':i=0∨i=1∨i=2:=by omega
     rcases hi' with rfl | rfl | rfl
     ·exact p_eq (a:=true=true) (b:=0 < 3) (by simp)
     ·exact p_eq (a:=true=true) (b:=1 < 3) (by simp)
     ·exact p_eq (a:=true=true) (b:=2 < 3) (by simp)
    have l3:∀i,i < 3→(litEl (symL [SV.v (Value.int .i64 0),SV.i .i64 u.a,SV.i .i64 w7]) 1 3).at i=(El.fn (Rv.elemOf [.i64] [[0],[u.a],[w7]])).at i:=fun i hi=>by
     have hi':i=0∨i=1∨i=2:=by omega
     rcases hi' with rfl | rfl | rfl<;>rfl
    repeat' (with_reducible apply And.intro)
    all_goals first | rfl | exact plain_elemOf _ _ _ | exact k3 | exact l3 | exact fun _ _=>rfl | exact plain_K _ _
 ·have n0:roomR (u.p.bn 0) u.h=0:=Classical.byContradiction fun h0=>by
   unfold roomE at he
   rw [if_neg h0]at he
   omega
  rw [n0]at hr2
  refine⟨{ u with L:=[[0],[w5]],K:=fun _=>False },⟨⟨hv.p,hv.o,hv.t,hv.r⟩,hH,by show 2≤5; omega,by intro r hr; simp at hr; rcases hr with rfl | rfl<;>rfl,?_,?_⟩,?_⟩
  ·intro i hi
   have hi:i < 2:=hi
   have hi':i=0∨i=1:=by omega
   rcases hi' with rfl | rfl<;>simp [cell]<;>omega
  ·intro i hi
   have hi:i < 2:=hi
   have hi':i=0∨i=1:=by omega
   show False↔((u.p.bn 0).wg (cell [[0],[w5]] i 0)).safe u.h
   rcases hi' with rfl | rfl
   ·exact⟨fun h=>h.elim,fun h=>by have h:((u.p.bn 0).wg 0).safe u.h:=h; rw [hr2 _ (by omega) (by omega)]at h; omega⟩
   ·exact⟨fun h=>h.elim,fun h=>by have h:((u.p.bn 0).wg w5).safe u.h:=h; rw [hr2 _ (by omega) (by omega)]at h; omega⟩
  ·have k2:∀i,i < 2→(litEl (symL [SV.v (Value.bool false),SV.v (Value.bool false)]) 1 2).at i=(El.fn fun _=>[SV.p False]).at i:=fun i hi=>by
    have hi':i=0∨i=1:=by omega
    rcases hi' with rfl | rfl
    ·exact p_eq (a:=false=true) (b:=False) (by simp)
    ·exact p_eq (a:=false=true) (b:=False) (by simp)
   have l2:∀i,i < 2→(litEl (symL [SV.v (Value.int .i64 0),SV.i .i64 w5]) 1 2).at i=(El.fn (Rv.elemOf [.i64] [[0],[w5]])).at i:=fun i hi=>by
    have hi':i=0∨i=1:=by omega
    rcases hi' with rfl | rfl<;>rfl
   repeat' (with_reducible apply And.intro)
   all_goals first | rfl | exact plain_elemOf _ _ _ | exact k2 | exact l2 | exact fun _ _=>rfl | exact plain_K _ _
 clear b5 he ha hr1 hr2 hbs hbo hH hv hu
 intro w hw
 intros
 refine⟨⟨{ w with k:=0 },⟨⟨⟨hw.p.p,hw.p.o,hw.p.t,hw.p.r⟩,hw.h,hw.l,hw.r,hw.g,hw.k⟩,Nat.zero_le _⟩,?_⟩,?_⟩
 ·repeat' (with_reducible apply And.intro)
  all_goals first | rfl | exact plain_elemOf _ _ _ | exact fun _ _=>rfl | exact plain_K _ _
 clear hw
 intro z hz
 obtain⟨hz,hk⟩:=hz
 intros
 have hl:=hz.l
 refine⟨fun g1=>?_,fun _=>htab⟩
 have hk':z.k < z.L.length:=by omega
 have hv:=hz.p
 have hT1:=hv.o
 have hm:z.p.R.length≤8:=hv.p.m
 have hg:=hz.g z.k hk'
 have hs:=hz.k z.k hk'
 have hH:=hz.h
 refine⟨z.p.T,⟨rfl,hv.t,fun _ _=>rfl⟩,z.p.R,⟨rfl,hv.r,fun _ _=>rfl⟩,⟨by omega,by omega,by omega⟩,?_⟩
 intro y1 g1 y2 g2 y3 g3 y4 g4 y5 g5 y6 g6 y7 g7 y8 g8 y9 g9 y10 g10 y11 g11 y12 g12 y13 g13 y14 g14 y15 g15 y16 g16 y17 g17 y18 g18
 subst g1 g2 g3 g4 g5 g6 g7 g8 g9 g10 g11 g12 g13 g14 g15 g16 g17 g18
 refine⟨⟨by omega,hk'⟩,hk',by omega,⟨by omega,rfl⟩,setT z.p.T (cell z.L z.k 0),⟨by rw [hT1]; rfl,by intro r hr; simp [setT]at hr; rw [hr]; rfl,?_⟩,z.p.R,⟨rfl,hv.r,fun _ _=>rfl⟩,⟨setT_ok hv.p hT1 hg,by omega,by omega⟩,?_⟩
 ·intro i hi
  have e:i=0:=by omega
  subst e
  rfl
 intro v24 h24 v25 h25 v26 h26 v27 h27
 clear h25 h26
 have key:v24=1↔z.K z.k:=by
  rw [h24,hs,← setT_bn]
  exact hV_safe (p:=Pl.mk (setT z.p.T (cell z.L z.k 0)) z.p.R z.p.s1 z.p.s2 z.p.s3 z.p.s4 z.p.s5 z.p.s6 z.p.u1 z.p.u2 z.p.v1 z.p.v2 z.p.a1 z.p.a2 z.p.g1 z.p.g2 z.p.le z.p.mo z.p.w1 z.p.w2) rfl
 subst h27
 refine⟨fun _=>⟨⟨by omega,hk'⟩,hk',fun h=>h key,fun _=>⟨by simp only [InR]; omega,{ z with k:=z.k+1 },⟨⟨⟨⟨hz.p.p,hz.p.o,hz.p.t,hz.p.r⟩,hz.h,hz.l,hz.r,hz.g,hz.k⟩,hk'⟩,by show z.L.length-(z.k+1) < z.L.length-z.k; omega⟩,?_⟩⟩,fun h=>absurd rfl h⟩
 have hc1:(z.k:Int)+1=((z.k+1:Nat):Int):=by omega
 repeat' (with_reducible apply And.intro)
 all_goals first | rfl | exact plain_elemOf _ _ _ | exact hc1 | exact fun _ _=>rfl | exact plain_K _ _
theorem e_law:V_law=needL P [] [F_TideOf.named,F_Below.named,F_From.named,F_PlantOf.named,F_OwnPlant.named,F_Room.named,F_Holds.named] 7 ([]:Tabs) A_law F_law:=by kernel_rfl
theorem n_law:Ob (needL P [] [F_TideOf.named,F_Below.named,F_From.named,F_PlantOf.named,F_OwnPlant.named,F_Room.named,F_Holds.named] 7 ([]:Tabs) A_law F_law):=by
 rw [← e_law]
 exact⟨v_law⟩
theorem l_law:(([]:List Fn0).all fun G=>!Nat.beq G.g 7)=true:=rfl
theorem le_law:([F_TideOf.named,F_Below.named,F_From.named,F_PlantOf.named,F_OwnPlant.named,F_Room.named,F_Holds.named].all fun G=>!Nat.beq G.g 7)=true:=rfl
theorem c_law:∀F∈([]:List Fn0),F.Ok P:=by
 intro F h; simp at h
theorem ce_law:∀F∈[F_TideOf.named,F_Below.named,F_From.named,F_PlantOf.named,F_OwnPlant.named,F_Room.named,F_Holds.named],F.Ok P:=by
 intro F h
 simp only [List.mem_cons,List.not_mem_nil,or_false]at h
 rcases h with rfl | rfl | rfl | rfl | rfl | rfl | rfl
 ·exact TideOf_ok.named
 ·exact Below_ok.named
 ·exact From_ok.named
 ·exact PlantOf_ok.named
 ·exact OwnPlant_ok.named
 ·exact Room_ok.named
 ·exact Holds_ok.named
end Go.Proofs.Ytgoiegaobhfocaa.Sy
