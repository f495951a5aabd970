import Derived.Test.YtgoiegaobhfocaaKuC
namespace Go.Proofs.Ytgoiegaobhfocaa.Sy
open Go Go.Rv
def Bn.wg (b:Bn) (g:Int):Bn:=⟨b.R,b.s1,b.s2,b.s3,b.s4,b.s5,b.s6,b.u1,b.u2,b.v1,b.v2,b.a1,b.a2,b.g1,b.g2,b.le,b.mo,b.w1,b.w2,b.lt,g,b.t1,b.t2,b.t3,b.t4,b.t5,b.t6,b.nu⟩
theorem wTot_le {L F Gr Gr' N N' S G U:Int} (hl:0≤L-F) (hN:N≤N') (hU:U*Gr≤U*Gr'):wTot L F Gr N S G U≤wTot L F Gr' N' S G U:=by
 have m:(L-F)*N≤(L-F)*N':=Int.mul_le_mul_of_nonneg_left hN hl
 unfold wTot
 omega
theorem wLo_le {L F Gr Gr' N N' S G U lo hi:Int} (h0:0 < L) (hl:0≤L-F) (hN:N≤N') (hU:U*Gr≤U*Gr'):wLo L F Gr N S G U lo hi≤wLo L F Gr' N' S G U lo hi:=by
 have h:=wTot_le (S:=S) (G:=G) hl hN hU
 have d:wTot L F Gr N S G U / (1000*L)≤wTot L F Gr' N' S G U / (1000*L):=Int.ediv_le_ediv (by omega) h
 unfold wLo
 generalize wTot L F Gr N S G U / (1000*L)=x at *
 generalize wTot L F Gr' N' S G U / (1000*L)=y at *
 omega
theorem wHi_le {L F Gr Gr' N N' S G U lo hi:Int} (h0:0 < L) (hl:0≤L-F) (hN:N≤N') (hU:U*Gr≤U*Gr'):wHi L F Gr N S G U lo hi≤wHi L F Gr' N' S G U lo hi:=by
 have h:=wTot_le (S:=S) (G:=G) hl hN hU
 have d:(0-wTot L F Gr' N' S G U) / (1000*L)≤(0-wTot L F Gr N S G U) / (1000*L):=Int.ediv_le_ediv (by omega) (by omega)
 unfold wHi
 generalize (0-wTot L F Gr N S G U) / (1000*L)=x at *
 generalize (0-wTot L F Gr' N' S G U) / (1000*L)=y at *
 omega
structure Bn.Sgn (b:Bn):Prop where
 u:0≤b.u1∧0≤b.u2
 v:0≤b.v1∧0≤b.v2
theorem Bn.st_mono {b:Bn} (hb:b.Ok) (hs:b.Sgn) {g g':Int} (hg:g≤g') (sp sf:Int):∀h:Nat,
  (b.wg g').st sp sf h 0≤(b.wg g).st sp sf h 0∧(b.wg g').st sp sf h 1≤(b.wg g).st sp sf h 1∧(b.wg g).st sp sf h 2≤(b.wg g').st sp sf h 2∧(b.wg g).st sp sf h 3≤(b.wg g').st sp sf h 3 ∧
   (b.wg g).st sp sf h 4=(b.wg g').st sp sf h 4∧(b.wg g).st sp sf h 5=(b.wg g').st sp sf h 5
 | 0=>⟨Int.le_refl _,Int.le_refl _,Int.le_refl _,Int.le_refl _,rfl,rfl⟩
 | h+1=>by
  obtain⟨i0,i1,i2,i3,i4,i5⟩:=Bn.st_mono hb hs hg sp sf h
  have hl:=hb.l
  have hf:=hb.fl sp sf h
  have e1:(b.wg g').fl sp sf h=b.fl sp sf h:=rfl
  have e2:(b.wg g).fl sp sf h=b.fl sp sf h:=rfl
  have mn:∀u:Int,0≤u→(0-u)*g'≤(0-u)*g:=fun u hu=>by
   have m:u*g≤u*g':=Int.mul_le_mul_of_nonneg_left hg hu
   rw [Int.zero_sub,Int.neg_mul,Int.neg_mul]
   omega
  have mp:∀v:Int,0≤v→v*g≤v*g':=fun v hv=>Int.mul_le_mul_of_nonneg_left hg hv
  have z:∀x y:Int,(0:Int)*x≤0*y:=fun x y=>by omega
  refine⟨?_,?_,?_,?_,?_,?_⟩
  ·exact wLo_le (by show 0 < b.lt; omega) (by show 0≤b.lt-b.fl sp sf h; omega) i0 (mn _ hs.u.2)
  ·exact wHi_le (by show 0 < b.lt; omega) (by show 0≤b.lt-b.fl sp sf h; omega) i1 (mn _ hs.u.1)
  ·exact wLo_le (by show 0 < b.lt; omega) (by show 0≤b.lt-b.fl sp sf h; omega) i2 (mp _ hs.v.1)
  ·exact wHi_le (by show 0 < b.lt; omega) (by show 0≤b.lt-b.fl sp sf h; omega) i3 (mp _ hs.v.2)
  ·show wLo b.lt (b.fl sp sf h) g ((b.wg g).st sp sf h 4) b.s5 b.g1 0 (-50) 400=wLo b.lt (b.fl sp sf h) g' ((b.wg g').st sp sf h 4) b.s5 b.g1 0 (-50) 400
   rw [i4]; unfold wLo wTot; simp
  ·show wHi b.lt (b.fl sp sf h) g ((b.wg g).st sp sf h 5) b.s6 b.g2 0 (-50) 400=wHi b.lt (b.fl sp sf h) g' ((b.wg g').st sp sf h 5) b.s6 b.g2 0 (-50) 400
   rw [i5]; unfold wHi wTot; simp
theorem Bn.vrd_one {b:Bn} {sp sf H:Int} (hH:0≤H):b.vrd sp sf H=1↔∀h:Nat,(h:Int)≤H→b.kep sp sf h∧¬ b.brk sp sf h:=by
 unfold Bn.vrd Bn.sofar
 constructor
 ·intro h
  by_cases h1:∃h:Nat,(h:Int)≤H∧b.brk sp sf h
  ·rw [if_pos h1]at h; omega
  ·rw [if_neg h1]at h
   by_cases h2:∀h,h < (H+1).toNat→b.kep sp sf h
   ·exact fun k hk=>⟨h2 k (by omega),fun hb=>h1 ⟨k,hk,hb⟩⟩
   ·rw [if_neg h2]at h; omega
 ·intro h
  rw [if_neg fun⟨k,hk,hb⟩=>(h k hk).2 hb,if_pos fun k hk=>(h k (by omega)).1]
theorem Bn.safe_mono {b:Bn} (hb:b.Ok) (hs:b.Sgn) {g g' H:Int} (hg:g≤g') (hH:0≤H) (h:(b.wg g').safe H):(b.wg g).safe H:=by
 have key:∀sp sf,(b.wg g').vrd sp sf H=1→(b.wg g).vrd sp sf H=1:=by
  intro sp sf hv
  rw [Bn.vrd_one hH]at hv ⊢
  intro k hk
  obtain⟨⟨k1,k2,k3,k4⟩,hbk⟩:=hv k hk
  obtain⟨i0,i1,i2,i3,i4,i5⟩:=Bn.st_mono hb hs hg sp sf k
  unfold Bn.brk at hbk
  unfold Bn.kep Bn.brk
  have e1:(b.wg g).le=b.le:=rfl
  have e2:(b.wg g).mo=b.mo:=rfl
  have e3:(b.wg g).w1=b.w1:=rfl
  have e4:(b.wg g).w2=b.w2:=rfl
  have f1:(b.wg g').le=b.le:=rfl
  have f2:(b.wg g').mo=b.mo:=rfl
  have f3:(b.wg g').w1=b.w1:=rfl
  have f4:(b.wg g').w2=b.w2:=rfl
  rw [f1,f2,f3,f4]at hbk
  rw [f1]at k1
  rw [f2]at k2
  rw [f3]at k3
  rw [f4]at k4
  rw [e1,e2,e3,e4]
  omega
 exact⟨key _ _ h.1,fun p f hp hf=>key _ _ (h.2 p f hp hf)⟩
open Classical in
noncomputable def roomC (p:Nat→Prop) (n:Nat):Nat:=if h:∃r,r≤n∧∀g,g < n→(p g↔g < r)then Classical.choose h else 0
theorem roomC_is {p:Nat→Prop} {n r:Nat} (hr:r≤n) (h:∀g,g < n→(p g↔g < r)):roomC p n=r:=by
 have he:∃r,r≤n∧∀g,g < n→(p g↔g < r):=⟨r,hr,h⟩
 unfold roomC
 rw [dif_pos he]
 obtain⟨h1,h2⟩:=Classical.choose_spec he
 generalize Classical.choose he=c at *
 rcases Nat.lt_trichotomy c r with hc | hc | hc
 ·exact absurd ((h2 c (by omega)).1 ((h c (by omega)).2 hc)) (by omega)
 ·exact hc
 ·exact absurd ((h r (by omega)).1 ((h2 r (by omega)).2 hc)) (by omega)
end Go.Proofs.Ytgoiegaobhfocaa.Sy
