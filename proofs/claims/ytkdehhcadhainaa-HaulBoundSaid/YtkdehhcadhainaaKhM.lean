import Derived.Test.YtkdehhcadhainaaKhH
namespace Go.Proofs.Ytkdehhcadhainaa.Sy
open Go Go.Rv
theorem sumI_zero {f:Nat→Int} (h:∀i,f i=0):∀k,sumI f k=0
 | 0=>rfl
 | k+1=>by rw [sumI,sumI_zero h k,h k]; rfl
theorem sumI_le {f g:Nat→Int} {m:Nat} (h:∀i,i < m→f i≤g i):∀k,k≤m→sumI f k≤sumI g k
 | 0,_=>Int.le_refl _
 | k+1,hk=>by
  have ih:=sumI_le h k (by omega)
  have:=h k (by omega)
  rw [sumI,sumI]
  omega
theorem sumI_add {f g:Nat→Int} {i:Nat} {c:Int} (h:∀j,j≠i→g j=f j) (hi:g i=f i+c):∀k,sumI g k=sumI f k+if i < k then c else 0
 | 0=>by simp [sumI]
 | k+1=>by
  have ih:=sumI_add h hi k
  rw [sumI,sumI,ih]
  by_cases hk:k=i
  ·subst hk
   rw [hi,if_neg (by omega),if_pos (by omega)]
   omega
  ·rw [h k hk]
   by_cases hk2:i < k
   ·rw [if_pos hk2,if_pos (by omega)]; omega
   ·rw [if_neg hk2,if_neg (by omega)]; omega
theorem vis_iff {P:Rows} {i:Int}:∀n,vis P n i↔∃j,j < n∧cell P j 0=i
 | 0=>⟨fun h=>h.elim,fun⟨_,h,_⟩=>absurd h (Nat.not_lt_zero _)⟩
 | n+1=>by
  have ih:=vis_iff (P:=P) (i:=i) n
  constructor
  ·rintro(h | h)
   ·exact⟨n,Nat.lt_succ_self _,h⟩
   ·obtain⟨j,h1,h2⟩:=ih.1 h
    exact⟨j,by omega,h2⟩
  ·rintro⟨j,h1,h2⟩
   by_cases hj:j=n
   ·exact Or.inl (hj ▸ h2)
   ·exact Or.inr (ih.2 ⟨j,by omega,h2⟩)
structure Same (st:Int) (S:Rows) (L:List Rows) (P Q:Rows) (n:Nat):Prop where
 p:plc P n=plc Q n
 d:doneK st S L P n=doneK st S L Q n
 f:fuelK S L P n=fuelK S L Q n
 t:trapK S P n=trapK S Q n
 w:worthK S P n=worthK S Q n
theorem same_of {st:Int} {S:Rows} {L:List Rows} {P Q:Rows} {m:Nat} (h:∀j,j < m→cell Q j 0=cell P j 0):∀n,n≤m→Same st S L P Q n
 | 0,_=>⟨rfl,rfl,rfl,rfl,rfl⟩
 | n+1,hn=>by
  have ih:=same_of (st:=st) (S:=S) (L:=L) h n (by omega)
  have e:pl P n=pl Q n:=by unfold pl; rw [h n (by omega)]
  refine⟨?_,?_,?_,?_,?_⟩
  ·show pl P n+1=pl Q n+1
   rw [e]
  ·show max (doneK st S L P n+lg L (plc P n) (pl P n+1) 0) (cell S (pl P n) 4)+cell S (pl P n) 2=max (doneK st S L Q n+lg L (plc Q n) (pl Q n+1) 0) (cell S (pl Q n) 4)+cell S (pl Q n) 2
   rw [ih.d,ih.p,e]
  ·show fuelK S L P n+(lg L (plc P n) (pl P n+1) 1+cell S (pl P n) 3)=fuelK S L Q n+(lg L (plc Q n) (pl Q n+1) 1+cell S (pl Q n) 3)
   rw [ih.f,ih.p,e]
  ·show trapK S P n+cell S (pl P n) 0=trapK S Q n+cell S (pl Q n) 0
   rw [ih.t,e]
  ·show worthK S P n+cell S (pl P n) 1=worthK S Q n+cell S (pl Q n) 1
   rw [ih.w,e]
theorem vis_same {P Q:Rows} {m:Nat} (h:∀j,j < m→cell Q j 0=cell P j 0) (i:Int):vis P m i↔vis Q m i:=by
 rw [vis_iff,vis_iff]
 constructor
 ·rintro⟨j,h1,h2⟩; exact⟨j,h1,by rw [h j h1]; exact h2⟩
 ·rintro⟨j,h1,h2⟩; exact⟨j,h1,by rw [← h j h1]; exact h2⟩
theorem bndV_same {st pr ba:Int} {S:Rows} {L:List Rows} {P Q:Rows} {m:Nat} (h:∀j,j < m→cell Q j 0=cell P j 0):bndV st pr ba S L P m=bndV st pr ba S L Q m:=by
 have hs:=same_of (st:=st) (S:=S) (L:=L) h m (Nat.le_refl _)
 unfold bndV
 rw [hs.f,hs.w,hs.d,hs.t]
 exact bndW_vis fun i _=>vis_same h (i:Int)
theorem errK_leM {st ba:Int} {S:Rows} {L:List Rows} {P:Rows} {k n:Nat} (h:errK st ba S L P n=0) (hk:k≤n):errK st ba S L P k=0:=by
 by_cases h0:errK st ba S L P k=0
 ·exact h0
 ·obtain⟨d,rfl⟩:∃d,n=k+d:=⟨n-k,by omega⟩
  rw [errK_keep h0]at h
  exact h
structure StepK (st ba:Int) (S:Rows) (L:List Rows) (Q:Rows) (k:Nat):Prop where
 r:0≤cell Q k 0∧cell Q k 0 < S.length
 v:¬ vis Q k (cell Q k 0)
 t:trapK S Q (k+1)≤ba
 b:begK st S L Q k≤cell S (pl Q k) 5
 g:GoodK st S L Q k
 p:pl Q k < S.length
 n:plc Q k≠pl Q k+1
theorem stepK {st en ta pr ba:Int} {S:Rows} {L:List Rows} {Q:Rows} (hs:0≤st∧st≤1000000) (ht:TourOk 8 en ta pr ba S L) {k m:Nat} (h:errK st ba S L Q m=0) (hk:k < m):StepK st ba S L Q k:=by
 have h1:=errK_leM h (show k+1≤m from hk)
 obtain⟨h2,h3⟩:=errK_suc h1
 obtain⟨h4,h5,h6,h7⟩:=stepE_zero h3
 refine⟨h4,h5,h6,h7,goodK hs ht k h2,by unfold pl; omega,?_⟩
 intro e
 cases k with
 | zero=>exact absurd e.symm (Nat.succ_ne_zero _)
 | succ k =>
  have e2:pl Q k=pl Q (k+1):=Nat.succ.inj e
  have h8:=(stepE_zero (errK_suc (errK_leM h (show k+1≤m by omega))).2).1
  apply h5
  left
  unfold pl at e2
  omega
theorem done_up {st en ta pr ba:Int} {S:Rows} {L:List Rows} {Q:Rows} (hs:0≤st∧st≤1000000) (ht:TourOk 8 en ta pr ba S L) {m n:Nat} (h:errK st ba S L Q m=0):∀d,n+d≤m→doneK st S L Q n≤doneK st S L Q (n+d)∧trapK S Q n≤trapK S Q (n+d)
 | 0,_=>⟨Int.le_refl _,Int.le_refl _⟩
 | d+1,hd=>by
  have ih:=done_up hs ht h d (show n+d≤m by omega)
  have hk:=stepK hs ht h (show n+d < m by omega)
  have hS:=ht.s.at_ _ hk.p
  have hp:=hk.p
  have hg:=hk.g.p
  have hm:=ht.m
  have hL:=ht.l.at_ (plc Q (n+d)) (by omega) (pl Q (n+d)+1) (by omega)
  have e1:doneK st S L Q (n+(d+1))=max (doneK st S L Q (n+d)+lg L (plc Q (n+d)) (pl Q (n+d)+1) 0) (cell S (pl Q (n+d)) 4)+cell S (pl Q (n+d)) 2:=rfl
  have e2:trapK S Q (n+(d+1))=trapK S Q (n+d)+cell S (pl Q (n+d)) 0:=rfl
  rw [e1,e2]
  omega
noncomputable def fG (pr:Int) (S:Rows) (L:List Rows) (Q:Rows) (n k i:Nat):Int:=@ite _ (vis Q k (i:Int)∧¬ vis Q n (i:Int)) (Classical.propDecidable _) (gainK pr S L i) 0
theorem mul_le3 {p a b:Int} (hp:0≤p) (h:a≤b):p*a≤p*b:=Int.mul_le_mul_of_nonneg_left h hp
theorem bnd_step {st en ta pr ba:Int} {S:Rows} {L:List Rows} {Q:Rows} (hs:0≤st∧st≤1000000) (ht:TourOk 8 en ta pr ba S L) {m n:Nat} (h:errK st ba S L Q m=0):∀d,n+d≤m→worthK S Q (n+d)-pr*fuelK S L Q (n+d)≤worthK S Q n-pr*fuelK S L Q n+sumI (fG pr S L Q n (n+d)) S.length
 | 0,_=>by
  have e:sumI (fG pr S L Q n (n+0)) S.length=0:=sumI_zero (fun i=>if_neg (fun q=>q.2 q.1)) _
  rw [e,Nat.add_zero]
  omega
 | d+1,hd=>by
  have ih:=bnd_step hs ht h d (show n+d≤m by omega)
  have hk:=stepK hs ht h (show n+d < m by omega)
  have hp:=hk.p
  have hg:=hk.g.p
  have hm:=ht.m
  have hpr:=ht.pr
  have e1:worthK S Q (n+(d+1))=worthK S Q (n+d)+cell S (pl Q (n+d)) 1:=rfl
  have e2:fuelK S L Q (n+(d+1))=fuelK S L Q (n+d)+(lg L (plc Q (n+d)) (pl Q (n+d)+1) 1+cell S (pl Q (n+d)) 3):=rfl
  have hle:leastK L ((pl Q (n+d):Nat)+1:Int) 1 100000 L.length≤lg L (plc Q (n+d)) (pl Q (n+d)+1) 1:=by
   have:=least_le (L:=L) (p:=((pl Q (n+d):Nat):Int)+1) (c:=1) (d:=100000) (j:=plc Q (n+d)) (fun e=>hk.n (by omega)) L.length (by omega)
   rw [show(((pl Q (n+d):Nat):Int)+1).toNat=pl Q (n+d)+1 by omega]at this
   exact this
  have hmul:=mul_le3 hpr.1 (show cell S (pl Q (n+d)) 3+leastK L ((pl Q (n+d):Nat)+1:Int) 1 100000 L.length≤lg L (plc Q (n+d)) (pl Q (n+d)+1) 1+cell S (pl Q (n+d)) 3 by omega)
  have hgn:cell S (pl Q (n+d)) 1-pr*(lg L (plc Q (n+d)) (pl Q (n+d)+1) 1+cell S (pl Q (n+d)) 3)≤gainK pr S L (pl Q (n+d)):=by
   unfold gainK
   omega
  have ec:((pl Q (n+d):Nat):Int)=cell Q (n+d) 0:=by
   have:=hk.r
   unfold pl
   omega
  have hnv:¬ vis Q (n+d) ((pl Q (n+d):Nat):Int):=by rw [ec]; exact hk.v
  have hnn:¬ vis Q n ((pl Q (n+d):Nat):Int):=fun q=>hnv (by
   rw [vis_iff]at q ⊢
   obtain⟨j,h1,h2⟩:=q
   exact⟨j,by omega,h2⟩)
  have hadd:=sumI_add (f:=fG pr S L Q n (n+d)) (g:=fG pr S L Q n (n+(d+1))) (i:=pl Q (n+d)) (c:=gainK pr S L (pl Q (n+d))) (fun j hj=>by
   have:vis Q (n+(d+1)) (j:Int)↔vis Q (n+d) (j:Int):=⟨fun q=>q.elim (fun e=>absurd (Int.ofNat.inj (e.symm.trans ec.symm)) hj) id,fun q=>Or.inr q⟩
   unfold fG
   rw [propext this]) (by
   have v1:vis Q (n+(d+1)) ((pl Q (n+d):Nat):Int):=Or.inl ec.symm
   unfold fG
   rw [if_pos ⟨v1,hnn⟩,if_neg (fun q=>hnv q.1)]
   omega) S.length
  rw [if_pos hp]at hadd
  rw [hadd,e1,e2,Int.mul_add]
  omega
theorem bound_best {st en ta pr ba:Int} {S:Rows} {L:List Rows} {P Q:Rows} (hs:0≤st∧st≤1000000) (ht:TourOk 8 en ta pr ba S L) (h:errK st ba S L Q Q.length=0) (hl:P.length≤Q.length) (hb:∀j,j < P.length→cell Q j 0=cell P j 0):worthK S Q Q.length-pr*homeF S L Q Q.length≤bndV st pr ba S L P P.length:=by
 rw [bndV_same hb]
 obtain⟨d,hd⟩:∃d,Q.length=P.length+d:=⟨Q.length-P.length,by omega⟩
 have hpr:=ht.pr
 have hm:=ht.m
 have h1:=bnd_step (n:=P.length) hs ht h d (by omega)
 have hg:=goodK (P:=Q) hs ht Q.length h
 have hLm:plc Q Q.length < L.length:=by have:=hg.p; omega
 have hL:=ht.l.at_ (plc Q Q.length) hLm 0 (by omega)
 have h2:sumI (fG pr S L Q P.length (P.length+d)) S.length≤sumI (gainC pr ba S L (fun i:Nat=>vis Q P.length (i:Int)) (doneK st S L Q P.length) (trapK S Q P.length)) S.length:=by
  refine sumI_le (m:=S.length) (fun i hi=>?_) _ (Nat.le_refl _)
  have g0:=gain_bd ht hi
  have gM:=gainC_bd (dn:=doneK st S L Q P.length) (tr:=trapK S Q P.length) (V:=fun i:Nat=>vis Q P.length (i:Int)) ht hi
  unfold fG
  split
  ·rename_i hv
   obtain⟨hv1,hv2⟩:=hv
   obtain⟨j,hj1,hj2⟩:=(vis_iff _).1 hv1
   have hj3:P.length≤j:=by
    apply Classical.byContradiction
    intro hj
    exact hv2 ((vis_iff _).2 ⟨j,by omega,hj2⟩)
   have hk:=stepK hs ht h (show j < Q.length by omega)
   obtain⟨q,hq⟩:∃q,j=P.length+q:=⟨j-P.length,by omega⟩
   have hup:=done_up (n:=P.length) hs ht h q (by omega)
   rw [← hq]at hup
   have epl:pl Q j=i:=by unfold pl; omega
   have e3:trapK S Q (j+1)=trapK S Q j+cell S (pl Q j) 0:=rfl
   have e4:begK st S L Q j=max (doneK st S L Q j+lg L (plc Q j) (pl Q j+1) 0) (cell S (pl Q j) 4):=rfl
   have hkt:=hk.t
   have hkb:=hk.b
   have hkg:=hk.g.p
   have hle:=least_le (L:=L) (p:=(i:Int)+1) (c:=0) (d:=1440) (j:=plc Q j) (fun e=>hk.n (by omega)) L.length (by omega)
   rw [show((i:Int)+1).toNat=i+1 by omega]at hle
   rw [e3,epl]at hkt
   rw [e4,epl]at hkb
   have hmay:mayC ba S L (fun i:Nat=>vis Q P.length (i:Int)) (doneK st S L Q P.length) (trapK S Q P.length) i:=⟨hv2,by omega,by omega⟩
   unfold gainC
   rw [if_pos hmay]
   exact Int.le_refl _
  ·exact gM.1
 rw [← hd]at h1 h2
 have eF:homeF S L Q Q.length=fuelK S L Q Q.length+lg L (plc Q Q.length) 0 1:=rfl
 rw [eF,Int.mul_add]
 unfold bndV bndW bndC
 by_cases h0:P.length=0
 ·rw [if_pos h0]
  have:=Int.mul_nonneg hpr.1 hL.2.2.1
  omega
 ·rw [if_neg h0]
  have hne:plc Q Q.length≠0:=by
   obtain⟨q,hq⟩:∃q,Q.length=q+1:=⟨Q.length-1,by omega⟩
   rw [hq]
   exact Nat.succ_ne_zero _
  have hle:=least_le (L:=L) (p:=0) (c:=1) (d:=100000) (j:=plc Q Q.length) (by omega) L.length hLm
  have:=mul_le3 hpr.1 hle
  simp only [Int.toNat_zero]at this
  omega
end Go.Proofs.Ytkdehhcadhainaa.Sy
