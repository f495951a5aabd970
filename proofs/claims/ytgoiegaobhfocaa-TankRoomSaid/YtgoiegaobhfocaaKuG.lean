import Derived.Test.YtgoiegaobhfocaaGrM
namespace Go.Proofs.Ytgoiegaobhfocaa.Sy
open Go Go.Rv
set_option linter.unusedVariables false
def Scn (n H p f:Int):Prop:=(p=-1∧f=0)∨(0≤p∧p < n∧0≤f∧f < H)
def Lex (x y k j:Int):Prop:=x < k∨(x=k∧y < j)
structure FirB (S:Int→Int→Int) (n H a c:Int):Prop where
 s:Scn n H a c
 b:¬ S a c=1
 f:∀x y,Scn n H x y→Lex x y a c→S x y=1
open Classical in
noncomputable def hV (S:Int→Int→Int) (n H:Int):Int:=if ∃x y,Scn n H x y∧S x y=2 then 2 else if ∀x y,Scn n H x y→S x y=1 then 1 else 3
open Classical in
noncomputable def hA (S:Int→Int→Int) (n H:Int):Int:=if h:∃a c,FirB S n H a c then h.choose else -1
open Classical in
noncomputable def hC (S:Int→Int→Int) (n H:Int):Int:=if h:∃c,FirB S n H (hA S n H) c then h.choose else -1
theorem FirB.one {S:Int→Int→Int} {n H a c b d:Int} (h1:FirB S n H a c) (h2:FirB S n H b d):a=b∧c=d:=by
 by_cases e:a=b∧c=d
 ·exact e
 ·have:Lex a c b d∨Lex b d a c:=by unfold Lex; omega
  rcases this with h | h
  ·exact absurd (h2.f _ _ h1.s h) h1.b
  ·exact absurd (h1.f _ _ h2.s h) h2.b
theorem hA_is {S:Int→Int→Int} {n H k j:Int} (h:FirB S n H k j):k=hA S n H∧j=hC S n H:=by
 have e:∃a c,FirB S n H a c:=⟨k,j,h⟩
 have eA:hA S n H=e.choose:=by unfold hA; rw [dif_pos e]
 obtain⟨c,hc⟩:=e.choose_spec
 rw [← eA]at hc
 have e2:∃c,FirB S n H (hA S n H) c:=⟨c,hc⟩
 have eC:hC S n H=e2.choose:=by unfold hC; rw [dif_pos e2]
 have hh:=e2.choose_spec
 rw [← eC]at hh
 exact h.one hh
theorem hA_no {S:Int→Int→Int} {n H:Int} (h:¬ ∃a c,FirB S n H a c):hA S n H=-1∧hC S n H=-1:=by
 refine⟨by unfold hA; rw [dif_neg h],?_⟩
 unfold hC
 rw [dif_neg fun⟨c,hc⟩=>h ⟨_,c,hc⟩]
theorem hV_two {S:Int→Int→Int} {n H k j:Int} (hs:Scn n H k j) (h:S k j=2):2=hV S n H:=by
 unfold hV
 rw [if_pos ⟨k,j,hs,h⟩]
theorem hV_one {S:Int→Int→Int} {n H:Int}:hV S n H=1↔∀x y,Scn n H x y→S x y=1:=by
 unfold hV
 constructor
 ·intro h
  split at h
  ·omega
  ·split at h
   ·assumption
   ·omega
 ·intro h
  rw [if_neg fun⟨x,y,h1,h2⟩=>by have:=h x y h1; omega,if_pos h]
structure HSt (S:Int→Int→Int) (n H k j v a c:Int):Prop where
 n2:∀x y,Scn n H x y→Lex x y k j→¬ S x y=2
 st:(v=1∧a=-1∧c=-1∧∀x y,Scn n H x y→Lex x y k j→S x y=1)∨(v=3∧FirB S n H a c)
theorem HSt.start {S:Int→Int→Int} {n H:Int}:HSt S n H (-1) 0 1 (-1) (-1):=by
 have no:∀x y,Scn n H x y→Lex x y (-1) 0→False:=fun x y h1 h2=>by unfold Scn at h1; unfold Lex at h2; omega
 exact⟨fun x y h1 h2=>(no x y h1 h2).elim,.inl ⟨rfl,rfl,rfl,fun x y h1 h2=>(no x y h1 h2).elim⟩⟩
theorem HSt.first {S:Int→Int→Int} {n H k j v a c:Int} (h:HSt S n H k j v a c) (hs:Scn n H k j) (g1:¬ S k j=1) (g2:v=1):FirB S n H k j:=by
 rcases h.st with ⟨_,_,_,hh⟩ | ⟨hv,_⟩
 ·exact⟨hs,g1,hh⟩
 ·omega
theorem HSt.fst {S:Int→Int→Int} {n H k j v a c:Int} (h:HSt S n H k j v a c) (g2:¬ v=1):FirB S n H a c:=by
 rcases h.st with ⟨hv,_⟩ | ⟨_,hh⟩
 ·exact absurd hv g2
 ·exact hh
theorem HSt.next {S:Int→Int→Int} {n H k j k' j' v a c:Int} (h:HSt S n H k j v a c) (hs:Scn n H k j) (he:∀x y,Scn n H x y→(Lex x y k' j'↔Lex x y k j∨(x=k∧y=j))) (g3:¬ S k j=2) :
  ((¬ S k j=1∧v=1)→HSt S n H k' j' 3 k j)∧(¬ (¬ S k j=1∧v=1)→HSt S n H k' j' v a c):=by
 have n2:∀x y,Scn n H x y→Lex x y k' j'→¬ S x y=2:=fun x y h1 h2=>by
  rcases(he x y h1).1 h2 with h3 | ⟨rfl,rfl⟩
  ·exact h.n2 x y h1 h3
  ·exact g3
 refine⟨fun g=>⟨n2,.inr ⟨rfl,h.first hs g.1 g.2⟩⟩,fun g=>⟨n2,?_⟩⟩
 rcases h.st with ⟨hv,ha,hc,hh⟩ | hh
 ·have h1:S k j=1:=Classical.byContradiction fun hn=>g ⟨hn,hv⟩
  refine .inl ⟨hv,ha,hc,fun x y h2 h3=>?_⟩
  rcases(he x y h2).1 h3 with h4 | ⟨rfl,rfl⟩
  ·exact hh x y h2 h4
  ·exact h1
 ·exact .inr hh
theorem HSt.re {S:Int→Int→Int} {n H k j k' j' v a c:Int} (h:HSt S n H k j v a c) (he:∀x y,Scn n H x y→(Lex x y k' j'↔Lex x y k j)):HSt S n H k' j' v a c:=by
 refine⟨fun x y h1 h2=>h.n2 x y h1 ((he x y h1).1 h2),?_⟩
 rcases h.st with ⟨hv,ha,hc,hh⟩ | hh
 ·exact .inl ⟨hv,ha,hc,fun x y h1 h2=>hh x y h1 ((he x y h1).1 h2)⟩
 ·exact .inr hh
theorem HSt.fin {S:Int→Int→Int} {n H k j v a c:Int} (h:HSt S n H k j v a c) (he:∀x y,Scn n H x y→Lex x y k j):v=hV S n H∧a=hA S n H∧c=hC S n H:=by
 have no2:¬ ∃x y,Scn n H x y∧S x y=2:=fun⟨x,y,h1,h2⟩=>h.n2 x y h1 (he x y h1) h2
 rcases h.st with ⟨hv,ha,hc,hh⟩ | ⟨hv,hf⟩
 ·have all:∀x y,Scn n H x y→S x y=1:=fun x y h1=>hh x y h1 (he x y h1)
  have nf:¬ ∃a c,FirB S n H a c:=fun⟨a,c,hf⟩=>hf.b (all _ _ hf.s)
  obtain⟨e1,e2⟩:=hA_no nf
  exact⟨by rw [hv]; exact(hV_one.2 all).symm,by rw [ha,e1],by rw [hc,e2]⟩
 ·refine⟨?_,hA_is hf⟩
  unfold hV
  rw [if_neg no2,if_neg fun all=>hf.b (all _ _ hf.s)]
  exact hv
theorem lex_first {n H:Int}:∀x y,Scn n H x y→(Lex x y 0 0↔Lex x y (-1) 0∨(x=-1∧y=0)):=by
 intro x y h
 unfold Scn at h
 unfold Lex
 omega
end Go.Proofs.Ytgoiegaobhfocaa.Sy
