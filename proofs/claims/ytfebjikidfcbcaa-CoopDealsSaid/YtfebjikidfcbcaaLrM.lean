import Derived.Test.YtfebjikidfcbcaaStM
namespace Go.Proofs.Ytfebjikidfcbcaa.Sy
open Go Go.Rv
set_option linter.unusedVariables false
noncomputable section
open Classical
def cnt (p:Nat→Prop):Nat→Nat
 | 0=>0
 | n+1=>cnt p n+(if p n then 1 else 0)
theorem cnt_congr {p q:Nat→Prop}:∀ {n:Nat},(∀i,i < n→(p i↔q i))→cnt p n=cnt q n
 | 0,_=>rfl
 | n+1,h=>by
  simp only [cnt]
  rw [cnt_congr fun i hi=>h i (by omega)]
  have:=h n (by omega)
  by_cases hp:p n
  ·rw [if_pos hp,if_pos (this.1 hp)]
  ·rw [if_neg hp,if_neg fun hq=>hp (this.2 hq)]
theorem cnt_le (p:Nat→Prop):∀n,cnt p n≤n
 | 0=>Nat.le_refl _
 | n+1=>by
  have:=cnt_le p n
  simp only [cnt]
  split<;>omega
theorem cnt_mono {p q:Nat→Prop}:∀ {n:Nat},(∀i,i < n→p i→q i)→cnt p n≤cnt q n
 | 0,_=>Nat.le_refl _
 | n+1,h=>by
  have ih:=cnt_mono (p:=p) (q:=q) (n:=n) fun i hi=>h i (by omega)
  have:=h n (by omega)
  simp only [cnt]
  split<;>split<;>first | omega | (rename_i a b; exact absurd (this a) b)
theorem cnt_lt {p q:Nat→Prop}:∀ {n:Nat},(∀i,i < n→p i→q i)→∀a,a < n→¬ p a→q a→cnt p n < cnt q n
 | 0,_,a,h,_,_=>by omega
 | n+1,h,a,ha,h1,h2=>by
  have h3:=h n (by omega)
  simp only [cnt]
  by_cases e:a=n
  ·subst e
   have h4:=cnt_mono (p:=p) (q:=q) (n:=a) fun i hi=>h i (by omega)
   rw [if_neg h1,if_pos h2]
   omega
  ·have h4:=cnt_lt (p:=p) (q:=q) (n:=n) (fun i hi=>h i (by omega)) a (by omega) h1 h2
   split<;>split<;>first | omega | (rename_i a b; exact absurd (h3 a) b)
theorem cnt_none {p:Nat→Prop}:∀ {n:Nat},(∀i,i < n→¬ p i)→cnt p n=0
 | 0,_=>rfl
 | n+1,h=>by
  simp only [cnt]
  rw [cnt_none fun i hi=>h i (by omega),if_neg (h n (by omega))]
theorem cnt_all {p:Nat→Prop}:∀ {n:Nat},(∀i,i < n→p i)→cnt p n=n
 | 0,_=>rfl
 | n+1,h=>by
  simp only [cnt]
  rw [cnt_all fun i hi=>h i (by omega),if_pos (h n (by omega))]
theorem cnt_one {p:Nat→Prop}:∀ {n:Nat},(∀i j,i < n→j < n→p i→p j→i=j)→cnt p n≤1
 | 0,_=>Nat.zero_le _
 | n+1,h=>by
  simp only [cnt]
  by_cases hp:p n
  ·rw [if_pos hp,cnt_none (n:=n) fun i hi hi2=>by have:=h i n (by omega) (by omega) hi2 hp; omega]
   exact Nat.le_refl _
  ·rw [if_neg hp]
   exact cnt_one fun i j hi hj=>h i j (by omega) (by omega)
theorem cnt_or {p q:Nat→Prop}:∀ {n:Nat},(∀i,i < n→¬ (p i∧q i))→cnt (fun i=>p i∨q i) n=cnt p n+cnt q n
 | 0,_=>rfl
 | n+1,h=>by
  have ih:=cnt_or (p:=p) (q:=q) (n:=n) fun i hi=>h i (by omega)
  have h1:=h n (by omega)
  simp only [cnt,ih]
  by_cases hp:p n
  ·have hq:¬ q n:=fun hq=>h1 ⟨hp,hq⟩
   rw [if_pos (Or.inl hp),if_pos hp,if_neg hq]
   omega
  ·by_cases hq:q n
   ·rw [if_pos (Or.inr hq),if_neg hp,if_pos hq]
    omega
   ·rw [if_neg (by rintro(h | h); exact hp h; exact hq h),if_neg hp,if_neg hq]
    rfl
def bfr (R:Nat→Int) (j i:Nat):Prop:=R i < R j∨R i=R j∧j < i
def rk (R:Nat→Int) (n i:Nat):Nat:=cnt (fun j=>bfr R j i) n
theorem bfr_trans {R:Nat→Int} {a b c:Nat} (h1:bfr R a b) (h2:bfr R b c):bfr R a c:=by
 unfold bfr at *
 omega
theorem bfr_irr (R:Nat→Int) (a:Nat):¬ bfr R a a:=by
 unfold bfr
 omega
theorem bfr_tot {R:Nat→Int} {a b:Nat} (h:a≠b):bfr R a b∨bfr R b a:=by
 unfold bfr
 omega
theorem rk_lt {R:Nat→Int} {n j i:Nat} (hj:j < n) (h:bfr R j i):rk R n j < rk R n i:=
 cnt_lt (fun k _ hk=>bfr_trans hk h) j hj (bfr_irr R j) h
theorem rk_bfr {R:Nat→Int} {n j i:Nat} (hi:i < n) (h:rk R n j < rk R n i):bfr R j i:=by
 by_cases e:j=i
 ·subst e; omega
 ·rcases bfr_tot (R:=R) e with h1 | h1
  ·exact h1
  ·have:=rk_lt hi h1
   omega
theorem rk_inj {R:Nat→Int} {n j i:Nat} (hj:j < n) (hi:i < n) (h:rk R n j=rk R n i):j=i:=by
 apply Classical.byContradiction
 intro e
 rcases bfr_tot (R:=R) e with h1 | h1
 ·have:=rk_lt hj h1; omega
 ·have:=rk_lt hi h1; omega
theorem rk_n {R:Nat→Int} {n i:Nat} (hi:i < n):rk R n i < n:=by
 have h:cnt (fun j=>bfr R j i) n < cnt (fun _=>True) n:=cnt_lt (fun _ _ _=>trivial) i hi (bfr_irr R i) trivial
 rw [cnt_all fun _ _=>trivial]at h
 exact h
theorem rk_cnt (R:Nat→Int) (n:Nat):∀m,m≤n→cnt (fun i=>rk R n i < m) n=m:=by
 have up:∀m,cnt (fun i=>rk R n i < m+1) n≤cnt (fun i=>rk R n i < m) n+1:=by
  intro m
  have e:cnt (fun i=>rk R n i < m+1) n=cnt (fun i=>rk R n i < m∨rk R n i=m) n:=cnt_congr fun i _=>by omega
  rw [e,cnt_or fun i _ h=>by omega]
  have:=cnt_one (p:=fun i=>rk R n i=m) (n:=n) fun i j hi hj h1 h2=>rk_inj hi hj (h1.trans h2.symm)
  omega
 have zero:cnt (fun i=>rk R n i < 0) n=0:=cnt_none fun i _=>by omega
 have full:cnt (fun i=>rk R n i < n) n=n:=cnt_all fun i hi=>rk_n hi
 have le:∀m,cnt (fun i=>rk R n i < m) n≤m:=by
  intro m
  induction m with
  | zero=>rw [zero]; exact Nat.le_refl _
  | succ m ih=>have:=up m; omega
 have ge:∀d m,m+d=n→n≤cnt (fun i=>rk R n i < m) n+d:=by
  intro d
  induction d with
  | zero =>
   intro m hm
   have:m=n:=by omega
   rw [this,full]; omega
  | succ d ih =>
   intro m hm
   have h1:=ih (m+1) (by omega)
   have h2:=up m
   omega
 intro m hm
 have h1:=le m
 have h2:=ge (n-m) m (by omega)
 omega
theorem rk_next {R:Nat→Int} {n s b:Nat} (hb:b < n) (hs:s≤n) (h1:s≤rk R n b) (h2:∀i,i < n→s≤rk R n i→i≠b→bfr R b i):rk R n b=s:=by
 have e:cnt (fun j=>bfr R j b) n=cnt (fun j=>rk R n j < s) n:=cnt_congr fun j hj=>by
  constructor
  ·intro h
   apply Classical.byContradiction
   intro h3
   by_cases e:j=b
   ·subst e; exact bfr_irr R j h
   ·have:=h2 j hj (by omega) e
    exact bfr_irr R j (bfr_trans h this)
  ·intro h
   exact rk_bfr hb (by omega)
 rw [rk_cnt R n s hs]at e
 exact e
def flo (d N:Int) (A:Nat→Int) (i:Nat):Int:=d*A i / N
def rst (d N:Int) (A:Nat→Int) (i:Nat):Int:=d*A i % N
def lef (d N:Int) (A:Nat→Int) (n:Nat):Int:=d-sumF (flo d N A) n
def shr (d N:Int) (A:Nat→Int) (n i:Nat):Int:=if N=0 then 0 else flo d N A i+(if ((rk (rst d N A) n i:Nat):Int) < lef d N A n then 1 else 0)
structure ShA (d N:Int) (A:Nat→Int) (n:Nat):Prop where
 d:0≤d
 a:∀i,i < n→0≤A i
 s:sumF A n=N
 p:0 < N
theorem sumF_mul (c:Int) (f:Nat→Int):∀n,sumF (fun i=>c*f i) n=c*sumF f n
 | 0=>by simp [sumF]
 | n+1=>by simp only [sumF,sumF_mul c f n,Int.mul_add]
theorem ShA.split {d N:Int} {A:Nat→Int} {n:Nat} (h:ShA d N A n):N*lef d N A n=sumF (rst d N A) n:=by
 have e:sumF (fun i=>N*flo d N A i+rst d N A i) n=sumF (fun i=>d*A i) n:=sumF_congr fun i _=>Int.mul_ediv_add_emod (d*A i) N
 rw [sumF_add,sumF_mul,sumF_mul,h.s]at e
 unfold lef
 rw [Int.mul_sub]
 have:N*d=d*N:=Int.mul_comm _ _
 omega
theorem ShA.rstB {d N:Int} {A:Nat→Int} {n:Nat} (h:ShA d N A n) (i:Nat):0≤rst d N A i∧rst d N A i≤N-1:=by
 have h0:=h.p
 have h1:=Int.emod_nonneg (d*A i) (show N≠0 by omega)
 have h2:=Int.emod_lt_of_pos (d*A i) h.p
 have e:rst d N A i=d*A i % N:=rfl
 omega
theorem sum_cnt {f:Nat→Int} {M:Int} (h0:0≤M):∀ {n:Nat},(∀i,i < n→0≤f i∧f i≤M)→sumF f n≤(cnt (fun i=>f i≠0) n:Nat)*M
 | 0,_=>by simp [sumF,cnt]
 | n+1,h=>by
  have ih:=sum_cnt h0 (f:=f) (n:=n) fun i hi=>h i (by omega)
  have h1:=h n (by omega)
  simp only [sumF,cnt]
  by_cases e:f n=0
  ·rw [if_neg (fun x=>x e),e]
   simpa using ih
  ·rw [if_pos e]
   have:((cnt (fun i=>f i≠0) n+1:Nat):Int)*M=(cnt (fun i=>f i≠0) n:Nat)*M+M:=by rw [Int.natCast_add,Int.add_mul]; simp
   rw [this]
   omega
theorem ShA.lefB {d N:Int} {A:Nat→Int} {n:Nat} (h:ShA d N A n):0≤lef d N A n∧(lef d N A n≤0∨lef d N A n < (cnt (fun i=>rst d N A i≠0) n:Nat)):=by
 have hs:=h.split
 have hp:=h.p
 have h0:0≤sumF (rst d N A) n:=sumF_nn fun i _=>(h.rstB i).1
 have h1:=sum_cnt (f:=rst d N A) (M:=N-1) (by omega) (n:=n) fun i _=>h.rstB i
 generalize lef d N A n=l at *
 generalize (cnt (fun i=>rst d N A i≠0) n)=c at *
 have l0:0≤l:=by
  apply Classical.byContradiction
  intro hl
  have:N*l < 0:=Int.mul_neg_of_pos_of_neg hp (by omega)
  omega
 refine⟨l0,?_⟩
 by_cases hl:l≤0
 ·exact .inl hl
 ·refine .inr ?_
  apply Classical.byContradiction
  intro hc
  have m1:(c:Int)*(N-1)≤l*(N-1):=Int.mul_le_mul_of_nonneg_right (by omega) (by omega)
  have m2:l*(N-1)=N*l-l:=by rw [Int.mul_sub,Int.mul_comm]; omega
  omega
theorem ShA.lt {d N:Int} {A:Nat→Int} {n:Nat} (h:ShA d N A n):lef d N A n≤n:=by
 have h1:=h.lefB
 have h2:=cnt_le (fun i=>rst d N A i≠0) n
 omega
theorem cnt_sum (p:Nat→Prop) [i:DecidablePred p]:∀n,sumF (fun i=>if p i then 1 else 0) n=(cnt p n:Nat)
 | 0=>rfl
 | n+1=>by
  simp only [sumF,cnt,cnt_sum p n]
  split<;>simp
theorem ShA.sum {d N:Int} {A:Nat→Int} {n:Nat} (h:ShA d N A n):sumF (shr d N A n) n=d:=by
 have hp:=h.p
 have e:sumF (shr d N A n) n=sumF (fun i=>flo d N A i+(if ((rk (rst d N A) n i:Nat):Int) < lef d N A n then 1 else 0)) n:=sumF_congr fun i _=>by
  unfold shr
  rw [if_neg (by omega)]
 rw [e,sumF_add,cnt_sum]
 have h1:=h.lefB
 have h2:=h.lt
 have e2:cnt (fun i=>((rk (rst d N A) n i:Nat):Int) < lef d N A n) n=(lef d N A n).toNat:=by
  rw [← rk_cnt (rst d N A) n (lef d N A n).toNat (by omega)]
  exact cnt_congr fun i _=>by omega
 rw [e2]
 have:lef d N A n=d-sumF (flo d N A) n:=rfl
 omega
theorem ShA.none {d N:Int} {A:Nat→Int} {n i:Nat} (h:ShA d N A n) (hi:i < n) (h0:rst d N A i=0):¬ ((rk (rst d N A) n i:Nat):Int) < lef d N A n:=by
 intro hl
 have h1:=h.lefB
 have h2:cnt (fun j=>rst d N A j≠0) n≤rk (rst d N A) n i:=cnt_mono fun j _ hj=>by
  unfold bfr
  have:=h.rstB j
  omega
 omega
theorem ShA.part {d N:Int} {A:Nat→Int} {n i:Nat} (h:ShA d N A n) (hi:i < n):d*A i / N≤shr d N A n i∧shr d N A n i≤(d*A i+N-1) / N:=by
 have hp:=h.p
 have e:shr d N A n i=d*A i / N+(if ((rk (rst d N A) n i:Nat):Int) < lef d N A n then 1 else 0):=by
  unfold shr
  rw [if_neg (by omega)]
  rfl
 have e0:rst d N A i=d*A i % N:=rfl
 have m:=Int.mul_ediv_add_emod (d*A i) N
 have m0:=h.rstB i
 rw [e0]at m0
 rw [e]
 have up:(d*A i+N-1) / N=d*A i / N+(if d*A i % N=0 then 0 else 1):=by
  generalize d*A i / N=q at *
  generalize d*A i % N=r at *
  generalize d*A i=x at *
  have e3:x+N-1=N*q+(r+N-1):=by omega
  rw [e3,Int.mul_add_ediv_left _ _ (by omega)]
  by_cases hr0:r=0
  ·rw [if_pos hr0,hr0]
   have:(0+N-1) / N=0:=Int.ediv_eq_zero_of_lt (by omega) (by omega)
   omega
  ·rw [if_neg hr0]
   have e4:r+N-1=(r-1)+N*1:=by omega
   have:(r+N-1) / N=1:=by
    rw [e4,Int.add_mul_ediv_left _ _ (by omega),Int.ediv_eq_zero_of_lt (by omega) (by omega)]
    omega
   omega
 rw [up]
 by_cases hr:d*A i % N=0
 ·rw [if_neg (h.none hi hr),if_pos hr]
  omega
 ·rw [if_neg hr]
  split<;>omega
theorem ShA.le {d N:Int} {A:Nat→Int} {n i:Nat} (h:ShA d N A n) (hd:d≤N) (hi:i < n):shr d N A n i≤A i:=by
 have h1:=(h.part hi).2
 have hp:=h.p
 have ha:=h.a i hi
 have m:d*A i≤N*A i:=Int.mul_le_mul_of_nonneg_right hd ha
 have h2:(d*A i+N-1) / N≤(N*A i+(N-1)) / N:=Int.ediv_le_ediv hp (by omega)
 have z:(N-1) / N=0:=Int.ediv_eq_zero_of_lt (by omega) (by omega)
 rw [Int.mul_add_ediv_left _ _ (by omega),z]at h2
 omega
theorem ShA.nn {d N:Int} {A:Nat→Int} {n i:Nat} (h:ShA d N A n) (hi:i < n):0≤shr d N A n i:=by
 have h1:=(h.part hi).1
 have h2:0≤d*A i / N:=Int.ediv_nonneg (Int.mul_nonneg h.d (h.a i hi)) (by have:=h.p; omega)
 omega
end
end Go.Proofs.Ytfebjikidfcbcaa.Sy
