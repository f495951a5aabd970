/- The law CatchTruth. -/
import Derived.Test.YthlodlileecmdaaDoorSyP2
import Derived.Test.YthlodlileecmdaaDoorGrM
import Derived.Test.YthlodlileecmdaaDoorCtT
import Derived.Test.YthlodlileecmdaaDoorCtA
import Derived.Test.YthlodlileecmdaaDoorCtD
import Derived.Test.YthlodlileecmdaaDoorCtU
import Derived.Test.YthlodlileecmdaaDoorCtV
import Derived.Test.YthlodlileecmdaaDoorCtW
import Derived.Test.YthlodlileecmdaaDoorCtI
import Derived.Test.YthlodlileecmdaaDoorCtK
import Derived.KernelRfl
import Derived.Test.YthlodlileecmdaaDoorProg
namespace Go.Proofs.YthlodlileecmdaaDoor.Sy
open Go Go.Rv
set_option linter.unusedVariables false

def g32 : List Int := [0, 1, 28, 2, 29, 14, 24, 3, 30, 22, 20, 15, 25, 17, 4, 8, 31, 27, 13, 23, 21, 19, 16, 7, 26, 12, 18, 6, 11, 5, 10, 9]
def tab1 : Tabs := [(1, .u8, g32)]
/-- a gauge and an animal -/
structure Tq where
  low : Int
  high : Int
  a : Int
  b : Int
  sex : Int
  eggs : Int
  notch : Int
  shell : Int
  q : Int
  keep : Int
  eg : Prop
  no : Prop
  so : Prop
noncomputable def Tq.R (t : Tq) : Rows := reaR t.low t.high t.eg t.no t.so t.a t.b t.eggs t.notch t.shell
structure Tq.Is (t : Tq) : Prop where
  ok : reaErr t.low t.high t.a t.b t.sex t.eggs t.notch t.shell = 0
  keep : t.keep = kpV t.R 5
def eB (m : Nat) : Prop := (m : Int).tmod 2 = 1
def nB (m : Nat) : Prop := (m : Int) / 2 = 1
/-- whether a truth goes back for a reason -/
def Tq.fb (t : Tq) (s : Int) (m i : Nat) : Prop := fbP t.low t.high t.eg t.no t.so s t.shell (eB m) (nB m) i
/-- it has to go back for a reason; for none of them -/
def Tq.F (t : Tq) (s : Int) (m k : Nat) : Prop := (k < 5 → t.fb s m k) ∧ (¬ k < 5 → ∀ i, i < 5 → ¬ t.fb s m i)
/-- whether what it truly is keeps to what is known -/
def Tq.okB (t : Tq) (m : Nat) : Prop := ¬ (t.eggs = 1 ∧ ¬ eB m) ∧ ¬ (t.eggs = 2 ∧ eB m) ∧ ¬ (t.notch = 1 ∧ ¬ nB m) ∧ ¬ (t.notch = 2 ∧ nB m)
def Tq.did (t : Tq) (s : Int) (m : Nat) (s' : Int) (m' : Nat) : Prop := t.a ≤ s' ∧ (s' < s ∨ (s' = s ∧ m' < m)) ∧ m' < 4 ∧ t.okB m'
def Tq.all (t : Tq) (s : Int) (m k : Nat) : Prop := ∀ s' m', t.did s m s' m' → t.F s' m' k
def Tq.some (t : Tq) (s : Int) (m k : Nat) : Prop := ∃ s' m', t.did s m s' m' ∧ t.F s' m' k
def Tq.allK (t : Tq) (s : Int) (m k i : Nat) : Prop := (i < k → t.all s (m + 1) i) ∧ (¬ i < k → t.all s m i)
def Tq.someK (t : Tq) (s : Int) (m k i : Nat) : Prop := (i < k → t.some s (m + 1) i) ∧ (¬ i < k → t.some s m i)
structure TqK where
  k : Nat
  t : Tq
structure TqS where
  s : Int
  t : Tq
structure TqM where
  m : Nat
  s : Int
  t : Tq
structure TqF where
  k : Nat
  m : Nat
  s : Int
  t : Tq
theorem plP {n : Nat} {P : Nat → Prop} : PlainE n (El.fn fun i => [SV.p (P i)]) := fun i hi y hy => by
  simp only [El.at, List.mem_singleton] at hy
  subst hy
  trivial
theorem rowEq {n : Nat} {P Q : Nat → Prop} (h : ∀ i, i < n → (P i ↔ Q i)) : n = n ∧ ∀ i, i < n → (El.fn fun i => [SV.p (P i)]).at i = (El.fn fun i => [SV.p (Q i)]).at i :=
  ⟨rfl, fun i hi => by show [SV.p (P i)] = [SV.p (Q i)]; rw [propext (h i hi)]⟩
theorem updEq {n k : Nat} {P Q : Nat → Prop} {x : Prop} (hx : x ↔ Q k) (h : ∀ i, i < n → ¬ i = k → (P i ↔ Q i)) : n = n ∧ ∀ i, i < n → (updL (El.fn fun i => [SV.p (P i)]) k 0 [SV.p x]).at i = (El.fn fun i => [SV.p (Q i)]).at i := by
  refine ⟨rfl, fun i hi => ?_⟩
  show (if i = k then [SV.p (P i)].set 0 (SV.p x) else [SV.p (P i)]) = [SV.p (Q i)]
  by_cases e : i = k
  · subst e
    rw [if_pos rfl]
    show [SV.p x] = _
    rw [propext hx]
  · rw [if_neg e, propext (h i hi e)]
theorem did_none (t : Tq) {s' : Int} {m' : Nat} : ¬ t.did t.a 0 s' m' := fun ⟨h, h2, _⟩ => by omega
theorem all_none (t : Tq) (k : Nat) : t.all t.a 0 k := fun s' m' h => absurd h (did_none t)
theorem some_none (t : Tq) (k : Nat) : ¬ t.some t.a 0 k := fun ⟨s', m', h, _⟩ => did_none t h
theorem did_next {t : Tq} {s : Int} {m : Nat} (ho : t.okB m) (hm : m < 4) (ha : t.a ≤ s) {s' : Int} {m' : Nat} : t.did s (m + 1) s' m' ↔ t.did s m s' m' ∨ (s' = s ∧ m' = m) := by
  constructor
  · intro ⟨h1, h2, h3, h4⟩
    by_cases e : s' = s ∧ m' = m
    · exact .inr e
    · exact .inl ⟨h1, by omega, h3, h4⟩
  · rintro (⟨h1, h2, h3, h4⟩ | ⟨rfl, rfl⟩)
    · exact ⟨h1, by omega, h3, h4⟩
    · exact ⟨ha, by omega, hm, ho⟩
theorem did_skip {t : Tq} {s : Int} {m : Nat} (ho : ¬ t.okB m) {s' : Int} {m' : Nat} : t.did s (m + 1) s' m' ↔ t.did s m s' m' := by
  constructor
  · intro ⟨h1, h2, h3, h4⟩
    refine ⟨h1, ?_, h3, h4⟩
    by_cases e : s' = s ∧ m' = m
    · rw [e.2] at h4
      exact absurd h4 ho
    · omega
  · intro ⟨h1, h2, h3, h4⟩
    exact ⟨h1, by omega, h3, h4⟩
theorem did_size {t : Tq} {s : Int} {s' : Int} {m' : Nat} : t.did (s + 1) 0 s' m' ↔ t.did s 4 s' m' := by
  constructor
  · intro ⟨h1, h2, h3, h4⟩
    exact ⟨h1, by omega, h3, h4⟩
  · intro ⟨h1, h2, h3, h4⟩
    exact ⟨h1, by omega, h3, h4⟩
theorem all_next {t : Tq} {s : Int} {m : Nat} (ho : t.okB m) (hm : m < 4) (ha : t.a ≤ s) (k : Nat) : t.all s (m + 1) k ↔ t.all s m k ∧ t.F s m k := by
  constructor
  · intro h
    exact ⟨fun s' m' hd => h s' m' ((did_next ho hm ha).2 (.inl hd)), h s m ((did_next ho hm ha).2 (.inr ⟨rfl, rfl⟩))⟩
  · intro ⟨h1, h2⟩ s' m' hd
    rcases (did_next ho hm ha).1 hd with h | ⟨rfl, rfl⟩
    · exact h1 s' m' h
    · exact h2
theorem some_next {t : Tq} {s : Int} {m : Nat} (ho : t.okB m) (hm : m < 4) (ha : t.a ≤ s) (k : Nat) : t.some s (m + 1) k ↔ t.some s m k ∨ t.F s m k := by
  constructor
  · intro ⟨s', m', hd, hf⟩
    rcases (did_next ho hm ha).1 hd with h | ⟨rfl, rfl⟩
    · exact .inl ⟨s', m', h, hf⟩
    · exact .inr hf
  · rintro (⟨s', m', hd, hf⟩ | h)
    · exact ⟨s', m', (did_next ho hm ha).2 (.inl hd), hf⟩
    · exact ⟨s, m, (did_next ho hm ha).2 (.inr ⟨rfl, rfl⟩), h⟩
theorem all_skip {t : Tq} {s : Int} {m : Nat} (ho : ¬ t.okB m) (k : Nat) : t.all s m k ↔ t.all s (m + 1) k :=
  ⟨fun h s' m' hd => h s' m' ((did_skip ho).1 hd), fun h s' m' hd => h s' m' ((did_skip ho).2 hd)⟩
theorem some_skip {t : Tq} {s : Int} {m : Nat} (ho : ¬ t.okB m) (k : Nat) : t.some s m k ↔ t.some s (m + 1) k :=
  ⟨fun ⟨s', m', hd, h⟩ => ⟨s', m', (did_skip ho).2 hd, h⟩, fun ⟨s', m', hd, h⟩ => ⟨s', m', (did_skip ho).1 hd, h⟩⟩
theorem all_size (t : Tq) (s : Int) (k : Nat) : t.all s 4 k ↔ t.all (s + 1) 0 k :=
  ⟨fun h s' m' hd => h s' m' (did_size.1 hd), fun h s' m' hd => h s' m' (did_size.2 hd)⟩
theorem some_size (t : Tq) (s : Int) (k : Nat) : t.some s 4 k ↔ t.some (s + 1) 0 k :=
  ⟨fun ⟨s', m', hd, h⟩ => ⟨s', m', did_size.2 hd, h⟩, fun ⟨s', m', hd, h⟩ => ⟨s', m', did_size.1 hd, h⟩⟩
theorem allK_zero (t : Tq) (s : Int) (m i : Nat) : t.all s m i ↔ t.allK s m 0 i := by
  unfold Tq.allK
  simp
theorem someK_zero (t : Tq) (s : Int) (m i : Nat) : t.some s m i ↔ t.someK s m 0 i := by
  unfold Tq.someK
  simp
theorem allK_ne (t : Tq) (s : Int) (m : Nat) {k i : Nat} (h : ¬ i = k) : t.allK s m k i ↔ t.allK s m (k + 1) i := by
  unfold Tq.allK
  rw [show (i < k + 1) = (i < k) from propext (by omega)]
theorem someK_ne (t : Tq) (s : Int) (m : Nat) {k i : Nat} (h : ¬ i = k) : t.someK s m k i ↔ t.someK s m (k + 1) i := by
  unfold Tq.someK
  rw [show (i < k + 1) = (i < k) from propext (by omega)]
theorem allK_at (t : Tq) (s : Int) (m k : Nat) : t.allK s m k k ↔ t.all s m k := by
  unfold Tq.allK
  simp
theorem someK_at (t : Tq) (s : Int) (m k : Nat) : t.someK s m k k ↔ t.some s m k := by
  unfold Tq.someK
  simp
theorem allK_in (t : Tq) (s : Int) (m : Nat) {k i : Nat} (h : i < k) : t.allK s m k i ↔ t.all s (m + 1) i := by
  unfold Tq.allK
  simp [h]
theorem someK_in (t : Tq) (s : Int) (m : Nat) {k i : Nat} (h : i < k) : t.someK s m k i ↔ t.some s (m + 1) i := by
  unfold Tq.someK
  simp [h]
theorem F_lt {t : Tq} {s : Int} {m k : Nat} (h : k < 5) : t.F s m k ↔ t.fb s m k := by
  unfold Tq.F
  simp [h]
theorem F_five {t : Tq} {s : Int} {m : Nat} : t.F s m 5 ↔ ∀ i, i < 5 → ¬ t.fb s m i := by
  unfold Tq.F
  simp
/-- what is written for a reason -/
theorem wAll {t : Tq} {s : Int} {m k : Nat} (ho : t.okB m) (hm : m < 4) (ha : t.a ≤ s) (hk : k < 5) {x : Prop} (h : x ↔ t.all s m k ∧ t.fb s m k) : 6 = 6 ∧ ∀ i, i < 6 → (updL (El.fn fun i => [SV.p (t.allK s m k i)]) k 0 [SV.p x]).at i = (El.fn fun i => [SV.p (t.allK s m (k + 1) i)]).at i :=
  updEq (by rw [h, allK_in t s m (by omega), all_next ho hm ha, F_lt hk]) fun i _ e => allK_ne t s m e
theorem wSome {t : Tq} {s : Int} {m k : Nat} (ho : t.okB m) (hm : m < 4) (ha : t.a ≤ s) (hk : k < 5) {x : Prop} (h : x ↔ t.some s m k ∨ t.fb s m k) : 6 = 6 ∧ ∀ i, i < 6 → (updL (El.fn fun i => [SV.p (t.someK s m k i)]) k 0 [SV.p x]).at i = (El.fn fun i => [SV.p (t.someK s m (k + 1) i)]).at i :=
  updEq (by rw [h, someK_in t s m (by omega), some_next ho hm ha, F_lt hk]) fun i _ e => someK_ne t s m e
/-- and for none of them -/
theorem wAll5 {t : Tq} {s : Int} {m : Nat} (ho : t.okB m) (hm : m < 4) (ha : t.a ≤ s) {x : Prop} (h : x ↔ t.all s m 5 ∧ ∀ i, i < 5 → ¬ t.fb s m i) : 6 = 6 ∧ ∀ i, i < 6 → (updL (El.fn fun i => [SV.p (t.allK s m 5 i)]) 5 0 [SV.p x]).at i = (El.fn fun i => [SV.p (t.all s (m + 1) i)]).at i :=
  updEq (by rw [h, all_next ho hm ha, F_five]) fun i hi e => allK_in t s m (by omega)
theorem wSome5 {t : Tq} {s : Int} {m : Nat} (ho : t.okB m) (hm : m < 4) (ha : t.a ≤ s) {x : Prop} (h : x ↔ t.some s m 5 ∨ ∀ i, i < 5 → ¬ t.fb s m i) : 6 = 6 ∧ ∀ i, i < 6 → (updL (El.fn fun i => [SV.p (t.someK s m 5 i)]) 5 0 [SV.p x]).at i = (El.fn fun i => [SV.p (t.some s (m + 1) i)]).at i :=
  updEq (by rw [h, some_next ho hm ha, F_five]) fun i hi e => someK_in t s m (by omega)
theorem may_next {t : Tq} {s : Int} {m k : Nat} : ((∀ i, i < k → ¬ t.fb s m i) ∧ ¬ t.fb s m k) ↔ ∀ i, i < k + 1 → ¬ t.fb s m i := by
  constructor
  · intro ⟨h1, h2⟩ i hi
    by_cases e : i = k
    · subst e; exact h2
    · exact h1 i (by omega)
  · intro h
    exact ⟨fun i hi => h i (by omega), h k (by omega)⟩
theorem bits_any (E N : Prop) : ∃ m, m < 4 ∧ (eB m ↔ E) ∧ (nB m ↔ N) := by
  by_cases e : E <;> by_cases n : N
  · exact ⟨3, by omega, by simp [eB, e], by simp [nB, n]⟩
  · exact ⟨1, by omega, by simp [eB, e], by simp [nB, n]⟩
  · exact ⟨2, by omega, by simp [eB, e], by simp [nB, n]⟩
  · exact ⟨0, by omega, by simp [eB, e], by simp [nB, n]⟩
theorem did_any {t : Tq} {s' : Int} {E N : Prop} (h1 : t.a ≤ s') (h2 : s' ≤ t.b) (he : ¬ (t.eggs = 1 ∧ ¬ E)) (he2 : ¬ (t.eggs = 2 ∧ E)) (hn : ¬ (t.notch = 1 ∧ ¬ N)) (hn2 : ¬ (t.notch = 2 ∧ N)) : ∃ m, t.did (t.b + 1) 0 s' m ∧ (eB m ↔ E) ∧ (nB m ↔ N) := by
  obtain ⟨m, h3, h4, h5⟩ := bits_any E N
  refine ⟨m, ⟨h1, by omega, h3, ?_⟩, h4, h5⟩
  unfold Tq.okB
  rw [h4, h5]
  exact ⟨he, he2, hn, hn2⟩
theorem fb0 (t : Tq) (s : Int) (m : Nat) : t.fb s m 0 ↔ s < t.low := Iff.rfl
theorem fb1 (t : Tq) (s : Int) (m : Nat) : t.fb s m 1 ↔ t.high < s := Iff.rfl
theorem fb2 (t : Tq) (s : Int) (m : Nat) : t.fb s m 2 ↔ t.eg ∧ eB m := Iff.rfl
theorem fb3 (t : Tq) (s : Int) (m : Nat) : t.fb s m 3 ↔ t.no ∧ nB m := Iff.rfl
theorem fb4 (t : Tq) (s : Int) (m : Nat) : t.fb s m 4 ↔ t.so ∧ t.shell = 2 := Iff.rfl
/-- an answer tells what all truths of it tell -/
def Tq.Tells (t : Tq) (C : Int) (k : Nat) : Prop := (C = 1 ↔ t.all (t.b + 1) 0 k) ∧ (C = 2 ↔ ¬ t.some (t.b + 1) 0 k) ∧ 1 ≤ C ∧ C ≤ 3
theorem tells_of {t : Tq} {C : Int} {k : Nat} (ht : ∃ s m, t.did (t.b + 1) 0 s m) (h1 : C = 1 → ∀ s m, t.did (t.b + 1) 0 s m → t.F s m k) (h2 : C = 2 → ∀ s m, t.did (t.b + 1) 0 s m → ¬ t.F s m k)
    (h3 : ¬ C = 1 → ∃ s m, t.did (t.b + 1) 0 s m ∧ ¬ t.F s m k) (h4 : ¬ C = 2 → ∃ s m, t.did (t.b + 1) 0 s m ∧ t.F s m k) (h5 : 1 ≤ C ∧ C ≤ 3) : t.Tells C k := by
  refine ⟨⟨fun h s m hd => h1 h s m hd, fun h => ?_⟩, ⟨fun h ⟨s, m, hd, hf⟩ => h2 h s m hd hf, fun h => ?_⟩, h5⟩
  · refine Classical.byContradiction fun hc => ?_
    obtain ⟨s, m, hd, hf⟩ := h3 hc
    exact hf (h s m hd)
  · refine Classical.byContradiction fun hc => ?_
    obtain ⟨s, m, hd, hf⟩ := h4 hc
    exact h ⟨s, m, hd, hf⟩
theorem did_b {t : Tq} {s : Int} {m : Nat} (h : t.did (t.b + 1) 0 s m) : t.a ≤ s ∧ s ≤ t.b ∧ t.okB m := ⟨h.1, by have := h.2.1; omega, h.2.2.2⟩
theorem cap_three {a b sex eggs notch shell : Int} (h : capErr a b sex eggs notch shell = 0) : 1 ≤ eggs ∧ eggs ≤ 3 ∧ 1 ≤ notch ∧ notch ≤ 3 := by
  unfold capErr inB at h
  split at h
  · split at h
    · omega
    · split at h
      · omega
      · omega
  · omega
open Classical in
theorem tells {t : Tq} (h : t.Is) : ∀ k, k < 6 → t.Tells (cell (t.R ++ [[t.keep]]) k 0) k := by
  have hk := rea_ok h.ok
  have h3 := cap_three hk.2.2.2.2.2.2.2
  have tn : ∀ s', t.a ≤ s' → s' ≤ t.b → ∃ m, t.did (t.b + 1) 0 s' m := fun s' x y => by
    obtain ⟨m, hm, _⟩ := did_any (t := t) (E := t.eggs = 1) (N := t.notch = 1) x y (by omega) (by omega) (by omega) (by omega)
    exact ⟨m, hm⟩
  have ht : ∃ s m, t.did (t.b + 1) 0 s m := ⟨t.a, tn t.a (by omega) (by omega)⟩
  have c0 : cell t.R 0 0 = insV t.a t.b 0 (t.low - 1) := rfl
  have c1 : cell t.R 1 0 = insV t.a t.b (t.high + 1) 2500 := rfl
  have c2 : cell t.R 2 0 = ifV t.eg t.eggs := rfl
  have c3 : cell t.R 3 0 = ifV t.no t.notch := rfl
  have c4 : cell t.R 4 0 = ifV (t.so ∧ t.shell = 2) 1 := rfl
  have r0 : t.Tells (cell t.R 0 0) 0 := by
    rw [c0]
    obtain ⟨C, hC⟩ : ∃ C, insV t.a t.b 0 (t.low - 1) = C := ⟨_, rfl⟩
    rw [hC]
    unfold insV at hC
    refine tells_of ht ?_ ?_ ?_ ?_ ?_
    · intro e s m hd
      have := did_b hd
      rw [F_lt (by omega), fb0]
      split at hC <;> omega
    · intro e s m hd
      have := did_b hd
      rw [F_lt (by omega), fb0]
      split at hC
      · omega
      · split at hC <;> omega
    · intro e
      obtain ⟨m, hm⟩ := tn t.b (by omega) (by omega)
      refine ⟨t.b, m, hm, ?_⟩
      rw [F_lt (by omega), fb0]
      split at hC
      · omega
      · split at hC <;> omega
    · intro e
      obtain ⟨m, hm⟩ := tn t.a (by omega) (by omega)
      refine ⟨t.a, m, hm, ?_⟩
      rw [F_lt (by omega), fb0]
      split at hC
      · omega
      · split at hC <;> omega
    · split at hC
      · omega
      · split at hC <;> omega
  have r1 : t.Tells (cell t.R 1 0) 1 := by
    rw [c1]
    obtain ⟨C, hC⟩ : ∃ C, insV t.a t.b (t.high + 1) 2500 = C := ⟨_, rfl⟩
    rw [hC]
    unfold insV at hC
    refine tells_of ht ?_ ?_ ?_ ?_ ?_
    · intro e s m hd
      have := did_b hd
      rw [F_lt (by omega), fb1]
      split at hC
      · omega
      · split at hC <;> omega
    · intro e s m hd
      have := did_b hd
      rw [F_lt (by omega), fb1]
      split at hC
      · omega
      · split at hC <;> omega
    · intro e
      obtain ⟨m, hm⟩ := tn t.a (by omega) (by omega)
      refine ⟨t.a, m, hm, ?_⟩
      rw [F_lt (by omega), fb1]
      split at hC
      · omega
      · split at hC <;> omega
    · intro e
      obtain ⟨m, hm⟩ := tn t.b (by omega) (by omega)
      refine ⟨t.b, m, hm, ?_⟩
      rw [F_lt (by omega), fb1]
      split at hC
      · omega
      · split at hC <;> omega
    · split at hC
      · omega
      · split at hC <;> omega
  have r2 : t.Tells (cell t.R 2 0) 2 := by
    rw [c2]
    by_cases g : t.eg
    · have e : ifV t.eg t.eggs = t.eggs := if_pos g
      rw [e]
      refine tells_of ht ?_ ?_ ?_ ?_ (by omega)
      · intro e s m hd
        have := (did_b hd).2.2.1
        rw [F_lt (by omega), fb2]
        exact ⟨g, Classical.byContradiction fun x => this ⟨e, x⟩⟩
      · intro e s m hd
        have := (did_b hd).2.2.2.1
        rw [F_lt (by omega), fb2]
        exact fun x => this ⟨e, x.2⟩
      · intro e
        obtain ⟨m, hm, h5, _⟩ := did_any (t := t) (s' := t.a) (E := False) (N := t.notch = 1) (by omega) (by omega) (fun x => e x.1) (fun x => x.2) (by omega) (by omega)
        refine ⟨t.a, m, hm, ?_⟩
        rw [F_lt (by omega), fb2, h5]
        exact fun x => x.2
      · intro e
        obtain ⟨m, hm, h5, _⟩ := did_any (t := t) (s' := t.a) (E := True) (N := t.notch = 1) (by omega) (by omega) (fun x => x.2 trivial) (fun x => e x.1) (by omega) (by omega)
        refine ⟨t.a, m, hm, ?_⟩
        rw [F_lt (by omega), fb2, h5]
        exact ⟨g, trivial⟩
    · have e : ifV t.eg t.eggs = 2 := if_neg g
      rw [e]
      refine tells_of ht (by omega) ?_ ?_ (by omega) (by omega)
      · intro e s m hd
        rw [F_lt (by omega), fb2]
        exact fun x => g x.1
      · intro e
        obtain ⟨s, m, hd⟩ := ht
        refine ⟨s, m, hd, ?_⟩
        rw [F_lt (by omega), fb2]
        exact fun x => g x.1
  have r3 : t.Tells (cell t.R 3 0) 3 := by
    rw [c3]
    by_cases g : t.no
    · have e : ifV t.no t.notch = t.notch := if_pos g
      rw [e]
      refine tells_of ht ?_ ?_ ?_ ?_ (by omega)
      · intro e s m hd
        have := (did_b hd).2.2.2.2.1
        rw [F_lt (by omega), fb3]
        exact ⟨g, Classical.byContradiction fun x => this ⟨e, x⟩⟩
      · intro e s m hd
        have := (did_b hd).2.2.2.2.2
        rw [F_lt (by omega), fb3]
        exact fun x => this ⟨e, x.2⟩
      · intro e
        obtain ⟨m, hm, _, h5⟩ := did_any (t := t) (s' := t.a) (E := t.eggs = 1) (N := False) (by omega) (by omega) (by omega) (by omega) (fun x => e x.1) (fun x => x.2)
        refine ⟨t.a, m, hm, ?_⟩
        rw [F_lt (by omega), fb3, h5]
        exact fun x => x.2
      · intro e
        obtain ⟨m, hm, _, h5⟩ := did_any (t := t) (s' := t.a) (E := t.eggs = 1) (N := True) (by omega) (by omega) (by omega) (by omega) (fun x => x.2 trivial) (fun x => e x.1)
        refine ⟨t.a, m, hm, ?_⟩
        rw [F_lt (by omega), fb3, h5]
        exact ⟨g, trivial⟩
    · have e : ifV t.no t.notch = 2 := if_neg g
      rw [e]
      refine tells_of ht (by omega) ?_ ?_ (by omega) (by omega)
      · intro e s m hd
        rw [F_lt (by omega), fb3]
        exact fun x => g x.1
      · intro e
        obtain ⟨s, m, hd⟩ := ht
        refine ⟨s, m, hd, ?_⟩
        rw [F_lt (by omega), fb3]
        exact fun x => g x.1
  have r4 : t.Tells (cell t.R 4 0) 4 := by
    rw [c4]
    obtain ⟨s, m, hd⟩ := ht
    by_cases g : t.so ∧ t.shell = 2
    · have e : ifV (t.so ∧ t.shell = 2) 1 = 1 := if_pos g
      rw [e]
      refine tells_of ⟨s, m, hd⟩ ?_ (by omega) (by omega) ?_ (by omega)
      · intro e s m hd
        rw [F_lt (by omega), fb4]
        exact g
      · intro e
        refine ⟨s, m, hd, ?_⟩
        rw [F_lt (by omega), fb4]
        exact g
    · have e : ifV (t.so ∧ t.shell = 2) 1 = 2 := if_neg g
      rw [e]
      refine tells_of ⟨s, m, hd⟩ (by omega) ?_ ?_ (by omega) (by omega)
      · intro e s m hd
        rw [F_lt (by omega), fb4]
        exact g
      · intro e
        refine ⟨s, m, hd, ?_⟩
        rw [F_lt (by omega), fb4]
        exact g
  have rr : ∀ j, j < 5 → t.Tells (cell t.R j 0) j := by
    intro j hj
    rcases (show j = 0 ∨ j = 1 ∨ j = 2 ∨ j = 3 ∨ j = 4 by omega) with rfl | rfl | rfl | rfl | rfl <;> assumption
  intro k hk6
  by_cases h5 : k < 5
  · have e : cell (t.R ++ [[t.keep]]) k 0 = cell t.R k 0 := by
      rcases (show k = 0 ∨ k = 1 ∨ k = 2 ∨ k = 3 ∨ k = 4 by omega) with rfl | rfl | rfl | rfl | rfl <;> rfl
    rw [e]
    exact rr k h5
  · obtain rfl : k = 5 := by omega
    have e : cell (t.R ++ [[t.keep]]) 5 0 = t.keep := rfl
    rw [e, h.keep]
    clear e
    by_cases hs : ∃ j, j < 5 ∧ cell t.R j 0 = 1
    · obtain ⟨j, hj, hc⟩ := hs
      rw [kpV_one hj hc]
      have ha := (rr j hj).1.1 hc
      refine tells_of ht (by omega) ?_ ?_ (by omega) (by omega)
      · intro _ s m hd hF
        exact F_five.1 hF j hj ((F_lt hj).1 (ha s m hd))
      · intro _
        obtain ⟨s, m, hd⟩ := ht
        exact ⟨s, m, hd, fun hF => F_five.1 hF j hj ((F_lt hj).1 (ha s m hd))⟩
    · have hn : ∀ j, j < 5 → ¬ cell t.R j 0 = 1 := fun j hj hc => hs ⟨j, hj, hc⟩
      rw [kpV_none hn]
      have free : ∃ s m, t.did (t.b + 1) 0 s m ∧ t.F s m 5 := by
        have n0 := hn 0 (by omega)
        have n1 := hn 1 (by omega)
        have n2 := hn 2 (by omega)
        have n3 := hn 3 (by omega)
        have n4 := hn 4 (by omega)
        rw [c0] at n0
        rw [c1] at n1
        rw [c2] at n2
        rw [c3] at n3
        rw [c4] at n4
        have b0 : t.low ≤ t.b := by
          unfold insV at n0
          split at n0
          · omega
          · split at n0 <;> omega
        have b1 : t.a ≤ t.high := by
          unfold insV at n1
          split at n1
          · omega
          · split at n1 <;> omega
        have b2 : ¬ (t.eg ∧ t.eggs = 1) := fun ⟨x, y⟩ => n2 ((if_pos x).trans y)
        have b3 : ¬ (t.no ∧ t.notch = 1) := fun ⟨x, y⟩ => n3 ((if_pos x).trans y)
        have b4 : ¬ (t.so ∧ t.shell = 2) := fun x => n4 (if_pos x)
        obtain ⟨s, s1, s2, s3, s4⟩ : ∃ s, t.a ≤ s ∧ s ≤ t.b ∧ t.low ≤ s ∧ s ≤ t.high := by
          by_cases x : t.a ≤ t.low
          · exact ⟨t.low, by omega, by omega, by omega, by omega⟩
          · exact ⟨t.a, by omega, by omega, by omega, by omega⟩
        obtain ⟨m, hm, h6, h7⟩ := did_any (t := t) (s' := s) (E := t.eggs = 1) (N := t.notch = 1) s1 s2 (by omega) (by omega) (by omega) (by omega)
        refine ⟨s, m, hm, F_five.2 ?_⟩
        intro i hi
        rcases (show i = 0 ∨ i = 1 ∨ i = 2 ∨ i = 3 ∨ i = 4 by omega) with rfl | rfl | rfl | rfl | rfl
        · rw [fb0]; omega
        · rw [fb1]; omega
        · rw [fb2, h6]; exact b2
        · rw [fb3, h7]; exact b3
        · rw [fb4]; exact b4
      rcases kp_is t.R 5 with ⟨e, j, hj, hc⟩ | ⟨e, ho⟩
      · rw [e]
        have hr := rr j hj
        refine tells_of ht (by omega) (by omega) ?_ (fun _ => free) (by omega)
        intro _
        have : t.some (t.b + 1) 0 j := Classical.byContradiction fun x => by
          have := hr.2.1.2 x
          omega
        obtain ⟨s, m, hd, hf⟩ := this
        exact ⟨s, m, hd, fun hF => F_five.1 hF j hj ((F_lt hj).1 hf)⟩
      · rw [e]
        refine tells_of ht ?_ (by omega) (by omega) (fun _ => free) (by omega)
        intro _ s m hd
        refine F_five.2 fun j hj hf => ?_
        have hr := rr j hj
        have h2 : cell t.R j 0 = 2 := by
          have x1 := hn j hj
          have x3 : ¬ cell t.R j 0 = 3 := fun x => ho ⟨j, hj, x⟩
          have := hr.2.2
          omega
        exact hr.2.1.1 h2 ⟨s, m, hd, (F_lt hj).2 hf⟩
theorem plUpd {n k : Nat} {P : Nat → Prop} {x : Prop} : PlainE n (updL (El.fn fun i => [SV.p (P i)]) k 0 [SV.p x]) := fun i hi y hy => by
  have hy2 : y ∈ (if i = k then [SV.p (P i)].set 0 (SV.p x) else [SV.p (P i)]) := hy
  split at hy2
  · rcases List.mem_singleton.1 (show y ∈ [SV.p x] from hy2) with rfl
    trivial
  · rcases List.mem_singleton.1 hy2 with rfl
    trivial
theorem may_a {t : Tq} {s : Int} {m k : Nat} (h : ∀ i, i < k → ¬ t.fb s m i) : ¬ t.fb s m k ↔ ∀ i, i < k + 1 → ¬ t.fb s m i :=
  ⟨fun x => may_next.1 ⟨h, x⟩, fun x => (may_next.2 x).2⟩
theorem may_b {t : Tq} {s : Int} {m k : Nat} (h : ¬ ∀ i, i < k → ¬ t.fb s m i) : false = true ↔ ∀ i, i < k + 1 → ¬ t.fb s m i :=
  ⟨fun x => (by cases x), fun x => absurd (may_next.2 x).1 h⟩
theorem x_all {p f : Prop} (h : p) : f ↔ p ∧ f := ⟨fun x => ⟨h, x⟩, And.right⟩
theorem x_none {p f : Prop} (h : ¬ p) : false = true ↔ p ∧ f := ⟨fun x => (by cases x), fun x => absurd x.1 h⟩
theorem x_some {p f : Prop} (h : ¬ p) : f ↔ p ∨ f := ⟨.inr, fun x => x.resolve_left h⟩
theorem x_any {p f : Prop} (h : p) : true = true ↔ p ∨ f := ⟨fun _ => .inl h, fun _ => rfl⟩
theorem bits_in {m : Nat} (h : m < 4) : InR .i64 ((m : Int).tmod 2) ∧ InR .i64 ((m : Int) / 2) := by
  rcases (show m = 0 ∨ m = 1 ∨ m = 2 ∨ m = 3 by omega) with rfl | rfl | rfl | rfl <;> simp only [InR] <;> decide
theorem gErr_ga (a : Int) : gErr (gaLow a) (gaHi a) = 0 := by
  have h1 := gaLow_in a
  have h2 := gaC_is a
  have h3 := belowV_in (gaA2 a) (gaC a - gaLow a + 1)
  have h4 : gaLow a ≤ gaHi a ∧ gaHi a ≤ 2500 := by
    unfold gaHi
    omega
  unfold gErr spanErr inB
  rw [if_pos (by omega), if_neg (by omega)]
theorem rea_drawn (a q : Int) : reaErr (gaLow a) (gaHi a) (cgLo q) (cgHi q) (trSex q) (cgEg q) (cgNo q) (trSh q) = 0 := by
  unfold reaErr
  rw [if_pos (gErr_ga a)]
  exact cap_cg q
theorem lit6 {P : Nat → Prop} (h : ∀ i, i < 6 → ¬ P i) : 6 = 6 ∧ ∀ i, i < 6 → (litEl (symL (List.map SV.v (Value.agg #[Value.bool false, Value.bool false, Value.bool false, Value.bool false, Value.bool false, Value.bool false]).cells.toList)) 1 6).at i = (El.fn fun i => [SV.p (P i)]).at i := by
  refine ⟨rfl, fun i hi => ?_⟩
  have e : [SV.p (P i)] = [SV.p (false = true)] := by rw [propext (iff_false_intro (h i hi)), propext (iff_false_intro (show ¬ false = true by decide))]
  show _ = [SV.p (P i)]
  rw [e]
  rcases (show i = 0 ∨ i = 1 ∨ i = 2 ∨ i = 3 ∨ i = 4 ∨ i = 5 by omega) with rfl | rfl | rfl | rfl | rfl | rfl <;> rfl
theorem idx {k n : Nat} (h : k < n) : (0 : Int) ≤ (k : Int) ∧ k < n := ⟨by omega, h⟩
theorem inrK {k : Nat} (h : k ≤ 5000) : InR .i64 ((k : Int) + 1) := by
  simp only [InR]
  show (-9223372036854775808 : Int) ≤ (k : Int) + 1 ∧ (k : Int) + 1 ≤ 9223372036854775807
  omega
theorem inrZ {k : Int} (h : 0 ≤ k ∧ k ≤ 5000) : InR .i64 (k + 1) := by
  simp only [InR]
  show (-9223372036854775808 : Int) ≤ k + 1 ∧ k + 1 ≤ 9223372036854775807
  omega

noncomputable def F_law : LawF := ⟨6, [.one (.l [.i64])], fun l => match l with | [.l N] => N.length ≤ 9223372036854775807 | _ => False⟩
noncomputable def A_law : List SV → List Dat → Nat → List SV → Ann := fun xs ds n ts => match xs with
  | [.lst z _ _ _] => match ds with
    | [.l N] => match n with
      | 20 => (match lget ts 116 with | some (SV.raw _) => (match lget ts 14 with | some (SV.i _ r14) => (match lget ts 13 with | some (SV.i _ r13) => ⟨TqM, fun v => [none, none, some (.v (.bool false)), none, some (.ptr 1 0), some (.ptr 2 0), some (.gsl 3 5 1 true), none, some (.i .i64 v.t.keep), none, some (.ptr 4 0), some (.ptr 5 0), none, some (.i .i64 v.s), some (.i .i64 v.m), some (.ptr 6 0), none, none, none, none, none, none, none, none, none, none, none, none, none, none, none, none, none, none, none, none, none, none, none, none, none, none, none, none, none, none, none, none, none, none, none, none, none, none, none, none, none, none, none, none, none, none, none, none, none, none, none, none, none, none, none, none, none, none, none, none, none, none, none, none, none, none, none, none, none, none, none, none, none, none, none, none, none, none, none, none, none, none, none, none, none, none, none, none, none, none, none, none, none, none, none, none, none, none, none, none, none, none, none, none, none, none, none, none, none, none, none, none, none, none, none, none, none, none, none, none, none, none, none, none, none, none, none, none, none, none, none, none, none, none, none, none, none, none, none, none, none, none, none, none, none, none, none, none, none, none, none, none, none, none, none, none, none, none, none, none, none, none, none, none, none, none, none, none, none, none, none, none, none, none, none, none, none, none, none, none, none, none, none, none, none, none, none, none, none, none, none, none, none, none, none], fun v => [.cells [.i .i64 v.s, .i .i64 v.t.sex, .i .i64 v.t.shell, .p (eB v.m), .p (nB v.m)] .ex, .gr 6 1 (.fn fun i => [.p (v.t.some v.s v.m i)]) .ex false, .gr 6 1 (.fn fun i => [.p (v.t.all v.s v.m i)]) .ex false, .gr 5 1 (.fn (Rv.elemOf [.i64] v.t.R)) .gr true, .cells [.i .i64 v.t.a, .i .i64 v.t.b, .i .i64 v.t.sex, .i .i64 v.t.eggs, .i .i64 v.t.notch, .i .i64 v.t.shell] .ex, .cells [.i .i64 v.t.low, .i .i64 v.t.high, .p v.t.eg, .p v.t.no, .p v.t.so] .ex, .cells [.i .u64 v.t.q] .ex], fun v => (v.m < 4 ∧ v.s = r13 ∧ (v.m : Int) = r14) ∧ v.t.okB v.m ∧ v.t.Is ∧ v.t.a ≤ v.s ∧ v.s ≤ v.t.b, fun _ => 0, 1000000⟩ | _ => noAnn) | _ => noAnn) | _ => noAnn)
      | 9 => ⟨TqK, fun v => [none, none, some (SV.v (Value.bool false)), none, some (SV.ptr ((1 : Nat)) ((0 : Nat))), some (SV.ptr ((2 : Nat)) ((0 : Nat))), some (.gsl 3 5 1 true), none, some (.i .i64 v.t.keep), none, some (SV.ptr ((4 : Nat)) ((0 : Nat))), some (SV.ptr ((5 : Nat)) ((0 : Nat))), some (.i .i64 v.k), none, none, none, none, none, none, none, none, none, none, none, none, none, none, none, none, none, none, none, none, none, none, none, none, none, none, none, none, none, none, none, none, none, none, none, none, none, none, none, none, none, none, none, none, none, none, none, none, none, none, none, none, none, none, none, none, none, none, none, none, none, none, none, none, none, none, none, none, none, none, none, none, none, none, none, none, none, none, none, none, none, none, none, none, none, none, none, none, none, none, none, none, none, none, none, none, none, none, none, none, none, none, none, none, none, none, none, none, none, none, none, none, none, none, none, none, none, none, none, none, none, none, none, none, none, none, none, none, none, none, none, none, none, none, none, none, none, none, none, none, none, none, none, none, none, none, none, none, none, none, none, none, none, none, none, none, none, none, none, none, none, none, none, none, none, none, none, none, none, none, none, none, none, none, none, none, none, none, none, none, none, none, none, none, none, none, none, none, none, none, none, none, none, none, none, none, none, none], fun v => [.gr 6 1 (.fn fun i => [.p (False)]) .ex false, .gr 6 1 (.fn fun i => [.p (i < v.k)]) .ex false, .gr 5 1 (.fn (Rv.elemOf [.i64] v.t.R)) .gr true, .cells [.i .i64 v.t.a, .i .i64 v.t.b, .i .i64 v.t.sex, .i .i64 v.t.eggs, .i .i64 v.t.notch, .i .i64 v.t.shell] .ex, .cells [.i .i64 v.t.low, .i .i64 v.t.high, .p v.t.eg, .p v.t.no, .p v.t.so] .ex, .cells [.i .u64 v.t.q] .ex], fun v => v.k ≤ 6 ∧ v.t.Is, fun v => 6 - v.k, 0⟩
      | 13 => ⟨TqS, fun v => [none, none, some (SV.v (Value.bool false)), none, some (SV.ptr ((1 : Nat)) ((0 : Nat))), some (SV.ptr ((2 : Nat)) ((0 : Nat))), some (.gsl 3 5 1 true), none, some (.i .i64 v.t.keep), none, some (SV.ptr ((4 : Nat)) ((0 : Nat))), some (SV.ptr ((5 : Nat)) ((0 : Nat))), none, some (.i .i64 v.s), none, none, none, none, none, none, none, none, none, none, none, none, none, none, none, none, none, none, none, none, none, none, none, none, none, none, none, none, none, none, none, none, none, none, none, none, none, none, none, none, none, none, none, none, none, none, none, none, none, none, none, none, none, none, none, none, none, none, none, none, none, none, none, none, none, none, none, none, none, none, none, none, none, none, none, none, none, none, none, none, none, none, none, none, none, none, none, none, none, none, none, none, none, none, none, none, none, none, none, none, none, none, none, none, none, none, none, none, none, none, none, none, none, none, none, none, none, none, none, none, none, none, none, none, none, none, none, none, none, none, none, none, none, none, none, none, none, none, none, none, none, none, none, none, none, none, none, none, none, none, none, none, none, none, none, none, none, none, none, none, none, none, none, none, none, none, none, none, none, none, none, none, none, none, none, none, none, none, none, none, none, none, none, none, none, none, none, none, none, none, none, none, none, none, none, none, none], fun v => [.gr 6 1 (.fn fun i => [.p (v.t.some v.s 0 i)]) .ex false, .gr 6 1 (.fn fun i => [.p (v.t.all v.s 0 i)]) .ex false, .gr 5 1 (.fn (Rv.elemOf [.i64] v.t.R)) .gr true, .cells [.i .i64 v.t.a, .i .i64 v.t.b, .i .i64 v.t.sex, .i .i64 v.t.eggs, .i .i64 v.t.notch, .i .i64 v.t.shell] .ex, .cells [.i .i64 v.t.low, .i .i64 v.t.high, .p v.t.eg, .p v.t.no, .p v.t.so] .ex, .cells [.i .u64 v.t.q] .ex], fun v => v.t.Is ∧ v.t.a ≤ v.s ∧ v.s ≤ v.t.b + 1, fun v => (2501 - v.s).toNat, 0⟩
      | 16 => (match lget ts 13 with | some (SV.i _ r13) => ⟨TqM, fun v => [none, none, some (SV.v (Value.bool false)), none, some (SV.ptr ((1 : Nat)) ((0 : Nat))), some (SV.ptr ((2 : Nat)) ((0 : Nat))), some (.gsl 3 5 1 true), none, some (.i .i64 v.t.keep), none, some (SV.ptr ((4 : Nat)) ((0 : Nat))), some (SV.ptr ((5 : Nat)) ((0 : Nat))), none, some (SV.i .i64 r13), some (.i .i64 v.m), none, none, none, none, none, none, none, none, none, none, none, none, none, none, none, none, none, none, none, none, none, none, none, none, none, none, none, none, none, none, none, none, none, none, none, none, none, none, none, none, none, none, none, none, none, none, none, none, none, none, none, none, none, none, none, none, none, none, none, none, none, none, none, none, none, none, none, none, none, none, none, none, none, none, none, none, none, none, none, none, none, none, none, none, none, none, none, none, none, none, none, none, none, none, none, none, none, none, none, none, none, none, none, none, none, none, none, none, none, none, none, none, none, none, none, none, none, none, none, none, none, none, none, none, none, none, none, none, none, none, none, none, none, none, none, none, none, none, none, none, none, none, none, none, none, none, none, none, none, none, none, none, none, none, none, none, none, none, none, none, none, none, none, none, none, none, none, none, none, none, none, none, none, none, none, none, none, none, none, none, none, none, none, none, none, none, none, none, none, none, none, none, none, none, none, none], fun v => [.gr 6 1 (.fn fun i => [.p (v.t.some v.s v.m i)]) .ex false, .gr 6 1 (.fn fun i => [.p (v.t.all v.s v.m i)]) .ex false, .gr 5 1 (.fn (Rv.elemOf [.i64] v.t.R)) .gr true, .cells [.i .i64 v.t.a, .i .i64 v.t.b, .i .i64 v.t.sex, .i .i64 v.t.eggs, .i .i64 v.t.notch, .i .i64 v.t.shell] .ex, .cells [.i .i64 v.t.low, .i .i64 v.t.high, .p v.t.eg, .p v.t.no, .p v.t.so] .ex, .cells [.i .u64 v.t.q] .ex], fun v => v.m ≤ 4 ∧ v.s = r13 ∧ v.t.Is ∧ v.t.a ≤ v.s ∧ v.s ≤ v.t.b, fun v => 4 - v.m, 0⟩ | _ => noAnn)
      | 23 => (match lget ts 14 with | some (SV.i _ r14) => (match lget ts 13 with | some (SV.i _ r13) => ⟨TqF, fun v => [none, none, some (SV.v (Value.bool false)), none, some (SV.ptr ((1 : Nat)) ((0 : Nat))), some (SV.ptr ((2 : Nat)) ((0 : Nat))), some (.gsl 3 5 1 true), none, some (.i .i64 v.t.keep), none, some (SV.ptr ((4 : Nat)) ((0 : Nat))), some (SV.ptr ((5 : Nat)) ((0 : Nat))), none, some (SV.i .i64 r13), some (SV.i .i64 r14), none, some (.gsl 7 5 1 false), some (.p (∀ i, i < v.k → ¬ v.t.fb v.s v.m i)), some (.i .i64 v.k), none, none, none, none, none, none, none, none, none, none, none, none, none, none, none, none, none, none, none, none, none, none, none, none, none, none, none, none, none, none, none, none, none, none, none, none, none, none, none, none, none, none, none, none, none, none, none, none, none, none, none, none, none, none, none, none, none, none, none, none, none, none, none, none, none, none, none, none, none, none, none, none, none, none, none, none, none, none, none, none, none, none, none, none, none, none, none, none, none, none, none, none, none, none, none, none, none, none, none, none, none, none, none, none, none, none, none, none, none, none, none, none, none, none, none, none, none, none, none, none, none, none, none, none, none, none, none, none, none, none, none, none, none, none, none, none, none, none, none, none, none, none, none, none, none, none, none, none, none, none, none, none, none, none, none, none, none, none, none, none, none, none, none, none, none, none, none, none, none, none, none, none, none, none, none, none, none, none, none, none, none, none, none, none, none, none, none, none, none, none, none, none], fun v => [.gr 5 1 (.fn fun i => [.p (v.t.fb v.s v.m i)]) .gr false, .dead, .gr 6 1 (.fn fun i => [.p (v.t.someK v.s v.m v.k i)]) .ex false, .gr 6 1 (.fn fun i => [.p (v.t.allK v.s v.m v.k i)]) .ex false, .gr 5 1 (.fn (Rv.elemOf [.i64] v.t.R)) .gr true, .cells [.i .i64 v.t.a, .i .i64 v.t.b, .i .i64 v.t.sex, .i .i64 v.t.eggs, .i .i64 v.t.notch, .i .i64 v.t.shell] .ex, .cells [.i .i64 v.t.low, .i .i64 v.t.high, .p v.t.eg, .p v.t.no, .p v.t.so] .ex, .cells [.i .u64 v.t.q] .ex], fun v => (v.k ≤ 5 ∧ v.s = r13 ∧ (v.m : Int) = r14 ∧ v.m < 4) ∧ v.t.okB v.m ∧ v.t.Is ∧ v.t.a ≤ v.s ∧ v.s ≤ v.t.b, fun v => 5 - v.k, 0⟩ | _ => noAnn) | _ => noAnn)
      | 29 => ⟨TqK, fun v => [none, none, none, none, none, none, some (.gsl 8 6 1 false), none, none, none, some (SV.ptr ((4 : Nat)) ((0 : Nat))), some (SV.ptr ((5 : Nat)) ((0 : Nat))), none, none, none, none, none, none, none, some (.i .i64 v.k), none, none, none, none, none, none, none, none, none, none, none, none, none, none, none, none, none, none, none, none, none, none, none, none, none, none, none, none, none, none, none, none, none, none, none, none, none, none, none, none, none, none, none, none, none, none, none, none, none, none, none, none, none, none, none, none, none, none, none, none, none, none, none, none, none, none, none, none, none, none, none, none, none, none, none, none, none, none, none, none, none, none, none, none, none, none, none, none, none, none, none, none, none, none, none, none, none, none, none, none, none, none, none, none, none, none, none, none, none, none, none, none, none, none, none, none, none, none, none, none, none, none, none, none, none, none, none, none, none, none, none, none, none, none, none, none, none, none, none, none, none, none, none, none, none, none, none, none, none, none, none, none, none, none, none, none, none, none, none, none, none, none, none, none, none, none, none, none, none, none, none, none, none, none, none, none, none, none, none, none, none, none, none, none, none, none, none, none, none, none, none], fun v => [.gr 6 1 (.fn (Rv.elemOf [.i64] (v.t.R ++ [[v.t.keep]]))) .gr false, .dead, .dead, .gr 6 1 (.fn fun i => [.p (v.t.some (v.t.b + 1) 0 i)]) .ex false, .gr 6 1 (.fn fun i => [.p (v.t.all (v.t.b + 1) 0 i)]) .ex false, .gr 5 1 (.fn (Rv.elemOf [.i64] v.t.R)) .gr true, .cells [.i .i64 v.t.a, .i .i64 v.t.b, .i .i64 v.t.sex, .i .i64 v.t.eggs, .i .i64 v.t.notch, .i .i64 v.t.shell] .ex, .cells [.i .i64 v.t.low, .i .i64 v.t.high, .p v.t.eg, .p v.t.no, .p v.t.so] .ex, .cells [.i .u64 v.t.q] .ex], fun v => v.k ≤ 6 ∧ v.t.Is, fun v => 6 - v.k, 0⟩
      | _ => noAnn
    | _ => noAnn
  | _ => noAnn

set_option maxRecDepth 10000 in
def V_law : Prop :=
  ∀ (B : RW), hasTabs tab1 B → ∀ (x : RV) (rows : List (List Int)), IsLst B x rows.length ((1 : Nat)) (Rv.elemOf [IntKind.i64] rows) → oneB x = true → (∀ (row : List Int), row ∈ rows → row.length = (1 : Nat)) → rows.length
  ≤ (9223372036854775807 : Nat) → ∃ (rows_1 : List (List Int)), Ob (IsLst B x rows.length ((1 : Nat)) (Rv.elemOf [IntKind.i64] rows) ∧ rows_1.length = rows.length ∧ (∀ (r : List Int), r ∈ rows_1 → r.length = (1 : Nat)) ∧ ∀
  (i : Nat), i < rows.length → Rv.elemOf [IntKind.i64] rows i = Rv.elemOf [IntKind.i64] rows_1 i) ∧ Ob (F_TideOf.named.pre [Dat.l rows_1]) ∧ Ob (F_GaugeOf.named.pre ([Dat.z (tideK rows_1 rows_1.length)] ++ [])) ∧ ∀ (v :
  Int), v = gaQ (tideK rows_1 rows_1.length) → ∀ (v_1 : Int), v_1 = gaLow (tideK rows_1 rows_1.length) → ∀ (v_2 : Int), v_2 = gaHi (tideK rows_1 rows_1.length) → Ob (F_CaughtOf.named.pre ([Dat.z v] ++ [])) ∧ ∀ (v_3 : Int),
  v_3 = cgQ v → ∀ (v_4 : Int), v_4 = cgLo v → ∀ (v_5 : Int), v_5 = cgHi v → ∀ (v_6 : Int), v_6 = trSex v → ∀ (v_7 : Int), v_7 = cgEg v → ∀ (v_8 : Int), v_8 = cgNo v → ∀ (v_9 : Int), v_9 = trSh v → Ob (F_Reasons.named.pre
  ([Dat.z v_1, Dat.z v_2, Dat.p (gaEg (tideK rows_1 rows_1.length)), Dat.p (gaNo (tideK rows_1 rows_1.length)), Dat.p (gaSo (tideK rows_1 rows_1.length))] ++ ([Dat.z v_4, Dat.z v_5, Dat.z v_6, Dat.z v_7, Dat.z v_8, Dat.z
  v_9] ++ []))) ∧ ∀ (v_10 : Int), v_10 = reaErr v_1 v_2 v_4 v_5 v_6 v_7 v_8 v_9 → Ob (F_Keep.named.pre ([Dat.z v_1, Dat.z v_2, Dat.p (gaEg (tideK rows_1 rows_1.length)), Dat.p (gaNo (tideK rows_1 rows_1.length)), Dat.p
  (gaSo (tideK rows_1 rows_1.length))] ++ ([Dat.z v_4, Dat.z v_5, Dat.z v_6, Dat.z v_7, Dat.z v_8, Dat.z v_9] ++ []))) ∧ ∀ (v_11 : Int), v_11 = keepV v_1 v_2 (gaEg (tideK rows_1 rows_1.length)) (gaNo (tideK rows_1
  rows_1.length)) (gaSo (tideK rows_1 rows_1.length)) v_4 v_5 v_6 v_7 v_8 v_9 → ∀ (v_12 : Int), v_12 = reaErr v_1 v_2 v_4 v_5 v_6 v_7 v_8 v_9 → (¬¬v_10 = (0 : Int) → (¬¬v_12 = (0 : Int) → (¬(↑(reaN v_1 v_2 v_4 v_5 v_6 v_7
  v_8 v_9) : Int) = (5 : Int) → False) ∧ (¬¬(↑(reaN v_1 v_2 v_4 v_5 v_6 v_7 v_8 v_9) : Int) = (5 : Int) → (∃ (a : TqK), Ob (a.k ≤ (6 : Nat) ∧ a.t.Is) ∧ Ob (SV.v (Value.bool false) = SV.v (Value.bool false)) ∧ Ob (reaN v_1
  v_2 v_4 v_5 v_6 v_7 v_8 v_9 = (5 : Nat)) ∧ Ob (v_11 = a.t.keep) ∧ Ob ((0 : Int) = (↑a.k : Int)) ∧ Ob (nat_lit 6 = nat_lit 6 ∧ ∀ (i : Nat), i < nat_lit 6 → (litEl (symL (List.map SV.v (Value.agg #[Value.bool false,
  Value.bool false, Value.bool false, Value.bool false, Value.bool false, Value.bool false]).cells.toList)) (nat_lit 1) (nat_lit 6)).at i = (El.fn fun (i : Nat) ↦ [SV.p False]).at i) ∧ Ob (nat_lit 6 = nat_lit 6 ∧ ∀ (i :
  Nat), i < nat_lit 6 → (litEl (symL (List.map SV.v (Value.agg #[Value.bool false, Value.bool false, Value.bool false, Value.bool false, Value.bool false, Value.bool false]).cells.toList)) (nat_lit 1) (nat_lit 6)).at i =
  (El.fn fun (i : Nat) ↦ [SV.p (i < a.k)]).at i) ∧ Ob (reaN v_1 v_2 v_4 v_5 v_6 v_7 v_8 v_9 = nat_lit 5 ∧ ∀ (i : Nat), i < nat_lit 5 → (El.fn (Rv.elemOf [IntKind.i64] (reaR v_1 v_2 (gaEg (tideK rows_1 rows_1.length)) (gaNo
  (tideK rows_1 rows_1.length)) (gaSo (tideK rows_1 rows_1.length)) v_4 v_5 v_7 v_8 v_9))).at i = (El.fn (Rv.elemOf [IntKind.i64] a.t.R)).at i) ∧ Ob (v_4 = a.t.a) ∧ Ob (v_5 = a.t.b) ∧ Ob (v_6 = a.t.sex) ∧ Ob (v_7 =
  a.t.eggs) ∧ Ob (v_8 = a.t.notch) ∧ Ob (v_9 = a.t.shell) ∧ Ob (v_1 = a.t.low) ∧ Ob (v_2 = a.t.high) ∧ Ob (gaEg (tideK rows_1 rows_1.length) ↔ a.t.eg) ∧ Ob (gaNo (tideK rows_1 rows_1.length) ↔ a.t.no) ∧ Ob (gaSo (tideK
  rows_1 rows_1.length) ↔ a.t.so) ∧ Ob (v_3 = a.t.q) ∧ Ob (PlainE (nat_lit 6) (El.fn fun (i : Nat) ↦ [SV.p False])) ∧ Ob (PlainE (nat_lit 6) (El.fn fun (i : Nat) ↦ [SV.p (i < a.k)])) ∧ Ob (PlainE (nat_lit 5) (El.fn
  (Rv.elemOf [IntKind.i64] a.t.R))) ∧ True) ∧ ∀ (a : TqK), a.k ≤ (6 : Nat) ∧ a.t.Is → ∀ (z z_1 z_2 z_3 z_4 z_5 z_6 z_7 z_8 z_9 z_10 z_11 z_12 z_13 z_14 z_15 z_16 z_17 z_18 z_19 z_20 z_21 z_22 z_23 z_24 z_25 z_26 z_27 z_28
  z_29 z_30 z_31 z_32 z_33 z_34 z_35 z_36 z_37 z_38 z_39 z_40 z_41 z_42 z_43 z_44 z_45 z_46 z_47 z_48 z_49 z_50 z_51 z_52 z_53 z_54 z_55 z_56 z_57 z_58 z_59 z_60 z_61 z_62 z_63 z_64 z_65 z_66 z_67 z_68 z_69 z_70 z_71 z_72
  z_73 z_74 z_75 z_76 z_77 z_78 z_79 z_80 z_81 z_82 z_83 z_84 z_85 z_86 z_87 z_88 z_89 z_90 z_91 z_92 z_93 z_94 z_95 z_96 z_97 z_98 z_99 z_100 z_101 z_102 z_103 z_104 z_105 z_106 z_107 z_108 z_109 z_110 z_111 z_112 z_113
  z_114 z_115 z_116 z_117 z_118 z_119 z_120 z_121 z_122 z_123 z_124 z_125 z_126 z_127 z_128 z_129 z_130 z_131 z_132 z_133 z_134 z_135 z_136 z_137 z_138 z_139 z_140 z_141 z_142 z_143 z_144 z_145 z_146 z_147 z_148 z_149
  z_150 z_151 z_152 z_153 z_154 z_155 z_156 z_157 z_158 z_159 z_160 z_161 z_162 z_163 z_164 z_165 z_166 z_167 z_168 z_169 z_170 z_171 z_172 z_173 z_174 z_175 z_176 z_177 z_178 z_179 z_180 z_181 z_182 z_183 z_184 z_185
  z_186 z_187 z_188 z_189 z_190 z_191 z_192 z_193 z_194 z_195 z_196 z_197 z_198 z_199 z_200 z_201 z_202 : Value), ((↑a.k : Int) < (6 : Int) → Ob ((0 : Int) ≤ (↑a.k : Int) ∧ a.k < nat_lit 6) ∧ Ob (a.k < nat_lit 6 ∧ ((El.fn
  fun (i : Nat) ↦ [SV.p (i < a.k)]).at a.k).length = nat_lit 1) ∧ Ob (InR IntKind.i64 ((↑a.k : Int) + (1 : Int))) ∧ ∃ (a' : TqK), Ob ((a'.k ≤ nat_lit 6 ∧ a'.t.Is) ∧ nat_lit 6 - a'.k < nat_lit 6 - a.k) ∧ Ob (SV.v
  (Value.bool false) = SV.v (Value.bool false)) ∧ Ob (nat_lit 5 = nat_lit 5) ∧ Ob (a.t.keep = a'.t.keep) ∧ Ob ((↑a.k : Int) + (1 : Int) = (↑a'.k : Int)) ∧ Ob (nat_lit 6 = nat_lit 6 ∧ ∀ (i : Nat), i < nat_lit 6 → (El.fn fun
  (i : Nat) ↦ [SV.p False]).at i = (El.fn fun (i : Nat) ↦ [SV.p False]).at i) ∧ Ob (nat_lit 6 = nat_lit 6 ∧ ∀ (i : Nat), i < nat_lit 6 → (updL (El.fn fun (i : Nat) ↦ [SV.p (i < a.k)]) a.k (nat_lit 0) [SV.p (true =
  true)]).at i = (El.fn fun (i : Nat) ↦ [SV.p (i < a'.k)]).at i) ∧ Ob (nat_lit 5 = nat_lit 5 ∧ ∀ (i : Nat), i < nat_lit 5 → (El.fn (Rv.elemOf [IntKind.i64] a.t.R)).at i = (El.fn (Rv.elemOf [IntKind.i64] a'.t.R)).at i) ∧ Ob
  (a.t.a = a'.t.a) ∧ Ob (a.t.b = a'.t.b) ∧ Ob (a.t.sex = a'.t.sex) ∧ Ob (a.t.eggs = a'.t.eggs) ∧ Ob (a.t.notch = a'.t.notch) ∧ Ob (a.t.shell = a'.t.shell) ∧ Ob (a.t.low = a'.t.low) ∧ Ob (a.t.high = a'.t.high) ∧ Ob (a.t.eg
  ↔ a'.t.eg) ∧ Ob (a.t.no ↔ a'.t.no) ∧ Ob (a.t.so ↔ a'.t.so) ∧ Ob (a.t.q = a'.t.q) ∧ Ob (PlainE (nat_lit 6) (El.fn fun (i : Nat) ↦ [SV.p False])) ∧ Ob (PlainE (nat_lit 6) (El.fn fun (i : Nat) ↦ [SV.p (i < a'.k)])) ∧ Ob
  (PlainE (nat_lit 5) (El.fn (Rv.elemOf [IntKind.i64] a'.t.R))) ∧ True) ∧ (¬(↑a.k : Int) < (6 : Int) → (∃ (a_1 : TqS), Ob (a_1.t.Is ∧ a_1.t.a ≤ a_1.s ∧ a_1.s ≤ a_1.t.b + (1 : Int)) ∧ Ob (SV.v (Value.bool false) = SV.v
  (Value.bool false)) ∧ Ob (nat_lit 5 = nat_lit 5) ∧ Ob (a.t.keep = a_1.t.keep) ∧ Ob (a.t.a = a_1.s) ∧ Ob (nat_lit 6 = nat_lit 6 ∧ ∀ (i : Nat), i < nat_lit 6 → (El.fn fun (i : Nat) ↦ [SV.p False]).at i = (El.fn fun (i :
  Nat) ↦ [SV.p (a_1.t.some a_1.s (nat_lit 0) i)]).at i) ∧ Ob (nat_lit 6 = nat_lit 6 ∧ ∀ (i : Nat), i < nat_lit 6 → (El.fn fun (i : Nat) ↦ [SV.p (i < a.k)]).at i = (El.fn fun (i : Nat) ↦ [SV.p (a_1.t.all a_1.s (nat_lit 0)
  i)]).at i) ∧ Ob (nat_lit 5 = nat_lit 5 ∧ ∀ (i : Nat), i < nat_lit 5 → (El.fn (Rv.elemOf [IntKind.i64] a.t.R)).at i = (El.fn (Rv.elemOf [IntKind.i64] a_1.t.R)).at i) ∧ Ob (a.t.a = a_1.t.a) ∧ Ob (a.t.b = a_1.t.b) ∧ Ob
  (a.t.sex = a_1.t.sex) ∧ Ob (a.t.eggs = a_1.t.eggs) ∧ Ob (a.t.notch = a_1.t.notch) ∧ Ob (a.t.shell = a_1.t.shell) ∧ Ob (a.t.low = a_1.t.low) ∧ Ob (a.t.high = a_1.t.high) ∧ Ob (a.t.eg ↔ a_1.t.eg) ∧ Ob (a.t.no ↔ a_1.t.no) ∧
  Ob (a.t.so ↔ a_1.t.so) ∧ Ob (a.t.q = a_1.t.q) ∧ Ob (PlainE (nat_lit 6) (El.fn fun (i : Nat) ↦ [SV.p (a_1.t.some a_1.s (nat_lit 0) i)])) ∧ Ob (PlainE (nat_lit 6) (El.fn fun (i : Nat) ↦ [SV.p (a_1.t.all a_1.s (nat_lit 0)
  i)])) ∧ Ob (PlainE (nat_lit 5) (El.fn (Rv.elemOf [IntKind.i64] a_1.t.R))) ∧ True) ∧ ∀ (a_1 : TqS), a_1.t.Is ∧ a_1.t.a ≤ a_1.s ∧ a_1.s ≤ a_1.t.b + (1 : Int) → ∀ (z_203 z_204 z_205 z_206 z_207 z_208 z_209 z_210 z_211 z_212
  z_213 z_214 z_215 z_216 z_217 z_218 z_219 z_220 z_221 z_222 z_223 z_224 z_225 z_226 z_227 z_228 z_229 z_230 z_231 z_232 z_233 z_234 z_235 z_236 z_237 z_238 z_239 z_240 z_241 z_242 z_243 z_244 z_245 z_246 z_247 z_248
  z_249 z_250 z_251 z_252 z_253 z_254 z_255 z_256 z_257 z_258 z_259 z_260 z_261 z_262 z_263 z_264 z_265 z_266 z_267 z_268 z_269 z_270 z_271 z_272 z_273 z_274 z_275 z_276 z_277 z_278 z_279 z_280 z_281 z_282 z_283 z_284
  z_285 z_286 z_287 z_288 z_289 z_290 z_291 z_292 z_293 z_294 z_295 z_296 z_297 z_298 z_299 z_300 z_301 z_302 z_303 z_304 z_305 z_306 z_307 z_308 z_309 z_310 z_311 z_312 z_313 z_314 z_315 z_316 z_317 z_318 z_319 z_320
  z_321 z_322 z_323 z_324 z_325 z_326 z_327 z_328 z_329 z_330 z_331 z_332 z_333 z_334 z_335 z_336 z_337 z_338 z_339 z_340 z_341 z_342 z_343 z_344 z_345 z_346 z_347 z_348 z_349 z_350 z_351 z_352 z_353 z_354 z_355 z_356
  z_357 z_358 z_359 z_360 z_361 z_362 z_363 z_364 z_365 z_366 z_367 z_368 z_369 z_370 z_371 z_372 z_373 z_374 z_375 z_376 z_377 z_378 z_379 z_380 z_381 z_382 z_383 z_384 z_385 z_386 z_387 z_388 z_389 z_390 z_391 z_392
  z_393 z_394 z_395 z_396 z_397 z_398 z_399 z_400 z_401 z_402 z_403 z_404 z_405 : Value), (a_1.s ≤ a_1.t.b → (∃ (a_2 : TqM), Ob (a_2.m ≤ nat_lit 4 ∧ a_2.s = a_1.s ∧ a_2.t.Is ∧ a_2.t.a ≤ a_2.s ∧ a_2.s ≤ a_2.t.b) ∧ Ob (SV.v
  (Value.bool false) = SV.v (Value.bool false)) ∧ Ob (nat_lit 5 = nat_lit 5) ∧ Ob (a_1.t.keep = a_2.t.keep) ∧ Ob (a_1.s = a_1.s) ∧ Ob ((0 : Int) = (↑a_2.m : Int)) ∧ Ob (nat_lit 6 = nat_lit 6 ∧ ∀ (i : Nat), i < nat_lit 6 →
  (El.fn fun (i : Nat) ↦ [SV.p (a_1.t.some a_1.s (nat_lit 0) i)]).at i = (El.fn fun (i : Nat) ↦ [SV.p (a_2.t.some a_2.s a_2.m i)]).at i) ∧ Ob (nat_lit 6 = nat_lit 6 ∧ ∀ (i : Nat), i < nat_lit 6 → (El.fn fun (i : Nat) ↦
  [SV.p (a_1.t.all a_1.s (nat_lit 0) i)]).at i = (El.fn fun (i : Nat) ↦ [SV.p (a_2.t.all a_2.s a_2.m i)]).at i) ∧ Ob (nat_lit 5 = nat_lit 5 ∧ ∀ (i : Nat), i < nat_lit 5 → (El.fn (Rv.elemOf [IntKind.i64] a_1.t.R)).at i =
  (El.fn (Rv.elemOf [IntKind.i64] a_2.t.R)).at i) ∧ Ob (a_1.t.a = a_2.t.a) ∧ Ob (a_1.t.b = a_2.t.b) ∧ Ob (a_1.t.sex = a_2.t.sex) ∧ Ob (a_1.t.eggs = a_2.t.eggs) ∧ Ob (a_1.t.notch = a_2.t.notch) ∧ Ob (a_1.t.shell =
  a_2.t.shell) ∧ Ob (a_1.t.low = a_2.t.low) ∧ Ob (a_1.t.high = a_2.t.high) ∧ Ob (a_1.t.eg ↔ a_2.t.eg) ∧ Ob (a_1.t.no ↔ a_2.t.no) ∧ Ob (a_1.t.so ↔ a_2.t.so) ∧ Ob (a_1.t.q = a_2.t.q) ∧ Ob (PlainE (nat_lit 6) (El.fn fun (i :
  Nat) ↦ [SV.p (a_2.t.some a_2.s a_2.m i)])) ∧ Ob (PlainE (nat_lit 6) (El.fn fun (i : Nat) ↦ [SV.p (a_2.t.all a_2.s a_2.m i)])) ∧ Ob (PlainE (nat_lit 5) (El.fn (Rv.elemOf [IntKind.i64] a_2.t.R))) ∧ True) ∧ ∀ (a_2 : TqM),
  a_2.m ≤ nat_lit 4 ∧ a_2.s = a_1.s ∧ a_2.t.Is ∧ a_2.t.a ≤ a_2.s ∧ a_2.s ≤ a_2.t.b → ∀ (z_406 z_407 z_408 z_409 z_410 z_411 z_412 z_413 z_414 z_415 z_416 z_417 z_418 z_419 z_420 z_421 z_422 z_423 z_424 z_425 z_426 z_427
  z_428 z_429 z_430 z_431 z_432 z_433 z_434 z_435 z_436 z_437 z_438 z_439 z_440 z_441 z_442 z_443 z_444 z_445 z_446 z_447 z_448 z_449 z_450 z_451 z_452 z_453 z_454 z_455 z_456 z_457 z_458 z_459 z_460 z_461 z_462 z_463
  z_464 z_465 z_466 z_467 z_468 z_469 z_470 z_471 z_472 z_473 z_474 z_475 z_476 z_477 z_478 z_479 z_480 z_481 z_482 z_483 z_484 z_485 z_486 z_487 z_488 z_489 z_490 z_491 z_492 z_493 z_494 z_495 z_496 z_497 z_498 z_499
  z_500 z_501 z_502 z_503 z_504 z_505 z_506 z_507 z_508 z_509 z_510 z_511 z_512 z_513 z_514 z_515 z_516 z_517 z_518 z_519 z_520 z_521 z_522 z_523 z_524 z_525 z_526 z_527 z_528 z_529 z_530 z_531 z_532 z_533 z_534 z_535
  z_536 z_537 z_538 z_539 z_540 z_541 z_542 z_543 z_544 z_545 z_546 z_547 z_548 z_549 z_550 z_551 z_552 z_553 z_554 z_555 z_556 z_557 z_558 z_559 z_560 z_561 z_562 z_563 z_564 z_565 z_566 z_567 z_568 z_569 z_570 z_571
  z_572 z_573 z_574 z_575 z_576 z_577 z_578 z_579 z_580 z_581 z_582 z_583 z_584 z_585 z_586 z_587 z_588 z_589 z_590 z_591 z_592 z_593 z_594 z_595 z_596 z_597 z_598 z_599 z_600 z_601 z_602 z_603 z_604 z_605 z_606 z_607 :
  Value), ((↑a_2.m : Int) < (4 : Int) → Ob ((0 : Int) < (2 : Int) ∧ InR IntKind.i64 ((↑a_2.m : Int).tmod (2 : Int))) ∧ Ob ((0 : Int) ≤ (↑a_2.m : Int) ∧ (0 : Int) < (2 : Int) ∧ InR IntKind.i64 ((↑a_2.m : Int) / (2 : Int)))
  ∧ ((a_2.t.eggs = (1 : Int) → (¬¬(↑a_2.m : Int).tmod (2 : Int) = (1 : Int) → (a_2.t.eggs = (2 : Int) → (¬(↑a_2.m : Int).tmod (2 : Int) = (1 : Int) → (a_2.t.notch = (1 : Int) → (¬¬(↑a_2.m : Int) / (2 : Int) = (1 : Int) →
  (a_2.t.notch = (2 : Int) → ((↑a_2.m : Int) / (2 : Int) = (1 : Int) → Ob (InR IntKind.i64 ((↑a_2.m : Int) + (1 : Int))) ∧ ∃ (a' : TqM), Ob ((a'.m ≤ nat_lit 4 ∧ a'.s = a_1.s ∧ a'.t.Is ∧ a'.t.a ≤ a'.s ∧ a'.s ≤ a'.t.b) ∧
  nat_lit 4 - a'.m < nat_lit 4 - a_2.m) ∧ Ob (SV.v (Value.bool false) = SV.v (Value.bool false)) ∧ Ob (nat_lit 5 = nat_lit 5) ∧ Ob (a_2.t.keep = a'.t.keep) ∧ Ob (a_1.s = a_1.s) ∧ Ob ((↑a_2.m : Int) + (1 : Int) = (↑a'.m :
  Int)) ∧ Ob (nat_lit 6 = nat_lit 6 ∧ ∀ (i : Nat), i < nat_lit 6 → (El.fn fun (i : Nat) ↦ [SV.p (a_2.t.some a_2.s a_2.m i)]).at i = (El.fn fun (i : Nat) ↦ [SV.p (a'.t.some a'.s a'.m i)]).at i) ∧ Ob (nat_lit 6 = nat_lit 6 ∧
  ∀ (i : Nat), i < nat_lit 6 → (El.fn fun (i : Nat) ↦ [SV.p (a_2.t.all a_2.s a_2.m i)]).at i = (El.fn fun (i : Nat) ↦ [SV.p (a'.t.all a'.s a'.m i)]).at i) ∧ Ob (nat_lit 5 = nat_lit 5 ∧ ∀ (i : Nat), i < nat_lit 5 → (El.fn
  (Rv.elemOf [IntKind.i64] a_2.t.R)).at i = (El.fn (Rv.elemOf [IntKind.i64] a'.t.R)).at i) ∧ Ob (a_2.t.a = a'.t.a) ∧ Ob (a_2.t.b = a'.t.b) ∧ Ob (a_2.t.sex = a'.t.sex) ∧ Ob (a_2.t.eggs = a'.t.eggs) ∧ Ob (a_2.t.notch =
  a'.t.notch) ∧ Ob (a_2.t.shell = a'.t.shell) ∧ Ob (a_2.t.low = a'.t.low) ∧ Ob (a_2.t.high = a'.t.high) ∧ Ob (a_2.t.eg ↔ a'.t.eg) ∧ Ob (a_2.t.no ↔ a'.t.no) ∧ Ob (a_2.t.so ↔ a'.t.so) ∧ Ob (a_2.t.q = a'.t.q) ∧ Ob (PlainE
  (nat_lit 6) (El.fn fun (i : Nat) ↦ [SV.p (a'.t.some a'.s a'.m i)])) ∧ Ob (PlainE (nat_lit 6) (El.fn fun (i : Nat) ↦ [SV.p (a'.t.all a'.s a'.m i)])) ∧ Ob (PlainE (nat_lit 5) (El.fn (Rv.elemOf [IntKind.i64] a'.t.R))) ∧
  True) ∧ (¬(↑a_2.m : Int) / (2 : Int) = (1 : Int) → ∃ (a_3 : TqM), Ob ((a_3.m < nat_lit 4 ∧ a_3.s = a_1.s ∧ (↑a_3.m : Int) = (↑a_2.m : Int)) ∧ a_3.t.okB a_3.m ∧ a_3.t.Is ∧ a_3.t.a ≤ a_3.s ∧ a_3.s ≤ a_3.t.b) ∧ Ob (SV.v
  (Value.bool false) = SV.v (Value.bool false)) ∧ Ob (nat_lit 5 = nat_lit 5) ∧ Ob (a_2.t.keep = a_3.t.keep) ∧ Ob (a_1.s = a_3.s) ∧ Ob ((↑a_2.m : Int) = (↑a_3.m : Int)) ∧ Ob (a_1.s = a_3.s) ∧ Ob (a_2.t.sex = a_3.t.sex) ∧ Ob
  (a_2.t.shell = a_3.t.shell) ∧ Ob ((↑a_2.m : Int).tmod (2 : Int) = (1 : Int) ↔ eB a_3.m) ∧ Ob ((↑a_2.m : Int) / (2 : Int) = (1 : Int) ↔ nB a_3.m) ∧ Ob (nat_lit 6 = nat_lit 6 ∧ ∀ (i : Nat), i < nat_lit 6 → (El.fn fun (i :
  Nat) ↦ [SV.p (a_2.t.some a_2.s a_2.m i)]).at i = (El.fn fun (i : Nat) ↦ [SV.p (a_3.t.some a_3.s a_3.m i)]).at i) ∧ Ob (nat_lit 6 = nat_lit 6 ∧ ∀ (i : Nat), i < nat_lit 6 → (El.fn fun (i : Nat) ↦ [SV.p (a_2.t.all a_2.s
  a_2.m i)]).at i = (El.fn fun (i : Nat) ↦ [SV.p (a_3.t.all a_3.s a_3.m i)]).at i) ∧ Ob (nat_lit 5 = nat_lit 5 ∧ ∀ (i : Nat), i < nat_lit 5 → (El.fn (Rv.elemOf [IntKind.i64] a_2.t.R)).at i = (El.fn (Rv.elemOf [IntKind.i64]
  a_3.t.R)).at i) ∧ Ob (a_2.t.a = a_3.t.a) ∧ Ob (a_2.t.b = a_3.t.b) ∧ Ob (a_2.t.sex = a_3.t.sex) ∧ Ob (a_2.t.eggs = a_3.t.eggs) ∧ Ob (a_2.t.notch = a_3.t.notch) ∧ Ob (a_2.t.shell = a_3.t.shell) ∧ Ob (a_2.t.low = a_3.t.low)
  ∧ Ob (a_2.t.high = a_3.t.high) ∧ Ob (a_2.t.eg ↔ a_3.t.eg) ∧ Ob (a_2.t.no ↔ a_3.t.no) ∧ Ob (a_2.t.so ↔ a_3.t.so) ∧ Ob (a_2.t.q = a_3.t.q) ∧ Ob (PlainE (nat_lit 6) (El.fn fun (i : Nat) ↦ [SV.p (a_3.t.some a_3.s a_3.m i)]))
  ∧ Ob (PlainE (nat_lit 6) (El.fn fun (i : Nat) ↦ [SV.p (a_3.t.all a_3.s a_3.m i)])) ∧ Ob (PlainE (nat_lit 5) (El.fn (Rv.elemOf [IntKind.i64] a_3.t.R))) ∧ True)) ∧ (¬a_2.t.notch = (2 : Int) → ∃ (a_3 : TqM), Ob ((a_3.m <
  nat_lit 4 ∧ a_3.s = a_1.s ∧ (↑a_3.m : Int) = (↑a_2.m : Int)) ∧ a_3.t.okB a_3.m ∧ a_3.t.Is ∧ a_3.t.a ≤ a_3.s ∧ a_3.s ≤ a_3.t.b) ∧ Ob (SV.v (Value.bool false) = SV.v (Value.bool false)) ∧ Ob (nat_lit 5 = nat_lit 5) ∧ Ob
  (a_2.t.keep = a_3.t.keep) ∧ Ob (a_1.s = a_3.s) ∧ Ob ((↑a_2.m : Int) = (↑a_3.m : Int)) ∧ Ob (a_1.s = a_3.s) ∧ Ob (a_2.t.sex = a_3.t.sex) ∧ Ob (a_2.t.shell = a_3.t.shell) ∧ Ob ((↑a_2.m : Int).tmod (2 : Int) = (1 : Int) ↔
  eB a_3.m) ∧ Ob ((↑a_2.m : Int) / (2 : Int) = (1 : Int) ↔ nB a_3.m) ∧ Ob (nat_lit 6 = nat_lit 6 ∧ ∀ (i : Nat), i < nat_lit 6 → (El.fn fun (i : Nat) ↦ [SV.p (a_2.t.some a_2.s a_2.m i)]).at i = (El.fn fun (i : Nat) ↦ [SV.p
  (a_3.t.some a_3.s a_3.m i)]).at i) ∧ Ob (nat_lit 6 = nat_lit 6 ∧ ∀ (i : Nat), i < nat_lit 6 → (El.fn fun (i : Nat) ↦ [SV.p (a_2.t.all a_2.s a_2.m i)]).at i = (El.fn fun (i : Nat) ↦ [SV.p (a_3.t.all a_3.s a_3.m i)]).at i)
  ∧ Ob (nat_lit 5 = nat_lit 5 ∧ ∀ (i : Nat), i < nat_lit 5 → (El.fn (Rv.elemOf [IntKind.i64] a_2.t.R)).at i = (El.fn (Rv.elemOf [IntKind.i64] a_3.t.R)).at i) ∧ Ob (a_2.t.a = a_3.t.a) ∧ Ob (a_2.t.b = a_3.t.b) ∧ Ob
  (a_2.t.sex = a_3.t.sex) ∧ Ob (a_2.t.eggs = a_3.t.eggs) ∧ Ob (a_2.t.notch = a_3.t.notch) ∧ Ob (a_2.t.shell = a_3.t.shell) ∧ Ob (a_2.t.low = a_3.t.low) ∧ Ob (a_2.t.high = a_3.t.high) ∧ Ob (a_2.t.eg ↔ a_3.t.eg) ∧ Ob
  (a_2.t.no ↔ a_3.t.no) ∧ Ob (a_2.t.so ↔ a_3.t.so) ∧ Ob (a_2.t.q = a_3.t.q) ∧ Ob (PlainE (nat_lit 6) (El.fn fun (i : Nat) ↦ [SV.p (a_3.t.some a_3.s a_3.m i)])) ∧ Ob (PlainE (nat_lit 6) (El.fn fun (i : Nat) ↦ [SV.p
  (a_3.t.all a_3.s a_3.m i)])) ∧ Ob (PlainE (nat_lit 5) (El.fn (Rv.elemOf [IntKind.i64] a_3.t.R))) ∧ True)) ∧ (¬(↑a_2.m : Int) / (2 : Int) = (1 : Int) → Ob (InR IntKind.i64 ((↑a_2.m : Int) + (1 : Int))) ∧ ∃ (a' : TqM), Ob
  ((a'.m ≤ nat_lit 4 ∧ a'.s = a_1.s ∧ a'.t.Is ∧ a'.t.a ≤ a'.s ∧ a'.s ≤ a'.t.b) ∧ nat_lit 4 - a'.m < nat_lit 4 - a_2.m) ∧ Ob (SV.v (Value.bool false) = SV.v (Value.bool false)) ∧ Ob (nat_lit 5 = nat_lit 5) ∧ Ob (a_2.t.keep
  = a'.t.keep) ∧ Ob (a_1.s = a_1.s) ∧ Ob ((↑a_2.m : Int) + (1 : Int) = (↑a'.m : Int)) ∧ Ob (nat_lit 6 = nat_lit 6 ∧ ∀ (i : Nat), i < nat_lit 6 → (El.fn fun (i : Nat) ↦ [SV.p (a_2.t.some a_2.s a_2.m i)]).at i = (El.fn fun
  (i : Nat) ↦ [SV.p (a'.t.some a'.s a'.m i)]).at i) ∧ Ob (nat_lit 6 = nat_lit 6 ∧ ∀ (i : Nat), i < nat_lit 6 → (El.fn fun (i : Nat) ↦ [SV.p (a_2.t.all a_2.s a_2.m i)]).at i = (El.fn fun (i : Nat) ↦ [SV.p (a'.t.all a'.s
  a'.m i)]).at i) ∧ Ob (nat_lit 5 = nat_lit 5 ∧ ∀ (i : Nat), i < nat_lit 5 → (El.fn (Rv.elemOf [IntKind.i64] a_2.t.R)).at i = (El.fn (Rv.elemOf [IntKind.i64] a'.t.R)).at i) ∧ Ob (a_2.t.a = a'.t.a) ∧ Ob (a_2.t.b = a'.t.b) ∧
  Ob (a_2.t.sex = a'.t.sex) ∧ Ob (a_2.t.eggs = a'.t.eggs) ∧ Ob (a_2.t.notch = a'.t.notch) ∧ Ob (a_2.t.shell = a'.t.shell) ∧ Ob (a_2.t.low = a'.t.low) ∧ Ob (a_2.t.high = a'.t.high) ∧ Ob (a_2.t.eg ↔ a'.t.eg) ∧ Ob (a_2.t.no ↔
  a'.t.no) ∧ Ob (a_2.t.so ↔ a'.t.so) ∧ Ob (a_2.t.q = a'.t.q) ∧ Ob (PlainE (nat_lit 6) (El.fn fun (i : Nat) ↦ [SV.p (a'.t.some a'.s a'.m i)])) ∧ Ob (PlainE (nat_lit 6) (El.fn fun (i : Nat) ↦ [SV.p (a'.t.all a'.s a'.m i)]))
  ∧ Ob (PlainE (nat_lit 5) (El.fn (Rv.elemOf [IntKind.i64] a'.t.R))) ∧ True)) ∧ (¬a_2.t.notch = (1 : Int) → (a_2.t.notch = (2 : Int) → ((↑a_2.m : Int) / (2 : Int) = (1 : Int) → Ob (InR IntKind.i64 ((↑a_2.m : Int) + (1 :
  Int))) ∧ ∃ (a' : TqM), Ob ((a'.m ≤ nat_lit 4 ∧ a'.s = a_1.s ∧ a'.t.Is ∧ a'.t.a ≤ a'.s ∧ a'.s ≤ a'.t.b) ∧ nat_lit 4 - a'.m < nat_lit 4 - a_2.m) ∧ Ob (SV.v (Value.bool false) = SV.v (Value.bool false)) ∧ Ob (nat_lit 5 =
  nat_lit 5) ∧ Ob (a_2.t.keep = a'.t.keep) ∧ Ob (a_1.s = a_1.s) ∧ Ob ((↑a_2.m : Int) + (1 : Int) = (↑a'.m : Int)) ∧ Ob (nat_lit 6 = nat_lit 6 ∧ ∀ (i : Nat), i < nat_lit 6 → (El.fn fun (i : Nat) ↦ [SV.p (a_2.t.some a_2.s
  a_2.m i)]).at i = (El.fn fun (i : Nat) ↦ [SV.p (a'.t.some a'.s a'.m i)]).at i) ∧ Ob (nat_lit 6 = nat_lit 6 ∧ ∀ (i : Nat), i < nat_lit 6 → (El.fn fun (i : Nat) ↦ [SV.p (a_2.t.all a_2.s a_2.m i)]).at i = (El.fn fun (i :
  Nat) ↦ [SV.p (a'.t.all a'.s a'.m i)]).at i) ∧ Ob (nat_lit 5 = nat_lit 5 ∧ ∀ (i : Nat), i < nat_lit 5 → (El.fn (Rv.elemOf [IntKind.i64] a_2.t.R)).at i = (El.fn (Rv.elemOf [IntKind.i64] a'.t.R)).at i) ∧ Ob (a_2.t.a =
  a'.t.a) ∧ Ob (a_2.t.b = a'.t.b) ∧ Ob (a_2.t.sex = a'.t.sex) ∧ Ob (a_2.t.eggs = a'.t.eggs) ∧ Ob (a_2.t.notch = a'.t.notch) ∧ Ob (a_2.t.shell = a'.t.shell) ∧ Ob (a_2.t.low = a'.t.low) ∧ Ob (a_2.t.high = a'.t.high) ∧ Ob
  (a_2.t.eg ↔ a'.t.eg) ∧ Ob (a_2.t.no ↔ a'.t.no) ∧ Ob (a_2.t.so ↔ a'.t.so) ∧ Ob (a_2.t.q = a'.t.q) ∧ Ob (PlainE (nat_lit 6) (El.fn fun (i : Nat) ↦ [SV.p (a'.t.some a'.s a'.m i)])) ∧ Ob (PlainE (nat_lit 6) (El.fn fun (i :
  Nat) ↦ [SV.p (a'.t.all a'.s a'.m i)])) ∧ Ob (PlainE (nat_lit 5) (El.fn (Rv.elemOf [IntKind.i64] a'.t.R))) ∧ True) ∧ (¬(↑a_2.m : Int) / (2 : Int) = (1 : Int) → ∃ (a_3 : TqM), Ob ((a_3.m < nat_lit 4 ∧ a_3.s = a_1.s ∧
  (↑a_3.m : Int) = (↑a_2.m : Int)) ∧ a_3.t.okB a_3.m ∧ a_3.t.Is ∧ a_3.t.a ≤ a_3.s ∧ a_3.s ≤ a_3.t.b) ∧ Ob (SV.v (Value.bool false) = SV.v (Value.bool false)) ∧ Ob (nat_lit 5 = nat_lit 5) ∧ Ob (a_2.t.keep = a_3.t.keep) ∧ Ob
  (a_1.s = a_3.s) ∧ Ob ((↑a_2.m : Int) = (↑a_3.m : Int)) ∧ Ob (a_1.s = a_3.s) ∧ Ob (a_2.t.sex = a_3.t.sex) ∧ Ob (a_2.t.shell = a_3.t.shell) ∧ Ob ((↑a_2.m : Int).tmod (2 : Int) = (1 : Int) ↔ eB a_3.m) ∧ Ob ((↑a_2.m : Int) /
  (2 : Int) = (1 : Int) ↔ nB a_3.m) ∧ Ob (nat_lit 6 = nat_lit 6 ∧ ∀ (i : Nat), i < nat_lit 6 → (El.fn fun (i : Nat) ↦ [SV.p (a_2.t.some a_2.s a_2.m i)]).at i = (El.fn fun (i : Nat) ↦ [SV.p (a_3.t.some a_3.s a_3.m i)]).at
  i) ∧ Ob (nat_lit 6 = nat_lit 6 ∧ ∀ (i : Nat), i < nat_lit 6 → (El.fn fun (i : Nat) ↦ [SV.p (a_2.t.all a_2.s a_2.m i)]).at i = (El.fn fun (i : Nat) ↦ [SV.p (a_3.t.all a_3.s a_3.m i)]).at i) ∧ Ob (nat_lit 5 = nat_lit 5 ∧ ∀
  (i : Nat), i < nat_lit 5 → (El.fn (Rv.elemOf [IntKind.i64] a_2.t.R)).at i = (El.fn (Rv.elemOf [IntKind.i64] a_3.t.R)).at i) ∧ Ob (a_2.t.a = a_3.t.a) ∧ Ob (a_2.t.b = a_3.t.b) ∧ Ob (a_2.t.sex = a_3.t.sex) ∧ Ob (a_2.t.eggs
  = a_3.t.eggs) ∧ Ob (a_2.t.notch = a_3.t.notch) ∧ Ob (a_2.t.shell = a_3.t.shell) ∧ Ob (a_2.t.low = a_3.t.low) ∧ Ob (a_2.t.high = a_3.t.high) ∧ Ob (a_2.t.eg ↔ a_3.t.eg) ∧ Ob (a_2.t.no ↔ a_3.t.no) ∧ Ob (a_2.t.so ↔ a_3.t.so)
  ∧ Ob (a_2.t.q = a_3.t.q) ∧ Ob (PlainE (nat_lit 6) (El.fn fun (i : Nat) ↦ [SV.p (a_3.t.some a_3.s a_3.m i)])) ∧ Ob (PlainE (nat_lit 6) (El.fn fun (i : Nat) ↦ [SV.p (a_3.t.all a_3.s a_3.m i)])) ∧ Ob (PlainE (nat_lit 5)
  (El.fn (Rv.elemOf [IntKind.i64] a_3.t.R))) ∧ True)) ∧ (¬a_2.t.notch = (2 : Int) → ∃ (a_3 : TqM), Ob ((a_3.m < nat_lit 4 ∧ a_3.s = a_1.s ∧ (↑a_3.m : Int) = (↑a_2.m : Int)) ∧ a_3.t.okB a_3.m ∧ a_3.t.Is ∧ a_3.t.a ≤ a_3.s ∧
  a_3.s ≤ a_3.t.b) ∧ Ob (SV.v (Value.bool false) = SV.v (Value.bool false)) ∧ Ob (nat_lit 5 = nat_lit 5) ∧ Ob (a_2.t.keep = a_3.t.keep) ∧ Ob (a_1.s = a_3.s) ∧ Ob ((↑a_2.m : Int) = (↑a_3.m : Int)) ∧ Ob (a_1.s = a_3.s) ∧ Ob
  (a_2.t.sex = a_3.t.sex) ∧ Ob (a_2.t.shell = a_3.t.shell) ∧ Ob ((↑a_2.m : Int).tmod (2 : Int) = (1 : Int) ↔ eB a_3.m) ∧ Ob ((↑a_2.m : Int) / (2 : Int) = (1 : Int) ↔ nB a_3.m) ∧ Ob (nat_lit 6 = nat_lit 6 ∧ ∀ (i : Nat), i <
  nat_lit 6 → (El.fn fun (i : Nat) ↦ [SV.p (a_2.t.some a_2.s a_2.m i)]).at i = (El.fn fun (i : Nat) ↦ [SV.p (a_3.t.some a_3.s a_3.m i)]).at i) ∧ Ob (nat_lit 6 = nat_lit 6 ∧ ∀ (i : Nat), i < nat_lit 6 → (El.fn fun (i : Nat)
  ↦ [SV.p (a_2.t.all a_2.s a_2.m i)]).at i = (El.fn fun (i : Nat) ↦ [SV.p (a_3.t.all a_3.s a_3.m i)]).at i) ∧ Ob (nat_lit 5 = nat_lit 5 ∧ ∀ (i : Nat), i < nat_lit 5 → (El.fn (Rv.elemOf [IntKind.i64] a_2.t.R)).at i = (El.fn
  (Rv.elemOf [IntKind.i64] a_3.t.R)).at i) ∧ Ob (a_2.t.a = a_3.t.a) ∧ Ob (a_2.t.b = a_3.t.b) ∧ Ob (a_2.t.sex = a_3.t.sex) ∧ Ob (a_2.t.eggs = a_3.t.eggs) ∧ Ob (a_2.t.notch = a_3.t.notch) ∧ Ob (a_2.t.shell = a_3.t.shell) ∧
  Ob (a_2.t.low = a_3.t.low) ∧ Ob (a_2.t.high = a_3.t.high) ∧ Ob (a_2.t.eg ↔ a_3.t.eg) ∧ Ob (a_2.t.no ↔ a_3.t.no) ∧ Ob (a_2.t.so ↔ a_3.t.so) ∧ Ob (a_2.t.q = a_3.t.q) ∧ Ob (PlainE (nat_lit 6) (El.fn fun (i : Nat) ↦ [SV.p
  (a_3.t.some a_3.s a_3.m i)])) ∧ Ob (PlainE (nat_lit 6) (El.fn fun (i : Nat) ↦ [SV.p (a_3.t.all a_3.s a_3.m i)])) ∧ Ob (PlainE (nat_lit 5) (El.fn (Rv.elemOf [IntKind.i64] a_3.t.R))) ∧ True))) ∧ ((↑a_2.m : Int).tmod (2 :
  Int) = (1 : Int) → Ob (InR IntKind.i64 ((↑a_2.m : Int) + (1 : Int))) ∧ ∃ (a' : TqM), Ob ((a'.m ≤ nat_lit 4 ∧ a'.s = a_1.s ∧ a'.t.Is ∧ a'.t.a ≤ a'.s ∧ a'.s ≤ a'.t.b) ∧ nat_lit 4 - a'.m < nat_lit 4 - a_2.m) ∧ Ob (SV.v
  (Value.bool false) = SV.v (Value.bool false)) ∧ Ob (nat_lit 5 = nat_lit 5) ∧ Ob (a_2.t.keep = a'.t.keep) ∧ Ob (a_1.s = a_1.s) ∧ Ob ((↑a_2.m : Int) + (1 : Int) = (↑a'.m : Int)) ∧ Ob (nat_lit 6 = nat_lit 6 ∧ ∀ (i : Nat), i
  < nat_lit 6 → (El.fn fun (i : Nat) ↦ [SV.p (a_2.t.some a_2.s a_2.m i)]).at i = (El.fn fun (i : Nat) ↦ [SV.p (a'.t.some a'.s a'.m i)]).at i) ∧ Ob (nat_lit 6 = nat_lit 6 ∧ ∀ (i : Nat), i < nat_lit 6 → (El.fn fun (i : Nat)
  ↦ [SV.p (a_2.t.all a_2.s a_2.m i)]).at i = (El.fn fun (i : Nat) ↦ [SV.p (a'.t.all a'.s a'.m i)]).at i) ∧ Ob (nat_lit 5 = nat_lit 5 ∧ ∀ (i : Nat), i < nat_lit 5 → (El.fn (Rv.elemOf [IntKind.i64] a_2.t.R)).at i = (El.fn
  (Rv.elemOf [IntKind.i64] a'.t.R)).at i) ∧ Ob (a_2.t.a = a'.t.a) ∧ Ob (a_2.t.b = a'.t.b) ∧ Ob (a_2.t.sex = a'.t.sex) ∧ Ob (a_2.t.eggs = a'.t.eggs) ∧ Ob (a_2.t.notch = a'.t.notch) ∧ Ob (a_2.t.shell = a'.t.shell) ∧ Ob
  (a_2.t.low = a'.t.low) ∧ Ob (a_2.t.high = a'.t.high) ∧ Ob (a_2.t.eg ↔ a'.t.eg) ∧ Ob (a_2.t.no ↔ a'.t.no) ∧ Ob (a_2.t.so ↔ a'.t.so) ∧ Ob (a_2.t.q = a'.t.q) ∧ Ob (PlainE (nat_lit 6) (El.fn fun (i : Nat) ↦ [SV.p (a'.t.some
  a'.s a'.m i)])) ∧ Ob (PlainE (nat_lit 6) (El.fn fun (i : Nat) ↦ [SV.p (a'.t.all a'.s a'.m i)])) ∧ Ob (PlainE (nat_lit 5) (El.fn (Rv.elemOf [IntKind.i64] a'.t.R))) ∧ True)) ∧ (¬a_2.t.eggs = (2 : Int) → (a_2.t.notch = (1 :
  Int) → (¬¬(↑a_2.m : Int) / (2 : Int) = (1 : Int) → (a_2.t.notch = (2 : Int) → ((↑a_2.m : Int) / (2 : Int) = (1 : Int) → Ob (InR IntKind.i64 ((↑a_2.m : Int) + (1 : Int))) ∧ ∃ (a' : TqM), Ob ((a'.m ≤ nat_lit 4 ∧ a'.s =
  a_1.s ∧ a'.t.Is ∧ a'.t.a ≤ a'.s ∧ a'.s ≤ a'.t.b) ∧ nat_lit 4 - a'.m < nat_lit 4 - a_2.m) ∧ Ob (SV.v (Value.bool false) = SV.v (Value.bool false)) ∧ Ob (nat_lit 5 = nat_lit 5) ∧ Ob (a_2.t.keep = a'.t.keep) ∧ Ob (a_1.s =
  a_1.s) ∧ Ob ((↑a_2.m : Int) + (1 : Int) = (↑a'.m : Int)) ∧ Ob (nat_lit 6 = nat_lit 6 ∧ ∀ (i : Nat), i < nat_lit 6 → (El.fn fun (i : Nat) ↦ [SV.p (a_2.t.some a_2.s a_2.m i)]).at i = (El.fn fun (i : Nat) ↦ [SV.p (a'.t.some
  a'.s a'.m i)]).at i) ∧ Ob (nat_lit 6 = nat_lit 6 ∧ ∀ (i : Nat), i < nat_lit 6 → (El.fn fun (i : Nat) ↦ [SV.p (a_2.t.all a_2.s a_2.m i)]).at i = (El.fn fun (i : Nat) ↦ [SV.p (a'.t.all a'.s a'.m i)]).at i) ∧ Ob (nat_lit 5
  = nat_lit 5 ∧ ∀ (i : Nat), i < nat_lit 5 → (El.fn (Rv.elemOf [IntKind.i64] a_2.t.R)).at i = (El.fn (Rv.elemOf [IntKind.i64] a'.t.R)).at i) ∧ Ob (a_2.t.a = a'.t.a) ∧ Ob (a_2.t.b = a'.t.b) ∧ Ob (a_2.t.sex = a'.t.sex) ∧ Ob
  (a_2.t.eggs = a'.t.eggs) ∧ Ob (a_2.t.notch = a'.t.notch) ∧ Ob (a_2.t.shell = a'.t.shell) ∧ Ob (a_2.t.low = a'.t.low) ∧ Ob (a_2.t.high = a'.t.high) ∧ Ob (a_2.t.eg ↔ a'.t.eg) ∧ Ob (a_2.t.no ↔ a'.t.no) ∧ Ob (a_2.t.so ↔
  a'.t.so) ∧ Ob (a_2.t.q = a'.t.q) ∧ Ob (PlainE (nat_lit 6) (El.fn fun (i : Nat) ↦ [SV.p (a'.t.some a'.s a'.m i)])) ∧ Ob (PlainE (nat_lit 6) (El.fn fun (i : Nat) ↦ [SV.p (a'.t.all a'.s a'.m i)])) ∧ Ob (PlainE (nat_lit 5)
  (El.fn (Rv.elemOf [IntKind.i64] a'.t.R))) ∧ True) ∧ (¬(↑a_2.m : Int) / (2 : Int) = (1 : Int) → ∃ (a_3 : TqM), Ob ((a_3.m < nat_lit 4 ∧ a_3.s = a_1.s ∧ (↑a_3.m : Int) = (↑a_2.m : Int)) ∧ a_3.t.okB a_3.m ∧ a_3.t.Is ∧
  a_3.t.a ≤ a_3.s ∧ a_3.s ≤ a_3.t.b) ∧ Ob (SV.v (Value.bool false) = SV.v (Value.bool false)) ∧ Ob (nat_lit 5 = nat_lit 5) ∧ Ob (a_2.t.keep = a_3.t.keep) ∧ Ob (a_1.s = a_3.s) ∧ Ob ((↑a_2.m : Int) = (↑a_3.m : Int)) ∧ Ob
  (a_1.s = a_3.s) ∧ Ob (a_2.t.sex = a_3.t.sex) ∧ Ob (a_2.t.shell = a_3.t.shell) ∧ Ob ((↑a_2.m : Int).tmod (2 : Int) = (1 : Int) ↔ eB a_3.m) ∧ Ob ((↑a_2.m : Int) / (2 : Int) = (1 : Int) ↔ nB a_3.m) ∧ Ob (nat_lit 6 = nat_lit
  6 ∧ ∀ (i : Nat), i < nat_lit 6 → (El.fn fun (i : Nat) ↦ [SV.p (a_2.t.some a_2.s a_2.m i)]).at i = (El.fn fun (i : Nat) ↦ [SV.p (a_3.t.some a_3.s a_3.m i)]).at i) ∧ Ob (nat_lit 6 = nat_lit 6 ∧ ∀ (i : Nat), i < nat_lit 6 →
  (El.fn fun (i : Nat) ↦ [SV.p (a_2.t.all a_2.s a_2.m i)]).at i = (El.fn fun (i : Nat) ↦ [SV.p (a_3.t.all a_3.s a_3.m i)]).at i) ∧ Ob (nat_lit 5 = nat_lit 5 ∧ ∀ (i : Nat), i < nat_lit 5 → (El.fn (Rv.elemOf [IntKind.i64]
  a_2.t.R)).at i = (El.fn (Rv.elemOf [IntKind.i64] a_3.t.R)).at i) ∧ Ob (a_2.t.a = a_3.t.a) ∧ Ob (a_2.t.b = a_3.t.b) ∧ Ob (a_2.t.sex = a_3.t.sex) ∧ Ob (a_2.t.eggs = a_3.t.eggs) ∧ Ob (a_2.t.notch = a_3.t.notch) ∧ Ob
  (a_2.t.shell = a_3.t.shell) ∧ Ob (a_2.t.low = a_3.t.low) ∧ Ob (a_2.t.high = a_3.t.high) ∧ Ob (a_2.t.eg ↔ a_3.t.eg) ∧ Ob (a_2.t.no ↔ a_3.t.no) ∧ Ob (a_2.t.so ↔ a_3.t.so) ∧ Ob (a_2.t.q = a_3.t.q) ∧ Ob (PlainE (nat_lit 6)
  (El.fn fun (i : Nat) ↦ [SV.p (a_3.t.some a_3.s a_3.m i)])) ∧ Ob (PlainE (nat_lit 6) (El.fn fun (i : Nat) ↦ [SV.p (a_3.t.all a_3.s a_3.m i)])) ∧ Ob (PlainE (nat_lit 5) (El.fn (Rv.elemOf [IntKind.i64] a_3.t.R))) ∧ True)) ∧
  (¬a_2.t.notch = (2 : Int) → ∃ (a_3 : TqM), Ob ((a_3.m < nat_lit 4 ∧ a_3.s = a_1.s ∧ (↑a_3.m : Int) = (↑a_2.m : Int)) ∧ a_3.t.okB a_3.m ∧ a_3.t.Is ∧ a_3.t.a ≤ a_3.s ∧ a_3.s ≤ a_3.t.b) ∧ Ob (SV.v (Value.bool false) = SV.v
  (Value.bool false)) ∧ Ob (nat_lit 5 = nat_lit 5) ∧ Ob (a_2.t.keep = a_3.t.keep) ∧ Ob (a_1.s = a_3.s) ∧ Ob ((↑a_2.m : Int) = (↑a_3.m : Int)) ∧ Ob (a_1.s = a_3.s) ∧ Ob (a_2.t.sex = a_3.t.sex) ∧ Ob (a_2.t.shell =
  a_3.t.shell) ∧ Ob ((↑a_2.m : Int).tmod (2 : Int) = (1 : Int) ↔ eB a_3.m) ∧ Ob ((↑a_2.m : Int) / (2 : Int) = (1 : Int) ↔ nB a_3.m) ∧ Ob (nat_lit 6 = nat_lit 6 ∧ ∀ (i : Nat), i < nat_lit 6 → (El.fn fun (i : Nat) ↦ [SV.p
  (a_2.t.some a_2.s a_2.m i)]).at i = (El.fn fun (i : Nat) ↦ [SV.p (a_3.t.some a_3.s a_3.m i)]).at i) ∧ Ob (nat_lit 6 = nat_lit 6 ∧ ∀ (i : Nat), i < nat_lit 6 → (El.fn fun (i : Nat) ↦ [SV.p (a_2.t.all a_2.s a_2.m i)]).at i
  = (El.fn fun (i : Nat) ↦ [SV.p (a_3.t.all a_3.s a_3.m i)]).at i) ∧ Ob (nat_lit 5 = nat_lit 5 ∧ ∀ (i : Nat), i < nat_lit 5 → (El.fn (Rv.elemOf [IntKind.i64] a_2.t.R)).at i = (El.fn (Rv.elemOf [IntKind.i64] a_3.t.R)).at i)
  ∧ Ob (a_2.t.a = a_3.t.a) ∧ Ob (a_2.t.b = a_3.t.b) ∧ Ob (a_2.t.sex = a_3.t.sex) ∧ Ob (a_2.t.eggs = a_3.t.eggs) ∧ Ob (a_2.t.notch = a_3.t.notch) ∧ Ob (a_2.t.shell = a_3.t.shell) ∧ Ob (a_2.t.low = a_3.t.low) ∧ Ob
  (a_2.t.high = a_3.t.high) ∧ Ob (a_2.t.eg ↔ a_3.t.eg) ∧ Ob (a_2.t.no ↔ a_3.t.no) ∧ Ob (a_2.t.so ↔ a_3.t.so) ∧ Ob (a_2.t.q = a_3.t.q) ∧ Ob (PlainE (nat_lit 6) (El.fn fun (i : Nat) ↦ [SV.p (a_3.t.some a_3.s a_3.m i)])) ∧ Ob
  (PlainE (nat_lit 6) (El.fn fun (i : Nat) ↦ [SV.p (a_3.t.all a_3.s a_3.m i)])) ∧ Ob (PlainE (nat_lit 5) (El.fn (Rv.elemOf [IntKind.i64] a_3.t.R))) ∧ True)) ∧ (¬(↑a_2.m : Int) / (2 : Int) = (1 : Int) → Ob (InR IntKind.i64
  ((↑a_2.m : Int) + (1 : Int))) ∧ ∃ (a' : TqM), Ob ((a'.m ≤ nat_lit 4 ∧ a'.s = a_1.s ∧ a'.t.Is ∧ a'.t.a ≤ a'.s ∧ a'.s ≤ a'.t.b) ∧ nat_lit 4 - a'.m < nat_lit 4 - a_2.m) ∧ Ob (SV.v (Value.bool false) = SV.v (Value.bool
  false)) ∧ Ob (nat_lit 5 = nat_lit 5) ∧ Ob (a_2.t.keep = a'.t.keep) ∧ Ob (a_1.s = a_1.s) ∧ Ob ((↑a_2.m : Int) + (1 : Int) = (↑a'.m : Int)) ∧ Ob (nat_lit 6 = nat_lit 6 ∧ ∀ (i : Nat), i < nat_lit 6 → (El.fn fun (i : Nat) ↦
  [SV.p (a_2.t.some a_2.s a_2.m i)]).at i = (El.fn fun (i : Nat) ↦ [SV.p (a'.t.some a'.s a'.m i)]).at i) ∧ Ob (nat_lit 6 = nat_lit 6 ∧ ∀ (i : Nat), i < nat_lit 6 → (El.fn fun (i : Nat) ↦ [SV.p (a_2.t.all a_2.s a_2.m
  i)]).at i = (El.fn fun (i : Nat) ↦ [SV.p (a'.t.all a'.s a'.m i)]).at i) ∧ Ob (nat_lit 5 = nat_lit 5 ∧ ∀ (i : Nat), i < nat_lit 5 → (El.fn (Rv.elemOf [IntKind.i64] a_2.t.R)).at i = (El.fn (Rv.elemOf [IntKind.i64]
  a'.t.R)).at i) ∧ Ob (a_2.t.a = a'.t.a) ∧ Ob (a_2.t.b = a'.t.b) ∧ Ob (a_2.t.sex = a'.t.sex) ∧ Ob (a_2.t.eggs = a'.t.eggs) ∧ Ob (a_2.t.notch = a'.t.notch) ∧ Ob (a_2.t.shell = a'.t.shell) ∧ Ob (a_2.t.low = a'.t.low) ∧ Ob
  (a_2.t.high = a'.t.high) ∧ Ob (a_2.t.eg ↔ a'.t.eg) ∧ Ob (a_2.t.no ↔ a'.t.no) ∧ Ob (a_2.t.so ↔ a'.t.so) ∧ Ob (a_2.t.q = a'.t.q) ∧ Ob (PlainE (nat_lit 6) (El.fn fun (i : Nat) ↦ [SV.p (a'.t.some a'.s a'.m i)])) ∧ Ob (PlainE
  (nat_lit 6) (El.fn fun (i : Nat) ↦ [SV.p (a'.t.all a'.s a'.m i)])) ∧ Ob (PlainE (nat_lit 5) (El.fn (Rv.elemOf [IntKind.i64] a'.t.R))) ∧ True)) ∧ (¬a_2.t.notch = (1 : Int) → (a_2.t.notch = (2 : Int) → ((↑a_2.m : Int) / (2
  : Int) = (1 : Int) → Ob (InR IntKind.i64 ((↑a_2.m : Int) + (1 : Int))) ∧ ∃ (a' : TqM), Ob ((a'.m ≤ nat_lit 4 ∧ a'.s = a_1.s ∧ a'.t.Is ∧ a'.t.a ≤ a'.s ∧ a'.s ≤ a'.t.b) ∧ nat_lit 4 - a'.m < nat_lit 4 - a_2.m) ∧ Ob (SV.v
  (Value.bool false) = SV.v (Value.bool false)) ∧ Ob (nat_lit 5 = nat_lit 5) ∧ Ob (a_2.t.keep = a'.t.keep) ∧ Ob (a_1.s = a_1.s) ∧ Ob ((↑a_2.m : Int) + (1 : Int) = (↑a'.m : Int)) ∧ Ob (nat_lit 6 = nat_lit 6 ∧ ∀ (i : Nat), i
  < nat_lit 6 → (El.fn fun (i : Nat) ↦ [SV.p (a_2.t.some a_2.s a_2.m i)]).at i = (El.fn fun (i : Nat) ↦ [SV.p (a'.t.some a'.s a'.m i)]).at i) ∧ Ob (nat_lit 6 = nat_lit 6 ∧ ∀ (i : Nat), i < nat_lit 6 → (El.fn fun (i : Nat)
  ↦ [SV.p (a_2.t.all a_2.s a_2.m i)]).at i = (El.fn fun (i : Nat) ↦ [SV.p (a'.t.all a'.s a'.m i)]).at i) ∧ Ob (nat_lit 5 = nat_lit 5 ∧ ∀ (i : Nat), i < nat_lit 5 → (El.fn (Rv.elemOf [IntKind.i64] a_2.t.R)).at i = (El.fn
  (Rv.elemOf [IntKind.i64] a'.t.R)).at i) ∧ Ob (a_2.t.a = a'.t.a) ∧ Ob (a_2.t.b = a'.t.b) ∧ Ob (a_2.t.sex = a'.t.sex) ∧ Ob (a_2.t.eggs = a'.t.eggs) ∧ Ob (a_2.t.notch = a'.t.notch) ∧ Ob (a_2.t.shell = a'.t.shell) ∧ Ob
  (a_2.t.low = a'.t.low) ∧ Ob (a_2.t.high = a'.t.high) ∧ Ob (a_2.t.eg ↔ a'.t.eg) ∧ Ob (a_2.t.no ↔ a'.t.no) ∧ Ob (a_2.t.so ↔ a'.t.so) ∧ Ob (a_2.t.q = a'.t.q) ∧ Ob (PlainE (nat_lit 6) (El.fn fun (i : Nat) ↦ [SV.p (a'.t.some
  a'.s a'.m i)])) ∧ Ob (PlainE (nat_lit 6) (El.fn fun (i : Nat) ↦ [SV.p (a'.t.all a'.s a'.m i)])) ∧ Ob (PlainE (nat_lit 5) (El.fn (Rv.elemOf [IntKind.i64] a'.t.R))) ∧ True) ∧ (¬(↑a_2.m : Int) / (2 : Int) = (1 : Int) → ∃
  (a_3 : TqM), Ob ((a_3.m < nat_lit 4 ∧ a_3.s = a_1.s ∧ (↑a_3.m : Int) = (↑a_2.m : Int)) ∧ a_3.t.okB a_3.m ∧ a_3.t.Is ∧ a_3.t.a ≤ a_3.s ∧ a_3.s ≤ a_3.t.b) ∧ Ob (SV.v (Value.bool false) = SV.v (Value.bool false)) ∧ Ob
  (nat_lit 5 = nat_lit 5) ∧ Ob (a_2.t.keep = a_3.t.keep) ∧ Ob (a_1.s = a_3.s) ∧ Ob ((↑a_2.m : Int) = (↑a_3.m : Int)) ∧ Ob (a_1.s = a_3.s) ∧ Ob (a_2.t.sex = a_3.t.sex) ∧ Ob (a_2.t.shell = a_3.t.shell) ∧ Ob ((↑a_2.m :
  Int).tmod (2 : Int) = (1 : Int) ↔ eB a_3.m) ∧ Ob ((↑a_2.m : Int) / (2 : Int) = (1 : Int) ↔ nB a_3.m) ∧ Ob (nat_lit 6 = nat_lit 6 ∧ ∀ (i : Nat), i < nat_lit 6 → (El.fn fun (i : Nat) ↦ [SV.p (a_2.t.some a_2.s a_2.m i)]).at
  i = (El.fn fun (i : Nat) ↦ [SV.p (a_3.t.some a_3.s a_3.m i)]).at i) ∧ Ob (nat_lit 6 = nat_lit 6 ∧ ∀ (i : Nat), i < nat_lit 6 → (El.fn fun (i : Nat) ↦ [SV.p (a_2.t.all a_2.s a_2.m i)]).at i = (El.fn fun (i : Nat) ↦ [SV.p
  (a_3.t.all a_3.s a_3.m i)]).at i) ∧ Ob (nat_lit 5 = nat_lit 5 ∧ ∀ (i : Nat), i < nat_lit 5 → (El.fn (Rv.elemOf [IntKind.i64] a_2.t.R)).at i = (El.fn (Rv.elemOf [IntKind.i64] a_3.t.R)).at i) ∧ Ob (a_2.t.a = a_3.t.a) ∧ Ob
  (a_2.t.b = a_3.t.b) ∧ Ob (a_2.t.sex = a_3.t.sex) ∧ Ob (a_2.t.eggs = a_3.t.eggs) ∧ Ob (a_2.t.notch = a_3.t.notch) ∧ Ob (a_2.t.shell = a_3.t.shell) ∧ Ob (a_2.t.low = a_3.t.low) ∧ Ob (a_2.t.high = a_3.t.high) ∧ Ob (a_2.t.eg
  ↔ a_3.t.eg) ∧ Ob (a_2.t.no ↔ a_3.t.no) ∧ Ob (a_2.t.so ↔ a_3.t.so) ∧ Ob (a_2.t.q = a_3.t.q) ∧ Ob (PlainE (nat_lit 6) (El.fn fun (i : Nat) ↦ [SV.p (a_3.t.some a_3.s a_3.m i)])) ∧ Ob (PlainE (nat_lit 6) (El.fn fun (i : Nat)
  ↦ [SV.p (a_3.t.all a_3.s a_3.m i)])) ∧ Ob (PlainE (nat_lit 5) (El.fn (Rv.elemOf [IntKind.i64] a_3.t.R))) ∧ True)) ∧ (¬a_2.t.notch = (2 : Int) → ∃ (a_3 : TqM), Ob ((a_3.m < nat_lit 4 ∧ a_3.s = a_1.s ∧ (↑a_3.m : Int) =
  (↑a_2.m : Int)) ∧ a_3.t.okB a_3.m ∧ a_3.t.Is ∧ a_3.t.a ≤ a_3.s ∧ a_3.s ≤ a_3.t.b) ∧ Ob (SV.v (Value.bool false) = SV.v (Value.bool false)) ∧ Ob (nat_lit 5 = nat_lit 5) ∧ Ob (a_2.t.keep = a_3.t.keep) ∧ Ob (a_1.s = a_3.s)
  ∧ Ob ((↑a_2.m : Int) = (↑a_3.m : Int)) ∧ Ob (a_1.s = a_3.s) ∧ Ob (a_2.t.sex = a_3.t.sex) ∧ Ob (a_2.t.shell = a_3.t.shell) ∧ Ob ((↑a_2.m : Int).tmod (2 : Int) = (1 : Int) ↔ eB a_3.m) ∧ Ob ((↑a_2.m : Int) / (2 : Int) = (1
  : Int) ↔ nB a_3.m) ∧ Ob (nat_lit 6 = nat_lit 6 ∧ ∀ (i : Nat), i < nat_lit 6 → (El.fn fun (i : Nat) ↦ [SV.p (a_2.t.some a_2.s a_2.m i)]).at i = (El.fn fun (i : Nat) ↦ [SV.p (a_3.t.some a_3.s a_3.m i)]).at i) ∧ Ob (nat_lit
  6 = nat_lit 6 ∧ ∀ (i : Nat), i < nat_lit 6 → (El.fn fun (i : Nat) ↦ [SV.p (a_2.t.all a_2.s a_2.m i)]).at i = (El.fn fun (i : Nat) ↦ [SV.p (a_3.t.all a_3.s a_3.m i)]).at i) ∧ Ob (nat_lit 5 = nat_lit 5 ∧ ∀ (i : Nat), i <
  nat_lit 5 → (El.fn (Rv.elemOf [IntKind.i64] a_2.t.R)).at i = (El.fn (Rv.elemOf [IntKind.i64] a_3.t.R)).at i) ∧ Ob (a_2.t.a = a_3.t.a) ∧ Ob (a_2.t.b = a_3.t.b) ∧ Ob (a_2.t.sex = a_3.t.sex) ∧ Ob (a_2.t.eggs = a_3.t.eggs) ∧
  Ob (a_2.t.notch = a_3.t.notch) ∧ Ob (a_2.t.shell = a_3.t.shell) ∧ Ob (a_2.t.low = a_3.t.low) ∧ Ob (a_2.t.high = a_3.t.high) ∧ Ob (a_2.t.eg ↔ a_3.t.eg) ∧ Ob (a_2.t.no ↔ a_3.t.no) ∧ Ob (a_2.t.so ↔ a_3.t.so) ∧ Ob (a_2.t.q =
  a_3.t.q) ∧ Ob (PlainE (nat_lit 6) (El.fn fun (i : Nat) ↦ [SV.p (a_3.t.some a_3.s a_3.m i)])) ∧ Ob (PlainE (nat_lit 6) (El.fn fun (i : Nat) ↦ [SV.p (a_3.t.all a_3.s a_3.m i)])) ∧ Ob (PlainE (nat_lit 5) (El.fn (Rv.elemOf
  [IntKind.i64] a_3.t.R))) ∧ True)))) ∧ (¬(↑a_2.m : Int).tmod (2 : Int) = (1 : Int) → Ob (InR IntKind.i64 ((↑a_2.m : Int) + (1 : Int))) ∧ ∃ (a' : TqM), Ob ((a'.m ≤ nat_lit 4 ∧ a'.s = a_1.s ∧ a'.t.Is ∧ a'.t.a ≤ a'.s ∧ a'.s
  ≤ a'.t.b) ∧ nat_lit 4 - a'.m < nat_lit 4 - a_2.m) ∧ Ob (SV.v (Value.bool false) = SV.v (Value.bool false)) ∧ Ob (nat_lit 5 = nat_lit 5) ∧ Ob (a_2.t.keep = a'.t.keep) ∧ Ob (a_1.s = a_1.s) ∧ Ob ((↑a_2.m : Int) + (1 : Int)
  = (↑a'.m : Int)) ∧ Ob (nat_lit 6 = nat_lit 6 ∧ ∀ (i : Nat), i < nat_lit 6 → (El.fn fun (i : Nat) ↦ [SV.p (a_2.t.some a_2.s a_2.m i)]).at i = (El.fn fun (i : Nat) ↦ [SV.p (a'.t.some a'.s a'.m i)]).at i) ∧ Ob (nat_lit 6 =
  nat_lit 6 ∧ ∀ (i : Nat), i < nat_lit 6 → (El.fn fun (i : Nat) ↦ [SV.p (a_2.t.all a_2.s a_2.m i)]).at i = (El.fn fun (i : Nat) ↦ [SV.p (a'.t.all a'.s a'.m i)]).at i) ∧ Ob (nat_lit 5 = nat_lit 5 ∧ ∀ (i : Nat), i < nat_lit
  5 → (El.fn (Rv.elemOf [IntKind.i64] a_2.t.R)).at i = (El.fn (Rv.elemOf [IntKind.i64] a'.t.R)).at i) ∧ Ob (a_2.t.a = a'.t.a) ∧ Ob (a_2.t.b = a'.t.b) ∧ Ob (a_2.t.sex = a'.t.sex) ∧ Ob (a_2.t.eggs = a'.t.eggs) ∧ Ob
  (a_2.t.notch = a'.t.notch) ∧ Ob (a_2.t.shell = a'.t.shell) ∧ Ob (a_2.t.low = a'.t.low) ∧ Ob (a_2.t.high = a'.t.high) ∧ Ob (a_2.t.eg ↔ a'.t.eg) ∧ Ob (a_2.t.no ↔ a'.t.no) ∧ Ob (a_2.t.so ↔ a'.t.so) ∧ Ob (a_2.t.q = a'.t.q) ∧
  Ob (PlainE (nat_lit 6) (El.fn fun (i : Nat) ↦ [SV.p (a'.t.some a'.s a'.m i)])) ∧ Ob (PlainE (nat_lit 6) (El.fn fun (i : Nat) ↦ [SV.p (a'.t.all a'.s a'.m i)])) ∧ Ob (PlainE (nat_lit 5) (El.fn (Rv.elemOf [IntKind.i64]
  a'.t.R))) ∧ True)) ∧ (¬a_2.t.eggs = (1 : Int) → (a_2.t.eggs = (2 : Int) → (¬(↑a_2.m : Int).tmod (2 : Int) = (1 : Int) → (a_2.t.notch = (1 : Int) → (¬¬(↑a_2.m : Int) / (2 : Int) = (1 : Int) → (a_2.t.notch = (2 : Int) →
  ((↑a_2.m : Int) / (2 : Int) = (1 : Int) → Ob (InR IntKind.i64 ((↑a_2.m : Int) + (1 : Int))) ∧ ∃ (a' : TqM), Ob ((a'.m ≤ nat_lit 4 ∧ a'.s = a_1.s ∧ a'.t.Is ∧ a'.t.a ≤ a'.s ∧ a'.s ≤ a'.t.b) ∧ nat_lit 4 - a'.m < nat_lit 4 -
  a_2.m) ∧ Ob (SV.v (Value.bool false) = SV.v (Value.bool false)) ∧ Ob (nat_lit 5 = nat_lit 5) ∧ Ob (a_2.t.keep = a'.t.keep) ∧ Ob (a_1.s = a_1.s) ∧ Ob ((↑a_2.m : Int) + (1 : Int) = (↑a'.m : Int)) ∧ Ob (nat_lit 6 = nat_lit
  6 ∧ ∀ (i : Nat), i < nat_lit 6 → (El.fn fun (i : Nat) ↦ [SV.p (a_2.t.some a_2.s a_2.m i)]).at i = (El.fn fun (i : Nat) ↦ [SV.p (a'.t.some a'.s a'.m i)]).at i) ∧ Ob (nat_lit 6 = nat_lit 6 ∧ ∀ (i : Nat), i < nat_lit 6 →
  (El.fn fun (i : Nat) ↦ [SV.p (a_2.t.all a_2.s a_2.m i)]).at i = (El.fn fun (i : Nat) ↦ [SV.p (a'.t.all a'.s a'.m i)]).at i) ∧ Ob (nat_lit 5 = nat_lit 5 ∧ ∀ (i : Nat), i < nat_lit 5 → (El.fn (Rv.elemOf [IntKind.i64]
  a_2.t.R)).at i = (El.fn (Rv.elemOf [IntKind.i64] a'.t.R)).at i) ∧ Ob (a_2.t.a = a'.t.a) ∧ Ob (a_2.t.b = a'.t.b) ∧ Ob (a_2.t.sex = a'.t.sex) ∧ Ob (a_2.t.eggs = a'.t.eggs) ∧ Ob (a_2.t.notch = a'.t.notch) ∧ Ob (a_2.t.shell
  = a'.t.shell) ∧ Ob (a_2.t.low = a'.t.low) ∧ Ob (a_2.t.high = a'.t.high) ∧ Ob (a_2.t.eg ↔ a'.t.eg) ∧ Ob (a_2.t.no ↔ a'.t.no) ∧ Ob (a_2.t.so ↔ a'.t.so) ∧ Ob (a_2.t.q = a'.t.q) ∧ Ob (PlainE (nat_lit 6) (El.fn fun (i : Nat)
  ↦ [SV.p (a'.t.some a'.s a'.m i)])) ∧ Ob (PlainE (nat_lit 6) (El.fn fun (i : Nat) ↦ [SV.p (a'.t.all a'.s a'.m i)])) ∧ Ob (PlainE (nat_lit 5) (El.fn (Rv.elemOf [IntKind.i64] a'.t.R))) ∧ True) ∧ (¬(↑a_2.m : Int) / (2 : Int)
  = (1 : Int) → ∃ (a_3 : TqM), Ob ((a_3.m < nat_lit 4 ∧ a_3.s = a_1.s ∧ (↑a_3.m : Int) = (↑a_2.m : Int)) ∧ a_3.t.okB a_3.m ∧ a_3.t.Is ∧ a_3.t.a ≤ a_3.s ∧ a_3.s ≤ a_3.t.b) ∧ Ob (SV.v (Value.bool false) = SV.v (Value.bool
  false)) ∧ Ob (nat_lit 5 = nat_lit 5) ∧ Ob (a_2.t.keep = a_3.t.keep) ∧ Ob (a_1.s = a_3.s) ∧ Ob ((↑a_2.m : Int) = (↑a_3.m : Int)) ∧ Ob (a_1.s = a_3.s) ∧ Ob (a_2.t.sex = a_3.t.sex) ∧ Ob (a_2.t.shell = a_3.t.shell) ∧ Ob
  ((↑a_2.m : Int).tmod (2 : Int) = (1 : Int) ↔ eB a_3.m) ∧ Ob ((↑a_2.m : Int) / (2 : Int) = (1 : Int) ↔ nB a_3.m) ∧ Ob (nat_lit 6 = nat_lit 6 ∧ ∀ (i : Nat), i < nat_lit 6 → (El.fn fun (i : Nat) ↦ [SV.p (a_2.t.some a_2.s
  a_2.m i)]).at i = (El.fn fun (i : Nat) ↦ [SV.p (a_3.t.some a_3.s a_3.m i)]).at i) ∧ Ob (nat_lit 6 = nat_lit 6 ∧ ∀ (i : Nat), i < nat_lit 6 → (El.fn fun (i : Nat) ↦ [SV.p (a_2.t.all a_2.s a_2.m i)]).at i = (El.fn fun (i :
  Nat) ↦ [SV.p (a_3.t.all a_3.s a_3.m i)]).at i) ∧ Ob (nat_lit 5 = nat_lit 5 ∧ ∀ (i : Nat), i < nat_lit 5 → (El.fn (Rv.elemOf [IntKind.i64] a_2.t.R)).at i = (El.fn (Rv.elemOf [IntKind.i64] a_3.t.R)).at i) ∧ Ob (a_2.t.a =
  a_3.t.a) ∧ Ob (a_2.t.b = a_3.t.b) ∧ Ob (a_2.t.sex = a_3.t.sex) ∧ Ob (a_2.t.eggs = a_3.t.eggs) ∧ Ob (a_2.t.notch = a_3.t.notch) ∧ Ob (a_2.t.shell = a_3.t.shell) ∧ Ob (a_2.t.low = a_3.t.low) ∧ Ob (a_2.t.high = a_3.t.high)
  ∧ Ob (a_2.t.eg ↔ a_3.t.eg) ∧ Ob (a_2.t.no ↔ a_3.t.no) ∧ Ob (a_2.t.so ↔ a_3.t.so) ∧ Ob (a_2.t.q = a_3.t.q) ∧ Ob (PlainE (nat_lit 6) (El.fn fun (i : Nat) ↦ [SV.p (a_3.t.some a_3.s a_3.m i)])) ∧ Ob (PlainE (nat_lit 6)
  (El.fn fun (i : Nat) ↦ [SV.p (a_3.t.all a_3.s a_3.m i)])) ∧ Ob (PlainE (nat_lit 5) (El.fn (Rv.elemOf [IntKind.i64] a_3.t.R))) ∧ True)) ∧ (¬a_2.t.notch = (2 : Int) → ∃ (a_3 : TqM), Ob ((a_3.m < nat_lit 4 ∧ a_3.s = a_1.s ∧
  (↑a_3.m : Int) = (↑a_2.m : Int)) ∧ a_3.t.okB a_3.m ∧ a_3.t.Is ∧ a_3.t.a ≤ a_3.s ∧ a_3.s ≤ a_3.t.b) ∧ Ob (SV.v (Value.bool false) = SV.v (Value.bool false)) ∧ Ob (nat_lit 5 = nat_lit 5) ∧ Ob (a_2.t.keep = a_3.t.keep) ∧ Ob
  (a_1.s = a_3.s) ∧ Ob ((↑a_2.m : Int) = (↑a_3.m : Int)) ∧ Ob (a_1.s = a_3.s) ∧ Ob (a_2.t.sex = a_3.t.sex) ∧ Ob (a_2.t.shell = a_3.t.shell) ∧ Ob ((↑a_2.m : Int).tmod (2 : Int) = (1 : Int) ↔ eB a_3.m) ∧ Ob ((↑a_2.m : Int) /
  (2 : Int) = (1 : Int) ↔ nB a_3.m) ∧ Ob (nat_lit 6 = nat_lit 6 ∧ ∀ (i : Nat), i < nat_lit 6 → (El.fn fun (i : Nat) ↦ [SV.p (a_2.t.some a_2.s a_2.m i)]).at i = (El.fn fun (i : Nat) ↦ [SV.p (a_3.t.some a_3.s a_3.m i)]).at
  i) ∧ Ob (nat_lit 6 = nat_lit 6 ∧ ∀ (i : Nat), i < nat_lit 6 → (El.fn fun (i : Nat) ↦ [SV.p (a_2.t.all a_2.s a_2.m i)]).at i = (El.fn fun (i : Nat) ↦ [SV.p (a_3.t.all a_3.s a_3.m i)]).at i) ∧ Ob (nat_lit 5 = nat_lit 5 ∧ ∀
  (i : Nat), i < nat_lit 5 → (El.fn (Rv.elemOf [IntKind.i64] a_2.t.R)).at i = (El.fn (Rv.elemOf [IntKind.i64] a_3.t.R)).at i) ∧ Ob (a_2.t.a = a_3.t.a) ∧ Ob (a_2.t.b = a_3.t.b) ∧ Ob (a_2.t.sex = a_3.t.sex) ∧ Ob (a_2.t.eggs
  = a_3.t.eggs) ∧ Ob (a_2.t.notch = a_3.t.notch) ∧ Ob (a_2.t.shell = a_3.t.shell) ∧ Ob (a_2.t.low = a_3.t.low) ∧ Ob (a_2.t.high = a_3.t.high) ∧ Ob (a_2.t.eg ↔ a_3.t.eg) ∧ Ob (a_2.t.no ↔ a_3.t.no) ∧ Ob (a_2.t.so ↔ a_3.t.so)
  ∧ Ob (a_2.t.q = a_3.t.q) ∧ Ob (PlainE (nat_lit 6) (El.fn fun (i : Nat) ↦ [SV.p (a_3.t.some a_3.s a_3.m i)])) ∧ Ob (PlainE (nat_lit 6) (El.fn fun (i : Nat) ↦ [SV.p (a_3.t.all a_3.s a_3.m i)])) ∧ Ob (PlainE (nat_lit 5)
  (El.fn (Rv.elemOf [IntKind.i64] a_3.t.R))) ∧ True)) ∧ (¬(↑a_2.m : Int) / (2 : Int) = (1 : Int) → Ob (InR IntKind.i64 ((↑a_2.m : Int) + (1 : Int))) ∧ ∃ (a' : TqM), Ob ((a'.m ≤ nat_lit 4 ∧ a'.s = a_1.s ∧ a'.t.Is ∧ a'.t.a ≤
  a'.s ∧ a'.s ≤ a'.t.b) ∧ nat_lit 4 - a'.m < nat_lit 4 - a_2.m) ∧ Ob (SV.v (Value.bool false) = SV.v (Value.bool false)) ∧ Ob (nat_lit 5 = nat_lit 5) ∧ Ob (a_2.t.keep = a'.t.keep) ∧ Ob (a_1.s = a_1.s) ∧ Ob ((↑a_2.m : Int)
  + (1 : Int) = (↑a'.m : Int)) ∧ Ob (nat_lit 6 = nat_lit 6 ∧ ∀ (i : Nat), i < nat_lit 6 → (El.fn fun (i : Nat) ↦ [SV.p (a_2.t.some a_2.s a_2.m i)]).at i = (El.fn fun (i : Nat) ↦ [SV.p (a'.t.some a'.s a'.m i)]).at i) ∧ Ob
  (nat_lit 6 = nat_lit 6 ∧ ∀ (i : Nat), i < nat_lit 6 → (El.fn fun (i : Nat) ↦ [SV.p (a_2.t.all a_2.s a_2.m i)]).at i = (El.fn fun (i : Nat) ↦ [SV.p (a'.t.all a'.s a'.m i)]).at i) ∧ Ob (nat_lit 5 = nat_lit 5 ∧ ∀ (i : Nat),
  i < nat_lit 5 → (El.fn (Rv.elemOf [IntKind.i64] a_2.t.R)).at i = (El.fn (Rv.elemOf [IntKind.i64] a'.t.R)).at i) ∧ Ob (a_2.t.a = a'.t.a) ∧ Ob (a_2.t.b = a'.t.b) ∧ Ob (a_2.t.sex = a'.t.sex) ∧ Ob (a_2.t.eggs = a'.t.eggs) ∧
  Ob (a_2.t.notch = a'.t.notch) ∧ Ob (a_2.t.shell = a'.t.shell) ∧ Ob (a_2.t.low = a'.t.low) ∧ Ob (a_2.t.high = a'.t.high) ∧ Ob (a_2.t.eg ↔ a'.t.eg) ∧ Ob (a_2.t.no ↔ a'.t.no) ∧ Ob (a_2.t.so ↔ a'.t.so) ∧ Ob (a_2.t.q =
  a'.t.q) ∧ Ob (PlainE (nat_lit 6) (El.fn fun (i : Nat) ↦ [SV.p (a'.t.some a'.s a'.m i)])) ∧ Ob (PlainE (nat_lit 6) (El.fn fun (i : Nat) ↦ [SV.p (a'.t.all a'.s a'.m i)])) ∧ Ob (PlainE (nat_lit 5) (El.fn (Rv.elemOf
  [IntKind.i64] a'.t.R))) ∧ True)) ∧ (¬a_2.t.notch = (1 : Int) → (a_2.t.notch = (2 : Int) → ((↑a_2.m : Int) / (2 : Int) = (1 : Int) → Ob (InR IntKind.i64 ((↑a_2.m : Int) + (1 : Int))) ∧ ∃ (a' : TqM), Ob ((a'.m ≤ nat_lit 4
  ∧ a'.s = a_1.s ∧ a'.t.Is ∧ a'.t.a ≤ a'.s ∧ a'.s ≤ a'.t.b) ∧ nat_lit 4 - a'.m < nat_lit 4 - a_2.m) ∧ Ob (SV.v (Value.bool false) = SV.v (Value.bool false)) ∧ Ob (nat_lit 5 = nat_lit 5) ∧ Ob (a_2.t.keep = a'.t.keep) ∧ Ob
  (a_1.s = a_1.s) ∧ Ob ((↑a_2.m : Int) + (1 : Int) = (↑a'.m : Int)) ∧ Ob (nat_lit 6 = nat_lit 6 ∧ ∀ (i : Nat), i < nat_lit 6 → (El.fn fun (i : Nat) ↦ [SV.p (a_2.t.some a_2.s a_2.m i)]).at i = (El.fn fun (i : Nat) ↦ [SV.p
  (a'.t.some a'.s a'.m i)]).at i) ∧ Ob (nat_lit 6 = nat_lit 6 ∧ ∀ (i : Nat), i < nat_lit 6 → (El.fn fun (i : Nat) ↦ [SV.p (a_2.t.all a_2.s a_2.m i)]).at i = (El.fn fun (i : Nat) ↦ [SV.p (a'.t.all a'.s a'.m i)]).at i) ∧ Ob
  (nat_lit 5 = nat_lit 5 ∧ ∀ (i : Nat), i < nat_lit 5 → (El.fn (Rv.elemOf [IntKind.i64] a_2.t.R)).at i = (El.fn (Rv.elemOf [IntKind.i64] a'.t.R)).at i) ∧ Ob (a_2.t.a = a'.t.a) ∧ Ob (a_2.t.b = a'.t.b) ∧ Ob (a_2.t.sex =
  a'.t.sex) ∧ Ob (a_2.t.eggs = a'.t.eggs) ∧ Ob (a_2.t.notch = a'.t.notch) ∧ Ob (a_2.t.shell = a'.t.shell) ∧ Ob (a_2.t.low = a'.t.low) ∧ Ob (a_2.t.high = a'.t.high) ∧ Ob (a_2.t.eg ↔ a'.t.eg) ∧ Ob (a_2.t.no ↔ a'.t.no) ∧ Ob
  (a_2.t.so ↔ a'.t.so) ∧ Ob (a_2.t.q = a'.t.q) ∧ Ob (PlainE (nat_lit 6) (El.fn fun (i : Nat) ↦ [SV.p (a'.t.some a'.s a'.m i)])) ∧ Ob (PlainE (nat_lit 6) (El.fn fun (i : Nat) ↦ [SV.p (a'.t.all a'.s a'.m i)])) ∧ Ob (PlainE
  (nat_lit 5) (El.fn (Rv.elemOf [IntKind.i64] a'.t.R))) ∧ True) ∧ (¬(↑a_2.m : Int) / (2 : Int) = (1 : Int) → ∃ (a_3 : TqM), Ob ((a_3.m < nat_lit 4 ∧ a_3.s = a_1.s ∧ (↑a_3.m : Int) = (↑a_2.m : Int)) ∧ a_3.t.okB a_3.m ∧
  a_3.t.Is ∧ a_3.t.a ≤ a_3.s ∧ a_3.s ≤ a_3.t.b) ∧ Ob (SV.v (Value.bool false) = SV.v (Value.bool false)) ∧ Ob (nat_lit 5 = nat_lit 5) ∧ Ob (a_2.t.keep = a_3.t.keep) ∧ Ob (a_1.s = a_3.s) ∧ Ob ((↑a_2.m : Int) = (↑a_3.m :
  Int)) ∧ Ob (a_1.s = a_3.s) ∧ Ob (a_2.t.sex = a_3.t.sex) ∧ Ob (a_2.t.shell = a_3.t.shell) ∧ Ob ((↑a_2.m : Int).tmod (2 : Int) = (1 : Int) ↔ eB a_3.m) ∧ Ob ((↑a_2.m : Int) / (2 : Int) = (1 : Int) ↔ nB a_3.m) ∧ Ob (nat_lit
  6 = nat_lit 6 ∧ ∀ (i : Nat), i < nat_lit 6 → (El.fn fun (i : Nat) ↦ [SV.p (a_2.t.some a_2.s a_2.m i)]).at i = (El.fn fun (i : Nat) ↦ [SV.p (a_3.t.some a_3.s a_3.m i)]).at i) ∧ Ob (nat_lit 6 = nat_lit 6 ∧ ∀ (i : Nat), i <
  nat_lit 6 → (El.fn fun (i : Nat) ↦ [SV.p (a_2.t.all a_2.s a_2.m i)]).at i = (El.fn fun (i : Nat) ↦ [SV.p (a_3.t.all a_3.s a_3.m i)]).at i) ∧ Ob (nat_lit 5 = nat_lit 5 ∧ ∀ (i : Nat), i < nat_lit 5 → (El.fn (Rv.elemOf
  [IntKind.i64] a_2.t.R)).at i = (El.fn (Rv.elemOf [IntKind.i64] a_3.t.R)).at i) ∧ Ob (a_2.t.a = a_3.t.a) ∧ Ob (a_2.t.b = a_3.t.b) ∧ Ob (a_2.t.sex = a_3.t.sex) ∧ Ob (a_2.t.eggs = a_3.t.eggs) ∧ Ob (a_2.t.notch =
  a_3.t.notch) ∧ Ob (a_2.t.shell = a_3.t.shell) ∧ Ob (a_2.t.low = a_3.t.low) ∧ Ob (a_2.t.high = a_3.t.high) ∧ Ob (a_2.t.eg ↔ a_3.t.eg) ∧ Ob (a_2.t.no ↔ a_3.t.no) ∧ Ob (a_2.t.so ↔ a_3.t.so) ∧ Ob (a_2.t.q = a_3.t.q) ∧ Ob
  (PlainE (nat_lit 6) (El.fn fun (i : Nat) ↦ [SV.p (a_3.t.some a_3.s a_3.m i)])) ∧ Ob (PlainE (nat_lit 6) (El.fn fun (i : Nat) ↦ [SV.p (a_3.t.all a_3.s a_3.m i)])) ∧ Ob (PlainE (nat_lit 5) (El.fn (Rv.elemOf [IntKind.i64]
  a_3.t.R))) ∧ True)) ∧ (¬a_2.t.notch = (2 : Int) → ∃ (a_3 : TqM), Ob ((a_3.m < nat_lit 4 ∧ a_3.s = a_1.s ∧ (↑a_3.m : Int) = (↑a_2.m : Int)) ∧ a_3.t.okB a_3.m ∧ a_3.t.Is ∧ a_3.t.a ≤ a_3.s ∧ a_3.s ≤ a_3.t.b) ∧ Ob (SV.v
  (Value.bool false) = SV.v (Value.bool false)) ∧ Ob (nat_lit 5 = nat_lit 5) ∧ Ob (a_2.t.keep = a_3.t.keep) ∧ Ob (a_1.s = a_3.s) ∧ Ob ((↑a_2.m : Int) = (↑a_3.m : Int)) ∧ Ob (a_1.s = a_3.s) ∧ Ob (a_2.t.sex = a_3.t.sex) ∧ Ob
  (a_2.t.shell = a_3.t.shell) ∧ Ob ((↑a_2.m : Int).tmod (2 : Int) = (1 : Int) ↔ eB a_3.m) ∧ Ob ((↑a_2.m : Int) / (2 : Int) = (1 : Int) ↔ nB a_3.m) ∧ Ob (nat_lit 6 = nat_lit 6 ∧ ∀ (i : Nat), i < nat_lit 6 → (El.fn fun (i :
  Nat) ↦ [SV.p (a_2.t.some a_2.s a_2.m i)]).at i = (El.fn fun (i : Nat) ↦ [SV.p (a_3.t.some a_3.s a_3.m i)]).at i) ∧ Ob (nat_lit 6 = nat_lit 6 ∧ ∀ (i : Nat), i < nat_lit 6 → (El.fn fun (i : Nat) ↦ [SV.p (a_2.t.all a_2.s
  a_2.m i)]).at i = (El.fn fun (i : Nat) ↦ [SV.p (a_3.t.all a_3.s a_3.m i)]).at i) ∧ Ob (nat_lit 5 = nat_lit 5 ∧ ∀ (i : Nat), i < nat_lit 5 → (El.fn (Rv.elemOf [IntKind.i64] a_2.t.R)).at i = (El.fn (Rv.elemOf [IntKind.i64]
  a_3.t.R)).at i) ∧ Ob (a_2.t.a = a_3.t.a) ∧ Ob (a_2.t.b = a_3.t.b) ∧ Ob (a_2.t.sex = a_3.t.sex) ∧ Ob (a_2.t.eggs = a_3.t.eggs) ∧ Ob (a_2.t.notch = a_3.t.notch) ∧ Ob (a_2.t.shell = a_3.t.shell) ∧ Ob (a_2.t.low = a_3.t.low)
  ∧ Ob (a_2.t.high = a_3.t.high) ∧ Ob (a_2.t.eg ↔ a_3.t.eg) ∧ Ob (a_2.t.no ↔ a_3.t.no) ∧ Ob (a_2.t.so ↔ a_3.t.so) ∧ Ob (a_2.t.q = a_3.t.q) ∧ Ob (PlainE (nat_lit 6) (El.fn fun (i : Nat) ↦ [SV.p (a_3.t.some a_3.s a_3.m i)]))
  ∧ Ob (PlainE (nat_lit 6) (El.fn fun (i : Nat) ↦ [SV.p (a_3.t.all a_3.s a_3.m i)])) ∧ Ob (PlainE (nat_lit 5) (El.fn (Rv.elemOf [IntKind.i64] a_3.t.R))) ∧ True))) ∧ ((↑a_2.m : Int).tmod (2 : Int) = (1 : Int) → Ob (InR
  IntKind.i64 ((↑a_2.m : Int) + (1 : Int))) ∧ ∃ (a' : TqM), Ob ((a'.m ≤ nat_lit 4 ∧ a'.s = a_1.s ∧ a'.t.Is ∧ a'.t.a ≤ a'.s ∧ a'.s ≤ a'.t.b) ∧ nat_lit 4 - a'.m < nat_lit 4 - a_2.m) ∧ Ob (SV.v (Value.bool false) = SV.v
  (Value.bool false)) ∧ Ob (nat_lit 5 = nat_lit 5) ∧ Ob (a_2.t.keep = a'.t.keep) ∧ Ob (a_1.s = a_1.s) ∧ Ob ((↑a_2.m : Int) + (1 : Int) = (↑a'.m : Int)) ∧ Ob (nat_lit 6 = nat_lit 6 ∧ ∀ (i : Nat), i < nat_lit 6 → (El.fn fun
  (i : Nat) ↦ [SV.p (a_2.t.some a_2.s a_2.m i)]).at i = (El.fn fun (i : Nat) ↦ [SV.p (a'.t.some a'.s a'.m i)]).at i) ∧ Ob (nat_lit 6 = nat_lit 6 ∧ ∀ (i : Nat), i < nat_lit 6 → (El.fn fun (i : Nat) ↦ [SV.p (a_2.t.all a_2.s
  a_2.m i)]).at i = (El.fn fun (i : Nat) ↦ [SV.p (a'.t.all a'.s a'.m i)]).at i) ∧ Ob (nat_lit 5 = nat_lit 5 ∧ ∀ (i : Nat), i < nat_lit 5 → (El.fn (Rv.elemOf [IntKind.i64] a_2.t.R)).at i = (El.fn (Rv.elemOf [IntKind.i64]
  a'.t.R)).at i) ∧ Ob (a_2.t.a = a'.t.a) ∧ Ob (a_2.t.b = a'.t.b) ∧ Ob (a_2.t.sex = a'.t.sex) ∧ Ob (a_2.t.eggs = a'.t.eggs) ∧ Ob (a_2.t.notch = a'.t.notch) ∧ Ob (a_2.t.shell = a'.t.shell) ∧ Ob (a_2.t.low = a'.t.low) ∧ Ob
  (a_2.t.high = a'.t.high) ∧ Ob (a_2.t.eg ↔ a'.t.eg) ∧ Ob (a_2.t.no ↔ a'.t.no) ∧ Ob (a_2.t.so ↔ a'.t.so) ∧ Ob (a_2.t.q = a'.t.q) ∧ Ob (PlainE (nat_lit 6) (El.fn fun (i : Nat) ↦ [SV.p (a'.t.some a'.s a'.m i)])) ∧ Ob (PlainE
  (nat_lit 6) (El.fn fun (i : Nat) ↦ [SV.p (a'.t.all a'.s a'.m i)])) ∧ Ob (PlainE (nat_lit 5) (El.fn (Rv.elemOf [IntKind.i64] a'.t.R))) ∧ True)) ∧ (¬a_2.t.eggs = (2 : Int) → (a_2.t.notch = (1 : Int) → (¬¬(↑a_2.m : Int) /
  (2 : Int) = (1 : Int) → (a_2.t.notch = (2 : Int) → ((↑a_2.m : Int) / (2 : Int) = (1 : Int) → Ob (InR IntKind.i64 ((↑a_2.m : Int) + (1 : Int))) ∧ ∃ (a' : TqM), Ob ((a'.m ≤ nat_lit 4 ∧ a'.s = a_1.s ∧ a'.t.Is ∧ a'.t.a ≤
  a'.s ∧ a'.s ≤ a'.t.b) ∧ nat_lit 4 - a'.m < nat_lit 4 - a_2.m) ∧ Ob (SV.v (Value.bool false) = SV.v (Value.bool false)) ∧ Ob (nat_lit 5 = nat_lit 5) ∧ Ob (a_2.t.keep = a'.t.keep) ∧ Ob (a_1.s = a_1.s) ∧ Ob ((↑a_2.m : Int)
  + (1 : Int) = (↑a'.m : Int)) ∧ Ob (nat_lit 6 = nat_lit 6 ∧ ∀ (i : Nat), i < nat_lit 6 → (El.fn fun (i : Nat) ↦ [SV.p (a_2.t.some a_2.s a_2.m i)]).at i = (El.fn fun (i : Nat) ↦ [SV.p (a'.t.some a'.s a'.m i)]).at i) ∧ Ob
  (nat_lit 6 = nat_lit 6 ∧ ∀ (i : Nat), i < nat_lit 6 → (El.fn fun (i : Nat) ↦ [SV.p (a_2.t.all a_2.s a_2.m i)]).at i = (El.fn fun (i : Nat) ↦ [SV.p (a'.t.all a'.s a'.m i)]).at i) ∧ Ob (nat_lit 5 = nat_lit 5 ∧ ∀ (i : Nat),
  i < nat_lit 5 → (El.fn (Rv.elemOf [IntKind.i64] a_2.t.R)).at i = (El.fn (Rv.elemOf [IntKind.i64] a'.t.R)).at i) ∧ Ob (a_2.t.a = a'.t.a) ∧ Ob (a_2.t.b = a'.t.b) ∧ Ob (a_2.t.sex = a'.t.sex) ∧ Ob (a_2.t.eggs = a'.t.eggs) ∧
  Ob (a_2.t.notch = a'.t.notch) ∧ Ob (a_2.t.shell = a'.t.shell) ∧ Ob (a_2.t.low = a'.t.low) ∧ Ob (a_2.t.high = a'.t.high) ∧ Ob (a_2.t.eg ↔ a'.t.eg) ∧ Ob (a_2.t.no ↔ a'.t.no) ∧ Ob (a_2.t.so ↔ a'.t.so) ∧ Ob (a_2.t.q =
  a'.t.q) ∧ Ob (PlainE (nat_lit 6) (El.fn fun (i : Nat) ↦ [SV.p (a'.t.some a'.s a'.m i)])) ∧ Ob (PlainE (nat_lit 6) (El.fn fun (i : Nat) ↦ [SV.p (a'.t.all a'.s a'.m i)])) ∧ Ob (PlainE (nat_lit 5) (El.fn (Rv.elemOf
  [IntKind.i64] a'.t.R))) ∧ True) ∧ (¬(↑a_2.m : Int) / (2 : Int) = (1 : Int) → ∃ (a_3 : TqM), Ob ((a_3.m < nat_lit 4 ∧ a_3.s = a_1.s ∧ (↑a_3.m : Int) = (↑a_2.m : Int)) ∧ a_3.t.okB a_3.m ∧ a_3.t.Is ∧ a_3.t.a ≤ a_3.s ∧ a_3.s
  ≤ a_3.t.b) ∧ Ob (SV.v (Value.bool false) = SV.v (Value.bool false)) ∧ Ob (nat_lit 5 = nat_lit 5) ∧ Ob (a_2.t.keep = a_3.t.keep) ∧ Ob (a_1.s = a_3.s) ∧ Ob ((↑a_2.m : Int) = (↑a_3.m : Int)) ∧ Ob (a_1.s = a_3.s) ∧ Ob
  (a_2.t.sex = a_3.t.sex) ∧ Ob (a_2.t.shell = a_3.t.shell) ∧ Ob ((↑a_2.m : Int).tmod (2 : Int) = (1 : Int) ↔ eB a_3.m) ∧ Ob ((↑a_2.m : Int) / (2 : Int) = (1 : Int) ↔ nB a_3.m) ∧ Ob (nat_lit 6 = nat_lit 6 ∧ ∀ (i : Nat), i <
  nat_lit 6 → (El.fn fun (i : Nat) ↦ [SV.p (a_2.t.some a_2.s a_2.m i)]).at i = (El.fn fun (i : Nat) ↦ [SV.p (a_3.t.some a_3.s a_3.m i)]).at i) ∧ Ob (nat_lit 6 = nat_lit 6 ∧ ∀ (i : Nat), i < nat_lit 6 → (El.fn fun (i : Nat)
  ↦ [SV.p (a_2.t.all a_2.s a_2.m i)]).at i = (El.fn fun (i : Nat) ↦ [SV.p (a_3.t.all a_3.s a_3.m i)]).at i) ∧ Ob (nat_lit 5 = nat_lit 5 ∧ ∀ (i : Nat), i < nat_lit 5 → (El.fn (Rv.elemOf [IntKind.i64] a_2.t.R)).at i = (El.fn
  (Rv.elemOf [IntKind.i64] a_3.t.R)).at i) ∧ Ob (a_2.t.a = a_3.t.a) ∧ Ob (a_2.t.b = a_3.t.b) ∧ Ob (a_2.t.sex = a_3.t.sex) ∧ Ob (a_2.t.eggs = a_3.t.eggs) ∧ Ob (a_2.t.notch = a_3.t.notch) ∧ Ob (a_2.t.shell = a_3.t.shell) ∧
  Ob (a_2.t.low = a_3.t.low) ∧ Ob (a_2.t.high = a_3.t.high) ∧ Ob (a_2.t.eg ↔ a_3.t.eg) ∧ Ob (a_2.t.no ↔ a_3.t.no) ∧ Ob (a_2.t.so ↔ a_3.t.so) ∧ Ob (a_2.t.q = a_3.t.q) ∧ Ob (PlainE (nat_lit 6) (El.fn fun (i : Nat) ↦ [SV.p
  (a_3.t.some a_3.s a_3.m i)])) ∧ Ob (PlainE (nat_lit 6) (El.fn fun (i : Nat) ↦ [SV.p (a_3.t.all a_3.s a_3.m i)])) ∧ Ob (PlainE (nat_lit 5) (El.fn (Rv.elemOf [IntKind.i64] a_3.t.R))) ∧ True)) ∧ (¬a_2.t.notch = (2 : Int) →
  ∃ (a_3 : TqM), Ob ((a_3.m < nat_lit 4 ∧ a_3.s = a_1.s ∧ (↑a_3.m : Int) = (↑a_2.m : Int)) ∧ a_3.t.okB a_3.m ∧ a_3.t.Is ∧ a_3.t.a ≤ a_3.s ∧ a_3.s ≤ a_3.t.b) ∧ Ob (SV.v (Value.bool false) = SV.v (Value.bool false)) ∧ Ob
  (nat_lit 5 = nat_lit 5) ∧ Ob (a_2.t.keep = a_3.t.keep) ∧ Ob (a_1.s = a_3.s) ∧ Ob ((↑a_2.m : Int) = (↑a_3.m : Int)) ∧ Ob (a_1.s = a_3.s) ∧ Ob (a_2.t.sex = a_3.t.sex) ∧ Ob (a_2.t.shell = a_3.t.shell) ∧ Ob ((↑a_2.m :
  Int).tmod (2 : Int) = (1 : Int) ↔ eB a_3.m) ∧ Ob ((↑a_2.m : Int) / (2 : Int) = (1 : Int) ↔ nB a_3.m) ∧ Ob (nat_lit 6 = nat_lit 6 ∧ ∀ (i : Nat), i < nat_lit 6 → (El.fn fun (i : Nat) ↦ [SV.p (a_2.t.some a_2.s a_2.m i)]).at
  i = (El.fn fun (i : Nat) ↦ [SV.p (a_3.t.some a_3.s a_3.m i)]).at i) ∧ Ob (nat_lit 6 = nat_lit 6 ∧ ∀ (i : Nat), i < nat_lit 6 → (El.fn fun (i : Nat) ↦ [SV.p (a_2.t.all a_2.s a_2.m i)]).at i = (El.fn fun (i : Nat) ↦ [SV.p
  (a_3.t.all a_3.s a_3.m i)]).at i) ∧ Ob (nat_lit 5 = nat_lit 5 ∧ ∀ (i : Nat), i < nat_lit 5 → (El.fn (Rv.elemOf [IntKind.i64] a_2.t.R)).at i = (El.fn (Rv.elemOf [IntKind.i64] a_3.t.R)).at i) ∧ Ob (a_2.t.a = a_3.t.a) ∧ Ob
  (a_2.t.b = a_3.t.b) ∧ Ob (a_2.t.sex = a_3.t.sex) ∧ Ob (a_2.t.eggs = a_3.t.eggs) ∧ Ob (a_2.t.notch = a_3.t.notch) ∧ Ob (a_2.t.shell = a_3.t.shell) ∧ Ob (a_2.t.low = a_3.t.low) ∧ Ob (a_2.t.high = a_3.t.high) ∧ Ob (a_2.t.eg
  ↔ a_3.t.eg) ∧ Ob (a_2.t.no ↔ a_3.t.no) ∧ Ob (a_2.t.so ↔ a_3.t.so) ∧ Ob (a_2.t.q = a_3.t.q) ∧ Ob (PlainE (nat_lit 6) (El.fn fun (i : Nat) ↦ [SV.p (a_3.t.some a_3.s a_3.m i)])) ∧ Ob (PlainE (nat_lit 6) (El.fn fun (i : Nat)
  ↦ [SV.p (a_3.t.all a_3.s a_3.m i)])) ∧ Ob (PlainE (nat_lit 5) (El.fn (Rv.elemOf [IntKind.i64] a_3.t.R))) ∧ True)) ∧ (¬(↑a_2.m : Int) / (2 : Int) = (1 : Int) → Ob (InR IntKind.i64 ((↑a_2.m : Int) + (1 : Int))) ∧ ∃ (a' :
  TqM), Ob ((a'.m ≤ nat_lit 4 ∧ a'.s = a_1.s ∧ a'.t.Is ∧ a'.t.a ≤ a'.s ∧ a'.s ≤ a'.t.b) ∧ nat_lit 4 - a'.m < nat_lit 4 - a_2.m) ∧ Ob (SV.v (Value.bool false) = SV.v (Value.bool false)) ∧ Ob (nat_lit 5 = nat_lit 5) ∧ Ob
  (a_2.t.keep = a'.t.keep) ∧ Ob (a_1.s = a_1.s) ∧ Ob ((↑a_2.m : Int) + (1 : Int) = (↑a'.m : Int)) ∧ Ob (nat_lit 6 = nat_lit 6 ∧ ∀ (i : Nat), i < nat_lit 6 → (El.fn fun (i : Nat) ↦ [SV.p (a_2.t.some a_2.s a_2.m i)]).at i =
  (El.fn fun (i : Nat) ↦ [SV.p (a'.t.some a'.s a'.m i)]).at i) ∧ Ob (nat_lit 6 = nat_lit 6 ∧ ∀ (i : Nat), i < nat_lit 6 → (El.fn fun (i : Nat) ↦ [SV.p (a_2.t.all a_2.s a_2.m i)]).at i = (El.fn fun (i : Nat) ↦ [SV.p
  (a'.t.all a'.s a'.m i)]).at i) ∧ Ob (nat_lit 5 = nat_lit 5 ∧ ∀ (i : Nat), i < nat_lit 5 → (El.fn (Rv.elemOf [IntKind.i64] a_2.t.R)).at i = (El.fn (Rv.elemOf [IntKind.i64] a'.t.R)).at i) ∧ Ob (a_2.t.a = a'.t.a) ∧ Ob
  (a_2.t.b = a'.t.b) ∧ Ob (a_2.t.sex = a'.t.sex) ∧ Ob (a_2.t.eggs = a'.t.eggs) ∧ Ob (a_2.t.notch = a'.t.notch) ∧ Ob (a_2.t.shell = a'.t.shell) ∧ Ob (a_2.t.low = a'.t.low) ∧ Ob (a_2.t.high = a'.t.high) ∧ Ob (a_2.t.eg ↔
  a'.t.eg) ∧ Ob (a_2.t.no ↔ a'.t.no) ∧ Ob (a_2.t.so ↔ a'.t.so) ∧ Ob (a_2.t.q = a'.t.q) ∧ Ob (PlainE (nat_lit 6) (El.fn fun (i : Nat) ↦ [SV.p (a'.t.some a'.s a'.m i)])) ∧ Ob (PlainE (nat_lit 6) (El.fn fun (i : Nat) ↦ [SV.p
  (a'.t.all a'.s a'.m i)])) ∧ Ob (PlainE (nat_lit 5) (El.fn (Rv.elemOf [IntKind.i64] a'.t.R))) ∧ True)) ∧ (¬a_2.t.notch = (1 : Int) → (a_2.t.notch = (2 : Int) → ((↑a_2.m : Int) / (2 : Int) = (1 : Int) → Ob (InR IntKind.i64
  ((↑a_2.m : Int) + (1 : Int))) ∧ ∃ (a' : TqM), Ob ((a'.m ≤ nat_lit 4 ∧ a'.s = a_1.s ∧ a'.t.Is ∧ a'.t.a ≤ a'.s ∧ a'.s ≤ a'.t.b) ∧ nat_lit 4 - a'.m < nat_lit 4 - a_2.m) ∧ Ob (SV.v (Value.bool false) = SV.v (Value.bool
  false)) ∧ Ob (nat_lit 5 = nat_lit 5) ∧ Ob (a_2.t.keep = a'.t.keep) ∧ Ob (a_1.s = a_1.s) ∧ Ob ((↑a_2.m : Int) + (1 : Int) = (↑a'.m : Int)) ∧ Ob (nat_lit 6 = nat_lit 6 ∧ ∀ (i : Nat), i < nat_lit 6 → (El.fn fun (i : Nat) ↦
  [SV.p (a_2.t.some a_2.s a_2.m i)]).at i = (El.fn fun (i : Nat) ↦ [SV.p (a'.t.some a'.s a'.m i)]).at i) ∧ Ob (nat_lit 6 = nat_lit 6 ∧ ∀ (i : Nat), i < nat_lit 6 → (El.fn fun (i : Nat) ↦ [SV.p (a_2.t.all a_2.s a_2.m
  i)]).at i = (El.fn fun (i : Nat) ↦ [SV.p (a'.t.all a'.s a'.m i)]).at i) ∧ Ob (nat_lit 5 = nat_lit 5 ∧ ∀ (i : Nat), i < nat_lit 5 → (El.fn (Rv.elemOf [IntKind.i64] a_2.t.R)).at i = (El.fn (Rv.elemOf [IntKind.i64]
  a'.t.R)).at i) ∧ Ob (a_2.t.a = a'.t.a) ∧ Ob (a_2.t.b = a'.t.b) ∧ Ob (a_2.t.sex = a'.t.sex) ∧ Ob (a_2.t.eggs = a'.t.eggs) ∧ Ob (a_2.t.notch = a'.t.notch) ∧ Ob (a_2.t.shell = a'.t.shell) ∧ Ob (a_2.t.low = a'.t.low) ∧ Ob
  (a_2.t.high = a'.t.high) ∧ Ob (a_2.t.eg ↔ a'.t.eg) ∧ Ob (a_2.t.no ↔ a'.t.no) ∧ Ob (a_2.t.so ↔ a'.t.so) ∧ Ob (a_2.t.q = a'.t.q) ∧ Ob (PlainE (nat_lit 6) (El.fn fun (i : Nat) ↦ [SV.p (a'.t.some a'.s a'.m i)])) ∧ Ob (PlainE
  (nat_lit 6) (El.fn fun (i : Nat) ↦ [SV.p (a'.t.all a'.s a'.m i)])) ∧ Ob (PlainE (nat_lit 5) (El.fn (Rv.elemOf [IntKind.i64] a'.t.R))) ∧ True) ∧ (¬(↑a_2.m : Int) / (2 : Int) = (1 : Int) → ∃ (a_3 : TqM), Ob ((a_3.m <
  nat_lit 4 ∧ a_3.s = a_1.s ∧ (↑a_3.m : Int) = (↑a_2.m : Int)) ∧ a_3.t.okB a_3.m ∧ a_3.t.Is ∧ a_3.t.a ≤ a_3.s ∧ a_3.s ≤ a_3.t.b) ∧ Ob (SV.v (Value.bool false) = SV.v (Value.bool false)) ∧ Ob (nat_lit 5 = nat_lit 5) ∧ Ob
  (a_2.t.keep = a_3.t.keep) ∧ Ob (a_1.s = a_3.s) ∧ Ob ((↑a_2.m : Int) = (↑a_3.m : Int)) ∧ Ob (a_1.s = a_3.s) ∧ Ob (a_2.t.sex = a_3.t.sex) ∧ Ob (a_2.t.shell = a_3.t.shell) ∧ Ob ((↑a_2.m : Int).tmod (2 : Int) = (1 : Int) ↔
  eB a_3.m) ∧ Ob ((↑a_2.m : Int) / (2 : Int) = (1 : Int) ↔ nB a_3.m) ∧ Ob (nat_lit 6 = nat_lit 6 ∧ ∀ (i : Nat), i < nat_lit 6 → (El.fn fun (i : Nat) ↦ [SV.p (a_2.t.some a_2.s a_2.m i)]).at i = (El.fn fun (i : Nat) ↦ [SV.p
  (a_3.t.some a_3.s a_3.m i)]).at i) ∧ Ob (nat_lit 6 = nat_lit 6 ∧ ∀ (i : Nat), i < nat_lit 6 → (El.fn fun (i : Nat) ↦ [SV.p (a_2.t.all a_2.s a_2.m i)]).at i = (El.fn fun (i : Nat) ↦ [SV.p (a_3.t.all a_3.s a_3.m i)]).at i)
  ∧ Ob (nat_lit 5 = nat_lit 5 ∧ ∀ (i : Nat), i < nat_lit 5 → (El.fn (Rv.elemOf [IntKind.i64] a_2.t.R)).at i = (El.fn (Rv.elemOf [IntKind.i64] a_3.t.R)).at i) ∧ Ob (a_2.t.a = a_3.t.a) ∧ Ob (a_2.t.b = a_3.t.b) ∧ Ob
  (a_2.t.sex = a_3.t.sex) ∧ Ob (a_2.t.eggs = a_3.t.eggs) ∧ Ob (a_2.t.notch = a_3.t.notch) ∧ Ob (a_2.t.shell = a_3.t.shell) ∧ Ob (a_2.t.low = a_3.t.low) ∧ Ob (a_2.t.high = a_3.t.high) ∧ Ob (a_2.t.eg ↔ a_3.t.eg) ∧ Ob
  (a_2.t.no ↔ a_3.t.no) ∧ Ob (a_2.t.so ↔ a_3.t.so) ∧ Ob (a_2.t.q = a_3.t.q) ∧ Ob (PlainE (nat_lit 6) (El.fn fun (i : Nat) ↦ [SV.p (a_3.t.some a_3.s a_3.m i)])) ∧ Ob (PlainE (nat_lit 6) (El.fn fun (i : Nat) ↦ [SV.p
  (a_3.t.all a_3.s a_3.m i)])) ∧ Ob (PlainE (nat_lit 5) (El.fn (Rv.elemOf [IntKind.i64] a_3.t.R))) ∧ True)) ∧ (¬a_2.t.notch = (2 : Int) → ∃ (a_3 : TqM), Ob ((a_3.m < nat_lit 4 ∧ a_3.s = a_1.s ∧ (↑a_3.m : Int) = (↑a_2.m :
  Int)) ∧ a_3.t.okB a_3.m ∧ a_3.t.Is ∧ a_3.t.a ≤ a_3.s ∧ a_3.s ≤ a_3.t.b) ∧ Ob (SV.v (Value.bool false) = SV.v (Value.bool false)) ∧ Ob (nat_lit 5 = nat_lit 5) ∧ Ob (a_2.t.keep = a_3.t.keep) ∧ Ob (a_1.s = a_3.s) ∧ Ob
  ((↑a_2.m : Int) = (↑a_3.m : Int)) ∧ Ob (a_1.s = a_3.s) ∧ Ob (a_2.t.sex = a_3.t.sex) ∧ Ob (a_2.t.shell = a_3.t.shell) ∧ Ob ((↑a_2.m : Int).tmod (2 : Int) = (1 : Int) ↔ eB a_3.m) ∧ Ob ((↑a_2.m : Int) / (2 : Int) = (1 :
  Int) ↔ nB a_3.m) ∧ Ob (nat_lit 6 = nat_lit 6 ∧ ∀ (i : Nat), i < nat_lit 6 → (El.fn fun (i : Nat) ↦ [SV.p (a_2.t.some a_2.s a_2.m i)]).at i = (El.fn fun (i : Nat) ↦ [SV.p (a_3.t.some a_3.s a_3.m i)]).at i) ∧ Ob (nat_lit 6
  = nat_lit 6 ∧ ∀ (i : Nat), i < nat_lit 6 → (El.fn fun (i : Nat) ↦ [SV.p (a_2.t.all a_2.s a_2.m i)]).at i = (El.fn fun (i : Nat) ↦ [SV.p (a_3.t.all a_3.s a_3.m i)]).at i) ∧ Ob (nat_lit 5 = nat_lit 5 ∧ ∀ (i : Nat), i <
  nat_lit 5 → (El.fn (Rv.elemOf [IntKind.i64] a_2.t.R)).at i = (El.fn (Rv.elemOf [IntKind.i64] a_3.t.R)).at i) ∧ Ob (a_2.t.a = a_3.t.a) ∧ Ob (a_2.t.b = a_3.t.b) ∧ Ob (a_2.t.sex = a_3.t.sex) ∧ Ob (a_2.t.eggs = a_3.t.eggs) ∧
  Ob (a_2.t.notch = a_3.t.notch) ∧ Ob (a_2.t.shell = a_3.t.shell) ∧ Ob (a_2.t.low = a_3.t.low) ∧ Ob (a_2.t.high = a_3.t.high) ∧ Ob (a_2.t.eg ↔ a_3.t.eg) ∧ Ob (a_2.t.no ↔ a_3.t.no) ∧ Ob (a_2.t.so ↔ a_3.t.so) ∧ Ob (a_2.t.q =
  a_3.t.q) ∧ Ob (PlainE (nat_lit 6) (El.fn fun (i : Nat) ↦ [SV.p (a_3.t.some a_3.s a_3.m i)])) ∧ Ob (PlainE (nat_lit 6) (El.fn fun (i : Nat) ↦ [SV.p (a_3.t.all a_3.s a_3.m i)])) ∧ Ob (PlainE (nat_lit 5) (El.fn (Rv.elemOf
  [IntKind.i64] a_3.t.R))) ∧ True))))) ∧ ∀ (a_3 : TqM), (a_3.m < nat_lit 4 ∧ a_3.s = a_1.s ∧ (↑a_3.m : Int) = (↑a_2.m : Int)) ∧ a_3.t.okB a_3.m ∧ a_3.t.Is ∧ a_3.t.a ≤ a_3.s ∧ a_3.s ≤ a_3.t.b → ∀ (z_608 z_609 z_610 z_611
  z_612 z_613 z_614 z_615 z_616 z_617 z_618 z_619 z_620 z_621 z_622 z_623 z_624 z_625 z_626 z_627 z_628 z_629 z_630 z_631 z_632 z_633 z_634 z_635 z_636 z_637 z_638 z_639 z_640 z_641 z_642 z_643 z_644 z_645 z_646 z_647
  z_648 z_649 z_650 z_651 z_652 z_653 z_654 z_655 z_656 z_657 z_658 z_659 z_660 z_661 z_662 z_663 z_664 z_665 z_666 z_667 z_668 z_669 z_670 z_671 z_672 z_673 z_674 z_675 z_676 z_677 z_678 z_679 z_680 z_681 z_682 z_683
  z_684 z_685 z_686 z_687 z_688 z_689 z_690 z_691 z_692 z_693 z_694 z_695 z_696 z_697 z_698 z_699 z_700 z_701 z_702 z_703 z_704 z_705 z_706 z_707 z_708 z_709 z_710 z_711 z_712 z_713 z_714 z_715 z_716 z_717 z_718 z_719
  z_720 z_721 z_722 z_723 z_724 z_725 z_726 z_727 z_728 z_729 z_730 z_731 z_732 z_733 z_734 z_735 z_736 z_737 z_738 z_739 z_740 z_741 z_742 z_743 z_744 z_745 z_746 z_747 z_748 z_749 z_750 z_751 z_752 z_753 z_754 z_755
  z_756 z_757 z_758 z_759 z_760 z_761 z_762 z_763 z_764 z_765 z_766 z_767 z_768 z_769 z_770 z_771 z_772 z_773 z_774 z_775 z_776 z_777 z_778 z_779 z_780 z_781 z_782 z_783 z_784 z_785 z_786 z_787 z_788 z_789 z_790 z_791
  z_792 z_793 z_794 z_795 z_796 z_797 z_798 z_799 z_800 z_801 z_802 z_803 z_804 z_805 z_806 z_807 z_808 : Value), Ob (F_forbidden.named.pre ([Dat.z a_3.t.low, Dat.z a_3.t.high, Dat.p a_3.t.eg, Dat.p a_3.t.no, Dat.p
  a_3.t.so] ++ ([Dat.z a_3.s, Dat.z a_3.t.sex, Dat.z a_3.t.shell, Dat.p (eB a_3.m), Dat.p (nB a_3.m)] ++ []))) ∧ (∃ (a_4 : TqF), Ob ((a_4.k ≤ nat_lit 5 ∧ a_4.s = a_3.s ∧ (↑a_4.m : Int) = (↑a_3.m : Int) ∧ a_4.m < nat_lit 4)
  ∧ a_4.t.okB a_4.m ∧ a_4.t.Is ∧ a_4.t.a ≤ a_4.s ∧ a_4.s ≤ a_4.t.b) ∧ Ob (SV.v (Value.bool false) = SV.v (Value.bool false)) ∧ Ob (nat_lit 5 = nat_lit 5) ∧ Ob (a_3.t.keep = a_4.t.keep) ∧ Ob (a_3.s = a_3.s) ∧ Ob ((↑a_3.m :
  Int) = (↑a_3.m : Int)) ∧ Ob (nat_lit 5 = nat_lit 5) ∧ Ob (true = true ↔ ∀ (i : Nat), i < a_4.k → ¬a_4.t.fb a_4.s a_4.m i) ∧ Ob ((0 : Int) = (↑a_4.k : Int)) ∧ Ob (nat_lit 5 = nat_lit 5 ∧ ∀ (i : Nat), i < nat_lit 5 →
  (El.fn fun (i : Nat) ↦ [SV.p (fbP a_3.t.low a_3.t.high a_3.t.eg a_3.t.no a_3.t.so a_3.s a_3.t.shell (eB a_3.m) (nB a_3.m) i)]).at i = (El.fn fun (i : Nat) ↦ [SV.p (a_4.t.fb a_4.s a_4.m i)]).at i) ∧ Ob (nat_lit 6 =
  nat_lit 6 ∧ ∀ (i : Nat), i < nat_lit 6 → (El.fn fun (i : Nat) ↦ [SV.p (a_3.t.some a_3.s a_3.m i)]).at i = (El.fn fun (i : Nat) ↦ [SV.p (a_4.t.someK a_4.s a_4.m a_4.k i)]).at i) ∧ Ob (nat_lit 6 = nat_lit 6 ∧ ∀ (i : Nat),
  i < nat_lit 6 → (El.fn fun (i : Nat) ↦ [SV.p (a_3.t.all a_3.s a_3.m i)]).at i = (El.fn fun (i : Nat) ↦ [SV.p (a_4.t.allK a_4.s a_4.m a_4.k i)]).at i) ∧ Ob (nat_lit 5 = nat_lit 5 ∧ ∀ (i : Nat), i < nat_lit 5 → (El.fn
  (Rv.elemOf [IntKind.i64] a_3.t.R)).at i = (El.fn (Rv.elemOf [IntKind.i64] a_4.t.R)).at i) ∧ Ob (a_3.t.a = a_4.t.a) ∧ Ob (a_3.t.b = a_4.t.b) ∧ Ob (a_3.t.sex = a_4.t.sex) ∧ Ob (a_3.t.eggs = a_4.t.eggs) ∧ Ob (a_3.t.notch =
  a_4.t.notch) ∧ Ob (a_3.t.shell = a_4.t.shell) ∧ Ob (a_3.t.low = a_4.t.low) ∧ Ob (a_3.t.high = a_4.t.high) ∧ Ob (a_3.t.eg ↔ a_4.t.eg) ∧ Ob (a_3.t.no ↔ a_4.t.no) ∧ Ob (a_3.t.so ↔ a_4.t.so) ∧ Ob (a_3.t.q = a_4.t.q) ∧ Ob
  (PlainE (nat_lit 5) (El.fn fun (i : Nat) ↦ [SV.p (a_4.t.fb a_4.s a_4.m i)])) ∧ Ob (PlainE (nat_lit 6) (El.fn fun (i : Nat) ↦ [SV.p (a_4.t.someK a_4.s a_4.m a_4.k i)])) ∧ Ob (PlainE (nat_lit 6) (El.fn fun (i : Nat) ↦
  [SV.p (a_4.t.allK a_4.s a_4.m a_4.k i)])) ∧ Ob (PlainE (nat_lit 5) (El.fn (Rv.elemOf [IntKind.i64] a_4.t.R))) ∧ True) ∧ ∀ (a_4 : TqF), (a_4.k ≤ nat_lit 5 ∧ a_4.s = a_3.s ∧ (↑a_4.m : Int) = (↑a_3.m : Int) ∧ a_4.m <
  nat_lit 4) ∧ a_4.t.okB a_4.m ∧ a_4.t.Is ∧ a_4.t.a ≤ a_4.s ∧ a_4.s ≤ a_4.t.b → ∀ (z_809 z_810 z_811 z_812 z_813 z_814 z_815 z_816 z_817 z_818 z_819 z_820 z_821 z_822 z_823 z_824 z_825 z_826 z_827 z_828 z_829 z_830 z_831
  z_832 z_833 z_834 z_835 z_836 z_837 z_838 z_839 z_840 z_841 z_842 z_843 z_844 z_845 z_846 z_847 z_848 z_849 z_850 z_851 z_852 z_853 z_854 z_855 z_856 z_857 z_858 z_859 z_860 z_861 z_862 z_863 z_864 z_865 z_866 z_867
  z_868 z_869 z_870 z_871 z_872 z_873 z_874 z_875 z_876 z_877 z_878 z_879 z_880 z_881 z_882 z_883 z_884 z_885 z_886 z_887 z_888 z_889 z_890 z_891 z_892 z_893 z_894 z_895 z_896 z_897 z_898 z_899 z_900 z_901 z_902 z_903
  z_904 z_905 z_906 z_907 z_908 z_909 z_910 z_911 z_912 z_913 z_914 z_915 z_916 z_917 z_918 z_919 z_920 z_921 z_922 z_923 z_924 z_925 z_926 z_927 z_928 z_929 z_930 z_931 z_932 z_933 z_934 z_935 z_936 z_937 z_938 z_939
  z_940 z_941 z_942 z_943 z_944 z_945 z_946 z_947 z_948 z_949 z_950 z_951 z_952 z_953 z_954 z_955 z_956 z_957 z_958 z_959 z_960 z_961 z_962 z_963 z_964 z_965 z_966 z_967 z_968 z_969 z_970 z_971 z_972 z_973 z_974 z_975
  z_976 z_977 z_978 z_979 z_980 z_981 z_982 z_983 z_984 z_985 z_986 z_987 z_988 z_989 z_990 z_991 z_992 z_993 z_994 z_995 z_996 z_997 z_998 z_999 z_1000 z_1001 z_1002 z_1003 z_1004 z_1005 z_1006 z_1007 : Value), ((↑a_4.k :
  Int) < (5 : Int) → Ob ((0 : Int) ≤ (↑a_4.k : Int) ∧ a_4.k < nat_lit 6) ∧ Ob (a_4.k < nat_lit 6) ∧ (a_4.t.allK a_4.s a_4.m a_4.k a_4.k → Ob ((0 : Int) ≤ (↑a_4.k : Int) ∧ a_4.k < nat_lit 5) ∧ Ob (a_4.k < nat_lit 5) ∧ Ob
  ((0 : Int) ≤ (↑a_4.k : Int) ∧ a_4.k < nat_lit 6) ∧ Ob (a_4.k < nat_lit 6) ∧ (¬a_4.t.someK a_4.s a_4.m a_4.k a_4.k → Ob ((0 : Int) ≤ (↑a_4.k : Int) ∧ a_4.k < nat_lit 5) ∧ Ob (a_4.k < nat_lit 5) ∧ ((∀ (i : Nat), i < a_4.k
  → ¬a_4.t.fb a_4.s a_4.m i) → Ob ((0 : Int) ≤ (↑a_4.k : Int) ∧ a_4.k < nat_lit 5) ∧ Ob (a_4.k < nat_lit 5) ∧ Ob ((0 : Int) ≤ (↑a_4.k : Int) ∧ a_4.k < nat_lit 6) ∧ Ob (a_4.k < nat_lit 6 ∧ ((El.fn fun (i : Nat) ↦ [SV.p
  (a_4.t.allK a_4.s a_4.m a_4.k i)]).at a_4.k).length = nat_lit 1) ∧ Ob (PlainE (nat_lit 6) (updL (El.fn fun (i : Nat) ↦ [SV.p (a_4.t.allK a_4.s a_4.m a_4.k i)]) a_4.k (nat_lit 0) [SV.p (a_4.t.fb a_4.s a_4.m a_4.k)])) ∧ Ob
  ((0 : Int) ≤ (↑a_4.k : Int) ∧ a_4.k < nat_lit 6) ∧ Ob (a_4.k < nat_lit 6 ∧ ((El.fn fun (i : Nat) ↦ [SV.p (a_4.t.someK a_4.s a_4.m a_4.k i)]).at a_4.k).length = nat_lit 1) ∧ Ob (PlainE (nat_lit 6) (updL (El.fn fun (i :
  Nat) ↦ [SV.p (a_4.t.someK a_4.s a_4.m a_4.k i)]) a_4.k (nat_lit 0) [SV.p (a_4.t.fb a_4.s a_4.m a_4.k)])) ∧ Ob (InR IntKind.i64 ((↑a_4.k : Int) + (1 : Int))) ∧ ∃ (a' : TqF), Ob (((a'.k ≤ nat_lit 5 ∧ a'.s = a_3.s ∧ (↑a'.m
  : Int) = (↑a_3.m : Int) ∧ a'.m < nat_lit 4) ∧ a'.t.okB a'.m ∧ a'.t.Is ∧ a'.t.a ≤ a'.s ∧ a'.s ≤ a'.t.b) ∧ nat_lit 5 - a'.k < nat_lit 5 - a_4.k) ∧ Ob (SV.v (Value.bool false) = SV.v (Value.bool false)) ∧ Ob (nat_lit 5 =
  nat_lit 5) ∧ Ob (a_4.t.keep = a'.t.keep) ∧ Ob (a_3.s = a_3.s) ∧ Ob ((↑a_3.m : Int) = (↑a_3.m : Int)) ∧ Ob (nat_lit 5 = nat_lit 5) ∧ Ob (¬a_4.t.fb a_4.s a_4.m a_4.k ↔ ∀ (i : Nat), i < a'.k → ¬a'.t.fb a'.s a'.m i) ∧ Ob
  ((↑a_4.k : Int) + (1 : Int) = (↑a'.k : Int)) ∧ Ob (nat_lit 5 = nat_lit 5 ∧ ∀ (i : Nat), i < nat_lit 5 → (El.fn fun (i : Nat) ↦ [SV.p (a_4.t.fb a_4.s a_4.m i)]).at i = (El.fn fun (i : Nat) ↦ [SV.p (a'.t.fb a'.s a'.m
  i)]).at i) ∧ Ob (nat_lit 6 = nat_lit 6 ∧ ∀ (i : Nat), i < nat_lit 6 → (updL (El.fn fun (i : Nat) ↦ [SV.p (a_4.t.someK a_4.s a_4.m a_4.k i)]) a_4.k (nat_lit 0) [SV.p (a_4.t.fb a_4.s a_4.m a_4.k)]).at i = (El.fn fun (i :
  Nat) ↦ [SV.p (a'.t.someK a'.s a'.m a'.k i)]).at i) ∧ Ob (nat_lit 6 = nat_lit 6 ∧ ∀ (i : Nat), i < nat_lit 6 → (updL (El.fn fun (i : Nat) ↦ [SV.p (a_4.t.allK a_4.s a_4.m a_4.k i)]) a_4.k (nat_lit 0) [SV.p (a_4.t.fb a_4.s
  a_4.m a_4.k)]).at i = (El.fn fun (i : Nat) ↦ [SV.p (a'.t.allK a'.s a'.m a'.k i)]).at i) ∧ Ob (nat_lit 5 = nat_lit 5 ∧ ∀ (i : Nat), i < nat_lit 5 → (El.fn (Rv.elemOf [IntKind.i64] a_4.t.R)).at i = (El.fn (Rv.elemOf
  [IntKind.i64] a'.t.R)).at i) ∧ Ob (a_4.t.a = a'.t.a) ∧ Ob (a_4.t.b = a'.t.b) ∧ Ob (a_4.t.sex = a'.t.sex) ∧ Ob (a_4.t.eggs = a'.t.eggs) ∧ Ob (a_4.t.notch = a'.t.notch) ∧ Ob (a_4.t.shell = a'.t.shell) ∧ Ob (a_4.t.low =
  a'.t.low) ∧ Ob (a_4.t.high = a'.t.high) ∧ Ob (a_4.t.eg ↔ a'.t.eg) ∧ Ob (a_4.t.no ↔ a'.t.no) ∧ Ob (a_4.t.so ↔ a'.t.so) ∧ Ob (a_4.t.q = a'.t.q) ∧ Ob (PlainE (nat_lit 5) (El.fn fun (i : Nat) ↦ [SV.p (a'.t.fb a'.s a'.m i)]))
  ∧ Ob (PlainE (nat_lit 6) (El.fn fun (i : Nat) ↦ [SV.p (a'.t.someK a'.s a'.m a'.k i)])) ∧ Ob (PlainE (nat_lit 6) (El.fn fun (i : Nat) ↦ [SV.p (a'.t.allK a'.s a'.m a'.k i)])) ∧ Ob (PlainE (nat_lit 5) (El.fn (Rv.elemOf
  [IntKind.i64] a'.t.R))) ∧ True) ∧ ((¬∀ (i : Nat), i < a_4.k → ¬a_4.t.fb a_4.s a_4.m i) → Ob ((0 : Int) ≤ (↑a_4.k : Int) ∧ a_4.k < nat_lit 6) ∧ Ob (a_4.k < nat_lit 6 ∧ ((El.fn fun (i : Nat) ↦ [SV.p (a_4.t.allK a_4.s a_4.m
  a_4.k i)]).at a_4.k).length = nat_lit 1) ∧ Ob (PlainE (nat_lit 6) (updL (El.fn fun (i : Nat) ↦ [SV.p (a_4.t.allK a_4.s a_4.m a_4.k i)]) a_4.k (nat_lit 0) [SV.p (a_4.t.fb a_4.s a_4.m a_4.k)])) ∧ Ob ((0 : Int) ≤ (↑a_4.k :
  Int) ∧ a_4.k < nat_lit 6) ∧ Ob (a_4.k < nat_lit 6 ∧ ((El.fn fun (i : Nat) ↦ [SV.p (a_4.t.someK a_4.s a_4.m a_4.k i)]).at a_4.k).length = nat_lit 1) ∧ Ob (PlainE (nat_lit 6) (updL (El.fn fun (i : Nat) ↦ [SV.p (a_4.t.someK
  a_4.s a_4.m a_4.k i)]) a_4.k (nat_lit 0) [SV.p (a_4.t.fb a_4.s a_4.m a_4.k)])) ∧ Ob (InR IntKind.i64 ((↑a_4.k : Int) + (1 : Int))) ∧ ∃ (a' : TqF), Ob (((a'.k ≤ nat_lit 5 ∧ a'.s = a_3.s ∧ (↑a'.m : Int) = (↑a_3.m : Int) ∧
  a'.m < nat_lit 4) ∧ a'.t.okB a'.m ∧ a'.t.Is ∧ a'.t.a ≤ a'.s ∧ a'.s ≤ a'.t.b) ∧ nat_lit 5 - a'.k < nat_lit 5 - a_4.k) ∧ Ob (SV.v (Value.bool false) = SV.v (Value.bool false)) ∧ Ob (nat_lit 5 = nat_lit 5) ∧ Ob (a_4.t.keep
  = a'.t.keep) ∧ Ob (a_3.s = a_3.s) ∧ Ob ((↑a_3.m : Int) = (↑a_3.m : Int)) ∧ Ob (nat_lit 5 = nat_lit 5) ∧ Ob (false = true ↔ ∀ (i : Nat), i < a'.k → ¬a'.t.fb a'.s a'.m i) ∧ Ob ((↑a_4.k : Int) + (1 : Int) = (↑a'.k : Int)) ∧
  Ob (nat_lit 5 = nat_lit 5 ∧ ∀ (i : Nat), i < nat_lit 5 → (El.fn fun (i : Nat) ↦ [SV.p (a_4.t.fb a_4.s a_4.m i)]).at i = (El.fn fun (i : Nat) ↦ [SV.p (a'.t.fb a'.s a'.m i)]).at i) ∧ Ob (nat_lit 6 = nat_lit 6 ∧ ∀ (i :
  Nat), i < nat_lit 6 → (updL (El.fn fun (i : Nat) ↦ [SV.p (a_4.t.someK a_4.s a_4.m a_4.k i)]) a_4.k (nat_lit 0) [SV.p (a_4.t.fb a_4.s a_4.m a_4.k)]).at i = (El.fn fun (i : Nat) ↦ [SV.p (a'.t.someK a'.s a'.m a'.k i)]).at
  i) ∧ Ob (nat_lit 6 = nat_lit 6 ∧ ∀ (i : Nat), i < nat_lit 6 → (updL (El.fn fun (i : Nat) ↦ [SV.p (a_4.t.allK a_4.s a_4.m a_4.k i)]) a_4.k (nat_lit 0) [SV.p (a_4.t.fb a_4.s a_4.m a_4.k)]).at i = (El.fn fun (i : Nat) ↦
  [SV.p (a'.t.allK a'.s a'.m a'.k i)]).at i) ∧ Ob (nat_lit 5 = nat_lit 5 ∧ ∀ (i : Nat), i < nat_lit 5 → (El.fn (Rv.elemOf [IntKind.i64] a_4.t.R)).at i = (El.fn (Rv.elemOf [IntKind.i64] a'.t.R)).at i) ∧ Ob (a_4.t.a =
  a'.t.a) ∧ Ob (a_4.t.b = a'.t.b) ∧ Ob (a_4.t.sex = a'.t.sex) ∧ Ob (a_4.t.eggs = a'.t.eggs) ∧ Ob (a_4.t.notch = a'.t.notch) ∧ Ob (a_4.t.shell = a'.t.shell) ∧ Ob (a_4.t.low = a'.t.low) ∧ Ob (a_4.t.high = a'.t.high) ∧ Ob
  (a_4.t.eg ↔ a'.t.eg) ∧ Ob (a_4.t.no ↔ a'.t.no) ∧ Ob (a_4.t.so ↔ a'.t.so) ∧ Ob (a_4.t.q = a'.t.q) ∧ Ob (PlainE (nat_lit 5) (El.fn fun (i : Nat) ↦ [SV.p (a'.t.fb a'.s a'.m i)])) ∧ Ob (PlainE (nat_lit 6) (El.fn fun (i :
  Nat) ↦ [SV.p (a'.t.someK a'.s a'.m a'.k i)])) ∧ Ob (PlainE (nat_lit 6) (El.fn fun (i : Nat) ↦ [SV.p (a'.t.allK a'.s a'.m a'.k i)])) ∧ Ob (PlainE (nat_lit 5) (El.fn (Rv.elemOf [IntKind.i64] a'.t.R))) ∧ True)) ∧
  (a_4.t.someK a_4.s a_4.m a_4.k a_4.k → ((∀ (i : Nat), i < a_4.k → ¬a_4.t.fb a_4.s a_4.m i) → Ob ((0 : Int) ≤ (↑a_4.k : Int) ∧ a_4.k < nat_lit 5) ∧ Ob (a_4.k < nat_lit 5) ∧ Ob ((0 : Int) ≤ (↑a_4.k : Int) ∧ a_4.k < nat_lit
  6) ∧ Ob (a_4.k < nat_lit 6 ∧ ((El.fn fun (i : Nat) ↦ [SV.p (a_4.t.allK a_4.s a_4.m a_4.k i)]).at a_4.k).length = nat_lit 1) ∧ Ob (PlainE (nat_lit 6) (updL (El.fn fun (i : Nat) ↦ [SV.p (a_4.t.allK a_4.s a_4.m a_4.k i)])
  a_4.k (nat_lit 0) [SV.p (a_4.t.fb a_4.s a_4.m a_4.k)])) ∧ Ob ((0 : Int) ≤ (↑a_4.k : Int) ∧ a_4.k < nat_lit 6) ∧ Ob (a_4.k < nat_lit 6 ∧ ((El.fn fun (i : Nat) ↦ [SV.p (a_4.t.someK a_4.s a_4.m a_4.k i)]).at a_4.k).length =
  nat_lit 1) ∧ Ob (PlainE (nat_lit 6) (updL (El.fn fun (i : Nat) ↦ [SV.p (a_4.t.someK a_4.s a_4.m a_4.k i)]) a_4.k (nat_lit 0) [SV.p (true = true)])) ∧ Ob (InR IntKind.i64 ((↑a_4.k : Int) + (1 : Int))) ∧ ∃ (a' : TqF), Ob
  (((a'.k ≤ nat_lit 5 ∧ a'.s = a_3.s ∧ (↑a'.m : Int) = (↑a_3.m : Int) ∧ a'.m < nat_lit 4) ∧ a'.t.okB a'.m ∧ a'.t.Is ∧ a'.t.a ≤ a'.s ∧ a'.s ≤ a'.t.b) ∧ nat_lit 5 - a'.k < nat_lit 5 - a_4.k) ∧ Ob (SV.v (Value.bool false) =
  SV.v (Value.bool false)) ∧ Ob (nat_lit 5 = nat_lit 5) ∧ Ob (a_4.t.keep = a'.t.keep) ∧ Ob (a_3.s = a_3.s) ∧ Ob ((↑a_3.m : Int) = (↑a_3.m : Int)) ∧ Ob (nat_lit 5 = nat_lit 5) ∧ Ob (¬a_4.t.fb a_4.s a_4.m a_4.k ↔ ∀ (i :
  Nat), i < a'.k → ¬a'.t.fb a'.s a'.m i) ∧ Ob ((↑a_4.k : Int) + (1 : Int) = (↑a'.k : Int)) ∧ Ob (nat_lit 5 = nat_lit 5 ∧ ∀ (i : Nat), i < nat_lit 5 → (El.fn fun (i : Nat) ↦ [SV.p (a_4.t.fb a_4.s a_4.m i)]).at i = (El.fn
  fun (i : Nat) ↦ [SV.p (a'.t.fb a'.s a'.m i)]).at i) ∧ Ob (nat_lit 6 = nat_lit 6 ∧ ∀ (i : Nat), i < nat_lit 6 → (updL (El.fn fun (i : Nat) ↦ [SV.p (a_4.t.someK a_4.s a_4.m a_4.k i)]) a_4.k (nat_lit 0) [SV.p (true =
  true)]).at i = (El.fn fun (i : Nat) ↦ [SV.p (a'.t.someK a'.s a'.m a'.k i)]).at i) ∧ Ob (nat_lit 6 = nat_lit 6 ∧ ∀ (i : Nat), i < nat_lit 6 → (updL (El.fn fun (i : Nat) ↦ [SV.p (a_4.t.allK a_4.s a_4.m a_4.k i)]) a_4.k
  (nat_lit 0) [SV.p (a_4.t.fb a_4.s a_4.m a_4.k)]).at i = (El.fn fun (i : Nat) ↦ [SV.p (a'.t.allK a'.s a'.m a'.k i)]).at i) ∧ Ob (nat_lit 5 = nat_lit 5 ∧ ∀ (i : Nat), i < nat_lit 5 → (El.fn (Rv.elemOf [IntKind.i64]
  a_4.t.R)).at i = (El.fn (Rv.elemOf [IntKind.i64] a'.t.R)).at i) ∧ Ob (a_4.t.a = a'.t.a) ∧ Ob (a_4.t.b = a'.t.b) ∧ Ob (a_4.t.sex = a'.t.sex) ∧ Ob (a_4.t.eggs = a'.t.eggs) ∧ Ob (a_4.t.notch = a'.t.notch) ∧ Ob (a_4.t.shell
  = a'.t.shell) ∧ Ob (a_4.t.low = a'.t.low) ∧ Ob (a_4.t.high = a'.t.high) ∧ Ob (a_4.t.eg ↔ a'.t.eg) ∧ Ob (a_4.t.no ↔ a'.t.no) ∧ Ob (a_4.t.so ↔ a'.t.so) ∧ Ob (a_4.t.q = a'.t.q) ∧ Ob (PlainE (nat_lit 5) (El.fn fun (i : Nat)
  ↦ [SV.p (a'.t.fb a'.s a'.m i)])) ∧ Ob (PlainE (nat_lit 6) (El.fn fun (i : Nat) ↦ [SV.p (a'.t.someK a'.s a'.m a'.k i)])) ∧ Ob (PlainE (nat_lit 6) (El.fn fun (i : Nat) ↦ [SV.p (a'.t.allK a'.s a'.m a'.k i)])) ∧ Ob (PlainE
  (nat_lit 5) (El.fn (Rv.elemOf [IntKind.i64] a'.t.R))) ∧ True) ∧ ((¬∀ (i : Nat), i < a_4.k → ¬a_4.t.fb a_4.s a_4.m i) → Ob ((0 : Int) ≤ (↑a_4.k : Int) ∧ a_4.k < nat_lit 6) ∧ Ob (a_4.k < nat_lit 6 ∧ ((El.fn fun (i : Nat) ↦
  [SV.p (a_4.t.allK a_4.s a_4.m a_4.k i)]).at a_4.k).length = nat_lit 1) ∧ Ob (PlainE (nat_lit 6) (updL (El.fn fun (i : Nat) ↦ [SV.p (a_4.t.allK a_4.s a_4.m a_4.k i)]) a_4.k (nat_lit 0) [SV.p (a_4.t.fb a_4.s a_4.m
  a_4.k)])) ∧ Ob ((0 : Int) ≤ (↑a_4.k : Int) ∧ a_4.k < nat_lit 6) ∧ Ob (a_4.k < nat_lit 6 ∧ ((El.fn fun (i : Nat) ↦ [SV.p (a_4.t.someK a_4.s a_4.m a_4.k i)]).at a_4.k).length = nat_lit 1) ∧ Ob (PlainE (nat_lit 6) (updL
  (El.fn fun (i : Nat) ↦ [SV.p (a_4.t.someK a_4.s a_4.m a_4.k i)]) a_4.k (nat_lit 0) [SV.p (true = true)])) ∧ Ob (InR IntKind.i64 ((↑a_4.k : Int) + (1 : Int))) ∧ ∃ (a' : TqF), Ob (((a'.k ≤ nat_lit 5 ∧ a'.s = a_3.s ∧ (↑a'.m
  : Int) = (↑a_3.m : Int) ∧ a'.m < nat_lit 4) ∧ a'.t.okB a'.m ∧ a'.t.Is ∧ a'.t.a ≤ a'.s ∧ a'.s ≤ a'.t.b) ∧ nat_lit 5 - a'.k < nat_lit 5 - a_4.k) ∧ Ob (SV.v (Value.bool false) = SV.v (Value.bool false)) ∧ Ob (nat_lit 5 =
  nat_lit 5) ∧ Ob (a_4.t.keep = a'.t.keep) ∧ Ob (a_3.s = a_3.s) ∧ Ob ((↑a_3.m : Int) = (↑a_3.m : Int)) ∧ Ob (nat_lit 5 = nat_lit 5) ∧ Ob (false = true ↔ ∀ (i : Nat), i < a'.k → ¬a'.t.fb a'.s a'.m i) ∧ Ob ((↑a_4.k : Int) +
  (1 : Int) = (↑a'.k : Int)) ∧ Ob (nat_lit 5 = nat_lit 5 ∧ ∀ (i : Nat), i < nat_lit 5 → (El.fn fun (i : Nat) ↦ [SV.p (a_4.t.fb a_4.s a_4.m i)]).at i = (El.fn fun (i : Nat) ↦ [SV.p (a'.t.fb a'.s a'.m i)]).at i) ∧ Ob
  (nat_lit 6 = nat_lit 6 ∧ ∀ (i : Nat), i < nat_lit 6 → (updL (El.fn fun (i : Nat) ↦ [SV.p (a_4.t.someK a_4.s a_4.m a_4.k i)]) a_4.k (nat_lit 0) [SV.p (true = true)]).at i = (El.fn fun (i : Nat) ↦ [SV.p (a'.t.someK a'.s
  a'.m a'.k i)]).at i) ∧ Ob (nat_lit 6 = nat_lit 6 ∧ ∀ (i : Nat), i < nat_lit 6 → (updL (El.fn fun (i : Nat) ↦ [SV.p (a_4.t.allK a_4.s a_4.m a_4.k i)]) a_4.k (nat_lit 0) [SV.p (a_4.t.fb a_4.s a_4.m a_4.k)]).at i = (El.fn
  fun (i : Nat) ↦ [SV.p (a'.t.allK a'.s a'.m a'.k i)]).at i) ∧ Ob (nat_lit 5 = nat_lit 5 ∧ ∀ (i : Nat), i < nat_lit 5 → (El.fn (Rv.elemOf [IntKind.i64] a_4.t.R)).at i = (El.fn (Rv.elemOf [IntKind.i64] a'.t.R)).at i) ∧ Ob
  (a_4.t.a = a'.t.a) ∧ Ob (a_4.t.b = a'.t.b) ∧ Ob (a_4.t.sex = a'.t.sex) ∧ Ob (a_4.t.eggs = a'.t.eggs) ∧ Ob (a_4.t.notch = a'.t.notch) ∧ Ob (a_4.t.shell = a'.t.shell) ∧ Ob (a_4.t.low = a'.t.low) ∧ Ob (a_4.t.high =
  a'.t.high) ∧ Ob (a_4.t.eg ↔ a'.t.eg) ∧ Ob (a_4.t.no ↔ a'.t.no) ∧ Ob (a_4.t.so ↔ a'.t.so) ∧ Ob (a_4.t.q = a'.t.q) ∧ Ob (PlainE (nat_lit 5) (El.fn fun (i : Nat) ↦ [SV.p (a'.t.fb a'.s a'.m i)])) ∧ Ob (PlainE (nat_lit 6)
  (El.fn fun (i : Nat) ↦ [SV.p (a'.t.someK a'.s a'.m a'.k i)])) ∧ Ob (PlainE (nat_lit 6) (El.fn fun (i : Nat) ↦ [SV.p (a'.t.allK a'.s a'.m a'.k i)])) ∧ Ob (PlainE (nat_lit 5) (El.fn (Rv.elemOf [IntKind.i64] a'.t.R))) ∧
  True))) ∧ (¬a_4.t.allK a_4.s a_4.m a_4.k a_4.k → Ob ((0 : Int) ≤ (↑a_4.k : Int) ∧ a_4.k < nat_lit 6) ∧ Ob (a_4.k < nat_lit 6) ∧ (¬a_4.t.someK a_4.s a_4.m a_4.k a_4.k → Ob ((0 : Int) ≤ (↑a_4.k : Int) ∧ a_4.k < nat_lit 5)
  ∧ Ob (a_4.k < nat_lit 5) ∧ ((∀ (i : Nat), i < a_4.k → ¬a_4.t.fb a_4.s a_4.m i) → Ob ((0 : Int) ≤ (↑a_4.k : Int) ∧ a_4.k < nat_lit 5) ∧ Ob (a_4.k < nat_lit 5) ∧ Ob ((0 : Int) ≤ (↑a_4.k : Int) ∧ a_4.k < nat_lit 6) ∧ Ob
  (a_4.k < nat_lit 6 ∧ ((El.fn fun (i : Nat) ↦ [SV.p (a_4.t.allK a_4.s a_4.m a_4.k i)]).at a_4.k).length = nat_lit 1) ∧ Ob (PlainE (nat_lit 6) (updL (El.fn fun (i : Nat) ↦ [SV.p (a_4.t.allK a_4.s a_4.m a_4.k i)]) a_4.k
  (nat_lit 0) [SV.p (false = true)])) ∧ Ob ((0 : Int) ≤ (↑a_4.k : Int) ∧ a_4.k < nat_lit 6) ∧ Ob (a_4.k < nat_lit 6 ∧ ((El.fn fun (i : Nat) ↦ [SV.p (a_4.t.someK a_4.s a_4.m a_4.k i)]).at a_4.k).length = nat_lit 1) ∧ Ob
  (PlainE (nat_lit 6) (updL (El.fn fun (i : Nat) ↦ [SV.p (a_4.t.someK a_4.s a_4.m a_4.k i)]) a_4.k (nat_lit 0) [SV.p (a_4.t.fb a_4.s a_4.m a_4.k)])) ∧ Ob (InR IntKind.i64 ((↑a_4.k : Int) + (1 : Int))) ∧ ∃ (a' : TqF), Ob
  (((a'.k ≤ nat_lit 5 ∧ a'.s = a_3.s ∧ (↑a'.m : Int) = (↑a_3.m : Int) ∧ a'.m < nat_lit 4) ∧ a'.t.okB a'.m ∧ a'.t.Is ∧ a'.t.a ≤ a'.s ∧ a'.s ≤ a'.t.b) ∧ nat_lit 5 - a'.k < nat_lit 5 - a_4.k) ∧ Ob (SV.v (Value.bool false) =
  SV.v (Value.bool false)) ∧ Ob (nat_lit 5 = nat_lit 5) ∧ Ob (a_4.t.keep = a'.t.keep) ∧ Ob (a_3.s = a_3.s) ∧ Ob ((↑a_3.m : Int) = (↑a_3.m : Int)) ∧ Ob (nat_lit 5 = nat_lit 5) ∧ Ob (¬a_4.t.fb a_4.s a_4.m a_4.k ↔ ∀ (i :
  Nat), i < a'.k → ¬a'.t.fb a'.s a'.m i) ∧ Ob ((↑a_4.k : Int) + (1 : Int) = (↑a'.k : Int)) ∧ Ob (nat_lit 5 = nat_lit 5 ∧ ∀ (i : Nat), i < nat_lit 5 → (El.fn fun (i : Nat) ↦ [SV.p (a_4.t.fb a_4.s a_4.m i)]).at i = (El.fn
  fun (i : Nat) ↦ [SV.p (a'.t.fb a'.s a'.m i)]).at i) ∧ Ob (nat_lit 6 = nat_lit 6 ∧ ∀ (i : Nat), i < nat_lit 6 → (updL (El.fn fun (i : Nat) ↦ [SV.p (a_4.t.someK a_4.s a_4.m a_4.k i)]) a_4.k (nat_lit 0) [SV.p (a_4.t.fb
  a_4.s a_4.m a_4.k)]).at i = (El.fn fun (i : Nat) ↦ [SV.p (a'.t.someK a'.s a'.m a'.k i)]).at i) ∧ Ob (nat_lit 6 = nat_lit 6 ∧ ∀ (i : Nat), i < nat_lit 6 → (updL (El.fn fun (i : Nat) ↦ [SV.p (a_4.t.allK a_4.s a_4.m a_4.k
  i)]) a_4.k (nat_lit 0) [SV.p (false = true)]).at i = (El.fn fun (i : Nat) ↦ [SV.p (a'.t.allK a'.s a'.m a'.k i)]).at i) ∧ Ob (nat_lit 5 = nat_lit 5 ∧ ∀ (i : Nat), i < nat_lit 5 → (El.fn (Rv.elemOf [IntKind.i64]
  a_4.t.R)).at i = (El.fn (Rv.elemOf [IntKind.i64] a'.t.R)).at i) ∧ Ob (a_4.t.a = a'.t.a) ∧ Ob (a_4.t.b = a'.t.b) ∧ Ob (a_4.t.sex = a'.t.sex) ∧ Ob (a_4.t.eggs = a'.t.eggs) ∧ Ob (a_4.t.notch = a'.t.notch) ∧ Ob (a_4.t.shell
  = a'.t.shell) ∧ Ob (a_4.t.low = a'.t.low) ∧ Ob (a_4.t.high = a'.t.high) ∧ Ob (a_4.t.eg ↔ a'.t.eg) ∧ Ob (a_4.t.no ↔ a'.t.no) ∧ Ob (a_4.t.so ↔ a'.t.so) ∧ Ob (a_4.t.q = a'.t.q) ∧ Ob (PlainE (nat_lit 5) (El.fn fun (i : Nat)
  ↦ [SV.p (a'.t.fb a'.s a'.m i)])) ∧ Ob (PlainE (nat_lit 6) (El.fn fun (i : Nat) ↦ [SV.p (a'.t.someK a'.s a'.m a'.k i)])) ∧ Ob (PlainE (nat_lit 6) (El.fn fun (i : Nat) ↦ [SV.p (a'.t.allK a'.s a'.m a'.k i)])) ∧ Ob (PlainE
  (nat_lit 5) (El.fn (Rv.elemOf [IntKind.i64] a'.t.R))) ∧ True) ∧ ((¬∀ (i : Nat), i < a_4.k → ¬a_4.t.fb a_4.s a_4.m i) → Ob ((0 : Int) ≤ (↑a_4.k : Int) ∧ a_4.k < nat_lit 6) ∧ Ob (a_4.k < nat_lit 6 ∧ ((El.fn fun (i : Nat) ↦
  [SV.p (a_4.t.allK a_4.s a_4.m a_4.k i)]).at a_4.k).length = nat_lit 1) ∧ Ob (PlainE (nat_lit 6) (updL (El.fn fun (i : Nat) ↦ [SV.p (a_4.t.allK a_4.s a_4.m a_4.k i)]) a_4.k (nat_lit 0) [SV.p (false = true)])) ∧ Ob ((0 :
  Int) ≤ (↑a_4.k : Int) ∧ a_4.k < nat_lit 6) ∧ Ob (a_4.k < nat_lit 6 ∧ ((El.fn fun (i : Nat) ↦ [SV.p (a_4.t.someK a_4.s a_4.m a_4.k i)]).at a_4.k).length = nat_lit 1) ∧ Ob (PlainE (nat_lit 6) (updL (El.fn fun (i : Nat) ↦
  [SV.p (a_4.t.someK a_4.s a_4.m a_4.k i)]) a_4.k (nat_lit 0) [SV.p (a_4.t.fb a_4.s a_4.m a_4.k)])) ∧ Ob (InR IntKind.i64 ((↑a_4.k : Int) + (1 : Int))) ∧ ∃ (a' : TqF), Ob (((a'.k ≤ nat_lit 5 ∧ a'.s = a_3.s ∧ (↑a'.m : Int)
  = (↑a_3.m : Int) ∧ a'.m < nat_lit 4) ∧ a'.t.okB a'.m ∧ a'.t.Is ∧ a'.t.a ≤ a'.s ∧ a'.s ≤ a'.t.b) ∧ nat_lit 5 - a'.k < nat_lit 5 - a_4.k) ∧ Ob (SV.v (Value.bool false) = SV.v (Value.bool false)) ∧ Ob (nat_lit 5 = nat_lit
  5) ∧ Ob (a_4.t.keep = a'.t.keep) ∧ Ob (a_3.s = a_3.s) ∧ Ob ((↑a_3.m : Int) = (↑a_3.m : Int)) ∧ Ob (nat_lit 5 = nat_lit 5) ∧ Ob (false = true ↔ ∀ (i : Nat), i < a'.k → ¬a'.t.fb a'.s a'.m i) ∧ Ob ((↑a_4.k : Int) + (1 :
  Int) = (↑a'.k : Int)) ∧ Ob (nat_lit 5 = nat_lit 5 ∧ ∀ (i : Nat), i < nat_lit 5 → (El.fn fun (i : Nat) ↦ [SV.p (a_4.t.fb a_4.s a_4.m i)]).at i = (El.fn fun (i : Nat) ↦ [SV.p (a'.t.fb a'.s a'.m i)]).at i) ∧ Ob (nat_lit 6 =
  nat_lit 6 ∧ ∀ (i : Nat), i < nat_lit 6 → (updL (El.fn fun (i : Nat) ↦ [SV.p (a_4.t.someK a_4.s a_4.m a_4.k i)]) a_4.k (nat_lit 0) [SV.p (a_4.t.fb a_4.s a_4.m a_4.k)]).at i = (El.fn fun (i : Nat) ↦ [SV.p (a'.t.someK a'.s
  a'.m a'.k i)]).at i) ∧ Ob (nat_lit 6 = nat_lit 6 ∧ ∀ (i : Nat), i < nat_lit 6 → (updL (El.fn fun (i : Nat) ↦ [SV.p (a_4.t.allK a_4.s a_4.m a_4.k i)]) a_4.k (nat_lit 0) [SV.p (false = true)]).at i = (El.fn fun (i : Nat) ↦
  [SV.p (a'.t.allK a'.s a'.m a'.k i)]).at i) ∧ Ob (nat_lit 5 = nat_lit 5 ∧ ∀ (i : Nat), i < nat_lit 5 → (El.fn (Rv.elemOf [IntKind.i64] a_4.t.R)).at i = (El.fn (Rv.elemOf [IntKind.i64] a'.t.R)).at i) ∧ Ob (a_4.t.a =
  a'.t.a) ∧ Ob (a_4.t.b = a'.t.b) ∧ Ob (a_4.t.sex = a'.t.sex) ∧ Ob (a_4.t.eggs = a'.t.eggs) ∧ Ob (a_4.t.notch = a'.t.notch) ∧ Ob (a_4.t.shell = a'.t.shell) ∧ Ob (a_4.t.low = a'.t.low) ∧ Ob (a_4.t.high = a'.t.high) ∧ Ob
  (a_4.t.eg ↔ a'.t.eg) ∧ Ob (a_4.t.no ↔ a'.t.no) ∧ Ob (a_4.t.so ↔ a'.t.so) ∧ Ob (a_4.t.q = a'.t.q) ∧ Ob (PlainE (nat_lit 5) (El.fn fun (i : Nat) ↦ [SV.p (a'.t.fb a'.s a'.m i)])) ∧ Ob (PlainE (nat_lit 6) (El.fn fun (i :
  Nat) ↦ [SV.p (a'.t.someK a'.s a'.m a'.k i)])) ∧ Ob (PlainE (nat_lit 6) (El.fn fun (i : Nat) ↦ [SV.p (a'.t.allK a'.s a'.m a'.k i)])) ∧ Ob (PlainE (nat_lit 5) (El.fn (Rv.elemOf [IntKind.i64] a'.t.R))) ∧ True)) ∧
  (a_4.t.someK a_4.s a_4.m a_4.k a_4.k → ((∀ (i : Nat), i < a_4.k → ¬a_4.t.fb a_4.s a_4.m i) → Ob ((0 : Int) ≤ (↑a_4.k : Int) ∧ a_4.k < nat_lit 5) ∧ Ob (a_4.k < nat_lit 5) ∧ Ob ((0 : Int) ≤ (↑a_4.k : Int) ∧ a_4.k < nat_lit
  6) ∧ Ob (a_4.k < nat_lit 6 ∧ ((El.fn fun (i : Nat) ↦ [SV.p (a_4.t.allK a_4.s a_4.m a_4.k i)]).at a_4.k).length = nat_lit 1) ∧ Ob (PlainE (nat_lit 6) (updL (El.fn fun (i : Nat) ↦ [SV.p (a_4.t.allK a_4.s a_4.m a_4.k i)])
  a_4.k (nat_lit 0) [SV.p (false = true)])) ∧ Ob ((0 : Int) ≤ (↑a_4.k : Int) ∧ a_4.k < nat_lit 6) ∧ Ob (a_4.k < nat_lit 6 ∧ ((El.fn fun (i : Nat) ↦ [SV.p (a_4.t.someK a_4.s a_4.m a_4.k i)]).at a_4.k).length = nat_lit 1) ∧
  Ob (PlainE (nat_lit 6) (updL (El.fn fun (i : Nat) ↦ [SV.p (a_4.t.someK a_4.s a_4.m a_4.k i)]) a_4.k (nat_lit 0) [SV.p (true = true)])) ∧ Ob (InR IntKind.i64 ((↑a_4.k : Int) + (1 : Int))) ∧ ∃ (a' : TqF), Ob (((a'.k ≤
  nat_lit 5 ∧ a'.s = a_3.s ∧ (↑a'.m : Int) = (↑a_3.m : Int) ∧ a'.m < nat_lit 4) ∧ a'.t.okB a'.m ∧ a'.t.Is ∧ a'.t.a ≤ a'.s ∧ a'.s ≤ a'.t.b) ∧ nat_lit 5 - a'.k < nat_lit 5 - a_4.k) ∧ Ob (SV.v (Value.bool false) = SV.v
  (Value.bool false)) ∧ Ob (nat_lit 5 = nat_lit 5) ∧ Ob (a_4.t.keep = a'.t.keep) ∧ Ob (a_3.s = a_3.s) ∧ Ob ((↑a_3.m : Int) = (↑a_3.m : Int)) ∧ Ob (nat_lit 5 = nat_lit 5) ∧ Ob (¬a_4.t.fb a_4.s a_4.m a_4.k ↔ ∀ (i : Nat), i <
  a'.k → ¬a'.t.fb a'.s a'.m i) ∧ Ob ((↑a_4.k : Int) + (1 : Int) = (↑a'.k : Int)) ∧ Ob (nat_lit 5 = nat_lit 5 ∧ ∀ (i : Nat), i < nat_lit 5 → (El.fn fun (i : Nat) ↦ [SV.p (a_4.t.fb a_4.s a_4.m i)]).at i = (El.fn fun (i :
  Nat) ↦ [SV.p (a'.t.fb a'.s a'.m i)]).at i) ∧ Ob (nat_lit 6 = nat_lit 6 ∧ ∀ (i : Nat), i < nat_lit 6 → (updL (El.fn fun (i : Nat) ↦ [SV.p (a_4.t.someK a_4.s a_4.m a_4.k i)]) a_4.k (nat_lit 0) [SV.p (true = true)]).at i =
  (El.fn fun (i : Nat) ↦ [SV.p (a'.t.someK a'.s a'.m a'.k i)]).at i) ∧ Ob (nat_lit 6 = nat_lit 6 ∧ ∀ (i : Nat), i < nat_lit 6 → (updL (El.fn fun (i : Nat) ↦ [SV.p (a_4.t.allK a_4.s a_4.m a_4.k i)]) a_4.k (nat_lit 0) [SV.p
  (false = true)]).at i = (El.fn fun (i : Nat) ↦ [SV.p (a'.t.allK a'.s a'.m a'.k i)]).at i) ∧ Ob (nat_lit 5 = nat_lit 5 ∧ ∀ (i : Nat), i < nat_lit 5 → (El.fn (Rv.elemOf [IntKind.i64] a_4.t.R)).at i = (El.fn (Rv.elemOf
  [IntKind.i64] a'.t.R)).at i) ∧ Ob (a_4.t.a = a'.t.a) ∧ Ob (a_4.t.b = a'.t.b) ∧ Ob (a_4.t.sex = a'.t.sex) ∧ Ob (a_4.t.eggs = a'.t.eggs) ∧ Ob (a_4.t.notch = a'.t.notch) ∧ Ob (a_4.t.shell = a'.t.shell) ∧ Ob (a_4.t.low =
  a'.t.low) ∧ Ob (a_4.t.high = a'.t.high) ∧ Ob (a_4.t.eg ↔ a'.t.eg) ∧ Ob (a_4.t.no ↔ a'.t.no) ∧ Ob (a_4.t.so ↔ a'.t.so) ∧ Ob (a_4.t.q = a'.t.q) ∧ Ob (PlainE (nat_lit 5) (El.fn fun (i : Nat) ↦ [SV.p (a'.t.fb a'.s a'.m i)]))
  ∧ Ob (PlainE (nat_lit 6) (El.fn fun (i : Nat) ↦ [SV.p (a'.t.someK a'.s a'.m a'.k i)])) ∧ Ob (PlainE (nat_lit 6) (El.fn fun (i : Nat) ↦ [SV.p (a'.t.allK a'.s a'.m a'.k i)])) ∧ Ob (PlainE (nat_lit 5) (El.fn (Rv.elemOf
  [IntKind.i64] a'.t.R))) ∧ True) ∧ ((¬∀ (i : Nat), i < a_4.k → ¬a_4.t.fb a_4.s a_4.m i) → Ob ((0 : Int) ≤ (↑a_4.k : Int) ∧ a_4.k < nat_lit 6) ∧ Ob (a_4.k < nat_lit 6 ∧ ((El.fn fun (i : Nat) ↦ [SV.p (a_4.t.allK a_4.s a_4.m
  a_4.k i)]).at a_4.k).length = nat_lit 1) ∧ Ob (PlainE (nat_lit 6) (updL (El.fn fun (i : Nat) ↦ [SV.p (a_4.t.allK a_4.s a_4.m a_4.k i)]) a_4.k (nat_lit 0) [SV.p (false = true)])) ∧ Ob ((0 : Int) ≤ (↑a_4.k : Int) ∧ a_4.k <
  nat_lit 6) ∧ Ob (a_4.k < nat_lit 6 ∧ ((El.fn fun (i : Nat) ↦ [SV.p (a_4.t.someK a_4.s a_4.m a_4.k i)]).at a_4.k).length = nat_lit 1) ∧ Ob (PlainE (nat_lit 6) (updL (El.fn fun (i : Nat) ↦ [SV.p (a_4.t.someK a_4.s a_4.m
  a_4.k i)]) a_4.k (nat_lit 0) [SV.p (true = true)])) ∧ Ob (InR IntKind.i64 ((↑a_4.k : Int) + (1 : Int))) ∧ ∃ (a' : TqF), Ob (((a'.k ≤ nat_lit 5 ∧ a'.s = a_3.s ∧ (↑a'.m : Int) = (↑a_3.m : Int) ∧ a'.m < nat_lit 4) ∧
  a'.t.okB a'.m ∧ a'.t.Is ∧ a'.t.a ≤ a'.s ∧ a'.s ≤ a'.t.b) ∧ nat_lit 5 - a'.k < nat_lit 5 - a_4.k) ∧ Ob (SV.v (Value.bool false) = SV.v (Value.bool false)) ∧ Ob (nat_lit 5 = nat_lit 5) ∧ Ob (a_4.t.keep = a'.t.keep) ∧ Ob
  (a_3.s = a_3.s) ∧ Ob ((↑a_3.m : Int) = (↑a_3.m : Int)) ∧ Ob (nat_lit 5 = nat_lit 5) ∧ Ob (false = true ↔ ∀ (i : Nat), i < a'.k → ¬a'.t.fb a'.s a'.m i) ∧ Ob ((↑a_4.k : Int) + (1 : Int) = (↑a'.k : Int)) ∧ Ob (nat_lit 5 =
  nat_lit 5 ∧ ∀ (i : Nat), i < nat_lit 5 → (El.fn fun (i : Nat) ↦ [SV.p (a_4.t.fb a_4.s a_4.m i)]).at i = (El.fn fun (i : Nat) ↦ [SV.p (a'.t.fb a'.s a'.m i)]).at i) ∧ Ob (nat_lit 6 = nat_lit 6 ∧ ∀ (i : Nat), i < nat_lit 6
  → (updL (El.fn fun (i : Nat) ↦ [SV.p (a_4.t.someK a_4.s a_4.m a_4.k i)]) a_4.k (nat_lit 0) [SV.p (true = true)]).at i = (El.fn fun (i : Nat) ↦ [SV.p (a'.t.someK a'.s a'.m a'.k i)]).at i) ∧ Ob (nat_lit 6 = nat_lit 6 ∧ ∀
  (i : Nat), i < nat_lit 6 → (updL (El.fn fun (i : Nat) ↦ [SV.p (a_4.t.allK a_4.s a_4.m a_4.k i)]) a_4.k (nat_lit 0) [SV.p (false = true)]).at i = (El.fn fun (i : Nat) ↦ [SV.p (a'.t.allK a'.s a'.m a'.k i)]).at i) ∧ Ob
  (nat_lit 5 = nat_lit 5 ∧ ∀ (i : Nat), i < nat_lit 5 → (El.fn (Rv.elemOf [IntKind.i64] a_4.t.R)).at i = (El.fn (Rv.elemOf [IntKind.i64] a'.t.R)).at i) ∧ Ob (a_4.t.a = a'.t.a) ∧ Ob (a_4.t.b = a'.t.b) ∧ Ob (a_4.t.sex =
  a'.t.sex) ∧ Ob (a_4.t.eggs = a'.t.eggs) ∧ Ob (a_4.t.notch = a'.t.notch) ∧ Ob (a_4.t.shell = a'.t.shell) ∧ Ob (a_4.t.low = a'.t.low) ∧ Ob (a_4.t.high = a'.t.high) ∧ Ob (a_4.t.eg ↔ a'.t.eg) ∧ Ob (a_4.t.no ↔ a'.t.no) ∧ Ob
  (a_4.t.so ↔ a'.t.so) ∧ Ob (a_4.t.q = a'.t.q) ∧ Ob (PlainE (nat_lit 5) (El.fn fun (i : Nat) ↦ [SV.p (a'.t.fb a'.s a'.m i)])) ∧ Ob (PlainE (nat_lit 6) (El.fn fun (i : Nat) ↦ [SV.p (a'.t.someK a'.s a'.m a'.k i)])) ∧ Ob
  (PlainE (nat_lit 6) (El.fn fun (i : Nat) ↦ [SV.p (a'.t.allK a'.s a'.m a'.k i)])) ∧ Ob (PlainE (nat_lit 5) (El.fn (Rv.elemOf [IntKind.i64] a'.t.R))) ∧ True)))) ∧ (¬(↑a_4.k : Int) < (5 : Int) → Ob (nat_lit 5 < nat_lit 6) ∧
  (a_4.t.allK a_4.s a_4.m a_4.k (nat_lit 5) → Ob (nat_lit 5 < nat_lit 6) ∧ (¬a_4.t.someK a_4.s a_4.m a_4.k (nat_lit 5) → Ob (nat_lit 5 < nat_lit 6 ∧ ((El.fn fun (i : Nat) ↦ [SV.p (a_4.t.allK a_4.s a_4.m a_4.k i)]).at
  (nat_lit 5)).length = nat_lit 1) ∧ Ob (nat_lit 5 < nat_lit 6 ∧ ((El.fn fun (i : Nat) ↦ [SV.p (a_4.t.someK a_4.s a_4.m a_4.k i)]).at (nat_lit 5)).length = nat_lit 1) ∧ Ob (InR IntKind.i64 ((↑a_3.m : Int) + (1 : Int))) ∧ ∃
  (a' : TqM), Ob ((a'.m ≤ nat_lit 4 ∧ a'.s = a_1.s ∧ a'.t.Is ∧ a'.t.a ≤ a'.s ∧ a'.s ≤ a'.t.b) ∧ nat_lit 4 - a'.m < nat_lit 4 - a_2.m) ∧ Ob (SV.v (Value.bool false) = SV.v (Value.bool false)) ∧ Ob (nat_lit 5 = nat_lit 5) ∧
  Ob (a_4.t.keep = a'.t.keep) ∧ Ob (a_3.s = a_1.s) ∧ Ob ((↑a_3.m : Int) + (1 : Int) = (↑a'.m : Int)) ∧ Ob (nat_lit 6 = nat_lit 6 ∧ ∀ (i : Nat), i < nat_lit 6 → (updL (El.fn fun (i : Nat) ↦ [SV.p (a_4.t.someK a_4.s a_4.m
  a_4.k i)]) (nat_lit 5) (nat_lit 0) [SV.p (∀ (i : Nat), i < a_4.k → ¬a_4.t.fb a_4.s a_4.m i)]).at i = (El.fn fun (i : Nat) ↦ [SV.p (a'.t.some a'.s a'.m i)]).at i) ∧ Ob (nat_lit 6 = nat_lit 6 ∧ ∀ (i : Nat), i < nat_lit 6 →
  (updL (El.fn fun (i : Nat) ↦ [SV.p (a_4.t.allK a_4.s a_4.m a_4.k i)]) (nat_lit 5) (nat_lit 0) [SV.p (∀ (i : Nat), i < a_4.k → ¬a_4.t.fb a_4.s a_4.m i)]).at i = (El.fn fun (i : Nat) ↦ [SV.p (a'.t.all a'.s a'.m i)]).at i)
  ∧ Ob (nat_lit 5 = nat_lit 5 ∧ ∀ (i : Nat), i < nat_lit 5 → (El.fn (Rv.elemOf [IntKind.i64] a_4.t.R)).at i = (El.fn (Rv.elemOf [IntKind.i64] a'.t.R)).at i) ∧ Ob (a_4.t.a = a'.t.a) ∧ Ob (a_4.t.b = a'.t.b) ∧ Ob (a_4.t.sex =
  a'.t.sex) ∧ Ob (a_4.t.eggs = a'.t.eggs) ∧ Ob (a_4.t.notch = a'.t.notch) ∧ Ob (a_4.t.shell = a'.t.shell) ∧ Ob (a_4.t.low = a'.t.low) ∧ Ob (a_4.t.high = a'.t.high) ∧ Ob (a_4.t.eg ↔ a'.t.eg) ∧ Ob (a_4.t.no ↔ a'.t.no) ∧ Ob
  (a_4.t.so ↔ a'.t.so) ∧ Ob (a_4.t.q = a'.t.q) ∧ Ob (PlainE (nat_lit 6) (El.fn fun (i : Nat) ↦ [SV.p (a'.t.some a'.s a'.m i)])) ∧ Ob (PlainE (nat_lit 6) (El.fn fun (i : Nat) ↦ [SV.p (a'.t.all a'.s a'.m i)])) ∧ Ob (PlainE
  (nat_lit 5) (El.fn (Rv.elemOf [IntKind.i64] a'.t.R))) ∧ True) ∧ (a_4.t.someK a_4.s a_4.m a_4.k (nat_lit 5) → Ob (nat_lit 5 < nat_lit 6 ∧ ((El.fn fun (i : Nat) ↦ [SV.p (a_4.t.allK a_4.s a_4.m a_4.k i)]).at (nat_lit
  5)).length = nat_lit 1) ∧ Ob (nat_lit 5 < nat_lit 6 ∧ ((El.fn fun (i : Nat) ↦ [SV.p (a_4.t.someK a_4.s a_4.m a_4.k i)]).at (nat_lit 5)).length = nat_lit 1) ∧ Ob (InR IntKind.i64 ((↑a_3.m : Int) + (1 : Int))) ∧ ∃ (a' :
  TqM), Ob ((a'.m ≤ nat_lit 4 ∧ a'.s = a_1.s ∧ a'.t.Is ∧ a'.t.a ≤ a'.s ∧ a'.s ≤ a'.t.b) ∧ nat_lit 4 - a'.m < nat_lit 4 - a_2.m) ∧ Ob (SV.v (Value.bool false) = SV.v (Value.bool false)) ∧ Ob (nat_lit 5 = nat_lit 5) ∧ Ob
  (a_4.t.keep = a'.t.keep) ∧ Ob (a_3.s = a_1.s) ∧ Ob ((↑a_3.m : Int) + (1 : Int) = (↑a'.m : Int)) ∧ Ob (nat_lit 6 = nat_lit 6 ∧ ∀ (i : Nat), i < nat_lit 6 → (updL (El.fn fun (i : Nat) ↦ [SV.p (a_4.t.someK a_4.s a_4.m a_4.k
  i)]) (nat_lit 5) (nat_lit 0) [SV.p (true = true)]).at i = (El.fn fun (i : Nat) ↦ [SV.p (a'.t.some a'.s a'.m i)]).at i) ∧ Ob (nat_lit 6 = nat_lit 6 ∧ ∀ (i : Nat), i < nat_lit 6 → (updL (El.fn fun (i : Nat) ↦ [SV.p
  (a_4.t.allK a_4.s a_4.m a_4.k i)]) (nat_lit 5) (nat_lit 0) [SV.p (∀ (i : Nat), i < a_4.k → ¬a_4.t.fb a_4.s a_4.m i)]).at i = (El.fn fun (i : Nat) ↦ [SV.p (a'.t.all a'.s a'.m i)]).at i) ∧ Ob (nat_lit 5 = nat_lit 5 ∧ ∀ (i
  : Nat), i < nat_lit 5 → (El.fn (Rv.elemOf [IntKind.i64] a_4.t.R)).at i = (El.fn (Rv.elemOf [IntKind.i64] a'.t.R)).at i) ∧ Ob (a_4.t.a = a'.t.a) ∧ Ob (a_4.t.b = a'.t.b) ∧ Ob (a_4.t.sex = a'.t.sex) ∧ Ob (a_4.t.eggs =
  a'.t.eggs) ∧ Ob (a_4.t.notch = a'.t.notch) ∧ Ob (a_4.t.shell = a'.t.shell) ∧ Ob (a_4.t.low = a'.t.low) ∧ Ob (a_4.t.high = a'.t.high) ∧ Ob (a_4.t.eg ↔ a'.t.eg) ∧ Ob (a_4.t.no ↔ a'.t.no) ∧ Ob (a_4.t.so ↔ a'.t.so) ∧ Ob
  (a_4.t.q = a'.t.q) ∧ Ob (PlainE (nat_lit 6) (El.fn fun (i : Nat) ↦ [SV.p (a'.t.some a'.s a'.m i)])) ∧ Ob (PlainE (nat_lit 6) (El.fn fun (i : Nat) ↦ [SV.p (a'.t.all a'.s a'.m i)])) ∧ Ob (PlainE (nat_lit 5) (El.fn
  (Rv.elemOf [IntKind.i64] a'.t.R))) ∧ True)) ∧ (¬a_4.t.allK a_4.s a_4.m a_4.k (nat_lit 5) → Ob (nat_lit 5 < nat_lit 6) ∧ (¬a_4.t.someK a_4.s a_4.m a_4.k (nat_lit 5) → Ob (nat_lit 5 < nat_lit 6 ∧ ((El.fn fun (i : Nat) ↦
  [SV.p (a_4.t.allK a_4.s a_4.m a_4.k i)]).at (nat_lit 5)).length = nat_lit 1) ∧ Ob (nat_lit 5 < nat_lit 6 ∧ ((El.fn fun (i : Nat) ↦ [SV.p (a_4.t.someK a_4.s a_4.m a_4.k i)]).at (nat_lit 5)).length = nat_lit 1) ∧ Ob (InR
  IntKind.i64 ((↑a_3.m : Int) + (1 : Int))) ∧ ∃ (a' : TqM), Ob ((a'.m ≤ nat_lit 4 ∧ a'.s = a_1.s ∧ a'.t.Is ∧ a'.t.a ≤ a'.s ∧ a'.s ≤ a'.t.b) ∧ nat_lit 4 - a'.m < nat_lit 4 - a_2.m) ∧ Ob (SV.v (Value.bool false) = SV.v
  (Value.bool false)) ∧ Ob (nat_lit 5 = nat_lit 5) ∧ Ob (a_4.t.keep = a'.t.keep) ∧ Ob (a_3.s = a_1.s) ∧ Ob ((↑a_3.m : Int) + (1 : Int) = (↑a'.m : Int)) ∧ Ob (nat_lit 6 = nat_lit 6 ∧ ∀ (i : Nat), i < nat_lit 6 → (updL
  (El.fn fun (i : Nat) ↦ [SV.p (a_4.t.someK a_4.s a_4.m a_4.k i)]) (nat_lit 5) (nat_lit 0) [SV.p (∀ (i : Nat), i < a_4.k → ¬a_4.t.fb a_4.s a_4.m i)]).at i = (El.fn fun (i : Nat) ↦ [SV.p (a'.t.some a'.s a'.m i)]).at i) ∧ Ob
  (nat_lit 6 = nat_lit 6 ∧ ∀ (i : Nat), i < nat_lit 6 → (updL (El.fn fun (i : Nat) ↦ [SV.p (a_4.t.allK a_4.s a_4.m a_4.k i)]) (nat_lit 5) (nat_lit 0) [SV.p (false = true)]).at i = (El.fn fun (i : Nat) ↦ [SV.p (a'.t.all
  a'.s a'.m i)]).at i) ∧ Ob (nat_lit 5 = nat_lit 5 ∧ ∀ (i : Nat), i < nat_lit 5 → (El.fn (Rv.elemOf [IntKind.i64] a_4.t.R)).at i = (El.fn (Rv.elemOf [IntKind.i64] a'.t.R)).at i) ∧ Ob (a_4.t.a = a'.t.a) ∧ Ob (a_4.t.b =
  a'.t.b) ∧ Ob (a_4.t.sex = a'.t.sex) ∧ Ob (a_4.t.eggs = a'.t.eggs) ∧ Ob (a_4.t.notch = a'.t.notch) ∧ Ob (a_4.t.shell = a'.t.shell) ∧ Ob (a_4.t.low = a'.t.low) ∧ Ob (a_4.t.high = a'.t.high) ∧ Ob (a_4.t.eg ↔ a'.t.eg) ∧ Ob
  (a_4.t.no ↔ a'.t.no) ∧ Ob (a_4.t.so ↔ a'.t.so) ∧ Ob (a_4.t.q = a'.t.q) ∧ Ob (PlainE (nat_lit 6) (El.fn fun (i : Nat) ↦ [SV.p (a'.t.some a'.s a'.m i)])) ∧ Ob (PlainE (nat_lit 6) (El.fn fun (i : Nat) ↦ [SV.p (a'.t.all a'.s
  a'.m i)])) ∧ Ob (PlainE (nat_lit 5) (El.fn (Rv.elemOf [IntKind.i64] a'.t.R))) ∧ True) ∧ (a_4.t.someK a_4.s a_4.m a_4.k (nat_lit 5) → Ob (nat_lit 5 < nat_lit 6 ∧ ((El.fn fun (i : Nat) ↦ [SV.p (a_4.t.allK a_4.s a_4.m a_4.k
  i)]).at (nat_lit 5)).length = nat_lit 1) ∧ Ob (nat_lit 5 < nat_lit 6 ∧ ((El.fn fun (i : Nat) ↦ [SV.p (a_4.t.someK a_4.s a_4.m a_4.k i)]).at (nat_lit 5)).length = nat_lit 1) ∧ Ob (InR IntKind.i64 ((↑a_3.m : Int) + (1 :
  Int))) ∧ ∃ (a' : TqM), Ob ((a'.m ≤ nat_lit 4 ∧ a'.s = a_1.s ∧ a'.t.Is ∧ a'.t.a ≤ a'.s ∧ a'.s ≤ a'.t.b) ∧ nat_lit 4 - a'.m < nat_lit 4 - a_2.m) ∧ Ob (SV.v (Value.bool false) = SV.v (Value.bool false)) ∧ Ob (nat_lit 5 =
  nat_lit 5) ∧ Ob (a_4.t.keep = a'.t.keep) ∧ Ob (a_3.s = a_1.s) ∧ Ob ((↑a_3.m : Int) + (1 : Int) = (↑a'.m : Int)) ∧ Ob (nat_lit 6 = nat_lit 6 ∧ ∀ (i : Nat), i < nat_lit 6 → (updL (El.fn fun (i : Nat) ↦ [SV.p (a_4.t.someK
  a_4.s a_4.m a_4.k i)]) (nat_lit 5) (nat_lit 0) [SV.p (true = true)]).at i = (El.fn fun (i : Nat) ↦ [SV.p (a'.t.some a'.s a'.m i)]).at i) ∧ Ob (nat_lit 6 = nat_lit 6 ∧ ∀ (i : Nat), i < nat_lit 6 → (updL (El.fn fun (i :
  Nat) ↦ [SV.p (a_4.t.allK a_4.s a_4.m a_4.k i)]) (nat_lit 5) (nat_lit 0) [SV.p (false = true)]).at i = (El.fn fun (i : Nat) ↦ [SV.p (a'.t.all a'.s a'.m i)]).at i) ∧ Ob (nat_lit 5 = nat_lit 5 ∧ ∀ (i : Nat), i < nat_lit 5 →
  (El.fn (Rv.elemOf [IntKind.i64] a_4.t.R)).at i = (El.fn (Rv.elemOf [IntKind.i64] a'.t.R)).at i) ∧ Ob (a_4.t.a = a'.t.a) ∧ Ob (a_4.t.b = a'.t.b) ∧ Ob (a_4.t.sex = a'.t.sex) ∧ Ob (a_4.t.eggs = a'.t.eggs) ∧ Ob (a_4.t.notch
  = a'.t.notch) ∧ Ob (a_4.t.shell = a'.t.shell) ∧ Ob (a_4.t.low = a'.t.low) ∧ Ob (a_4.t.high = a'.t.high) ∧ Ob (a_4.t.eg ↔ a'.t.eg) ∧ Ob (a_4.t.no ↔ a'.t.no) ∧ Ob (a_4.t.so ↔ a'.t.so) ∧ Ob (a_4.t.q = a'.t.q) ∧ Ob (PlainE
  (nat_lit 6) (El.fn fun (i : Nat) ↦ [SV.p (a'.t.some a'.s a'.m i)])) ∧ Ob (PlainE (nat_lit 6) (El.fn fun (i : Nat) ↦ [SV.p (a'.t.all a'.s a'.m i)])) ∧ Ob (PlainE (nat_lit 5) (El.fn (Rv.elemOf [IntKind.i64] a'.t.R))) ∧
  True)))) ∧ (¬(↑a_2.m : Int) < (4 : Int) → Ob (InR IntKind.i64 (a_1.s + (1 : Int))) ∧ ∃ (a' : TqS), Ob ((a'.t.Is ∧ a'.t.a ≤ a'.s ∧ a'.s ≤ a'.t.b + (1 : Int)) ∧ ((2501 : Int) - a'.s).toNat < ((2501 : Int) - a_1.s).toNat) ∧
  Ob (SV.v (Value.bool false) = SV.v (Value.bool false)) ∧ Ob (nat_lit 5 = nat_lit 5) ∧ Ob (a_2.t.keep = a'.t.keep) ∧ Ob (a_1.s + (1 : Int) = a'.s) ∧ Ob (nat_lit 6 = nat_lit 6 ∧ ∀ (i : Nat), i < nat_lit 6 → (El.fn fun (i :
  Nat) ↦ [SV.p (a_2.t.some a_2.s a_2.m i)]).at i = (El.fn fun (i : Nat) ↦ [SV.p (a'.t.some a'.s (nat_lit 0) i)]).at i) ∧ Ob (nat_lit 6 = nat_lit 6 ∧ ∀ (i : Nat), i < nat_lit 6 → (El.fn fun (i : Nat) ↦ [SV.p (a_2.t.all
  a_2.s a_2.m i)]).at i = (El.fn fun (i : Nat) ↦ [SV.p (a'.t.all a'.s (nat_lit 0) i)]).at i) ∧ Ob (nat_lit 5 = nat_lit 5 ∧ ∀ (i : Nat), i < nat_lit 5 → (El.fn (Rv.elemOf [IntKind.i64] a_2.t.R)).at i = (El.fn (Rv.elemOf
  [IntKind.i64] a'.t.R)).at i) ∧ Ob (a_2.t.a = a'.t.a) ∧ Ob (a_2.t.b = a'.t.b) ∧ Ob (a_2.t.sex = a'.t.sex) ∧ Ob (a_2.t.eggs = a'.t.eggs) ∧ Ob (a_2.t.notch = a'.t.notch) ∧ Ob (a_2.t.shell = a'.t.shell) ∧ Ob (a_2.t.low =
  a'.t.low) ∧ Ob (a_2.t.high = a'.t.high) ∧ Ob (a_2.t.eg ↔ a'.t.eg) ∧ Ob (a_2.t.no ↔ a'.t.no) ∧ Ob (a_2.t.so ↔ a'.t.so) ∧ Ob (a_2.t.q = a'.t.q) ∧ Ob (PlainE (nat_lit 6) (El.fn fun (i : Nat) ↦ [SV.p (a'.t.some a'.s (nat_lit
  0) i)])) ∧ Ob (PlainE (nat_lit 6) (El.fn fun (i : Nat) ↦ [SV.p (a'.t.all a'.s (nat_lit 0) i)])) ∧ Ob (PlainE (nat_lit 5) (El.fn (Rv.elemOf [IntKind.i64] a'.t.R))) ∧ True)) ∧ (¬a_1.s ≤ a_1.t.b → ∃ (rows_2 : List (List
  Int)), Ob (nat_lit 5 = nat_lit 5 ∧ rows_2.length = nat_lit 5 ∧ (∀ (r : List Int), r ∈ rows_2 → r.length = nat_lit 1) ∧ ∀ (i : Nat), i < nat_lit 5 → (El.fn (Rv.elemOf [IntKind.i64] a_1.t.R)).at i = Rv.elemOf [IntKind.i64]
  rows_2 i) ∧ Ob (F_Ints.named.pre [Dat.l rows_2]) ∧ Ob (rows_2.length = rows_2.length ∧ ∀ (i : Nat), i < rows_2.length → ((El.fn (Rv.elemOf [IntKind.i64] rows_2)).at i).length = nat_lit 1) ∧ Ob ((rows_2.length + nat_lit
  1) * nat_lit 2 * nat_lit 9 ≤ nat_lit 1099511627776) ∧ Ob (rows_2.length = rows_2.length) ∧ (∃ (a_2 : TqK), Ob (a_2.k ≤ nat_lit 6 ∧ a_2.t.Is) ∧ Ob (rows_2.length + nat_lit 1 = nat_lit 6) ∧ Ob ((0 : Int) = (↑a_2.k : Int))
  ∧ Ob (rows_2.length + nat_lit 1 = nat_lit 6 ∧ ∀ (i : Nat), i < nat_lit 6 → (behind rows_2.length (El.fn (Rv.elemOf [IntKind.i64] rows_2)) (nat_lit 1) (litEl [SV.i IntKind.i64 a_1.t.keep] (nat_lit 1) (nat_lit 1))).at i =
  (El.fn (Rv.elemOf [IntKind.i64] (a_2.t.R ++ [[a_2.t.keep]]))).at i) ∧ Ob (nat_lit 6 = nat_lit 6 ∧ ∀ (i : Nat), i < nat_lit 6 → (El.fn fun (i : Nat) ↦ [SV.p (a_1.t.some a_1.s (nat_lit 0) i)]).at i = (El.fn fun (i : Nat) ↦
  [SV.p (a_2.t.some (a_2.t.b + (1 : Int)) (nat_lit 0) i)]).at i) ∧ Ob (nat_lit 6 = nat_lit 6 ∧ ∀ (i : Nat), i < nat_lit 6 → (El.fn fun (i : Nat) ↦ [SV.p (a_1.t.all a_1.s (nat_lit 0) i)]).at i = (El.fn fun (i : Nat) ↦ [SV.p
  (a_2.t.all (a_2.t.b + (1 : Int)) (nat_lit 0) i)]).at i) ∧ Ob (nat_lit 5 = nat_lit 5 ∧ ∀ (i : Nat), i < nat_lit 5 → (El.fn (Rv.elemOf [IntKind.i64] a_1.t.R)).at i = (El.fn (Rv.elemOf [IntKind.i64] a_2.t.R)).at i) ∧ Ob
  (a_1.t.a = a_2.t.a) ∧ Ob (a_1.t.b = a_2.t.b) ∧ Ob (a_1.t.sex = a_2.t.sex) ∧ Ob (a_1.t.eggs = a_2.t.eggs) ∧ Ob (a_1.t.notch = a_2.t.notch) ∧ Ob (a_1.t.shell = a_2.t.shell) ∧ Ob (a_1.t.low = a_2.t.low) ∧ Ob (a_1.t.high =
  a_2.t.high) ∧ Ob (a_1.t.eg ↔ a_2.t.eg) ∧ Ob (a_1.t.no ↔ a_2.t.no) ∧ Ob (a_1.t.so ↔ a_2.t.so) ∧ Ob (a_1.t.q = a_2.t.q) ∧ Ob (PlainE (nat_lit 6) (El.fn (Rv.elemOf [IntKind.i64] (a_2.t.R ++ [[a_2.t.keep]])))) ∧ Ob (PlainE
  (nat_lit 6) (El.fn fun (i : Nat) ↦ [SV.p (a_2.t.some (a_2.t.b + (1 : Int)) (nat_lit 0) i)])) ∧ Ob (PlainE (nat_lit 6) (El.fn fun (i : Nat) ↦ [SV.p (a_2.t.all (a_2.t.b + (1 : Int)) (nat_lit 0) i)])) ∧ Ob (PlainE (nat_lit
  5) (El.fn (Rv.elemOf [IntKind.i64] a_2.t.R))) ∧ True) ∧ ∀ (a_2 : TqK), a_2.k ≤ nat_lit 6 ∧ a_2.t.Is → ∀ (z_406 z_407 z_408 z_409 z_410 z_411 z_412 z_413 z_414 z_415 z_416 z_417 z_418 z_419 z_420 z_421 z_422 z_423 z_424
  z_425 z_426 z_427 z_428 z_429 z_430 z_431 z_432 z_433 z_434 z_435 z_436 z_437 z_438 z_439 z_440 z_441 z_442 z_443 z_444 z_445 z_446 z_447 z_448 z_449 z_450 z_451 z_452 z_453 z_454 z_455 z_456 z_457 z_458 z_459 z_460
  z_461 z_462 z_463 z_464 z_465 z_466 z_467 z_468 z_469 z_470 z_471 z_472 z_473 z_474 z_475 z_476 z_477 z_478 z_479 z_480 z_481 z_482 z_483 z_484 z_485 z_486 z_487 z_488 z_489 z_490 z_491 z_492 z_493 z_494 z_495 z_496
  z_497 z_498 z_499 z_500 z_501 z_502 z_503 z_504 z_505 z_506 z_507 z_508 z_509 z_510 z_511 z_512 z_513 z_514 z_515 z_516 z_517 z_518 z_519 z_520 z_521 z_522 z_523 z_524 z_525 z_526 z_527 z_528 z_529 z_530 z_531 z_532
  z_533 z_534 z_535 z_536 z_537 z_538 z_539 z_540 z_541 z_542 z_543 z_544 z_545 z_546 z_547 z_548 z_549 z_550 z_551 z_552 z_553 z_554 z_555 z_556 z_557 z_558 z_559 z_560 z_561 z_562 z_563 z_564 z_565 z_566 z_567 z_568
  z_569 z_570 z_571 z_572 z_573 z_574 z_575 z_576 z_577 z_578 z_579 z_580 z_581 z_582 z_583 z_584 z_585 z_586 z_587 z_588 z_589 z_590 z_591 z_592 z_593 z_594 z_595 z_596 z_597 z_598 z_599 z_600 z_601 z_602 z_603 z_604
  z_605 z_606 z_607 z_608 z_609 z_610 z_611 z_612 : Value), ((↑a_2.k : Int) < (6 : Int) → Ob ((0 : Int) ≤ (↑a_2.k : Int) ∧ a_2.k < nat_lit 6) ∧ Ob (a_2.k < nat_lit 6) ∧ Ob ((0 : Int) ≤ (↑a_2.k : Int) ∧ a_2.k < nat_lit 6) ∧
  Ob (a_2.k < nat_lit 6) ∧ (¬¬(cell (a_2.t.R ++ [[a_2.t.keep]]) a_2.k (nat_lit 0) = (1 : Int) ↔ a_2.t.all (a_2.t.b + (1 : Int)) (nat_lit 0) a_2.k) → Ob ((0 : Int) ≤ (↑a_2.k : Int) ∧ a_2.k < nat_lit 6) ∧ Ob (a_2.k < nat_lit
  6) ∧ Ob ((0 : Int) ≤ (↑a_2.k : Int) ∧ a_2.k < nat_lit 6) ∧ Ob (a_2.k < nat_lit 6) ∧ (¬¬(cell (a_2.t.R ++ [[a_2.t.keep]]) a_2.k (nat_lit 0) = (2 : Int) ↔ ¬a_2.t.some (a_2.t.b + (1 : Int)) (nat_lit 0) a_2.k) → Ob ((0 :
  Int) ≤ (↑a_2.k : Int) ∧ a_2.k < nat_lit 6) ∧ Ob (a_2.k < nat_lit 6) ∧ (¬cell (a_2.t.R ++ [[a_2.t.keep]]) a_2.k (nat_lit 0) < (1 : Int) → Ob ((0 : Int) ≤ (↑a_2.k : Int) ∧ a_2.k < nat_lit 6) ∧ Ob (a_2.k < nat_lit 6) ∧ ((3
  : Int) < cell (a_2.t.R ++ [[a_2.t.keep]]) a_2.k (nat_lit 0) → False) ∧ (¬(3 : Int) < cell (a_2.t.R ++ [[a_2.t.keep]]) a_2.k (nat_lit 0) → Ob (InR IntKind.i64 ((↑a_2.k : Int) + (1 : Int))) ∧ ∃ (a' : TqK), Ob ((a'.k ≤
  nat_lit 6 ∧ a'.t.Is) ∧ nat_lit 6 - a'.k < nat_lit 6 - a_2.k) ∧ Ob (nat_lit 6 = nat_lit 6) ∧ Ob ((↑a_2.k : Int) + (1 : Int) = (↑a'.k : Int)) ∧ Ob (nat_lit 6 = nat_lit 6 ∧ ∀ (i : Nat), i < nat_lit 6 → (El.fn (Rv.elemOf
  [IntKind.i64] (a_2.t.R ++ [[a_2.t.keep]]))).at i = (El.fn (Rv.elemOf [IntKind.i64] (a'.t.R ++ [[a'.t.keep]]))).at i) ∧ Ob (nat_lit 6 = nat_lit 6 ∧ ∀ (i : Nat), i < nat_lit 6 → (El.fn fun (i : Nat) ↦ [SV.p (a_2.t.some
  (a_2.t.b + (1 : Int)) (nat_lit 0) i)]).at i = (El.fn fun (i : Nat) ↦ [SV.p (a'.t.some (a'.t.b + (1 : Int)) (nat_lit 0) i)]).at i) ∧ Ob (nat_lit 6 = nat_lit 6 ∧ ∀ (i : Nat), i < nat_lit 6 → (El.fn fun (i : Nat) ↦ [SV.p
  (a_2.t.all (a_2.t.b + (1 : Int)) (nat_lit 0) i)]).at i = (El.fn fun (i : Nat) ↦ [SV.p (a'.t.all (a'.t.b + (1 : Int)) (nat_lit 0) i)]).at i) ∧ Ob (nat_lit 5 = nat_lit 5 ∧ ∀ (i : Nat), i < nat_lit 5 → (El.fn (Rv.elemOf
  [IntKind.i64] a_2.t.R)).at i = (El.fn (Rv.elemOf [IntKind.i64] a'.t.R)).at i) ∧ Ob (a_2.t.a = a'.t.a) ∧ Ob (a_2.t.b = a'.t.b) ∧ Ob (a_2.t.sex = a'.t.sex) ∧ Ob (a_2.t.eggs = a'.t.eggs) ∧ Ob (a_2.t.notch = a'.t.notch) ∧ Ob
  (a_2.t.shell = a'.t.shell) ∧ Ob (a_2.t.low = a'.t.low) ∧ Ob (a_2.t.high = a'.t.high) ∧ Ob (a_2.t.eg ↔ a'.t.eg) ∧ Ob (a_2.t.no ↔ a'.t.no) ∧ Ob (a_2.t.so ↔ a'.t.so) ∧ Ob (a_2.t.q = a'.t.q) ∧ Ob (PlainE (nat_lit 6) (El.fn
  (Rv.elemOf [IntKind.i64] (a'.t.R ++ [[a'.t.keep]])))) ∧ Ob (PlainE (nat_lit 6) (El.fn fun (i : Nat) ↦ [SV.p (a'.t.some (a'.t.b + (1 : Int)) (nat_lit 0) i)])) ∧ Ob (PlainE (nat_lit 6) (El.fn fun (i : Nat) ↦ [SV.p
  (a'.t.all (a'.t.b + (1 : Int)) (nat_lit 0) i)])) ∧ Ob (PlainE (nat_lit 5) (El.fn (Rv.elemOf [IntKind.i64] a'.t.R))) ∧ True)) ∧ (cell (a_2.t.R ++ [[a_2.t.keep]]) a_2.k (nat_lit 0) < (1 : Int) → False)) ∧ (¬(cell (a_2.t.R
  ++ [[a_2.t.keep]]) a_2.k (nat_lit 0) = (2 : Int) ↔ ¬a_2.t.some (a_2.t.b + (1 : Int)) (nat_lit 0) a_2.k) → False)) ∧ (¬(cell (a_2.t.R ++ [[a_2.t.keep]]) a_2.k (nat_lit 0) = (1 : Int) ↔ a_2.t.all (a_2.t.b + (1 : Int))
  (nat_lit 0) a_2.k) → False)) ∧ (¬(↑a_2.k : Int) < (6 : Int) → Ob (hasTabs tab1 B) ∧ True))))) ∧ (¬v_12 = (0 : Int) → False)) ∧ (¬v_10 = (0 : Int) → False)

set_option linter.unusedSimpArgs false in
set_option maxRecDepth 4000 in
set_option maxHeartbeats 400000 in
theorem v_law : V_law := by
  unfold V_law
  intro B htab z N hz hoz hrz hN
  refine ⟨N, ⟨⟨hz, rfl, hrz, fun _ _ => rfl⟩⟩, ⟨hN⟩, ⟨trivial⟩, ?_⟩
  obtain ⟨a, ha⟩ : ∃ a, tideK N N.length = a := ⟨_, rfl⟩
  rw [ha]
  clear ha
  intro q hq lo hlo hi hhi
  refine ⟨⟨trivial⟩, ?_⟩
  intro q2 hq2 x0 hx0 x1 hx1 x2 hx2 x3 hx3 x4 hx4 x5 hx5
  have ok : reaErr lo hi x0 x1 x2 x3 x4 x5 = 0 := by
    rw [hlo, hhi, hx0, hx1, hx2, hx3, hx4, hx5]
    exact rea_drawn a q
  clear hlo hhi hx0 hx1 hx2 hx3 hx4 hx5 hq hq2
  obtain ⟨eg, he⟩ : ∃ e, gaEg a = e := ⟨_, rfl⟩
  obtain ⟨no, hn⟩ : ∃ n, gaNo a = n := ⟨_, rfl⟩
  obtain ⟨so, hs⟩ : ∃ s, gaSo a = s := ⟨_, rfl⟩
  rw [he, hn, hs]
  clear he hn hs
  refine ⟨⟨trivial⟩, ?_⟩
  intro e1 he1
  refine ⟨⟨trivial⟩, ?_⟩
  intro kp hkp e2 he2
  have hN5 : reaN lo hi x0 x1 x2 x3 x4 x5 = 5 := by
    unfold reaN
    rw [if_pos ok]
  have hkp2 : kp = kpV (reaR lo hi eg no so x0 x1 x3 x4 x5) 5 := by
    rw [hkp]
    unfold keepV
    rw [if_pos ok]
  clear hkp
  refine ⟨fun _ => ⟨fun _ => ⟨fun h => h (by rw [hN5]; rfl), fun _ => ?_⟩, fun h => h (he2.trans ok)⟩, fun h => h (he1.trans ok)⟩
  clear he1 he2
  obtain ⟨t0, ht0⟩ : ∃ t : Tq, t = ⟨lo, hi, x0, x1, x2, x3, x4, x5, q2, kp, eg, no, so⟩ := ⟨_, rfl⟩
  have hI0 : t0.Is := by
    subst ht0
    exact ⟨ok, hkp2⟩
  refine ⟨⟨⟨0, t0⟩, ⟨⟨Nat.zero_le 6, hI0⟩⟩, ?_⟩, ?_⟩
  · clear hI0
    subst ht0
    repeat' (with_reducible apply And.intro)
    all_goals first
      | exact ⟨rfl⟩
      | exact trivial
      | exact ⟨Iff.rfl⟩
      | exact ⟨plP⟩
      | exact ⟨plUpd⟩
      | exact ⟨plain_elemOf _ _ _⟩
      | exact ⟨lit6 fun _ _ => id⟩
      | exact ⟨lit6 fun i _ => Nat.not_lt_zero i⟩
      | exact ⟨hN5⟩
      | exact ⟨⟨hN5, fun _ _ => rfl⟩⟩
      | exact ⟨rowEq fun _ _ => Iff.rfl⟩
      | exact ⟨⟨rfl, fun _ _ => rfl⟩⟩
      | (refine ⟨?_⟩; dsimp only; omega)
  clear hI0 ht0 t0 hN5 hkp2 ok
  intro ⟨k, t⟩ ⟨hk6, hI⟩
  intros
  replace hk6 : k ≤ 6 := hk6
  replace hI : t.Is := hI
  have hR := rea_ok hI.ok
  refine ⟨fun hk => ?_, fun hk => ⟨?_, ?_⟩⟩
  · have hk : (k : Int) < 6 := hk
    refine ⟨⟨idx (show k < 6 by omega)⟩, ⟨⟨show k < 6 by omega, rfl⟩⟩, ?_⟩
    try refine ⟨⟨plUpd⟩, ?_⟩
    refine ⟨⟨inrK (show k ≤ 5000 by omega)⟩, ⟨k + 1, t⟩, ⟨⟨⟨show k + 1 ≤ 6 by omega, hI⟩, show 6 - (k + 1) < 6 - k by omega⟩⟩, ?_⟩
    repeat' (with_reducible apply And.intro)
    all_goals first
      | exact ⟨rfl⟩
      | exact trivial
      | exact ⟨Iff.rfl⟩
      | exact ⟨plP⟩
      | exact ⟨plUpd⟩
      | exact ⟨plain_elemOf _ _ _⟩
      | exact ⟨updEq (iff_of_true rfl (Nat.lt_succ_self k)) fun i _ e => ⟨fun h => Nat.lt_succ_of_lt h, fun h => Nat.lt_of_le_of_ne (Nat.le_of_lt_succ h) e⟩⟩
      | exact ⟨rowEq fun _ _ => Iff.rfl⟩
      | exact ⟨⟨rfl, fun _ _ => rfl⟩⟩
      | (refine ⟨?_⟩; dsimp only; omega)
  · have hk : ¬ (k : Int) < 6 := hk
    have hk2 : 6 ≤ k := by omega
    refine ⟨⟨t.a, t⟩, ⟨⟨hI, Int.le_refl _, by show t.a ≤ t.b + 1; omega⟩⟩, ?_⟩
    repeat' (with_reducible apply And.intro)
    all_goals first
      | exact ⟨rfl⟩
      | exact trivial
      | exact ⟨Iff.rfl⟩
      | exact ⟨plP⟩
      | exact ⟨plUpd⟩
      | exact ⟨plain_elemOf _ _ _⟩
      | exact ⟨rowEq fun i _ => iff_of_false id (some_none t i)⟩
      | exact ⟨rowEq fun i hi => iff_of_true (Nat.lt_of_lt_of_le hi hk2) (all_none t i)⟩
      | exact ⟨rowEq fun _ _ => Iff.rfl⟩
      | exact ⟨⟨rfl, fun _ _ => rfl⟩⟩
      | (refine ⟨?_⟩; dsimp only; omega)
  clear hR hk hk6 hI k t
  intro ⟨s, t⟩ ⟨hI, h1, h2⟩
  intros
  replace hI : t.Is := hI
  replace h1 : t.a ≤ s := h1
  replace h2 : s ≤ t.b + 1 := h2
  have hR := rea_ok hI.ok
  refine ⟨fun hs => ⟨⟨⟨0, s, t⟩, ⟨⟨Nat.zero_le 4, rfl, hI, h1, hs⟩⟩, ?_⟩, ?_⟩, fun hs => ?_⟩
  · replace hs : s ≤ t.b := hs
    repeat' (with_reducible apply And.intro)
    all_goals first
      | exact ⟨rfl⟩
      | exact trivial
      | exact ⟨Iff.rfl⟩
      | exact ⟨plP⟩
      | exact ⟨plUpd⟩
      | exact ⟨plain_elemOf _ _ _⟩
      | exact ⟨rowEq fun _ _ => Iff.rfl⟩
      | exact ⟨⟨rfl, fun _ _ => rfl⟩⟩
      | (refine ⟨?_⟩; dsimp only; omega)
  · clear hI h1 h2 hR hs
    intro ⟨m, s2, t⟩ ⟨hm4, hs2, hI, h1, h2⟩
    intros
    replace hm4 : m ≤ 4 := hm4
    replace hs2 : s2 = s := hs2
    replace hI : t.Is := hI
    replace h1 : t.a ≤ s2 := h1
    replace h2 : s2 ≤ t.b := h2
    subst hs2
    have hR := rea_ok hI.ok
    refine ⟨fun hm => ?_, fun hm => ?_⟩
    · have hm' : m < 4 := by
        have hm : (m : Int) < 4 := hm
        omega
      have hb := bits_in hm'
      refine ⟨⟨⟨by decide, hb.1⟩⟩, ⟨⟨Int.natCast_nonneg m, by decide, hb.2⟩⟩, ?_, ?_⟩
      · clear hm
        repeat' (first | with_reducible apply And.intro | intro _)
        all_goals first
          | exact ⟨inrK (show m ≤ 5000 by omega)⟩
          | (have ho : ¬ t.okB m := fun ho => by first | exact ho.1 ⟨by assumption, by assumption⟩ | exact ho.2.1 ⟨by assumption, by assumption⟩ | exact ho.2.2.1 ⟨by assumption, by assumption⟩ | exact ho.2.2.2 ⟨by assumption, by assumption⟩
             refine ⟨⟨m + 1, s2, t⟩, ⟨⟨⟨by show m + 1 ≤ 4; omega, rfl, hI, h1, h2⟩, by show 4 - (m + 1) < 4 - m; omega⟩⟩, ?_⟩
             repeat' (with_reducible apply And.intro)
             all_goals first
               | exact ⟨rfl⟩
               | exact trivial
               | exact ⟨Iff.rfl⟩
               | exact ⟨plP⟩
               | exact ⟨plUpd⟩
               | exact ⟨plain_elemOf _ _ _⟩
               | exact ⟨rowEq fun i _ => some_skip ho i⟩
               | exact ⟨rowEq fun i _ => all_skip ho i⟩
               | exact ⟨rowEq fun _ _ => Iff.rfl⟩
               | exact ⟨⟨rfl, fun _ _ => rfl⟩⟩
               | (refine ⟨?_⟩; dsimp only; omega))
          | (have ho : t.okB m := ⟨fun h => by first | exact absurd h.1 (by assumption) | exact absurd h.2 (by assumption), fun h => by first | exact absurd h.1 (by assumption) | exact absurd h.2 (by assumption), fun h => by first | exact absurd h.1 (by assumption) | exact absurd h.2 (by assumption), fun h => by first | exact absurd h.1 (by assumption) | exact absurd h.2 (by assumption)⟩
             refine ⟨⟨m, s2, t⟩, ⟨⟨⟨hm', rfl, rfl⟩, ho, hI, h1, h2⟩⟩, ?_⟩
             repeat' (with_reducible apply And.intro)
             all_goals first
               | exact ⟨rfl⟩
               | exact trivial
               | exact ⟨Iff.rfl⟩
               | exact ⟨plP⟩
               | exact ⟨plUpd⟩
               | exact ⟨plain_elemOf _ _ _⟩
               | exact ⟨rowEq fun _ _ => Iff.rfl⟩
               | exact ⟨⟨rfl, fun _ _ => rfl⟩⟩
               | (refine ⟨?_⟩; dsimp only; omega))
      · clear hI h1 h2 hR hb
        intro ⟨m3, s3, t⟩ ⟨⟨hm3, hs3, hmm⟩, ho, hI, h1, h2⟩
        intros
        replace hm3 : m3 < 4 := hm3
        replace hs3 : s3 = s2 := hs3
        replace hmm : (m3 : Int) = (m : Int) := hmm
        replace ho : t.okB m3 := ho
        replace hI : t.Is := hI
        replace h1 : t.a ≤ s3 := h1
        replace h2 : s3 ≤ t.b := h2
        obtain rfl : m3 = m := by omega
        subst hs3
        refine ⟨⟨trivial⟩, ⟨⟨0, m3, s3, t⟩, ⟨⟨⟨Nat.zero_le 5, rfl, rfl, hm3⟩, ho, hI, h1, h2⟩⟩, ?_⟩, ?_⟩
        · repeat' (with_reducible apply And.intro)
          all_goals first
            | exact ⟨rfl⟩
            | exact trivial
            | exact ⟨Iff.rfl⟩
            | exact ⟨plP⟩
            | exact ⟨plUpd⟩
            | exact ⟨plain_elemOf _ _ _⟩
            | exact ⟨⟨fun _ i hi => absurd hi (Nat.not_lt_zero i), fun _ => rfl⟩⟩
            | exact ⟨rowEq fun i _ => someK_zero t s3 m3 i⟩
            | exact ⟨rowEq fun i _ => allK_zero t s3 m3 i⟩
            | exact ⟨rowEq fun _ _ => Iff.rfl⟩
            | exact ⟨⟨rfl, fun _ _ => rfl⟩⟩
            | (refine ⟨?_⟩; dsimp only; omega)
        · clear ho hI h1 h2
          intro ⟨k, m4, s4, t⟩ ⟨⟨hk5, hs4, hm4e, hm4'⟩, ho, hI, h1, h2⟩
          intros
          replace hk5 : k ≤ 5 := hk5
          replace hs4 : s4 = s3 := hs4
          replace hm4e : (m4 : Int) = (m3 : Int) := hm4e
          replace hm4' : m4 < 4 := hm4'
          replace ho : t.okB m4 := ho
          replace hI : t.Is := hI
          replace h1 : t.a ≤ s4 := h1
          replace h2 : s4 ≤ t.b := h2
          obtain rfl : m4 = m3 := by omega
          subst hs4
          have hR := rea_ok hI.ok
          refine ⟨fun hk => ?_, fun hk => ?_⟩
          · have hk' : k < 5 := by
              have hk : (k : Int) < 5 := hk
              omega
            clear hk
            have eA := allK_at t s4 m4 k
            have eS := someK_at t s4 m4 k
            rw [eA, eS]
            repeat' (first | with_reducible apply And.intro | intro _)
            all_goals first
              | exact ⟨idx (show k < 6 by omega)⟩
              | exact ⟨idx hk'⟩
              | exact ⟨hk'⟩
              | exact ⟨show k < 6 by omega⟩
              | exact ⟨plUpd⟩
              | exact ⟨⟨show k < 6 by omega, rfl⟩⟩
              | exact ⟨inrK (show k ≤ 5000 by omega)⟩
              | (refine ⟨⟨k + 1, m4, s4, t⟩, ⟨⟨⟨⟨by show k + 1 ≤ 5; omega, rfl, rfl, hm4'⟩, ho, hI, h1, h2⟩, by show 5 - (k + 1) < 5 - k; omega⟩⟩, ?_⟩
                 repeat' (with_reducible apply And.intro)
                 all_goals first
                   | exact ⟨rfl⟩
                   | exact trivial
                   | exact ⟨Iff.rfl⟩
                   | exact ⟨plP⟩
                   | exact ⟨plUpd⟩
                   | exact ⟨plain_elemOf _ _ _⟩
                   | exact ⟨may_a (by assumption)⟩
                   | exact ⟨may_b (by assumption)⟩
                   | exact ⟨wAll ho hm4' h1 hk' (x_all (by assumption))⟩
                   | exact ⟨wAll ho hm4' h1 hk' (x_none (by assumption))⟩
                   | exact ⟨wSome ho hm4' h1 hk' (x_some (by assumption))⟩
                   | exact ⟨wSome ho hm4' h1 hk' (x_any (by assumption))⟩
                   | exact ⟨rowEq fun _ _ => Iff.rfl⟩
                   | exact ⟨⟨rfl, fun _ _ => rfl⟩⟩
                   | (refine ⟨?_⟩; dsimp only; omega))
          · obtain rfl : k = 5 := by
              have hk : ¬ (k : Int) < 5 := hk
              omega
            clear hk
            rw [allK_at t s4 m4 5, someK_at t s4 m4 5]
            repeat' (first | with_reducible apply And.intro | intro _)
            all_goals first
              | exact ⟨show 5 < 6 by omega⟩
              | exact ⟨plUpd⟩
              | exact ⟨⟨show 5 < 6 by omega, rfl⟩⟩
              | exact ⟨inrK (show m4 ≤ 5000 by omega)⟩
              | (refine ⟨⟨m4 + 1, s4, t⟩, ⟨⟨⟨by show m4 + 1 ≤ 4; omega, rfl, hI, h1, h2⟩, by show 4 - (m4 + 1) < 4 - m4; omega⟩⟩, ?_⟩
                 repeat' (with_reducible apply And.intro)
                 all_goals first
                   | exact ⟨rfl⟩
                   | exact trivial
                   | exact ⟨Iff.rfl⟩
                   | exact ⟨plP⟩
                   | exact ⟨plUpd⟩
                   | exact ⟨plain_elemOf _ _ _⟩
                   | exact ⟨wAll5 ho hm4' h1 (x_all (by assumption))⟩
                   | exact ⟨wAll5 ho hm4' h1 (x_none (by assumption))⟩
                   | exact ⟨wSome5 ho hm4' h1 (x_some (by assumption))⟩
                   | exact ⟨wSome5 ho hm4' h1 (x_any (by assumption))⟩
                   | exact ⟨rowEq fun _ _ => Iff.rfl⟩
                   | exact ⟨⟨rfl, fun _ _ => rfl⟩⟩
                   | (refine ⟨?_⟩; dsimp only; omega))
    · obtain rfl : m = 4 := by
        have hm : ¬ (m : Int) < 4 := hm
        omega
      refine ⟨⟨inrZ (show 0 ≤ s2 ∧ s2 ≤ 5000 by omega)⟩, ⟨s2 + 1, t⟩, ⟨⟨⟨hI, by show t.a ≤ s2 + 1; omega, by show s2 + 1 ≤ t.b + 1; omega⟩, by show (2501 - (s2 + 1)).toNat < (2501 - s2).toNat; omega⟩⟩, ?_⟩
      repeat' (with_reducible apply And.intro)
      all_goals first
        | exact ⟨rfl⟩
        | exact trivial
        | exact ⟨Iff.rfl⟩
        | exact ⟨plP⟩
        | exact ⟨plUpd⟩
        | exact ⟨plain_elemOf _ _ _⟩
        | exact ⟨rowEq fun i _ => some_size t s2 i⟩
        | exact ⟨rowEq fun i _ => all_size t s2 i⟩
        | exact ⟨rowEq fun _ _ => Iff.rfl⟩
        | exact ⟨⟨rfl, fun _ _ => rfl⟩⟩
        | (refine ⟨?_⟩; dsimp only; omega)
  · obtain rfl : s = t.b + 1 := by
      have hs : ¬ s ≤ t.b := hs
      omega
    refine ⟨t.R, ⟨⟨rfl, rfl, ?_, fun _ _ => rfl⟩⟩, ⟨by show t.R.length ≤ 4000000; exact (by show (5 : Nat) ≤ 4000000; omega)⟩, ⟨rfl, fun _ _ => rfl⟩, ⟨by show (5 + 1) * 2 * 9 ≤ 1099511627776; omega⟩, ⟨rfl⟩, ⟨⟨0, t⟩, ⟨⟨Nat.zero_le 6, hI⟩⟩, ⟨rfl⟩, ?_⟩, ?_⟩
    · intro r hr
      simp only [Tq.R, reaR, List.mem_cons, List.not_mem_nil, or_false] at hr
      rcases hr with rfl | rfl | rfl | rfl | rfl <;> rfl
    · repeat' (with_reducible apply And.intro)
      all_goals first
        | exact ⟨rfl⟩
        | exact trivial
        | exact ⟨Iff.rfl⟩
        | exact ⟨plP⟩
        | exact ⟨plUpd⟩
        | exact ⟨plain_elemOf _ _ _⟩
        | exact ⟨⟨rfl, fun i hi => by replace hi : i < 6 := hi; rcases (show i = 0 ∨ i = 1 ∨ i = 2 ∨ i = 3 ∨ i = 4 ∨ i = 5 by omega) with rfl | rfl | rfl | rfl | rfl | rfl <;> rfl⟩⟩
        | exact ⟨rowEq fun _ _ => Iff.rfl⟩
        | exact ⟨⟨rfl, fun _ _ => rfl⟩⟩
        | (refine ⟨?_⟩; dsimp only; omega)
    · clear hI h1 h2 hR hs
      intro ⟨k, t⟩ ⟨hk6, hI⟩
      intros
      replace hk6 : k ≤ 6 := hk6
      replace hI : t.Is := hI
      refine ⟨fun hk => ?_, fun hk => ⟨⟨htab⟩, trivial⟩⟩
      have hk' : k < 6 := by
        have hk : (k : Int) < 6 := hk
        omega
      clear hk
      have hT := tells hI k hk'
      obtain ⟨C, hC⟩ : ∃ C, cell (t.R ++ [[t.keep]]) k 0 = C := ⟨_, rfl⟩
      rw [hC] at hT ⊢
      clear hC
      obtain ⟨e1, e2, e3, e4⟩ := hT
      have hx := idx hk'
      refine ⟨⟨hx⟩, ⟨hk'⟩, ⟨hx⟩, ⟨hk'⟩, fun _ => ⟨⟨hx⟩, ⟨hk'⟩, ⟨hx⟩, ⟨hk'⟩, fun _ => ⟨⟨hx⟩, ⟨hk'⟩, fun _ => ⟨⟨hx⟩, ⟨hk'⟩, fun h => absurd h (show ¬ 3 < C by omega), fun _ => ⟨⟨inrK (show k ≤ 5000 by omega)⟩, ⟨k + 1, t⟩, ⟨⟨⟨by show k + 1 ≤ 6; omega, hI⟩, by show 6 - (k + 1) < 6 - k; omega⟩⟩, ?_⟩⟩, fun h => absurd h (show ¬ C < 1 by omega)⟩, fun h => h e2⟩, fun h => h e1⟩
      repeat' (with_reducible apply And.intro)
      all_goals first
        | exact ⟨rfl⟩
        | exact trivial
        | exact ⟨Iff.rfl⟩
        | exact ⟨plP⟩
        | exact ⟨plUpd⟩
        | exact ⟨plain_elemOf _ _ _⟩
        | exact ⟨rowEq fun _ _ => Iff.rfl⟩
        | exact ⟨⟨rfl, fun _ _ => rfl⟩⟩
        | (refine ⟨?_⟩; dsimp only; omega)

theorem e_law : V_law = needL P [] [F_TideOf.named, F_GaugeOf.named, F_CaughtOf.named, F_Reasons.named, F_Keep.named, F_forbidden.named, F_Ints.named] 20 tab1 A_law F_law := by kernel_rfl

theorem n_law : Ob (needL P [] [F_TideOf.named, F_GaugeOf.named, F_CaughtOf.named, F_Reasons.named, F_Keep.named, F_forbidden.named, F_Ints.named] 20 tab1 A_law F_law) := by
  rw [← e_law]
  exact ⟨v_law⟩

theorem b_law : ((P.funcs[6]?).any fun fn => fn.body.isSome) = true := by kernel_rfl

theorem l_law : (([] : List Fn0).all fun G => !Nat.beq G.g 20) = true := rfl
theorem le_law : ([F_TideOf.named, F_GaugeOf.named, F_CaughtOf.named, F_Reasons.named, F_Keep.named, F_forbidden.named, F_Ints.named].all fun G => !Nat.beq G.g 20) = true := rfl
theorem c_law : ∀ F ∈ ([] : List Fn0), F.Ok P := by
  intro F h; simp at h
theorem ce_law : ∀ F ∈ [F_TideOf.named, F_GaugeOf.named, F_CaughtOf.named, F_Reasons.named, F_Keep.named, F_forbidden.named, F_Ints.named], F.Ok P := by
  intro F h
  simp only [List.mem_cons, List.not_mem_nil, or_false] at h
  rcases h with rfl | rfl | rfl | rfl | rfl | rfl | rfl
  · exact TideOf_ok.named
  · exact GaugeOf_ok.named
  · exact CaughtOf_ok.named
  · exact Reasons_ok.named
  · exact Keep_ok.named
  · exact forbidden_ok.named
  · exact Ints_ok.named


end Go.Proofs.YthlodlileecmdaaDoor.Sy
