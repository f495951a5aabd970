/- Plain mathematics of growth. -/
import Derived.Test.YthlodlileecmdaaDoorSyP2
import Derived.Test.YthlodlileecmdaaDoorProg
import Derived.KernelRfl
namespace Go.Proofs.YthlodlileecmdaaDoor.Sy
open Go Go.Rv
noncomputable abbrev P : Program := Go.Proofs.Tryd.prog
noncomputable abbrev i64 : Sh := .one (.i .i64)
noncomputable def noAnn : Ann := ⟨Unit, fun _ => [], fun _ => [], fun _ => True, fun _ => 0, 0⟩
theorem named : Named P := named_of (by kernel_rfl)
def inB (n lo hi : Int) : Prop := lo ≤ n ∧ n ≤ hi
open Classical in
noncomputable def spanErr (a b lo hi : Int) : Int := if inB a lo hi ∧ inB b lo hi then (if b < a then 8 else 0) else 1
open Classical in
noncomputable def nurErr (lo hi rate room : Int) : Int := if inB lo (-50) 400 ∧ inB hi (-50) 400 ∧ inB rate 0 1000000 ∧ inB room 0 1000000000 then (if hi < lo then 8 else 0) else 1

abbrev Rows := List (List Int)
noncomputable def dayErr (D L : Rows) (i : Nat) : Int := if spanErr (cell D i 0) (cell D i 1) (-50) 400 = 0 then spanErr (cell L i 0) (cell L i 1) 0 1000000000 else spanErr (cell D i 0) (cell D i 1) (-50) 400
noncomputable def firstErr (D L : Rows) : Nat → Int
  | 0 => 0
  | k + 1 => if firstErr D L k = 0 then dayErr D L k else firstErr D L k
def sumLo (lo hi rate : Int) (D L : Rows) : Nat → Int
  | 0 => 0
  | k + 1 => sumLo lo hi rate D L k + (if lo ≤ cell D k 0 ∧ cell D k 1 ≤ hi then cell L k 0 * rate / 1000000 else 0)
def sumHi (lo hi rate : Int) (D L : Rows) : Nat → Int
  | 0 => 0
  | k + 1 => sumHi lo hi rate D L k + (if cell D k 0 ≤ hi ∧ lo ≤ cell D k 1 then (cell L k 1 * rate + 999999) / 1000000 else 0)

theorem span_ok {a b lo hi : Int} (h : spanErr a b lo hi = 0) : lo ≤ a ∧ a ≤ b ∧ b ≤ hi := by
  unfold spanErr inB at h
  split at h
  · split at h
    · omega
    · omega
  · omega

theorem nur_rate {lo hi rate room : Int} (h : nurErr lo hi rate room = 0) : 0 ≤ rate ∧ rate ≤ 1000000 ∧ 0 ≤ room ∧ room ≤ 1000000000 := by
  unfold nurErr inB at h
  split at h
  · omega
  · omega

theorem first_next {D L : Rows} {k : Nat} (h : firstErr D L (k + 1) = 0) : firstErr D L k = 0 ∧ dayErr D L k = 0 := by
  unfold firstErr at h
  split at h
  · rename_i h1; exact ⟨h1, h⟩
  · rename_i h1; exact absurd h h1

theorem day_ok {D L : Rows} {k : Nat} (h : dayErr D L k = 0) : spanErr (cell D k 0) (cell D k 1) (-50) 400 = 0 ∧ spanErr (cell L k 0) (cell L k 1) 0 1000000000 = 0 := by
  unfold dayErr at h
  split at h
  · rename_i h1; exact ⟨h1, h⟩
  · rename_i h1; exact absurd h h1

theorem part_le {x r : Int} (h1 : 0 ≤ x) (h2 : 0 ≤ r) (h3 : r ≤ 1000000) : 0 ≤ x * r ∧ x * r ≤ x * 1000000 := ⟨Int.mul_nonneg h1 h2, Int.mul_le_mul_of_nonneg_left h3 h1⟩

theorem part_bd {x r : Int} (h1 : 0 ≤ x) (h4 : x ≤ 1000000000) (h2 : 0 ≤ r) (h3 : r ≤ 1000000) : 0 ≤ x * r ∧ x * r ≤ 1000000000000000 := by
  obtain ⟨a, b⟩ := part_le h1 h2 h3
  omega

theorem sums_bd {lo hi rate : Int} {D L : Rows} (h2 : 0 ≤ rate) (h3 : rate ≤ 1000000) : ∀ (k : Nat), firstErr D L k = 0 → 0 ≤ sumLo lo hi rate D L k ∧ sumLo lo hi rate D L k ≤ k * 1000000000 ∧ 0 ≤ sumHi lo hi rate D L k ∧ sumHi lo hi rate D L k ≤ k * 1000000000
  | 0, _ => by simp [sumLo, sumHi]
  | k + 1, h => by
    obtain ⟨h4, h5⟩ := first_next h
    obtain ⟨i1, i2, i3, i4⟩ := sums_bd (lo := lo) (hi := hi) h2 h3 k h4
    obtain ⟨b1, b2, b3⟩ := span_ok (day_ok h5).2
    obtain ⟨c1, c2⟩ := part_le b1 h2 h3
    obtain ⟨c3, c4⟩ := part_le (show 0 ≤ cell L k 1 by omega) h2 h3
    unfold sumLo sumHi
    refine ⟨?_, ?_, ?_, ?_⟩
    · split <;> omega
    · split <;> omega
    · split <;> omega
    · split <;> omega

theorem first_stays {D L : Rows} {k : Nat} (h : firstErr D L k = 0) (h2 : dayErr D L k ≠ 0) : ∀ d, firstErr D L (k + 1 + d) = dayErr D L k
  | 0 => by
    show (if firstErr D L k = 0 then dayErr D L k else firstErr D L k) = _
    rw [if_pos h]
  | d + 1 => by
    have ih := first_stays h h2 d
    show (if firstErr D L (k + 1 + d) = 0 then _ else firstErr D L (k + 1 + d)) = _
    rw [ih, if_neg h2]

theorem first_at {D L : Rows} {k n : Nat} (hk : k < n) (h : firstErr D L k = 0) (h2 : dayErr D L k ≠ 0) : firstErr D L n = dayErr D L k := by
  have := first_stays h h2 (n - (k + 1))
  rwa [show k + 1 + (n - (k + 1)) = n by omega] at this

/-- the error of Settle -/
noncomputable def setErr (lo hi rate room : Int) (D L : Rows) : Int :=
  if nurErr lo hi rate room = 0 then (if 400 < D.length then 5 else if L.length = D.length then firstErr D L D.length else 2) else nurErr lo hi rate room
noncomputable def setLo (lo hi rate room : Int) (D L : Rows) : Int := if setErr lo hi rate room D L = 0 then min (sumLo lo hi rate D L D.length) room else 0
noncomputable def setHi (lo hi rate room : Int) (D L : Rows) : Int := if setErr lo hi rate room D L = 0 then min (sumHi lo hi rate D L D.length) room else 0

/-- the first error of some -/
def firstOf : Rows → Int
  | [] => 0
  | r :: rs => if r.getD 0 0 = 0 then firstOf rs else r.getD 0 0

theorem firstOf_at : ∀ {l : Rows} {k : Nat}, k < l.length → (∀ i, i < k → cell l i 0 = 0) → cell l k 0 ≠ 0 → firstOf l = cell l k 0
  | [], k, h, _, _ => by simp at h
  | r :: rs, 0, _, _, h => by
    have h' : r.getD 0 0 ≠ 0 := h
    show (if r.getD 0 0 = 0 then _ else r.getD 0 0) = _
    rw [if_neg h']
    rfl
  | r :: rs, k + 1, hk, ha, h => by
    have h0 : r.getD 0 0 = 0 := ha 0 (by omega)
    show (if r.getD 0 0 = 0 then firstOf rs else _) = _
    rw [if_pos h0, firstOf_at (k := k) (by simpa using hk) (fun i hi => ha (i + 1) (by omega)) h]
    rfl

theorem firstOf_none : ∀ {l : Rows}, (∀ i, i < l.length → cell l i 0 = 0) → firstOf l = 0
  | [], _ => rfl
  | r :: rs, ha => by
    have h0 : r.getD 0 0 = 0 := ha 0 (by simp)
    show (if r.getD 0 0 = 0 then firstOf rs else _) = _
    rw [if_pos h0]
    exact firstOf_none fun i hi => ha (i + 1) (by simpa using hi)
theorem wrap_in (x : Int) : InR .u64 (IntKind.u64.wrap x) := by
  have e : IntKind.u64.wrap x = x % 18446744073709551616 := by
    simp [IntKind.wrap, IntKind.signed, IntKind.bits]
  rw [e]
  exact ⟨by omega, by omega⟩
theorem wrap_nn (x : Int) : 0 ≤ IntKind.u64.wrap x := (wrap_in x).1
theorem div_in {a : Int} (k : Nat) (h : InR .u64 a) : InR .u64 (a / 2 ^ k) := by
  obtain ⟨h1, h2⟩ := h
  have hp : (0 : Int) < 2 ^ k := Int.pow_pos (by omega)
  refine ⟨Int.ediv_nonneg h1 (by omega), ?_⟩
  have : a / 2 ^ k ≤ a := Int.ediv_le_self _ h1
  omega
theorem div_nn {a : Int} (k : Nat) (h : 0 ≤ a) : 0 ≤ a / 2 ^ k := Int.ediv_nonneg h (by have : (0 : Int) < 2 ^ k := Int.pow_pos (by omega); omega)
theorem xorI_nn (a b : Int) : 0 ≤ xorI a b := by unfold xorI; omega
theorem xorI_in {a b : Int} (ha : InR .u64 a) (hb : InR .u64 b) : InR .u64 (xorI a b) := by
  obtain ⟨h1, h2⟩ := ha
  obtain ⟨h3, h4⟩ := hb
  refine ⟨xorI_nn a b, ?_⟩
  have : a.toNat ^^^ b.toNat < 2 ^ 64 := Nat.xor_lt_two_pow (by omega) (by omega)
  unfold xorI
  omega
def tnext (a : Int) : Int := IntKind.u64.wrap (a + 11415608902216751769)
def tmix1 (x : Int) : Int := IntKind.u64.wrap (xorI x (x / 2 ^ 30) * 13787848793156543929)
def tmix2 (x : Int) : Int := IntKind.u64.wrap (xorI x (x / 2 ^ 27) * 10723151780598845931)
def tval (a : Int) : Int := xorI (tmix2 (tmix1 (tnext a))) (tmix2 (tmix1 (tnext a)) / 2 ^ 31)
theorem tval_in (a : Int) : InR .u64 (tval a) := xorI_in (wrap_in _) (div_in _ (wrap_in _))
theorem wrap_of {x : Int} (h1 : 0 ≤ x) (h2 : x ≤ 18446744073709551615) : IntKind.u64.wrap x = x := by
  have e : IntKind.u64.wrap x = x % 18446744073709551616 := by
    simp [IntKind.wrap, IntKind.signed, IntKind.bits]
  rw [e]
  omega
def belowV (a n : Int) : Int := if n < 2 then 0 else tval a / 2 ^ 1 % n
def belowA (a n : Int) : Int := if n < 2 then a else tnext a
theorem belowV_bd (a : Int) {n : Int} (h : 2 ≤ n) : 0 ≤ tval a / 2 ^ 1 % n ∧ tval a / 2 ^ 1 % n < n := ⟨Int.emod_nonneg _ (by omega), Int.emod_lt_of_pos _ (by omega)⟩
theorem belowV_in (a n : Int) : 0 ≤ belowV a n ∧ (belowV a n < n ∨ belowV a n = 0) := by
  unfold belowV
  split
  · omega
  · have := belowV_bd a (n := n) (by omega)
    omega
def spanLo (a lo hi : Int) : Int := lo + belowV a (hi - lo + 1)
def spanK (a lo hi : Int) : Int := belowV (belowA a (hi - lo + 1)) 3
def spanN (a lo hi : Int) : Int := if spanK a lo hi = 1 then min hi (spanLo a lo hi + 3) - spanLo a lo hi + 1 else hi - spanLo a lo hi + 1
def spanHi (a lo hi : Int) : Int := if spanK a lo hi = 0 then spanLo a lo hi else spanLo a lo hi + belowV (belowA (belowA a (hi - lo + 1)) 3) (spanN a lo hi)
def spanA (a lo hi : Int) : Int := if spanK a lo hi = 0 then belowA (belowA a (hi - lo + 1)) 3 else belowA (belowA (belowA a (hi - lo + 1)) 3) (spanN a lo hi)
def tideK (l : Rows) : Nat → Int
  | 0 => 7809847782465536322
  | k + 1 => tnext (IntKind.u64.wrap (IntKind.u64.wrap (tideK l k + IntKind.u64.wrap (cell l k 0)) * 12605985483714917081))
def sameTo (a b : Rows) (k : Nat) : Prop := a.length = b.length ∧ ∀ i, i < k → cell a i 0 = cell b i 0 ∧ cell a i 1 = cell b i 1
def sameR (a b : Rows) : Prop := a.length = b.length ∧ ∀ i, i < a.length → cell a i 0 = cell b i 0 ∧ cell a i 1 = cell b i 1
/-- one of some numbers -/
def ofV (a : Int) (l : Rows) : Int := if l.length = 0 then 0 else cell l (belowV a l.length).toNat 0
def ofA (a : Int) (l : Rows) : Int := if l.length = 0 then a else belowA a l.length
theorem ofV_two (a x y : Int) : ofV a [[x], [y]] = x ∨ ofV a [[x], [y]] = y := by
  have h := belowV_in a 2
  have e : ofV a [[x], [y]] = cell [[x], [y]] (belowV a 2).toNat 0 := by simp [ofV]
  rw [e]
  have : (belowV a 2).toNat = 0 ∨ (belowV a 2).toNat = 1 := by omega
  rcases this with h0 | h0 <;> rw [h0]
  · exact .inl rfl
  · exact .inr rfl
theorem spanLo_in (a : Int) {lo hi : Int} (h : lo ≤ hi) : lo ≤ spanLo a lo hi ∧ spanLo a lo hi ≤ hi := by
  have := belowV_in a (hi - lo + 1)
  unfold spanLo
  omega
theorem spanHi_in (a : Int) {lo hi : Int} (h : lo ≤ hi) : spanLo a lo hi ≤ spanHi a lo hi ∧ spanHi a lo hi ≤ hi := by
  have h1 := spanLo_in a h
  unfold spanHi
  split
  · omega
  · have h2 := belowV_in (belowA (belowA a (hi - lo + 1)) 3) (spanN a lo hi)
    have h3 : 1 ≤ spanN a lo hi ∧ spanN a lo hi ≤ hi - spanLo a lo hi + 1 := by
      unfold spanN
      split <;> omega
    omega
def nurA1 (a : Int) : Int := belowA a 81
def nurLow (a : Int) : Int := 80 + belowV a 81
def nurA2 (a : Int) : Int := belowA (nurA1 a) (250 - nurLow a + 1)
def nurHigh (a : Int) : Int := nurLow a + belowV (nurA1 a) (250 - nurLow a + 1)
def nurA3 (a : Int) : Int := belowA (nurA2 a) 1000001
def nurRate1 (a : Int) : Int := belowV (nurA2 a) 1000001
def nurRate (a : Int) : Int := ofV (nurA3 a) [[1000000], [nurRate1 a]]
def nurA4 (a : Int) : Int := ofA (nurA3 a) [[1000000], [nurRate1 a]]
def nurA5 (a : Int) : Int := belowA (nurA4 a) 3000
def nurRoom1 (a : Int) : Int := belowV (nurA4 a) 3000
def nurRoom (a : Int) : Int := ofV (nurA5 a) [[1000000], [nurRoom1 a]]
def nurA6 (a : Int) : Int := ofA (nurA5 a) [[1000000], [nurRoom1 a]]
def nurN (a most : Int) : Int := belowV (nurA6 a) (most + 1)
/-- a day of a nursery's, and its larvae: what numbers follow from, behind a number -/
def dayA1 (q : Int) : Int := spanA q 60 260
def dayC (q : Int) : Int := ofV (dayA1 q) [[5], [1000]]
def dayA2 (q : Int) : Int := ofA (dayA1 q) [[5], [1000]]
def dayA3 (q : Int) : Int := spanA (dayA2 q) 0 (dayC q)
def nurQ (a most : Int) : Nat → Int
  | 0 => belowA (nurA6 a) (most + 1)
  | k + 1 => dayA3 (nurQ a most k)
def nurD (a most : Int) : Nat → Rows
  | 0 => []
  | k + 1 => nurD a most k ++ [[spanLo (nurQ a most k) 60 260, spanHi (nurQ a most k) 60 260]]
def nurL (a most : Int) : Nat → Rows
  | 0 => []
  | k + 1 => nurL a most k ++ [[spanLo (dayA2 (nurQ a most k)) 0 (dayC (nurQ a most k)), spanHi (dayA2 (nurQ a most k)) 0 (dayC (nurQ a most k))]]
theorem nurD_len (a most : Int) : ∀ k, (nurD a most k).length = k
  | 0 => rfl
  | k + 1 => by simp [nurD, nurD_len a most k]
theorem nurL_len (a most : Int) : ∀ k, (nurL a most k).length = k
  | 0 => rfl
  | k + 1 => by simp [nurL, nurL_len a most k]
theorem nurD_row (a most : Int) : ∀ k, ∀ r ∈ nurD a most k, r.length = 2
  | 0 => by simp [nurD]
  | k + 1 => by
    intro r hr
    simp only [nurD, List.mem_append, List.mem_singleton] at hr
    rcases hr with hr | rfl
    · exact nurD_row a most k r hr
    · rfl
theorem nurL_row (a most : Int) : ∀ k, ∀ r ∈ nurL a most k, r.length = 2
  | 0 => by simp [nurL]
  | k + 1 => by
    intro r hr
    simp only [nurL, List.mem_append, List.mem_singleton] at hr
    rcases hr with hr | rfl
    · exact nurL_row a most k r hr
    · rfl
theorem sameR_refl (a : Rows) : sameR a a := ⟨rfl, fun _ _ => ⟨rfl, rfl⟩⟩
theorem nurN_le (a : Int) {most : Int} (h : 0 ≤ most) : (nurN a most).toNat ≤ most.toNat := by
  have := belowV_in (nurA6 a) (most + 1)
  have e : nurN a most = belowV (nurA6 a) (most + 1) := rfl
  omega
theorem nur_bd (a : Int) : 80 ≤ nurLow a ∧ nurLow a ≤ nurHigh a ∧ nurHigh a ≤ 250 ∧ 0 ≤ nurRate a ∧ nurRate a ≤ 1000000 ∧ 0 ≤ nurRoom a ∧ nurRoom a ≤ 1000000 := by
  have h1 := belowV_in a 81
  have h2 := belowV_in (nurA1 a) (250 - nurLow a + 1)
  have h3 := belowV_in (nurA2 a) 1000001
  have h4 := belowV_in (nurA4 a) 3000
  have h5 := ofV_two (nurA3 a) 1000000 (nurRate1 a)
  have h6 := ofV_two (nurA5 a) 1000000 (nurRoom1 a)
  have e1 : nurLow a = 80 + belowV a 81 := rfl
  have e2 : nurHigh a = nurLow a + belowV (nurA1 a) (250 - nurLow a + 1) := rfl
  have e3 : nurRate a = ofV (nurA3 a) [[1000000], [nurRate1 a]] := rfl
  have e4 : nurRoom a = ofV (nurA5 a) [[1000000], [nurRoom1 a]] := rfl
  have e5 : nurRate1 a = belowV (nurA2 a) 1000001 := rfl
  have e6 : nurRoom1 a = belowV (nurA4 a) 3000 := rfl
  omega
theorem dayC_is (q : Int) : dayC q = 5 ∨ dayC q = 1000 := ofV_two _ _ _
end Go.Proofs.YthlodlileecmdaaDoor.Sy
