/- Larvae: sums over days in another order, and days' own numbers. -/
import Derived.Test.YtgdnhmilhpnbjaaDoorGrX
namespace Go.Proofs.YtgdnhmilhpnbjaaDoor.Sy
open Go Go.Rv
set_option linter.unusedVariables false

theorem cell_snoc_lt {R : Rows} {r : List Int} {j c : Nat} (h : j < R.length) : cell (R ++ [r]) j c = cell R j c := by
  unfold cell
  rw [getD_app h]
theorem cell_snoc_eq {R : Rows} {r : List Int} {c : Nat} : cell (R ++ [r]) R.length c = r.getD c 0 := by
  unfold cell
  simp [List.getD_eq_getElem?_getD]
theorem nurD_cell (a most : Int) : ∀ k j, j < k → 60 ≤ cell (nurD a most k) j 0 ∧ cell (nurD a most k) j 0 ≤ cell (nurD a most k) j 1 ∧ cell (nurD a most k) j 1 ≤ 260
  | k + 1, j, h => by
    have hl := nurD_len a most k
    by_cases hj : j < k
    · have := nurD_cell a most k j hj
      simp only [nurD, cell_snoc_lt (show j < (nurD a most k).length by omega)]
      exact this
    · have e : j = (nurD a most k).length := by omega
      subst e
      simp only [nurD, cell_snoc_eq]
      have h1 := spanLo_in (nurQ a most k) (lo := 60) (hi := 260) (by omega)
      have h2 := spanHi_in (nurQ a most k) (lo := 60) (hi := 260) (by omega)
      simp only [List.getD_cons_zero, List.getD_cons_succ]
      omega
theorem nurL_cell (a most : Int) : ∀ k j, j < k → 0 ≤ cell (nurL a most k) j 0 ∧ cell (nurL a most k) j 0 ≤ cell (nurL a most k) j 1 ∧ cell (nurL a most k) j 1 ≤ 1000
  | k + 1, j, h => by
    have hl := nurL_len a most k
    by_cases hj : j < k
    · have := nurL_cell a most k j hj
      simp only [nurL, cell_snoc_lt (show j < (nurL a most k).length by omega)]
      exact this
    · have e : j = (nurL a most k).length := by omega
      subst e
      simp only [nurL, cell_snoc_eq]
      have hc := dayC_is (nurQ a most k)
      have h1 := spanLo_in (dayA2 (nurQ a most k)) (lo := 0) (hi := dayC (nurQ a most k)) (by omega)
      have h2 := spanHi_in (dayA2 (nurQ a most k)) (lo := 0) (hi := dayC (nurQ a most k)) (by omega)
      simp only [List.getD_cons_zero, List.getD_cons_succ]
      omega

/-- days that may be -/
def Days (D L : Rows) (n : Nat) : Prop := ∀ j, j < n → 60 ≤ cell D j 0 ∧ cell D j 0 ≤ cell D j 1 ∧ cell D j 1 ≤ 260 ∧ 0 ≤ cell L j 0 ∧ cell L j 0 ≤ cell L j 1 ∧ cell L j 1 ≤ 1000
theorem nur_days (a most : Int) (k : Nat) : Days (nurD a most k) (nurL a most k) k := fun j h => by
  have h1 := nurD_cell a most k j h
  have h2 := nurL_cell a most k j h
  omega
theorem days_first {D L : Rows} {n : Nat} (h : Days D L n) : ∀ k, k ≤ n → firstErr D L k = 0
  | 0, _ => rfl
  | k + 1, hk => by
    have h1 := days_first h k (by omega)
    have h2 := h k (by omega)
    have h3 : dayErr D L k = 0 := by
      unfold dayErr spanErr inB
      grind
    show (if firstErr D L k = 0 then dayErr D L k else firstErr D L k) = 0
    rw [if_pos h1, h3]

def sumI : List Int → Int
  | [] => 0
  | x :: r => x + sumI r
theorem sumI_app : ∀ a b : List Int, sumI (a ++ b) = sumI a + sumI b
  | [], b => by simp [sumI]
  | x :: r, b => by
    show x + sumI (r ++ b) = x + sumI r + sumI b
    rw [sumI_app r b]
    omega
theorem sumI_perm {a b : List Int} (h : a.Perm b) : sumI a = sumI b := by
  induction h with
  | nil => rfl
  | cons x _ ih => simp only [sumI, ih]
  | swap x y l => simp only [sumI]; omega
  | trans _ _ h1 h2 => exact h1.trans h2
def fLo (lo hi rate : Int) (D L : Rows) (k : Nat) : Int := if lo ≤ cell D k 0 ∧ cell D k 1 ≤ hi then cell L k 0 * rate / 1000000 else 0
def fHi (lo hi rate : Int) (D L : Rows) (k : Nat) : Int := if cell D k 0 ≤ hi ∧ lo ≤ cell D k 1 then (cell L k 1 * rate + 999999) / 1000000 else 0
theorem sumLo_is (lo hi rate : Int) (D L : Rows) : ∀ k, sumLo lo hi rate D L k = sumI ((List.range k).map (fLo lo hi rate D L))
  | 0 => rfl
  | k + 1 => by
    rw [List.range_succ, List.map_append, sumI_app, ← sumLo_is lo hi rate D L k]
    simp [sumLo, sumI, fLo]
theorem sumHi_is (lo hi rate : Int) (D L : Rows) : ∀ k, sumHi lo hi rate D L k = sumI ((List.range k).map (fHi lo hi rate D L))
  | 0 => rfl
  | k + 1 => by
    rw [List.range_succ, List.map_append, sumI_app, ← sumHi_is lo hi rate D L k]
    simp [sumHi, sumI, fHi]

/-- rows in the order of others -/
def permR (D O : Rows) : Nat → Rows
  | 0 => []
  | k + 1 => permR D O k ++ [[cell D (cell O k 0).toNat 0, cell D (cell O k 0).toNat 1]]
theorem permR_len (D O : Rows) : ∀ k, (permR D O k).length = k
  | 0 => rfl
  | k + 1 => by simp [permR, permR_len D O k]
theorem permR_row (D O : Rows) : ∀ k, ∀ r ∈ permR D O k, r.length = 2
  | 0 => by simp [permR]
  | k + 1 => by
    intro r hr
    simp only [permR, List.mem_append, List.mem_singleton] at hr
    rcases hr with hr | rfl
    · exact permR_row D O k r hr
    · rfl
theorem permR_cell (D O : Rows) : ∀ n k, k < n → cell (permR D O n) k 0 = cell D (cell O k 0).toNat 0 ∧ cell (permR D O n) k 1 = cell D (cell O k 0).toNat 1
  | n + 1, k, h => by
    have hl := permR_len D O n
    by_cases hk : k < n
    · simp only [permR, cell_snoc_lt (show k < (permR D O n).length by omega)]
      exact permR_cell D O n k hk
    · have e : k = (permR D O n).length := by omega
      have e2 : k = n := by omega
      simp only [permR]
      have := @cell_snoc_eq (permR D O n) [cell D (cell O n 0).toNat 0, cell D (cell O n 0).toNat 1] 0
      have h2 := @cell_snoc_eq (permR D O n) [cell D (cell O n 0).toNat 0, cell D (cell O n 0).toNat 1] 1
      rw [← e] at this h2
      rw [this, h2, e2]
      exact ⟨rfl, rfl⟩
theorem perm_get {O : Rows} {n : Nat} (h : O.Perm ((List.range n).map fun i : Nat => [(i : Int)])) {k : Nat} (hk : k < n) : 0 ≤ cell O k 0 ∧ (cell O k 0).toNat < n := by
  have hl : O.length = n := by simpa using h.length_eq
  have hkO : k < O.length := by omega
  have hm : O[k]'hkO ∈ (List.range n).map fun i : Nat => [(i : Int)] := h.mem_iff.1 (List.getElem_mem _)
  simp only [List.mem_map, List.mem_range] at hm
  obtain ⟨i, h1, h2⟩ := hm
  have e : cell O k 0 = (i : Int) := by
    unfold cell
    rw [List.getD_eq_getElem?_getD (l := O), List.getElem?_eq_getElem hkO, ← h2]
    rfl
  omega
theorem perm_sum {O : Rows} {n : Nat} (h : O.Perm ((List.range n).map fun i : Nat => [(i : Int)])) (g : Nat → Int) : sumI ((List.range n).map fun i => g (cell O i 0).toNat) = sumI ((List.range n).map g) := by
  have hl : O.length = n := by simpa using h.length_eq
  have e : ((List.range n).map fun i => g (cell O i 0).toNat) = O.map fun r => g (r.getD 0 0).toNat := by
    apply List.ext_getElem
    · simp [hl]
    · intro i h1 h2
      have hi : i < O.length := by simpa using h2
      simp only [List.getElem_map, List.getElem_range]
      unfold cell
      rw [List.getD_eq_getElem?_getD (l := O), List.getElem?_eq_getElem hi]
      rfl
  rw [e]
  apply sumI_perm
  have h2 := h.map fun r : List Int => g (r.getD 0 0).toNat
  rw [List.map_map] at h2
  refine h2.trans ?_
  have e2 : ((fun r : List Int => g (r.getD 0 0).toNat) ∘ fun i : Nat => [(i : Int)]) = g := by
    funext i
    simp
  rw [e2]
theorem perm_days {D L O : Rows} {n : Nat} (h : O.Perm ((List.range n).map fun i : Nat => [(i : Int)])) (hd : Days D L n) : Days (permR D O n) (permR L O n) n := fun j hj => by
  obtain ⟨h1, h2⟩ := perm_get h hj
  obtain ⟨a1, a2⟩ := permR_cell D O n j hj
  obtain ⟨b1, b2⟩ := permR_cell L O n j hj
  rw [a1, a2, b1, b2]
  exact hd _ h2
theorem perm_lo {D L O : Rows} {n : Nat} (h : O.Perm ((List.range n).map fun i : Nat => [(i : Int)])) (lo hi rate : Int) : sumLo lo hi rate (permR D O n) (permR L O n) n = sumLo lo hi rate D L n := by
  rw [sumLo_is, sumLo_is, ← perm_sum h (fLo lo hi rate D L)]
  congr 1
  apply List.map_congr_left
  intro i hi
  have hi' : i < n := by simpa using hi
  obtain ⟨a1, a2⟩ := permR_cell D O n i hi'
  obtain ⟨b1, b2⟩ := permR_cell L O n i hi'
  simp only [fLo, a1, a2, b1]
theorem perm_hi {D L O : Rows} {n : Nat} (h : O.Perm ((List.range n).map fun i : Nat => [(i : Int)])) (lo hi rate : Int) : sumHi lo hi rate (permR D O n) (permR L O n) n = sumHi lo hi rate D L n := by
  rw [sumHi_is, sumHi_is, ← perm_sum h (fHi lo hi rate D L)]
  congr 1
  apply List.map_congr_left
  intro i hi
  have hi' : i < n := by simpa using hi
  obtain ⟨a1, a2⟩ := permR_cell D O n i hi'
  obtain ⟨b1, b2⟩ := permR_cell L O n i hi'
  simp only [fHi, a1, a2, b2]
end Go.Proofs.YtgdnhmilhpnbjaaDoor.Sy
