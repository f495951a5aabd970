/- Plain mathematics of ways to vote. -/
import Derived.Test.YtjgllojnbinchaaVtM
namespace Go.Proofs.Ytjgllojnbinchaa.Sy
open Go Go.Rv
/-- how many of the first votes are open -/
def opnN (V : Rows) : Nat → Nat
  | 0 => 0
  | k + 1 => opnN V k + (if cell V k 0 = 0 then 1 else 0)
/-- those whose vote is open -/
def undR (V : Rows) : Nat → Rows
  | 0 => []
  | k + 1 => if cell V k 0 = 0 then undR V k ++ [[(k : Int)]] else undR V k
theorem opnN_le (V : Rows) : ∀ k, opnN V k ≤ k
  | 0 => Nat.le_refl _
  | k + 1 => by
    have := opnN_le V k
    simp only [opnN]
    split <;> omega
theorem opnN_mono (V : Rows) {j : Nat} : ∀ {k : Nat}, j ≤ k → opnN V j ≤ opnN V k
  | 0, h => by
    obtain rfl : j = 0 := by omega
    exact Nat.le_refl _
  | k + 1, h => by
    by_cases e : j = k + 1
    · subst e; exact Nat.le_refl _
    · have := opnN_mono V (j := j) (k := k) (by omega)
      simp only [opnN]
      omega
theorem opnN_lt (V : Rows) {j k : Nat} (h : j < k) (h0 : cell V j 0 = 0) : opnN V j < opnN V k := by
  have h1 := opnN_mono V (j := j + 1) (k := k) h
  simp only [opnN, if_pos h0] at h1
  omega
theorem opnN_inj (V : Rows) {j k : Nat} (hj : cell V j 0 = 0) (hk : cell V k 0 = 0) (h : opnN V j = opnN V k) : j = k := by
  rcases Nat.lt_trichotomy j k with h1 | h1 | h1
  · have := opnN_lt V h1 hj
    omega
  · exact h1
  · have := opnN_lt V h1 hk
    omega
theorem undR_len (V : Rows) : ∀ k, (undR V k).length = opnN V k
  | 0 => rfl
  | k + 1 => by
    simp only [undR, opnN]
    split
    · simp [undR_len V k]
    · simp [undR_len V k]
theorem undR_at (V : Rows) : ∀ n j, j < opnN V n → ∃ p, p < n ∧ cell (undR V n) j 0 = (p : Int) ∧ cell V p 0 = 0 ∧ opnN V p = j
  | 0, j, h => by simp [opnN] at h
  | n + 1, j, h => by
    simp only [opnN] at h
    simp only [undR]
    have hl := undR_len V n
    by_cases e : cell V n 0 = 0
    · rw [if_pos e] at h ⊢
      by_cases ej : j = opnN V n
      · refine ⟨n, by omega, ?_, e, ej.symm⟩
        have : cell (undR V n ++ [[(n : Int)]]) (undR V n).length 0 = (n : Int) := cell_new
        rwa [hl, ← ej] at this
      · obtain ⟨p, h1, h2, h3⟩ := undR_at V n j (by omega)
        exact ⟨p, by omega, by rw [cell_app (by omega)]; exact h2, h3⟩
    · rw [if_neg e] at h ⊢
      obtain ⟨p, h1, h2, h3⟩ := undR_at V n j (by omega)
      exact ⟨p, by omega, h2, h3⟩
/-- a way to vote -/
def wayV (V : Rows) (w k : Nat) : Int := if cell V k 0 = 0 then 1 + ((w / 2 ^ opnN V k % 2 : Nat) : Int) else cell V k 0
/-- the same where the first ones alone have voted -/
def wayP (V : Rows) (w i k : Nat) : Int := if cell V k 0 = 0 ∧ opnN V k < i then 1 + ((w / 2 ^ opnN V k % 2 : Nat) : Int) else cell V k 0
theorem wayP_zero (V : Rows) (w k : Nat) : wayP V w 0 k = cell V k 0 := by
  unfold wayP
  rw [if_neg (by omega)]
theorem wayP_all (V : Rows) (w : Nat) {n k : Nat} (h : k < n) : wayP V w (opnN V n) k = wayV V w k := by
  unfold wayP wayV
  by_cases e : cell V k 0 = 0
  · rw [if_pos ⟨e, opnN_lt V h e⟩, if_pos e]
  · rw [if_neg fun h => e h.1, if_neg e]
theorem wayP_step (V : Rows) (w : Nat) {p k : Nat} (hp : cell V p 0 = 0) : wayP V w (opnN V p + 1) k = if k = p then 1 + ((w / 2 ^ opnN V p % 2 : Nat) : Int) else wayP V w (opnN V p) k := by
  unfold wayP
  by_cases e : k = p
  · subst e
    rw [if_pos ⟨hp, by omega⟩, if_pos rfl]
  · rw [if_neg e]
    by_cases e0 : cell V k 0 = 0
    · by_cases h : opnN V k < opnN V p
      · rw [if_pos ⟨e0, by omega⟩, if_pos ⟨e0, h⟩]
      · rw [if_neg fun h2 => ?_, if_neg fun h2 => h h2.2]
        exact e (opnN_inj V e0 hp (by omega))
    · rw [if_neg fun h => e0 h.1, if_neg fun h => e0 h.1]
def wayR (V : Rows) (w n : Nat) : Rows := (List.range n).map fun k => [wayV V w k]
theorem wayR_len (V : Rows) (w n : Nat) : (wayR V w n).length = n := by simp [wayR]
theorem wayR_row (V : Rows) (w n : Nat) : ∀ r ∈ wayR V w n, r.length = 1 := by
  intro r hr
  simp only [wayR, List.mem_map] at hr
  obtain ⟨_, _, rfl⟩ := hr
  rfl
theorem wayR_cell (V : Rows) (w : Nat) {n k : Nat} (h : k < n) : cell (wayR V w n) k 0 = wayV V w k := by
  unfold cell wayR
  simp [List.getD_eq_getElem?_getD, h]
def yesW (W V : Rows) (w : Nat) : Nat → Int
  | 0 => 0
  | k + 1 => yesW W V w k + (if wayV V w k = 1 then cell W k 0 else 0)
theorem yes_way (W V : Rows) (w n : Nat) : ∀ k, k ≤ n → yesS W (wayR V w n) k = yesW W V w k
  | 0, _ => rfl
  | k + 1, h => by
    simp only [yesS, yesW]
    rw [yes_way W V w n k (by omega), wayR_cell V w (by omega)]
theorem yesW_bd (W V : Rows) (w : Nat) : ∀ {k}, (∀ i, i < k → 0 ≤ cell W i 0) → yesS W V k ≤ yesW W V w k ∧ yesW W V w k ≤ yesS W V k + opnS W V k
  | 0, _ => by simp [yesS, yesW, opnS]
  | k + 1, h => by
    have ih := yesW_bd W V w (k := k) fun i hi => h i (by omega)
    have h0 := h k (by omega)
    simp only [yesS, yesW, opnS]
    unfold wayV
    by_cases e0 : cell V k 0 = 0
    · rw [if_pos e0, if_neg (show ¬ cell V k 0 = 1 by omega), if_pos e0]
      split <;> omega
    · rw [if_neg e0, if_neg e0]
      omega
theorem yesW_zero (W V : Rows) : ∀ k, yesW W V 0 k = yesS W V k + opnS W V k
  | 0 => by simp [yesS, yesW, opnS]
  | k + 1 => by
    have ih := yesW_zero W V k
    simp only [yesS, yesW, opnS, ih]
    unfold wayV
    by_cases e0 : cell V k 0 = 0
    · rw [if_pos e0, if_pos (by simp), if_neg (show ¬ cell V k 0 = 1 by omega), if_pos e0]
      omega
    · rw [if_neg e0, if_neg e0]
      omega
theorem full_bit {u j : Nat} (h : j < u) : (2 ^ u - 1) / 2 ^ j % 2 = 1 := by
  have h1 := Nat.testBit_two_pow_sub_one u j
  rw [Nat.testBit_eq_decide_div_mod_eq] at h1
  simpa [h] using h1
theorem yesW_full (W V : Rows) (u : Nat) : ∀ k, opnN V k ≤ u → yesW W V (2 ^ u - 1) k = yesS W V k
  | 0, _ => rfl
  | k + 1, h => by
    have hm : opnN V k ≤ u := Nat.le_trans (opnN_mono V (Nat.le_succ k)) h
    have ih := yesW_full W V u k hm
    simp only [yesS, yesW, ih]
    unfold wayV
    by_cases e0 : cell V k 0 = 0
    · have h1 : opnN V k < u := by
        simp only [opnN, if_pos e0] at h
        omega
      rw [if_pos e0, full_bit h1, if_neg (by omega), if_neg (show ¬ cell V k 0 = 1 by omega)]
    · rw [if_neg e0]
/-- a way by which a motion passes -/
def pasW (W V : Rows) (need : Int) (w : Nat) : Prop := passN W need (yesW W V w W.length)
theorem passM {W : Rows} {need x y : Int} (h : x ≤ y) (hp : passN W need x) : passN W need y := by
  unfold passN at *
  omega
open Classical in
/-- what a motion comes to, if all ways have been looked at -/
theorem dec_ways {W V : Rows} {need : Int} (h : MotOk W V need) : (¬ (∃ w, w < 2 ^ opnN V V.length ∧ ¬ pasW W V need w) → decV W V need = 1) ∧
    ((∃ w, w < 2 ^ opnN V V.length ∧ ¬ pasW W V need w) → ¬ (∃ w, w < 2 ^ opnN V V.length ∧ pasW W V need w) → decV W V need = 2) ∧
    ((∃ w, w < 2 ^ opnN V V.length ∧ ¬ pasW W V need w) → (∃ w, w < 2 ^ opnN V V.length ∧ pasW W V need w) → decV W V need = 3) := by
  have hv := h.v
  have hp : 0 < 2 ^ opnN V V.length := Nat.pow_pos (by omega)
  have hw : ∀ i, i < W.length → 0 ≤ cell W i 0 := fun i hi => (h.w i hi).1
  have p0 : pasW W V need 0 ↔ passN W need (yesS W V W.length + opnS W V W.length) := by
    unfold pasW
    rw [yesW_zero]
  have p1 : pasW W V need (2 ^ opnN V V.length - 1) ↔ passN W need (yesS W V W.length) := by
    unfold pasW
    rw [yesW_full W V _ _ (by rw [hv]; exact Nat.le_refl _)]
  have lo : ∀ w, passN W need (yesS W V W.length) → pasW W V need w := fun w hp => passM (yesW_bd W V w hw).1 hp
  have hi : ∀ w, pasW W V need w → passN W need (yesS W V W.length + opnS W V W.length) := fun w hp => passM (yesW_bd W V w hw).2 hp
  have e0 := mot_zero h
  refine ⟨fun h1 => ?_, fun h1 h2 => ?_, fun h1 h2 => ?_⟩
  · have : pasW W V need (2 ^ opnN V V.length - 1) := Classical.byContradiction fun hn => h1 ⟨_, by omega, hn⟩
    unfold decV
    rw [if_pos e0, if_pos (p1.1 this)]
  · obtain ⟨w, h3, h4⟩ := h1
    unfold decV
    rw [if_pos e0, if_neg fun hh => h4 (lo w hh), if_neg fun hh => h2 ⟨0, hp, p0.2 hh⟩]
  · obtain ⟨w, h3, h4⟩ := h1
    obtain ⟨v, h5, h6⟩ := h2
    unfold decV
    rw [if_pos e0, if_neg fun hh => h4 (lo w hh), if_pos (hi v h6)]
end Go.Proofs.Ytjgllojnbinchaa.Sy
