/- Plain mathematics of dead ones that are paid for. -/
import Derived.Test.YthgpjpjflgeokaaStM
namespace Go.Proofs.Ythgpjpjflgeokaa.Sy
open Go Go.Rv
/-- a claim for each who has dead ones -/
def clR (D : Nat → Int) (p : Int) : Nat → Rows
  | 0 => []
  | k + 1 => if 0 < D k then clR D p k ++ [[(k : Int) + 1, 0, D k * p]] else clR D p k
theorem clR_yes {D : Nat → Int} {p : Int} {k : Nat} (h : 0 < D k) : clR D p (k + 1) = clR D p k ++ [[(k : Int) + 1, 0, D k * p]] := by simp only [clR, if_pos h]
theorem clR_no {D : Nat → Int} {p : Int} {k : Nat} (h : ¬ 0 < D k) : clR D p (k + 1) = clR D p k := by simp only [clR, if_neg h]
theorem clR_len (D : Nat → Int) (p : Int) : ∀ k, (clR D p k).length ≤ k
  | 0 => Nat.le_refl _
  | k + 1 => by
    have ih := clR_len D p k
    by_cases h : 0 < D k
    · rw [clR_yes h]
      simp only [List.length_append, List.length_cons, List.length_nil]
      omega
    · rw [clR_no h]
      omega
theorem clR_row (D : Nat → Int) (p : Int) : ∀ k, ∀ r ∈ clR D p k, r.length = 3
  | 0 => by simp [clR]
  | k + 1 => by
    intro r hr
    by_cases h : 0 < D k
    · rw [clR_yes h] at hr
      simp only [List.mem_append, List.mem_singleton] at hr
      rcases hr with hr | rfl
      · exact clR_row D p k r hr
      · rfl
    · rw [clR_no h] at hr
      exact clR_row D p k r hr
theorem clR_in (D : Nat → Int) (p : Int) : ∀ k j, j < (clR D p k).length → ∃ i, i < k ∧ 0 < D i ∧ cell (clR D p k) j 0 = (i : Int) + 1 ∧ cell (clR D p k) j 1 = 0 ∧ cell (clR D p k) j 2 = D i * p
  | 0, j, h => by simp [clR] at h
  | k + 1, j, h => by
    by_cases e : 0 < D k
    · rw [clR_yes e] at h ⊢
      by_cases ej : j = (clR D p k).length
      · subst ej
        exact ⟨k, by omega, e, cell_new, cell_new, cell_new⟩
      · simp only [List.length_append, List.length_cons, List.length_nil] at h
        have hj : j < (clR D p k).length := by omega
        obtain ⟨i, h1, h2, h3, h4, h5⟩ := clR_in D p k j hj
        exact ⟨i, by omega, h2, by rw [cell_app hj]; exact h3, by rw [cell_app hj]; exact h4, by rw [cell_app hj]; exact h5⟩
    · rw [clR_no e] at h ⊢
      obtain ⟨i, h1, h2⟩ := clR_in D p k j h
      exact ⟨i, by omega, h2⟩
theorem clR_net {D : Nat → Int} {p : Int} : ∀ k i : Nat, (∀ i, i < k → 0 ≤ D i) → netTo (clR D p k) (clR D p k).length i = if i = 0 then sumF (fun j => D j * p) k else if i - 1 < k then -(D (i - 1) * p) else 0
  | 0, i, _ => by
    simp only [clR, List.length_nil, netTo, sumF]
    split
    · rfl
    · rw [if_neg (by omega)]
  | k + 1, i, hD => by
    have ih := clR_net (p := p) k i fun j hj => hD j (by omega)
    by_cases e : 0 < D k
    · rw [clR_yes e, net_new, ih]
      by_cases h0 : i = 0
      · subst h0
        rw [if_pos rfl, if_pos rfl, if_neg (show ¬ (k : Int) + 1 = ((0 : Nat) : Int) by omega), if_pos (show (0 : Int) = ((0 : Nat) : Int) from rfl)]
        simp only [sumF]
        omega
      · rw [if_neg h0, if_neg h0, if_neg (show ¬ (0 : Int) = (i : Int) by omega)]
        by_cases h1 : i - 1 = k
        · have : i = k + 1 := by omega
          subst this
          rw [if_neg (by omega), if_pos (by omega), if_pos (by omega)]
          simp
        · rw [if_neg (show ¬ (k : Int) + 1 = (i : Int) by omega)]
          by_cases h2 : i - 1 < k
          · rw [if_pos h2, if_pos (by omega)]
            omega
          · rw [if_neg h2, if_neg (by omega)]
            omega
    · have z : D k = 0 := by have := hD k (by omega); omega
      rw [clR_no e, ih]
      by_cases h0 : i = 0
      · rw [if_pos h0, if_pos h0]
        simp only [sumF, z]
        omega
      · rw [if_neg h0, if_neg h0]
        by_cases h2 : i - 1 < k
        · rw [if_pos h2, if_pos (by omega)]
        · rw [if_neg h2]
          by_cases h1 : i - 1 = k
          · rw [if_pos (by omega), h1, z]
            omega
          · rw [if_neg (by omega)]
theorem sum_first {g : Nat → Int} {a : Nat} (ha : 1 ≤ a) : ∀ {n : Nat}, (∀ i, 1 ≤ i → i < n → g i ≤ 0) → a < n → sumF g n ≤ g 0 + g a
  | 0, _, h => by omega
  | n + 1, hg, h => by
    simp only [sumF]
    have hle : ∀ m : Nat, m ≤ n + 1 → 1 ≤ m → sumF g m ≤ g 0 := fun m => by
      induction m with
      | zero => intro _ h; omega
      | succ m ih =>
        intro h1 _
        simp only [sumF]
        by_cases e : m = 0
        · subst e
          simp [sumF]
        · have := ih (by omega) (by omega)
          have := hg m (by omega) (by omega)
          omega
    by_cases e : a = n
    · subst e
      have := hle a (by omega) ha
      omega
    · have := sum_first (a := a) ha (n := n) (fun i h1 h2 => hg i h1 (by omega)) (by omega)
      have := hg n (by omega) (by omega)
      omega
theorem sum_max {f : Nat → Int} : ∀ {n : Nat}, 0 < n → 0 ≤ f 0 → (∀ i, 1 ≤ i → i < n → f i ≤ 0) → sumF (fun i => max 0 (f i)) n = f 0
  | 0, h, _, _ => by omega
  | 1, _, h0, _ => by simp only [sumF]; omega
  | n + 2, _, h0, hf => by
    have ih := sum_max (f := f) (n := n + 1) (by omega) h0 fun i h1 h2 => hf i h1 (by omega)
    have h1 := hf (n + 1) (by omega) (by omega)
    have e : sumF (fun i => max 0 (f i)) (n + 2) = sumF (fun i => max 0 (f i)) (n + 1) + max 0 (f (n + 1)) := rfl
    rw [e, ih]
    omega
/-- where one alone gets, each of the others pays at once all that it owes -/
theorem pay_one {n : Nat} {f : Nat → Int} {R : Rows} (h : PayTo n f R) (hs : sumF f n = 0) (hf : ∀ i, 1 ≤ i → i < n → f i ≤ 0) : ∀ k, k ≤ R.length → (∀ i, 1 ≤ i → i < n → lft f R k i = f i ∨ lft f R k i = 0) ∧
    ∀ j, j < k → ∃ a : Nat, 1 ≤ a ∧ a < n ∧ f a < 0 ∧ cell R j 0 = a ∧ cell R j 1 = 0 ∧ cell R j 2 = -(f a)
  | 0, _ => ⟨fun i _ _ => .inl (by simp [lft, netTo]), fun j hj => by omega⟩
  | k + 1, hk => by
    obtain ⟨h1, h2⟩ := pay_one h hs hf k (by omega)
    have hk' : k < R.length := by omega
    obtain ⟨a, b, c0, c1, ha, hb, hc⟩ := h.step k hk'
    have hl : ∀ i, 1 ≤ i → i < n → lft f R k i ≤ 0 := fun i hi hn => by
      have := hf i hi hn
      rcases h1 i hi hn with e | e <;> omega
    have hb0 : b = 0 := by
      apply Classical.byContradiction
      intro hne
      have := hl b (by omega) hb.1
      have := hb.2.1
      omega
    subst hb0
    have ha1 : 1 ≤ a := by
      apply Classical.byContradiction
      intro hne
      have : a = 0 := by omega
      subst this
      have := ha.2.1
      have := hb.2.1
      omega
    have hfa : lft f R k a = f a := by
      rcases h1 a ha1 ha.1 with e | e
      · exact e
      · have := ha.2.1
        omega
    have hsum : sumF (lft f R k) n = 0 := (pay_k h (by omega)).sum.trans hs
    have hle := sum_first ha1 hl ha.1
    rw [hsum] at hle
    have hcc : cell R k 2 = -(f a) := by
      rw [hc, hfa] at *
      omega
    refine ⟨fun i hi hn => ?_, fun j hj => ?_⟩
    · rw [lft_succ, c0, c1, if_neg (show ¬ ((0 : Nat) : Int) = (i : Int) by omega)]
      by_cases e : a = i
      · subst e
        rw [if_pos rfl, hcc, hfa]
        right
        omega
      · rw [if_neg (by omega)]
        have := h1 i hi hn
        omega
    · by_cases e : j = k
      · subst e
        exact ⟨a, ha1, ha.1, by have := ha.2.1; omega, c0, c1, hcc⟩
      · exact h2 j (by omega)
theorem clm_zero {n : Int} {C : Rows} : ∀ {k : Nat}, (∀ j, j < k → clmAt n C j = 0) → clmTo n C k = 0
  | 0, _ => rfl
  | k + 1, h => by
    show (if clmTo n C k = 0 then clmAt n C k else clmTo n C k) = 0
    rw [if_pos (clm_zero fun j hj => h j (by omega)), h k (by omega)]
theorem sumF_mulr (f : Nat → Int) (p : Int) : ∀ n, sumF (fun i => f i * p) n = sumF f n * p
  | 0 => by simp [sumF]
  | n + 1 => by
    simp only [sumF, sumF_mulr f p n]
    rw [Int.add_mul]
theorem paidTo_bd {R : Rows} {M : Int} : ∀ {k : Nat}, (∀ j, j < k → 0 ≤ cell R j 2 ∧ cell R j 2 ≤ M) → 0 ≤ paidTo R k ∧ paidTo R k ≤ k * M
  | 0, _ => by simp [paidTo]
  | k + 1, h => by
    have ih := paidTo_bd (R := R) (M := M) (k := k) fun j hj => h j (by omega)
    have h1 := h k (by omega)
    have e : ((k + 1 : Nat) : Int) * M = k * M + M := by rw [Int.natCast_add, Int.add_mul]; simp
    rw [e]
    simp only [paidTo]
    generalize (k : Int) * M = q at *
    omega
/-- what is known of the payments, where D are the dead ones of each, at the price p -/
structure DeadPay (n : Nat) (D : Nat → Int) (p : Int) (R : Rows) : Prop where
  err : clmErr ((n : Int) + 1) (clR D p n) = 0
  len : R.length ≤ n
  pay : ∀ j, j < R.length → ∃ k, k < n ∧ cell R j 0 = (k : Int) + 1 ∧ cell R j 1 = 0 ∧ cell R j 2 = D k * p
  due : paidTo R R.length = sumF D n * p
end Go.Proofs.Ythgpjpjflgeokaa.Sy
