/- Plain mathematics of boxes that are given away one by one. -/
import Derived.Test.YtpnnknhenhnmhaaStM
namespace Go.Proofs.Ytpnnknhenhnmhaa.Sy
open Go Go.Rv
/-- the first of some boats to which the next box goes -/
def bst (T : Rows) (g : Nat → Int) : Nat → Nat
  | 0 => 0
  | k + 1 => if k = 0 then 0 else if cell T (bst T g k) 0 * (g k + 1) < cell T k 0 * (g (bst T g k) + 1) then k else bst T g k
/-- boxes after so many steps -/
def dh (T : Rows) : Nat → Nat → Int
  | 0, _ => 0
  | s + 1, i => dh T s i + (if i = bst T (dh T s) T.length then 1 else 0)
theorem dh_nn (T : Rows) : ∀ s i, 0 ≤ dh T s i
  | 0, _ => by simp [dh]
  | s + 1, i => by
    have := dh_nn T s i
    simp only [dh]
    split <;> omega
theorem dh_le (T : Rows) : ∀ s i, dh T s i ≤ s
  | 0, _ => by simp [dh]
  | s + 1, i => by
    have := dh_le T s i
    simp only [dh]
    split <;> omega
theorem bst_lt (T : Rows) (g : Nat → Int) : ∀ k, 0 < k → bst T g k < k
  | 0, h => by omega
  | k + 1, _ => by
    simp only [bst]
    split
    · omega
    · split
      · omega
      · have := bst_lt T g k (by omega)
        omega
/-- none is better, and those before it are worse -/
theorem bst_is {T : Rows} {g : Nat → Int} (hg : ∀ i, 0 ≤ g i) (hT : ∀ i, 0 ≤ cell T i 0) : ∀ k, 0 < k → (∀ i, i < k → cell T i 0 * (g (bst T g k) + 1) ≤ cell T (bst T g k) 0 * (g i + 1)) ∧ ∀ i, i < bst T g k → cell T i 0 * (g (bst T g k) + 1) < cell T (bst T g k) 0 * (g i + 1)
  | 0, h => by omega
  | k + 1, _ => by
    by_cases hk : k = 0
    · subst hk
      have e : bst T g 1 = 0 := rfl
      rw [e]
      refine ⟨fun i hi => ?_, fun i hi => by omega⟩
      have : i = 0 := by omega
      subst this
      exact Int.le_refl _
    · obtain ⟨h1, h2⟩ := bst_is hg hT k (by omega)
      have hb := bst_lt T g k (by omega)
      simp only [bst, if_neg hk]
      obtain ⟨b, eb⟩ : ∃ b, bst T g k = b := ⟨_, rfl⟩
      rw [eb] at h1 h2 hb ⊢
      by_cases hc : cell T b 0 * (g k + 1) < cell T k 0 * (g b + 1)
      · rw [if_pos hc]
        -- those before k are worse than k
        have key : ∀ i, i < k → cell T i 0 * (g k + 1) < cell T k 0 * (g i + 1) := by
          intro i hi
          have h3 := h1 i hi
          have gi := hg i
          have gk := hg k
          have gb := hg b
          have ti := hT i
          have tk := hT k
          have tb := hT b
          -- t_i (g_b + 1) <= t_b (g_i + 1), t_b (g_k + 1) < t_k (g_b + 1)
          have m1 : cell T i 0 * (g b + 1) * (g k + 1) ≤ cell T b 0 * (g i + 1) * (g k + 1) := Int.mul_le_mul_of_nonneg_right h3 (by omega)
          have m2 : cell T b 0 * (g k + 1) * (g i + 1) < cell T k 0 * (g b + 1) * (g i + 1) := Int.mul_lt_mul_of_pos_right hc (by omega)
          have e1 : cell T b 0 * (g i + 1) * (g k + 1) = cell T b 0 * (g k + 1) * (g i + 1) := by rw [Int.mul_assoc, Int.mul_assoc, Int.mul_comm (g i + 1)]
          have e2 : cell T i 0 * (g b + 1) * (g k + 1) = (g b + 1) * (cell T i 0 * (g k + 1)) := by rw [Int.mul_comm (cell T i 0), Int.mul_assoc]
          have e3 : cell T k 0 * (g b + 1) * (g i + 1) = (g b + 1) * (cell T k 0 * (g i + 1)) := by rw [Int.mul_comm (cell T k 0), Int.mul_assoc]
          rw [e1] at m1
          rw [e2] at m1
          rw [e3] at m2
          exact Int.lt_of_mul_lt_mul_left (Int.lt_of_le_of_lt m1 m2) (by omega)
        refine ⟨fun i hi => ?_, key⟩
        by_cases e : i = k
        · subst e; exact Int.le_refl _
        · exact Int.le_of_lt (key i (by omega))
      · rw [if_neg hc]
        refine ⟨fun i hi => ?_, h2⟩
        by_cases e : i = k
        · subst e; omega
        · exact h1 i (by omega)
/-- what is so of two boats -/
structure Fair (T : Rows) (g : Nat → Int) (i k : Nat) : Prop where
  ge : cell T k 0 ≤ cell T i 0 → g k ≤ g i
  eq : cell T i 0 = cell T k 0 → g i ≤ g k + 1
  lt : cell T i 0 < cell T k 0 → g i ≤ g k
theorem dh_fair {T : Rows} (hT : ∀ i, 0 ≤ cell T i 0) {p : Nat} (hp : p < T.length) (hpp : 0 < cell T p 0) : ∀ s, (∀ i k, i < k → k < T.length → Fair T (dh T s) i k) ∧ ∀ i, i < T.length → cell T i 0 = 0 → dh T s i = 0
  | 0 => ⟨fun i k _ _ => ⟨fun _ => by simp [dh], fun _ => by simp [dh], fun _ => by simp [dh]⟩, fun i _ _ => rfl⟩
  | s + 1 => by
    obtain ⟨ih, iz⟩ := dh_fair hT hp hpp s
    have hg := dh_nn T s
    obtain ⟨h1, h2⟩ := bst_is (T := T) (g := dh T s) hg hT T.length (by omega)
    have hb := bst_lt T (dh T s) T.length (by omega)
    have es : ∀ i, dh T (s + 1) i = dh T s i + (if i = bst T (dh T s) T.length then 1 else 0) := fun _ => rfl
    obtain ⟨b, eb⟩ : ∃ b, bst T (dh T s) T.length = b := ⟨_, rfl⟩
    rw [eb] at h1 h2 hb
    simp only [eb] at es
    obtain ⟨g, eg⟩ : ∃ g, dh T s = g := ⟨_, rfl⟩
    obtain ⟨g', eg'⟩ : ∃ g', dh T (s + 1) = g' := ⟨_, rfl⟩
    rw [eg] at ih iz hg h1 h2
    rw [eg']
    simp only [eg, eg'] at es
    clear eb eg eg'
    have tb : 0 < cell T b 0 := by
      have h3 := h1 p hp
      have m : 0 < cell T p 0 * (g b + 1) := Int.mul_pos hpp (by have := hg b; omega)
      rcases Int.lt_trichotomy (cell T b 0) 0 with h | h | h
      · have := hT b; omega
      · rw [h] at h3; simp at h3; omega
      · exact h
    constructor
    · intro i k hik hk
      have f := ih i k hik hk
      obtain ⟨f1, f2, f3⟩ := f
      have ei := es i
      have ek := es k
      have gi := hg i
      have gk := hg k
      by_cases e1 : i = b
      · subst e1
        have e2 : ¬ k = i := by omega
        rw [if_pos rfl] at ei
        rw [if_neg e2] at ek
        rw [Int.add_zero] at ek
        have h3 := h1 k hk
        refine ⟨fun h => by have := f1 h; omega, fun h => ?_, fun h => ?_⟩
        · -- equal, and i gets one: it had no more than k
          have h4 := f2 h
          rw [← h] at h3
          have h5 : g i + 1 ≤ g k + 1 := Int.le_of_mul_le_mul_left h3 tb
          omega
        · have h4 := f3 h
          rcases Int.lt_trichotomy (g i) (g k) with h5 | h5 | h5
          · omega
          · exfalso
            rw [h5] at h3
            have := Int.le_of_mul_le_mul_right h3 (show 0 < g k + 1 by omega)
            omega
          · omega
      · rw [if_neg e1, Int.add_zero] at ei
        by_cases e2 : k = b
        · subst e2
          rw [if_pos rfl] at ek
          have h3 := h2 i hik
          refine ⟨fun h => ?_, fun h => by have := f2 h; omega, fun h => by have := f3 h; omega⟩
          have h4 := f1 h
          rcases Int.lt_trichotomy (g k) (g i) with h5 | h5 | h5
          · omega
          · exfalso
            rw [h5] at h3
            have := Int.lt_of_mul_lt_mul_right h3 (show 0 ≤ g i + 1 by omega)
            omega
          · omega
        · rw [if_neg e2, Int.add_zero] at ek
          exact ⟨fun h => by have := f1 h; omega, fun h => by have := f2 h; omega, fun h => by have := f3 h; omega⟩
    · intro i hi h0
      rw [es i, iz i hi h0, if_neg]
      · rfl
      · rintro rfl
        omega
/-- the greatest of some -/
def mxTo (T : Rows) : Nat → Int
  | 0 => 0
  | k + 1 => max (mxTo T k) (cell T k 0)
theorem mx_nn (T : Rows) : ∀ k, 0 ≤ mxTo T k
  | 0 => Int.le_refl 0
  | k + 1 => by
    have := mx_nn T k
    simp only [mxTo]
    omega
theorem mx_at (T : Rows) : ∀ {k}, 0 < mxTo T k → ∃ i, i < k ∧ 0 < cell T i 0
  | 0, h => by simp [mxTo] at h
  | k + 1, h => by
    simp only [mxTo] at h
    by_cases e : 0 < cell T k 0
    · exact ⟨k, by omega, e⟩
    · obtain ⟨i, h1, h2⟩ := mx_at T (k := k) (by omega)
      exact ⟨i, by omega, h2⟩
open Classical in
noncomputable def shrErr (q : Int) (T : Rows) : Int :=
  if 0 ≤ q ∧ q ≤ 5000 then (if 12 < T.length then 5 else if ∀ i, i < T.length → 0 ≤ cell T i 0 ∧ cell T i 0 ≤ 40 then (if 0 < q ∧ mxTo T T.length = 0 then 6 else 0) else 1) else 1
end Go.Proofs.Ytpnnknhenhnmhaa.Sy
