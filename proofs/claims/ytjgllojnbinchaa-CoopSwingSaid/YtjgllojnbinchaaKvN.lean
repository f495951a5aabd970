/- Plain mathematics of who may still decide. -/
import Derived.Test.YtjgllojnbinchaaKvM
namespace Go.Proofs.Ytjgllojnbinchaa.Sy
open Go Go.Rv
/-- rows of one number each -/
def rowsF (f : Nat → Int) (n : Nat) : Rows := (List.range n).map fun k => [f k]
theorem rowsF_len (f : Nat → Int) (n : Nat) : (rowsF f n).length = n := by simp [rowsF]
theorem rowsF_row (f : Nat → Int) (n : Nat) : ∀ r ∈ rowsF f n, r.length = 1 := by
  intro r hr
  simp only [rowsF, List.mem_map] at hr
  obtain ⟨_, _, rfl⟩ := hr
  rfl
theorem rowsF_cell (f : Nat → Int) {n k : Nat} (h : k < n) : cell (rowsF f n) k 0 = f k := by
  unfold cell rowsF
  simp [List.getD_eq_getElem?_getD, h]
def yesF (W : Rows) (f : Nat → Int) : Nat → Int
  | 0 => 0
  | k + 1 => yesF W f k + (if f k = 1 then cell W k 0 else 0)
theorem yesF_congr (W : Rows) {f g : Nat → Int} : ∀ {k : Nat}, (∀ j, j < k → f j = g j) → yesF W f k = yesF W g k
  | 0, _ => rfl
  | k + 1, h => by
    simp only [yesF]
    rw [yesF_congr W (k := k) fun j hj => h j (by omega), h k (by omega)]
theorem yes_rows (W : Rows) (f : Nat → Int) (n : Nat) : ∀ k, k ≤ n → yesS W (rowsF f n) k = yesF W f k
  | 0, _ => rfl
  | k + 1, h => by
    simp only [yesS, yesF]
    rw [yes_rows W f n k (by omega), rowsF_cell f (by omega)]
theorem yesS_F (W V : Rows) : ∀ k, yesS W V k = yesF W (fun k => cell V k 0) k
  | 0 => rfl
  | k + 1 => by
    simp only [yesS, yesF]
    rw [yesS_F W V k]
theorem yesW_F (W V : Rows) (w : Nat) : ∀ k, yesW W V w k = yesF W (wayV V w) k
  | 0 => rfl
  | k + 1 => by
    simp only [yesW, yesF]
    rw [yesW_F W V w k]
/-- one vote is another -/
def setF (f : Nat → Int) (i : Nat) (z : Int) : Nat → Int := fun k => if k = i then z else f k
/-- votes of all that keep those that are known -/
def Votes (V : Rows) (n : Nat) (X : Nat → Int) : Prop := (∀ k, k < n → cell V k 0 ≠ 0 → X k = cell V k 0) ∧ ∀ k, k < n → cell V k 0 = 0 → X k = 1 ∨ X k = 2
/-- a member may still decide -/
def swg (W V : Rows) (need : Int) (i : Nat) : Prop := ∃ X, Votes V W.length X ∧ passN W need (yesF W (setF X i 1) W.length) ∧ ¬ passN W need (yesF W (setF X i 2) W.length)
theorem bits_all (b : Nat → Nat) (hb : ∀ j, b j < 2) : ∀ u, ∃ w, w < 2 ^ u ∧ ∀ j, j < u → w / 2 ^ j % 2 = b j
  | 0 => ⟨0, by simp, fun j hj => by omega⟩
  | u + 1 => by
    obtain ⟨w, h1, h2⟩ := bits_all b hb u
    refine ⟨w + b u * 2 ^ u, ?_, fun j hj => ?_⟩
    · have h3 := hb u
      have h4 : b u * 2 ^ u ≤ 1 * 2 ^ u := Nat.mul_le_mul_right _ (by omega)
      rw [Nat.pow_succ]
      omega
    · by_cases e : j = u
      · subst e
        rw [Nat.add_mul_div_right _ _ (Nat.pow_pos (by omega)), Nat.div_eq_of_lt h1, Nat.zero_add]
        have := hb j
        omega
      · have hj' : j < u := by omega
        obtain ⟨d, rfl⟩ : ∃ d, u = j + 1 + d := ⟨u - j - 1, by omega⟩
        have e2 : b (j + 1 + d) * 2 ^ (j + 1 + d) = (b (j + 1 + d) * 2 ^ d * 2) * 2 ^ j := by
          rw [Nat.pow_add, Nat.pow_succ]
          ac_rfl
        rw [e2, Nat.add_mul_div_right _ _ (Nat.pow_pos (by omega)), Nat.add_mul_mod_self_right]
        exact h2 j hj'
theorem und_pos (V : Rows) {n k : Nat} (h : k < n) (h0 : cell V k 0 = 0) : (cell (undR V n) (opnN V k) 0).toNat = k := by
  obtain ⟨p, h1, h2, h3, h4⟩ := undR_at V n (opnN V k) (opnN_lt V h h0)
  have := opnN_inj V h3 h0 h4
  subst this
  rw [h2]
  rfl
/-- each choice of those whose vote is open is one of the ways -/
theorem way_all (V : Rows) (n : Nat) {X : Nat → Int} (h : Votes V n X) : ∃ w, w < 2 ^ opnN V n ∧ ∀ k, k < n → wayV V w k = X k := by
  obtain ⟨w, h1, h2⟩ := bits_all (fun j => if X (cell (undR V n) j 0).toNat = 2 then 1 else 0) (fun j => by
    show (if _ then 1 else 0) < 2
    split <;> omega) (opnN V n)
  refine ⟨w, h1, fun k hk => ?_⟩
  unfold wayV
  by_cases e : cell V k 0 = 0
  · have h3 := h2 (opnN V k) (opnN_lt V hk e)
    have h3 : w / 2 ^ opnN V k % 2 = if X (cell (undR V n) (opnN V k) 0).toNat = 2 then 1 else 0 := h3
    rw [und_pos V hk e] at h3
    rw [if_pos e, h3]
    rcases h.2 k hk e with h4 | h4
    · rw [h4, if_neg (by omega)]
      rfl
    · rw [h4, if_pos rfl]
      rfl
  · rw [if_neg e, h.1 k hk e]
theorem castS_div (V : Rows) (s : Nat) : ∀ k, castS V s k = s / 2 ^ opnN V k
  | 0 => by simp [castS, opnN]
  | k + 1 => by
    have ih := castS_div V s k
    simp only [castS, opnN]
    split
    · rw [ih, Nat.pow_succ, Nat.div_div_eq_div_mul]
    · rw [ih, Nat.add_zero]
theorem cast_all (V : Rows) (n : Nat) {X : Nat → Int} (h : Votes V n X) : ∃ s, s < 2 ^ n ∧ ∀ k, k < n → castV V s k = X k := by
  obtain ⟨w, h1, h2⟩ := bits_all (fun j => if X (cell (undR V n) j 0).toNat = 1 then 1 else 0) (fun j => by
    show (if _ then 1 else 0) < 2
    split <;> omega) (opnN V n)
  refine ⟨w, Nat.lt_of_lt_of_le h1 (Nat.pow_le_pow_right (by omega) (opnN_le V n)), fun k hk => ?_⟩
  unfold castV
  by_cases e : cell V k 0 = 0
  · have h3 := h2 (opnN V k) (opnN_lt V hk e)
    have h3 : w / 2 ^ opnN V k % 2 = if X (cell (undR V n) (opnN V k) 0).toNat = 1 then 1 else 0 := h3
    rw [und_pos V hk e] at h3
    rw [if_pos e, castS_div, h3]
    rcases h.2 k hk e with h4 | h4
    · rw [h4, if_pos rfl]
      rfl
    · rw [h4, if_neg (by omega)]
      rfl
  · rw [if_neg e, h.1 k hk e]
theorem way_votes (V : Rows) (w n : Nat) : Votes V n (wayV V w) := by
  refine ⟨fun k _ h => ?_, fun k _ h => ?_⟩
  · unfold wayV
    rw [if_neg h]
  · unfold wayV
    rw [if_pos h]
    have : w / 2 ^ opnN V k % 2 < 2 := Nat.mod_lt _ (by omega)
    omega
theorem cast_votes (V : Rows) (s n : Nat) : Votes V n (castV V s) := by
  refine ⟨fun k _ h => ?_, fun k _ h => ?_⟩
  · unfold castV
    rw [if_neg h]
  · unfold castV
    rw [if_pos h]
    have : castS V s k % 2 < 2 := Nat.mod_lt _ (by omega)
    omega
/-- a way by which a member decides -/
def trn (W V : Rows) (need : Int) (i w : Nat) : Prop := wayV V w i = 1 ∧ passN W need (yesF W (wayV V w) W.length) ∧ ¬ passN W need (yesF W (setF (wayV V w) i 2) W.length)
theorem set_set (f : Nat → Int) (i : Nat) (y z : Int) : setF (setF f i y) i z = setF f i z := by
  funext k
  simp only [setF]
  split <;> rfl
theorem set_same {f : Nat → Int} {i : Nat} {z : Int} (h : f i = z) : setF f i z = f := by
  funext k
  simp only [setF]
  split
  · rename_i e
    rw [e, h]
  · rfl
theorem votes_set {V : Rows} {n i : Nat} {X : Nat → Int} (h : Votes V n X) (hi : cell V i 0 = 0) {z : Int} (hz : z = 1 ∨ z = 2) : Votes V n (setF X i z) := by
  refine ⟨fun k hk h0 => ?_, fun k hk h0 => ?_⟩
  · have : k ≠ i := fun e => h0 (by rw [e]; exact hi)
    simp only [setF, if_neg this]
    exact h.1 k hk h0
  · simp only [setF]
    split
    · exact hz
    · exact h.2 k hk h0
theorem trn_swg {W V : Rows} {need : Int} {i : Nat} (hi : cell V i 0 = 0) (hn : i < W.length) (hv : V.length = W.length) : (∃ w, w < 2 ^ opnN V V.length ∧ trn W V need i w) ↔ swg W V need i := by
  constructor
  · rintro ⟨w, _, h1, h2, h3⟩
    refine ⟨wayV V w, way_votes V w _, ?_, h3⟩
    rw [set_same h1]
    exact h2
  · rintro ⟨X, h1, h2, h3⟩
    obtain ⟨w, h4, h5⟩ := way_all V W.length (votes_set h1 hi (z := 1) (.inl rfl))
    refine ⟨w, by rw [hv]; exact h4, ?_, ?_, ?_⟩
    · rw [h5 i hn]
      simp only [setF, if_pos]
    · rw [yesF_congr W h5]
      exact h2
    · have e : yesF W (setF (wayV V w) i 2) W.length = yesF W (setF X i 2) W.length := yesF_congr W fun j hj => by
        simp only [setF]
        split
        · rfl
        · rename_i hne
          rw [h5 j hj]
          simp only [setF, if_neg hne]
      rw [e]
      exact h3
/-- the same by casts -/
def trnC (W V : Rows) (need : Int) (i s : Nat) : Prop := ¬ passN W need (yesF W (setF (castV V s) i 2) W.length) ∧ passN W need (yesF W (setF (castV V s) i 1) W.length)
theorem trnC_swg {W V : Rows} {need : Int} {i : Nat} : (∃ s, s < 2 ^ W.length ∧ trnC W V need i s) ↔ swg W V need i := by
  constructor
  · rintro ⟨s, _, h1, h2⟩
    exact ⟨castV V s, cast_votes V s _, h2, h1⟩
  · rintro ⟨X, h1, h2, h3⟩
    obtain ⟨s, h4, h5⟩ := cast_all V W.length h1
    have e : ∀ z, yesF W (setF (castV V s) i z) W.length = yesF W (setF X i z) W.length := fun z => yesF_congr W fun j hj => by
      simp only [setF]
      split
      · rfl
      · exact h5 j hj
    exact ⟨s, h4, by rw [e]; exact h3, by rw [e]; exact h2⟩
open Classical in
/-- those who may still decide -/
noncomputable def swR (W V : Rows) (need : Int) : Nat → Rows
  | 0 => []
  | k + 1 => if cell V k 0 = 0 ∧ swg W V need k then swR W V need k ++ [[(k : Int)]] else swR W V need k
theorem swR_yes {W V : Rows} {need : Int} {k : Nat} (h : cell V k 0 = 0 ∧ swg W V need k) : swR W V need (k + 1) = swR W V need k ++ [[(k : Int)]] := by
  simp only [swR, if_pos h]
theorem swR_no {W V : Rows} {need : Int} {k : Nat} (h : ¬ (cell V k 0 = 0 ∧ swg W V need k)) : swR W V need (k + 1) = swR W V need k := by
  simp only [swR, if_neg h]
theorem swR_len (W V : Rows) (need : Int) : ∀ k, (swR W V need k).length ≤ k
  | 0 => Nat.le_refl _
  | k + 1 => by
    have ih := swR_len W V need k
    by_cases h : cell V k 0 = 0 ∧ swg W V need k
    · rw [swR_yes h]
      simp only [List.length_append, List.length_cons, List.length_nil]
      omega
    · rw [swR_no h]
      omega
theorem swR_row (W V : Rows) (need : Int) : ∀ k, ∀ r ∈ swR W V need k, r.length = 1
  | 0 => by simp [swR]
  | k + 1 => by
    intro r hr
    by_cases h : cell V k 0 = 0 ∧ swg W V need k
    · rw [swR_yes h] at hr
      simp only [List.mem_append, List.mem_singleton] at hr
      rcases hr with hr | rfl
      · exact swR_row W V need k r hr
      · rfl
    · rw [swR_no h] at hr
      exact swR_row W V need k r hr
/-- in which order, and which -/
theorem swR_in (W V : Rows) (need : Int) : ∀ k, (∀ j, j < (swR W V need k).length → 0 ≤ cell (swR W V need k) j 0 ∧ cell (swR W V need k) j 0 < k ∧ (0 < j → cell (swR W V need k) (j - 1) 0 < cell (swR W V need k) j 0)) ∧
    ∀ i : Nat, (∃ j, j < (swR W V need k).length ∧ cell (swR W V need k) j 0 = i) ↔ i < k ∧ cell V i 0 = 0 ∧ swg W V need i
  | 0 => ⟨fun j hj => by simp [swR] at hj, fun i => ⟨fun ⟨j, hj, _⟩ => by simp [swR] at hj, fun h => by omega⟩⟩
  | k + 1 => by
    obtain ⟨h1, h2⟩ := swR_in W V need k
    by_cases h : cell V k 0 = 0 ∧ swg W V need k
    · rw [swR_yes h]
      have hn : cell (swR W V need k ++ [[(k : Int)]]) (swR W V need k).length 0 = (k : Int) := cell_new
      have ho : ∀ j, j < (swR W V need k).length → cell (swR W V need k ++ [[(k : Int)]]) j 0 = cell (swR W V need k) j 0 := fun j hj => cell_app hj
      have hl : (swR W V need k ++ [[(k : Int)]]).length = (swR W V need k).length + 1 := by simp
      rw [hl]
      refine ⟨fun j hj => ?_, fun i => ⟨fun ⟨j, hj, he⟩ => ?_, fun ⟨g1, g2, g3⟩ => ?_⟩⟩
      · by_cases e : j = (swR W V need k).length
        · rw [e, hn]
          refine ⟨by omega, by omega, fun h0 => ?_⟩
          rw [ho _ (by omega)]
          exact (h1 _ (by omega)).2.1
        · have hj' : j < (swR W V need k).length := by omega
          rw [ho j hj']
          obtain ⟨a1, a2, a3⟩ := h1 j hj'
          refine ⟨a1, by omega, fun h0 => ?_⟩
          rw [ho _ (by omega)]
          exact a3 h0
      · by_cases e : j = (swR W V need k).length
        · rw [e, hn] at he
          have : k = i := by omega
          subst this
          exact ⟨by omega, h⟩
        · have hj' : j < (swR W V need k).length := by omega
          rw [ho j hj'] at he
          obtain ⟨b1, b2⟩ := (h2 i).1 ⟨j, hj', he⟩
          exact ⟨by omega, b2⟩
      · by_cases e : i = k
        · subst e
          exact ⟨_, by omega, hn⟩
        · obtain ⟨j, hj, he⟩ := (h2 i).2 ⟨by omega, g2, g3⟩
          exact ⟨j, by omega, by rw [ho j hj]; exact he⟩
    · rw [swR_no h]
      refine ⟨fun j hj => ?_, fun i => ⟨fun hh => ?_, fun ⟨g1, g2, g3⟩ => ?_⟩⟩
      · obtain ⟨a1, a2, a3⟩ := h1 j hj
        exact ⟨a1, by omega, a3⟩
      · obtain ⟨b1, b2⟩ := (h2 i).1 hh
        exact ⟨by omega, b2⟩
      · refine (h2 i).2 ⟨?_, g2, g3⟩
        by_cases e : i = k
        · subst e
          exact absurd ⟨g2, g3⟩ h
        · omega
open Classical in
noncomputable def swgR (W V : Rows) (need : Int) : Rows := if motErr W V need = 0 then swR W V need W.length else []
theorem swgR_row (W V : Rows) (need : Int) : ∀ r ∈ swgR W V need, r.length = 1 := by
  unfold swgR
  split
  · exact swR_row W V need _
  · simp
theorem swgR_len (W V : Rows) (need : Int) : (swgR W V need).length ≤ 12 := by
  unfold swgR
  split
  · rename_i h
    have := (mot_ok h).l
    have := swR_len W V need W.length
    omega
  · simp
end Go.Proofs.Ytjgllojnbinchaa.Sy
