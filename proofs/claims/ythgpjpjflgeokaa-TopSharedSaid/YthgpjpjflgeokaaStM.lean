/- Plain mathematics of claims that are settled. -/
import Derived.Test.YthgpjpjflgeokaaGrM
namespace Go.Proofs.Ythgpjpjflgeokaa.Sy
open Go Go.Rv
/-- nets after the first claims -/
def netTo (C : Rows) : Nat → Nat → Int
  | 0, _ => 0
  | k + 1, i => netTo C k i - (if cell C k 0 = (i : Int) then cell C k 2 else 0) + (if cell C k 1 = (i : Int) then cell C k 2 else 0)
def sumF (f : Nat → Int) : Nat → Int
  | 0 => 0
  | n + 1 => sumF f n + f n
def nzF (f : Nat → Int) : Nat → Nat
  | 0 => 0
  | n + 1 => nzF f n + (if f n = 0 then 0 else 1)
theorem sumF_congr {f g : Nat → Int} : ∀ {n : Nat}, (∀ i, i < n → f i = g i) → sumF f n = sumF g n
  | 0, _ => rfl
  | n + 1, h => by
    simp only [sumF]
    rw [sumF_congr fun i hi => h i (by omega), h n (by omega)]
theorem sumF_zero : ∀ (n : Nat), sumF (fun _ => 0) n = 0
  | 0 => rfl
  | n + 1 => by simp only [sumF, sumF_zero n]; omega
theorem sumF_add (f g : Nat → Int) : ∀ n, sumF (fun i => f i + g i) n = sumF f n + sumF g n
  | 0 => rfl
  | n + 1 => by simp only [sumF, sumF_add f g n]; omega
theorem sumF_one (a : Nat) (c : Int) : ∀ n, sumF (fun i => if (a : Int) = (i : Int) then c else 0) n = if a < n then c else 0
  | 0 => by simp [sumF]
  | n + 1 => by
    simp only [sumF, sumF_one a c n]
    split <;> split <;> split <;> omega
theorem sumF_nn {f : Nat → Int} : ∀ {n : Nat}, (∀ i, i < n → 0 ≤ f i) → 0 ≤ sumF f n
  | 0, _ => by simp [sumF]
  | n + 1, h => by
    have h1 := sumF_nn (f := f) (n := n) fun i hi => h i (by omega)
    have h2 := h n (by omega)
    simp only [sumF]
    omega
theorem sumF_neg {f : Nat → Int} : ∀ {n : Nat}, (∀ i, i < n → f i ≤ 0) → ∀ a, a < n → f a < 0 → sumF f n < 0
  | 0, _, a, h, _ => by omega
  | n + 1, h, a, ha, hf => by
    have hle : ∀ m, (∀ i, i < m → f i ≤ 0) → sumF f m ≤ 0 := by
      intro m
      induction m with
      | zero => intro _; simp [sumF]
      | succ m ih =>
        intro hm
        have := ih fun i hi => hm i (by omega)
        have := hm m (by omega)
        simp only [sumF]
        omega
    have h2 := h n (by omega)
    simp only [sumF]
    by_cases e : a = n
    · subst e
      have := hle a fun i hi => h i (by omega)
      omega
    · have := sumF_neg (f := f) (n := n) (fun i hi => h i (by omega)) a (by omega) hf
      omega
theorem nz_le {f g : Nat → Int} : ∀ {n : Nat}, (∀ i, i < n → f i = 0 → g i = 0) → nzF g n ≤ nzF f n
  | 0, _ => by simp [nzF]
  | n + 1, h => by
    have h1 := nz_le (f := f) (g := g) (n := n) fun i hi => h i (by omega)
    have h2 := h n (by omega)
    simp only [nzF]
    split <;> split <;> first | omega | (exfalso; rename_i x y; exact x (h2 y)) | (exfalso; rename_i x y; exact y (h2 x))
theorem nz_lt {f g : Nat → Int} : ∀ {n : Nat}, (∀ i, i < n → f i = 0 → g i = 0) → ∀ a, a < n → f a ≠ 0 → g a = 0 → nzF g n < nzF f n
  | 0, _, a, h, _, _ => by omega
  | n + 1, h, a, ha, h1, h2 => by
    have h3 := h n (by omega)
    simp only [nzF]
    by_cases e : a = n
    · subst e
      have h4 := nz_le (f := f) (g := g) (n := a) fun i hi => h i (by omega)
      rw [if_pos h2, if_neg h1]
      omega
    · have h4 := nz_lt (f := f) (g := g) (n := n) (fun i hi => h i (by omega)) a (by omega) h1 h2
      split <;> split <;> first | omega | (exfalso; rename_i x y; exact x (h3 y)) | (exfalso; rename_i x y; exact y (h3 x))
theorem nz_bd (f : Nat → Int) : ∀ n, nzF f n ≤ n
  | 0 => by simp [nzF]
  | n + 1 => by
    have := nz_bd f n
    simp only [nzF]
    split <;> omega
theorem nz_two {f : Nat → Int} {n a b : Nat} (ha : a < n) (hb : b < n) (hab : a ≠ b) (h1 : f a ≠ 0) (h2 : f b ≠ 0) : 2 ≤ nzF f n := by
  have h3 : nzF (fun i => if i = a then 0 else f i) n < nzF f n := nz_lt (f := f) (fun i _ h => by show (if i = a then 0 else f i) = 0; split <;> first | rfl | exact h) a ha h1 (by simp)
  have h4 : nzF (fun i => if i = a then 0 else if i = b then 0 else f i) n < nzF (fun i => if i = a then 0 else f i) n :=
    nz_lt (f := fun i => if i = a then 0 else f i) (fun i _ h => by
      show (if i = a then 0 else if i = b then 0 else f i) = 0
      have h' : (if i = a then 0 else f i) = 0 := h
      split
      · rfl
      · rename_i hia
        rw [if_neg hia] at h'
        rw [h']
        split <;> rfl) b hb (by show (if b = a then 0 else f b) ≠ 0; rw [if_neg (by omega)]; exact h2) (by show (if b = a then 0 else if b = b then 0 else f b) = 0; rw [if_neg (by omega), if_pos rfl])
  omega
/-- a claim that is right: 0, or its error -/
noncomputable def clmAt (n : Int) (C : Rows) (k : Nat) : Int :=
  if 0 ≤ cell C k 0 ∧ cell C k 0 ≤ n - 1 ∧ 0 ≤ cell C k 1 ∧ cell C k 1 ≤ n - 1 then (if cell C k 0 = cell C k 1 then 2 else if 1 ≤ cell C k 2 ∧ cell C k 2 ≤ 1000000000 then 0 else 1) else 6
noncomputable def clmTo (n : Int) (C : Rows) : Nat → Int
  | 0 => 0
  | k + 1 => if clmTo n C k = 0 then clmAt n C k else clmTo n C k
noncomputable def clmErr (n : Int) (C : Rows) : Int := if 1 ≤ n ∧ n ≤ 12 then (if 40 < C.length then 5 else clmTo n C C.length) else 1
theorem clm_next {n : Int} {C : Rows} {k : Nat} (h : clmTo n C (k + 1) = 0) : clmTo n C k = 0 ∧ clmAt n C k = 0 := by
  unfold clmTo at h
  split at h
  · rename_i h1; exact ⟨h1, h⟩
  · rename_i h1; exact absurd h h1
theorem clm_all {n : Int} {C : Rows} : ∀ {k : Nat}, clmTo n C k = 0 → ∀ j, j < k → clmAt n C j = 0
  | 0, _, j, hj => by omega
  | k + 1, h, j, hj => by
    obtain ⟨h1, h2⟩ := clm_next h
    by_cases e : j = k
    · subst e; exact h2
    · exact clm_all h1 j (by omega)
theorem clm_stays {n : Int} {C : Rows} {k : Nat} (h : clmTo n C k = 0) (h2 : clmAt n C k ≠ 0) : ∀ d, clmTo n C (k + 1 + d) = clmAt n C k
  | 0 => by
    show (if clmTo n C k = 0 then clmAt n C k else clmTo n C k) = _
    rw [if_pos h]
  | d + 1 => by
    have ih := clm_stays h h2 d
    show (if clmTo n C (k + 1 + d) = 0 then _ else clmTo n C (k + 1 + d)) = _
    rw [ih, if_neg h2]
theorem clm_at {n : Int} {C : Rows} {k m : Nat} (hk : k < m) (h : clmTo n C k = 0) (h2 : clmAt n C k ≠ 0) : clmTo n C m = clmAt n C k := by
  have := clm_stays h h2 (m - (k + 1))
  rwa [show k + 1 + (m - (k + 1)) = m by omega] at this
/-- a claim between two members -/
structure Clm (n : Nat) (C : Rows) (k : Nat) : Prop where
  a0 : 0 ≤ cell C k 0
  a1 : cell C k 0 < n
  b0 : 0 ≤ cell C k 1
  b1 : cell C k 1 < n
  ne : cell C k 0 ≠ cell C k 1
  c0 : 1 ≤ cell C k 2
theorem clm_is {n : Nat} {C : Rows} {k : Nat} (h : clmAt n C k = 0) : Clm n C k ∧ cell C k 2 ≤ 1000000000 := by
  unfold clmAt at h
  split at h
  · split at h
    · omega
    · split at h
      · rename_i h1 h2 h3
        exact ⟨⟨h1.1, by omega, h1.2.2.1, by omega, h2, h3.1⟩, h3.2⟩
      · omega
  · omega
theorem net_bd {n : Nat} {C : Rows} {M : Int} (h0 : 0 ≤ M) : ∀ {k : Nat}, (∀ j, j < k → Clm n C j ∧ cell C j 2 ≤ M) → ∀ i, -(k * M) ≤ netTo C k i ∧ netTo C k i ≤ k * M
  | 0, _, i => by simp [netTo]
  | k + 1, h, i => by
    have ih := net_bd (n := n) (C := C) h0 (k := k) (fun j hj => h j (by omega)) i
    obtain ⟨h1, h2⟩ := h k (by omega)
    have e : ((k + 1 : Nat) : Int) * M = k * M + M := by rw [Int.natCast_add, Int.add_mul]; simp
    rw [e]
    have := h1.ne
    have := h1.c0
    simp only [netTo]
    generalize (k : Int) * M = q at *
    split <;> split <;> omega
theorem net_sum {n : Nat} {C : Rows} : ∀ {k : Nat}, (∀ j, j < k → Clm n C j) → sumF (netTo C k) n = 0
  | 0, _ => by
    have : sumF (netTo C 0) n = sumF (fun _ => 0) n := sumF_congr fun _ _ => rfl
    rw [this, sumF_zero]
  | k + 1, h => by
    have ih := net_sum (n := n) (C := C) (k := k) fun j hj => h j (by omega)
    have h1 := h k (by omega)
    obtain ⟨a, ha⟩ := Int.eq_ofNat_of_zero_le h1.a0
    obtain ⟨b, hb⟩ := Int.eq_ofNat_of_zero_le h1.b0
    have e : sumF (netTo C (k + 1)) n = sumF (fun i => netTo C k i + ((if (a : Int) = (i : Int) then -cell C k 2 else 0) + (if (b : Int) = (i : Int) then cell C k 2 else 0))) n := sumF_congr fun i _ => by
      simp only [netTo, ha, hb]
      split <;> split <;> omega
    have := h1.a1
    have := h1.b1
    rw [e, sumF_add, sumF_add, sumF_one, sumF_one, ih, if_pos (by omega), if_pos (by omega)]
    omega
theorem cell_app {R : Rows} {r : List Int} {k j : Nat} (h : k < R.length) : cell (R ++ [r]) k j = cell R k j := by
  unfold cell
  rw [List.getD_eq_getElem?_getD, List.getD_eq_getElem?_getD, List.getD_eq_getElem?_getD, List.getD_eq_getElem?_getD, List.getElem?_append_left h]
theorem cell_new {R : Rows} {r : List Int} {j : Nat} : cell (R ++ [r]) R.length j = r.getD j 0 := by
  unfold cell
  simp [List.getD_eq_getElem?_getD]
theorem net_app {R : Rows} {r : List Int} : ∀ {k : Nat}, k ≤ R.length → ∀ i, netTo (R ++ [r]) k i = netTo R k i
  | 0, _, _ => rfl
  | k + 1, h, i => by
    simp only [netTo]
    rw [net_app (by omega), cell_app (by omega), cell_app (by omega), cell_app (by omega)]
theorem net_new {R : Rows} {a b c : Int} (i : Nat) : netTo (R ++ [[a, b, c]]) (R ++ [[a, b, c]]).length i = netTo R R.length i - (if a = (i : Int) then c else 0) + (if b = (i : Int) then c else 0) := by
  rw [List.length_append]
  show netTo (R ++ [[a, b, c]]) (R.length + 1) i = _
  simp only [netTo]
  rw [net_app (Nat.le_refl _), cell_new, cell_new, cell_new]
  rfl
def FNeg (g : Nat → Int) (n a : Nat) : Prop := a < n ∧ g a < 0 ∧ ∀ j, j < a → 0 ≤ g j
def FPos (g : Nat → Int) (n a : Nat) : Prop := a < n ∧ 0 < g a ∧ ∀ j, j < a → g j ≤ 0
theorem FNeg.uniq {g : Nat → Int} {n a b : Nat} (h : FNeg g n a) (k : FNeg g n b) : a = b := by
  obtain ⟨h1, h2, h3⟩ := h
  obtain ⟨k1, k2, k3⟩ := k
  rcases Nat.lt_trichotomy a b with e | e | e
  · have := k3 a e; omega
  · exact e
  · have := h3 b e; omega
theorem FPos.uniq {g : Nat → Int} {n a b : Nat} (h : FPos g n a) (k : FPos g n b) : a = b := by
  obtain ⟨h1, h2, h3⟩ := h
  obtain ⟨k1, k2, k3⟩ := k
  rcases Nat.lt_trichotomy a b with e | e | e
  · have := k3 a e; omega
  · exact e
  · have := h3 b e; omega
/-- what is left of nets after payments -/
def lft (f : Nat → Int) (R : Rows) (k : Nat) (i : Nat) : Int := f i - netTo R k i
/-- payments, one after the other -/
structure PayTo (n : Nat) (f : Nat → Int) (R : Rows) : Prop where
  row : ∀ r ∈ R, r.length = 3
  step : ∀ k, k < R.length → ∃ a b : Nat, cell R k 0 = a ∧ cell R k 1 = b ∧ FNeg (lft f R k) n a ∧ FPos (lft f R k) n b ∧ cell R k 2 = min (-(lft f R k a)) (lft f R k b)
structure Paid (n : Nat) (f : Nat → Int) (R : Rows) : Prop where
  to : PayTo n f R
  none : ∀ i, i < n → lft f R R.length i = 0
theorem lft_app {f : Nat → Int} {R : Rows} {r : List Int} {k : Nat} (h : k ≤ R.length) : lft f (R ++ [r]) k = lft f R k := by
  funext i
  unfold lft
  rw [net_app h]
theorem lft_new {f : Nat → Int} {R : Rows} {a b c : Int} (i : Nat) : lft f (R ++ [[a, b, c]]) (R ++ [[a, b, c]]).length i = lft f R R.length i + (if a = (i : Int) then c else 0) - (if b = (i : Int) then c else 0) := by
  unfold lft
  rw [net_new]
  omega
theorem pay_nil (n : Nat) (f : Nat → Int) : PayTo n f [] := ⟨by simp, by simp⟩
theorem pay_next {n : Nat} {f : Nat → Int} {R : Rows} (h : PayTo n f R) {a b : Nat} (ha : FNeg (lft f R R.length) n a) (hb : FPos (lft f R R.length) n b) : PayTo n f (R ++ [[(a : Int), (b : Int), min (-(lft f R R.length a)) (lft f R R.length b)]]) := by
  refine ⟨?_, ?_⟩
  · intro r hr
    rcases List.mem_append.1 hr with hr | hr
    · exact h.row r hr
    · simp only [List.mem_cons, List.not_mem_nil, or_false] at hr
      subst hr
      rfl
  · intro k hk
    rw [List.length_append] at hk
    have hk' : k < R.length + 1 := hk
    by_cases e : k = R.length
    · subst e
      refine ⟨a, b, cell_new, cell_new, ?_, ?_, ?_⟩
      · rw [lft_app (Nat.le_refl _)]; exact ha
      · rw [lft_app (Nat.le_refl _)]; exact hb
      · rw [lft_app (Nat.le_refl _), cell_new]; rfl
    · obtain ⟨x, y, h1, h2, h3, h4, h5⟩ := h.step k (by omega)
      refine ⟨x, y, ?_, ?_, ?_, ?_, ?_⟩
      · rw [cell_app (by omega)]; exact h1
      · rw [cell_app (by omega)]; exact h2
      · rw [lft_app (by omega)]; exact h3
      · rw [lft_app (by omega)]; exact h4
      · rw [lft_app (by omega), cell_app (by omega)]; exact h5
theorem net_same {R S : Rows} : ∀ {k : Nat}, (∀ j, j < k → cell R j 0 = cell S j 0 ∧ cell R j 1 = cell S j 1 ∧ cell R j 2 = cell S j 2) → ∀ i, netTo R k i = netTo S k i
  | 0, _, _ => rfl
  | k + 1, h, i => by
    obtain ⟨h1, h2, h3⟩ := h k (by omega)
    simp only [netTo]
    rw [net_same (fun j hj => h j (by omega)), h1, h2, h3]
theorem pay_same {n : Nat} {f : Nat → Int} {R S : Rows} (hR : PayTo n f R) (hS : PayTo n f S) : ∀ {k : Nat}, k ≤ R.length → k ≤ S.length → ∀ j, j < k → cell R j 0 = cell S j 0 ∧ cell R j 1 = cell S j 1 ∧ cell R j 2 = cell S j 2
  | 0, _, _, j, hj => by omega
  | k + 1, h1, h2, j, hj => by
    have ih := pay_same hR hS (k := k) (by omega) (by omega)
    by_cases e : j = k
    · subst e
      have el : lft f R j = lft f S j := by
        funext i
        unfold lft
        rw [net_same ih]
      obtain ⟨a, b, p1, p2, p3, p4, p5⟩ := hR.step j (by omega)
      obtain ⟨a', b', q1, q2, q3, q4, q5⟩ := hS.step j (by omega)
      rw [el] at p3 p4 p5
      have ea := p3.uniq q3
      have eb := p4.uniq q4
      subst ea eb
      exact ⟨p1.trans q1.symm, p2.trans q2.symm, p5.trans q5.symm⟩
    · exact ih j (by omega)
theorem row3 {r : List Int} (h : r.length = 3) : r = [r.getD 0 0, r.getD 1 0, r.getD 2 0] := by
  match r, h with
  | [a, b, c], _ => rfl
theorem rows_ext3 {R S : Rows} (hl : R.length = S.length) (hR : ∀ r ∈ R, r.length = 3) (hS : ∀ r ∈ S, r.length = 3) (h : ∀ j, j < R.length → cell R j 0 = cell S j 0 ∧ cell R j 1 = cell S j 1 ∧ cell R j 2 = cell S j 2) : R = S := by
  apply List.ext_getElem hl
  intro j h1 h2
  obtain ⟨e0, e1, e2⟩ := h j h1
  rw [row3 (hR _ (List.getElem_mem h1)), row3 (hS _ (List.getElem_mem h2))]
  unfold cell at e0 e1 e2
  simp only [List.getD_eq_getElem?_getD, List.getElem?_eq_getElem h1, List.getElem?_eq_getElem h2, Option.getD_some] at e0 e1 e2 ⊢
  rw [e0, e1, e2]
theorem paid_uniq {n : Nat} {f : Nat → Int} {R S : Rows} (hR : Paid n f R) (hS : Paid n f S) : R = S := by
  have key : ∀ {R S : Rows}, Paid n f R → Paid n f S → ¬ R.length < S.length := by
    intro R S hR hS hl
    have hs := pay_same hR.to hS.to (k := R.length) (Nat.le_refl _) (by omega)
    obtain ⟨a, b, _, _, h3, _, _⟩ := hS.to.step R.length hl
    have h0 := hR.none a h3.1
    have e : lft f S R.length a = lft f R R.length a := by
      unfold lft
      rw [net_same hs]
    have := h3.2.1
    omega
  have hl : R.length = S.length := by
    have h1 := key hR hS
    have h2 := key hS hR
    omega
  exact rows_ext3 hl hR.to.row hS.to.row fun j hj => pay_same hR.to hS.to (k := R.length) (Nat.le_refl _) (by omega) j hj
open Classical in
noncomputable def payR (n : Nat) (f : Nat → Int) : Rows := if h : ∃ R, Paid n f R then h.choose else []
theorem payR_eq {n : Nat} {f : Nat → Int} {R : Rows} (h : Paid n f R) : payR n f = R := by
  unfold payR
  rw [dif_pos ⟨R, h⟩]
  exact paid_uniq (Exists.choose_spec _) h
/-- where none is below 0, nothing is left -/
theorem sum_none {g : Nat → Int} {n : Nat} (hs : sumF g n = 0) (h : ∀ i, i < n → 0 ≤ g i) : ∀ i, i < n → g i = 0 := by
  intro i hi
  by_cases h1 : 0 < g i
  · exfalso
    have h2 : sumF (fun i => -g i) n < 0 := sumF_neg (fun j hj => by have := h j hj; show -g j ≤ 0; omega) i hi (by show -g i < 0; omega)
    have h3 : sumF (fun i => -g i + g i) n = 0 := by rw [← sumF_zero n]; exact sumF_congr fun j _ => by show -g j + g j = 0; omega
    rw [sumF_add] at h3
    omega
  · have := h i hi
    omega
theorem fpos_of {g : Nat → Int} : ∀ {n : Nat} (b : Nat), b < n → 0 < g b → ∃ c, FPos g n c := by
  intro n b
  induction b using Nat.strongRecOn with
  | _ b ih =>
    intro hb hg
    by_cases h : ∃ c, c < b ∧ 0 < g c
    · obtain ⟨c, h1, h2⟩ := h
      exact ih c h1 (by omega) h2
    · refine ⟨b, hb, hg, fun j hj => ?_⟩
      by_cases h1 : 0 < g j
      · exact absurd ⟨j, hj, h1⟩ h
      · omega
theorem sum_pos {g : Nat → Int} {n a : Nat} (hs : sumF g n = 0) (ha : a < n) (h : g a < 0) : ∃ b, FPos g n b := by
  by_cases h1 : ∃ b, b < n ∧ 0 < g b
  · obtain ⟨b, h2, h3⟩ := h1
    exact fpos_of b h2 h3
  · exfalso
    have : sumF g n < 0 := sumF_neg (fun i hi => by
      by_cases h2 : 0 < g i
      · exact absurd ⟨i, hi, h2⟩ h1
      · omega) a ha h
    omega
/-- after one payment more -/
structure Stp (n : Nat) (g g' : Nat → Int) : Prop where
  sum : sumF g' n = sumF g n
  nz : nzF g' n < nzF g n
  sg : ∀ i, i < n → (0 ≤ g i → 0 ≤ g' i ∧ g' i ≤ g i) ∧ (g i ≤ 0 → g i ≤ g' i ∧ g' i ≤ 0)
theorem stp_of {n : Nat} {g g' : Nat → Int} {a b : Nat} {c : Int} (ha : FNeg g n a) (hb : FPos g n b) (hc : c = min (-(g a)) (g b)) (hg : ∀ i : Nat, g' i = g i + (if (a : Int) = (i : Int) then c else 0) - (if (b : Int) = (i : Int) then c else 0)) :
    Stp n g g' ∧ sumF (fun i => max 0 (g' i)) n = sumF (fun i => max 0 (g i)) n - c ∧ 0 < c := by
  obtain ⟨a1, a2, a3⟩ := ha
  obtain ⟨b1, b2, b3⟩ := hb
  have hab : a ≠ b := by rintro rfl; omega
  have e0 : ∀ i, i ≠ a → i ≠ b → g' i = g i := fun i h1 h2 => by rw [hg, if_neg (by omega), if_neg (by omega)]; omega
  have ea : g' a = g a + c := by rw [hg, if_pos rfl, if_neg (by omega)]; omega
  have eb : g' b = g b - c := by rw [hg, if_neg (by omega), if_pos rfl]; omega
  have cp : 0 < c ∧ c ≤ -(g a) ∧ c ≤ g b ∧ (c = -(g a) ∨ c = g b) := by omega
  have sg : ∀ i, (0 ≤ g i → 0 ≤ g' i ∧ g' i ≤ g i) ∧ (g i ≤ 0 → g i ≤ g' i ∧ g' i ≤ 0) := by
    intro i
    by_cases h1 : i = a
    · subst h1; omega
    · by_cases h2 : i = b
      · subst h2; omega
      · rw [e0 i h1 h2]; omega
  refine ⟨⟨?_, ?_, fun i _ => sg i⟩, ?_, cp.1⟩
  · have : sumF g' n = sumF (fun i => g i + ((if (a : Int) = (i : Int) then c else 0) + (if (b : Int) = (i : Int) then -c else 0))) n := sumF_congr fun i _ => by
      rw [hg]
      split <;> split <;> omega
    rw [this, sumF_add, sumF_add, sumF_one, sumF_one, if_pos a1, if_pos b1]
    omega
  · have hz : ∀ i, i < n → g i = 0 → g' i = 0 := fun i _ h => by
      have := sg i
      omega
    rcases cp.2.2.2 with h | h
    · exact nz_lt hz a a1 (by omega) (by omega)
    · exact nz_lt hz b b1 (by omega) (by omega)
  · have : sumF (fun i => max 0 (g' i)) n = sumF (fun i => max 0 (g i) + (if (b : Int) = (i : Int) then -c else 0)) n := sumF_congr fun i _ => by
      show max 0 (g' i) = max 0 (g i) + _
      by_cases h1 : i = a
      · subst h1; rw [ea, if_neg (by omega)]; omega
      · by_cases h2 : i = b
        · subst h2; rw [eb, if_pos rfl]; omega
        · rw [e0 i h1 h2, if_neg (by omega)]; omega
    rw [this, sumF_add, sumF_one, if_pos b1]
    omega
theorem pay_stp {n : Nat} {f : Nat → Int} {R : Rows} {a b : Nat} (ha : FNeg (lft f R R.length) n a) (hb : FPos (lft f R R.length) n b) {c : Int} (hc : c = min (-(lft f R R.length a)) (lft f R R.length b)) :
    Stp n (lft f R R.length) (lft f (R ++ [[(a : Int), (b : Int), c]]) (R ++ [[(a : Int), (b : Int), c]]).length) :=
  (stp_of ha hb hc fun i => lft_new i).1
theorem lft_succ (f : Nat → Int) (R : Rows) (k i : Nat) : lft f R (k + 1) i = lft f R k i + (if cell R k 0 = (i : Int) then cell R k 2 else 0) - (if cell R k 1 = (i : Int) then cell R k 2 else 0) := by
  unfold lft
  simp only [netTo]
  omega
def paidTo (R : Rows) : Nat → Int
  | 0 => 0
  | k + 1 => paidTo R k + cell R k 2
structure PayK (n : Nat) (f : Nat → Int) (R : Rows) (k : Nat) : Prop where
  sum : sumF (lft f R k) n = sumF f n
  nz : nzF (lft f R k) n + k ≤ n
  sg : ∀ i, i < n → (0 ≤ f i → 0 ≤ lft f R k i ∧ lft f R k i ≤ f i) ∧ (f i ≤ 0 → f i ≤ lft f R k i ∧ lft f R k i ≤ 0)
  due : sumF (fun i => max 0 (lft f R k i)) n = sumF (fun i => max 0 (f i)) n - paidTo R k
theorem pay_step {n : Nat} {f : Nat → Int} {R : Rows} (h : PayTo n f R) {k : Nat} (hk : k < R.length) : ∃ a b : Nat, cell R k 0 = a ∧ cell R k 1 = b ∧ FNeg (lft f R k) n a ∧ FPos (lft f R k) n b ∧ cell R k 2 = min (-(lft f R k a)) (lft f R k b) ∧
    Stp n (lft f R k) (lft f R (k + 1)) ∧ sumF (fun i => max 0 (lft f R (k + 1) i)) n = sumF (fun i => max 0 (lft f R k i)) n - cell R k 2 ∧ 0 < cell R k 2 := by
  obtain ⟨a, b, h1, h2, h3, h4, h5⟩ := h.step k hk
  refine ⟨a, b, h1, h2, h3, h4, h5, stp_of h3 h4 h5 fun i => ?_⟩
  rw [lft_succ, h1, h2]
theorem pay_k {n : Nat} {f : Nat → Int} {R : Rows} (h : PayTo n f R) : ∀ {k : Nat}, k ≤ R.length → PayK n f R k
  | 0, _ => by
    have e : lft f R 0 = f := by funext i; simp [lft, netTo]
    refine ⟨by rw [e], by rw [e]; have := nz_bd f n; omega, fun i _ => by rw [e]; omega, by rw [e]; simp [paidTo]⟩
  | k + 1, hk => by
    have ih := pay_k h (k := k) (by omega)
    obtain ⟨a, b, h1, h2, h3, h4, h5, h6, h7, h8⟩ := pay_step h (k := k) (by omega)
    refine ⟨h6.sum.trans ih.sum, ?_, ?_, ?_⟩
    · have := ih.nz
      have := h6.nz
      omega
    · intro i hi
      have := ih.sg i hi
      have := h6.sg i hi
      omega
    · rw [h7, ih.due]
      simp only [paidTo]
      omega
theorem paid_len {n : Nat} {f : Nat → Int} {R : Rows} (h : Paid n f R) (hn : 0 < n) : R.length < n := by
  by_cases h0 : R.length = 0
  · omega
  · obtain ⟨a, b, h1, h2, h3, h4, h5, h6, h7, h8⟩ := pay_step h.to (k := R.length - 1) (by omega)
    have hk := pay_k h.to (k := R.length - 1) (by omega)
    have := h3.2.1
    have := h4.2.1
    have h9 := nz_two (f := lft f R (R.length - 1)) h3.1 h4.1 (by rintro rfl; omega) (by omega) (by omega)
    have := hk.nz
    omega
theorem paid_due {n : Nat} {f : Nat → Int} {R : Rows} (h : Paid n f R) : paidTo R R.length = sumF (fun i => max 0 (f i)) n := by
  have hk := (pay_k h.to (Nat.le_refl _)).due
  have e : sumF (fun i => max 0 (lft f R R.length i)) n = 0 := by
    refine (sumF_congr (g := fun _ => 0) fun i hi => ?_).trans (sumF_zero n)
    show max 0 (lft f R R.length i) = 0
    rw [h.none i hi]
    rfl
  omega
end Go.Proofs.Ythgpjpjflgeokaa.Sy
