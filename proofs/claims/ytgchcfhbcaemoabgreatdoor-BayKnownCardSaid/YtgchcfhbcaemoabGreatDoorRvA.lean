/- Plain laws of the evaluator's lists, temporaries and memory. -/
import Derived.Test.YtgchcfhbcaemoabGreatDoorRv
namespace Go.Rv
open Go

theorem lget_eq {α : Type} (l : List α) (i : Nat) : lget l i = l[i]? := by
  induction l generalizing i with
  | nil => rfl
  | cons x r ih => cases i with
    | zero => rfl
    | succ j => exact ih j

theorem lset_spec {α : Type} (l : List α) (i : Nat) (y : α) {l' : List α} (h : lset l i y = some l') : i < l.length ∧ l' = l.set i y := by
  induction l generalizing i l' with
  | nil => exact absurd h (by simp [lset])
  | cons x r ih => cases i with
    | zero =>
      have : some (y :: r) = some l' := h
      simp_all
    | succ j =>
      have h' : Option.rec (motive := fun _ => Option (List α)) none (fun r' => some (x :: r')) (lset r j y) = some l' := h
      cases hr : lset r j y with
      | none => rw [hr] at h'; simp at h'
      | some r' =>
        rw [hr] at h'
        obtain ⟨h1, h2⟩ := ih j hr
        simp only [Option.some.injEq] at h'
        subst h'
        simp [h1, h2]

theorem ltake_spec {α : Type} (n : Nat) (l : List α) {l' : List α} (h : ltake n l = some l') : n ≤ l.length ∧ l' = l.take n := by
  induction n generalizing l l' with
  | zero =>
    have : some [] = some l' := h
    simp_all
  | succ n ih => cases l with
    | nil => exact absurd h (by simp [ltake])
    | cons x r =>
      have h' : Option.rec (motive := fun _ => Option (List α)) none (fun r' => some (x :: r')) (ltake n r) = some l' := h
      cases hr : ltake n r with
      | none => rw [hr] at h'; simp at h'
      | some r' =>
        rw [hr] at h'
        obtain ⟨h1, h2⟩ := ih r hr
        simp only [Option.some.injEq] at h'
        subst h'
        simp [h1, h2]

theorem ldrop_spec {α : Type} (n : Nat) (l : List α) {l' : List α} (h : ldrop n l = some l') : n ≤ l.length ∧ l' = l.drop n := by
  induction n generalizing l l' with
  | zero =>
    have : some l = some l' := h
    simp_all
  | succ n ih => cases l with
    | nil => exact absurd h (by simp [ldrop])
    | cons x r =>
      have h' : ldrop n r = some l' := h
      obtain ⟨h1, h2⟩ := ih r h'
      exact ⟨by simp; exact h1, by simpa using h2⟩

theorem lcut_spec {α : Type} {l : List α} {o n : Nat} {l' : List α} (h : lcut l o n = some l') : o + n ≤ l.length ∧ l' = (l.drop o).take n := by
  unfold lcut at h
  cases hd : ldrop o l with
  | none => rw [hd] at h; simp at h
  | some r =>
    rw [hd] at h
    obtain ⟨h1, h2⟩ := ldrop_spec _ _ hd
    obtain ⟨h3, h4⟩ := ltake_spec _ _ h
    subst h2
    simp at h3
    exact ⟨by omega, h4⟩

theorem lover_spec {α : Type} (l ys : List α) {l' : List α} (h : lover l ys = some l') : ys.length ≤ l.length ∧ l' = ys ++ l.drop ys.length := by
  induction l generalizing ys l' with
  | nil => cases ys with
    | nil =>
      have : some [] = some l' := h
      simp_all
    | cons y ys => exact absurd h (by simp [lover])
  | cons x r ih => cases ys with
    | nil =>
      have : some (x :: r) = some l' := h
      simp_all
    | cons y ys =>
      have h' : Option.rec (motive := fun _ => Option (List α)) none (fun r' => some (y :: r')) (lover r ys) = some l' := h
      cases hr : lover r ys with
      | none => rw [hr] at h'; simp at h'
      | some r' =>
        rw [hr] at h'
        obtain ⟨h1, h2⟩ := ih ys hr
        simp only [Option.some.injEq] at h'
        subst h'
        simp [h1, h2]

theorem lput_spec {α : Type} (l : List α) (o : Nat) (ys : List α) {l' : List α} (h : lput l o ys = some l') :
    o + ys.length ≤ l.length ∧ l' = l.take o ++ ys ++ l.drop (o + ys.length) := by
  induction o generalizing l l' with
  | zero =>
    obtain ⟨h1, h2⟩ := lover_spec l ys h
    exact ⟨by omega, by simpa using h2⟩
  | succ o ih => cases l with
    | nil => exact absurd h (by simp [lput])
    | cons x r =>
      have h' : Option.rec (motive := fun _ => Option (List α)) none (fun r' => some (x :: r')) (lput r o ys) = some l' := h
      cases hr : lput r o ys with
      | none => rw [hr] at h'; simp at h'
      | some r' =>
        rw [hr] at h'
        obtain ⟨h1, h2⟩ := ih r hr
        simp only [Option.some.injEq] at h'
        subst h'
        refine ⟨by simp; omega, ?_⟩
        rw [h2]
        simp [Nat.succ_add]

theorem lput_length {α : Type} {l : List α} {o : Nat} {ys l' : List α} (h : lput l o ys = some l') : l'.length = l.length := by
  obtain ⟨h1, h2⟩ := lput_spec l o ys h
  rw [h2]; simp; omega

theorem lput_get {α : Type} {l : List α} {o : Nat} {ys l' : List α} (h : lput l o ys = some l') (j : Nat) :
    l'[j]? = if o ≤ j ∧ j < o + ys.length then ys[j - o]? else l[j]? := by
  obtain ⟨h1, h2⟩ := lput_spec l o ys h
  subst h2
  simp only [List.append_assoc]
  by_cases h3 : j < o
  · rw [if_neg (by omega), List.getElem?_append_left (by simp; omega)]
    simp [h3]
  · rw [List.getElem?_append_right (by simp; omega)]
    have hl : (l.take o).length = o := by simp; omega
    rw [hl]
    by_cases h4 : j < o + ys.length
    · rw [if_pos ⟨by omega, h4⟩, List.getElem?_append_left (by omega)]
    · rw [if_neg (by omega), List.getElem?_append_right (by omega), List.getElem?_drop]
      congr 1; omega

@[simp] theorem fnat_eq {β : Type} (n : Nat) (k : Nat → β) : fnat n k = k n := by cases n <;> rfl
@[simp] theorem fint_eq {β : Type} (n : Int) (k : Int → β) : fint n k = k n := by
  cases n with
  | ofNat m => exact fnat_eq m fun m => k (.ofNat m)
  | negSucc m => exact fnat_eq m fun m => k (.negSucc m)
@[simp] theorem fbool_eq {β : Type} (b : Bool) (k : Bool → β) : fbool b k = k b := by cases b <;> rfl
@[simp] theorem fvalue_eq {β : Type} (x : Value) (k : Value → β) : fvalue x k = k x := by cases x <;> simp [fvalue]
@[simp] theorem frv_eq {β : Type} (x : RV) (k : RV → β) : frv x k = k x := by cases x <;> simp [frv]

theorem blt_eq (a b : Nat) : Nat.blt a b = decide (a < b) := by
  rw [Bool.eq_iff_iff]
  simp only [Nat.blt, Nat.ble_eq, decide_eq_true_eq]
  exact Iff.rfl

/-! temporaries -/

theorem rowsOf_get (n : Nat) : ∀ (l : List RV) (j c : Nat), c < 8 → j < n →
    ∃ r, (rowsOf n l)[j]? = some r ∧ r.col c = (l[8 * j + c]?).getD ud := by
  induction n with
  | zero => intro l j c _ h; omega
  | succ n ih =>
    intro l j c hc hj
    cases j with
    | zero =>
      refine ⟨_, rfl, ?_⟩
      have : c = 0 ∨ c = 1 ∨ c = 2 ∨ c = 3 ∨ c = 4 ∨ c = 5 ∨ c = 6 ∨ c = 7 := by omega
      rcases this with rfl | rfl | rfl | rfl | rfl | rfl | rfl | rfl <;> simp [Row.col, lget_eq]
    | succ j =>
      obtain ⟨r, h1, h2⟩ := ih (l.drop 8) j c hc (by omega)
      refine ⟨r, by simpa [rowsOf] using h1, ?_⟩
      rw [h2, List.getElem?_drop]
      congr 2; omega

theorem of_get (l : List RV) (n i : Nat) (hl : l.length ≤ n) : (RT.of l n).get i = (l[i]?).getD ud := by
  unfold RT.get RT.of
  simp only [lget_eq]
  by_cases h : i / 8 < (n + 7) / 8
  · obtain ⟨r, h1, h2⟩ := rowsOf_get _ l _ _ (Nat.mod_lt i (by omega : 8 > 0)) h
    rw [h1]
    simp only []
    rw [h2]
    congr 2; omega
  · have hlen : (rowsOf ((n + 7) / 8) l).length = (n + 7) / 8 := by
      clear h hl
      generalize (n + 7) / 8 = k
      induction k generalizing l with
      | zero => rfl
      | succ k ih => simp [rowsOf, ih]
    rw [List.getElem?_eq_none (by omega), List.getElem?_eq_none (by omega)]
    rfl

@[simp] theorem of_n (l : List RV) (n : Nat) : (RT.of l n).n = n := rfl

theorem tmpB_eq (i : Nat) : tmpB i = ⟨fun t => t.get i⟩ := by
  unfold tmpB
  rw [fnat_eq]
  have hc : i % 8 < 8 := Nat.mod_lt _ (by omega)
  have key : ∀ (c : Nat) (f : Row → RV), (∀ r : Row, r.col c = f r) → i % 8 = c → (fun t : RT => rowOf (i / 8) t f) = fun t => t.get i := by
    intro c f hf he
    funext t
    unfold rowOf RT.get
    cases lget t.rows (i / 8) with
    | none => rfl
    | some r => simp only [he, hf]
  have : i % 8 = 0 ∨ i % 8 = 1 ∨ i % 8 = 2 ∨ i % 8 = 3 ∨ i % 8 = 4 ∨ i % 8 = 5 ∨ i % 8 = 6 ∨ i % 8 = 7 := by omega
  rcases this with h | h | h | h | h | h | h | h <;> rw [h] <;> unfold tmpIn <;> simp only [OpdB.mk.injEq] <;> exact key _ _ (fun _ => rfl) h

theorem rowSet_spec (f : Row → RV → Row) (l : List Row) (i : Nat) (y : RV) {l' : List Row} (h : rowSet f l i y = some l') :
    i < l.length ∧ ∀ j, l'[j]? = if j = i then (l[i]?).map (f · y) else l[j]? := by
  induction l generalizing i l' with
  | nil => exact absurd h (by simp [rowSet])
  | cons x r ih => cases i with
    | zero =>
      have h' : some (f x y :: r) = some l' := h
      simp only [Option.some.injEq] at h'
      subst h'
      refine ⟨by simp, fun j => ?_⟩
      cases j <;> simp
    | succ i =>
      have h' : Option.rec (motive := fun _ => Option (List Row)) none (fun r' => some (x :: r')) (rowSet f r i y) = some l' := h
      cases hr : rowSet f r i y with
      | none => rw [hr] at h'; simp at h'
      | some r' =>
        rw [hr] at h'
        obtain ⟨h1, h2⟩ := ih i hr
        simp only [Option.some.injEq] at h'
        subst h'
        refine ⟨by simp; omega, fun j => ?_⟩
        cases j with
        | zero => simp
        | succ j => simp [h2 j]

/-- what a put does -/
def PutOk (g : Put) (d : Option Nat) : Prop := ∀ (t t' : RT) (x : RV), g t x = some t' →
  t'.n = t.n ∧ (∀ i, d = some i → i < t.n) ∧ ∀ i, t'.get i = if d = some i then x else t.get i

theorem putIn_ok (i c : Nat) (f : Row → RV → Row) (hc : i % 8 = c) (h1 : ∀ r x, (f r x).col c = x) (h2 : ∀ r x k, k < 8 → k ≠ c → (f r x).col k = r.col k) :
    ∃ g, putIn i (i / 8) f = ⟨g⟩ ∧ PutOk g (some i) := by
  refine ⟨_, rfl, ?_⟩
  intro t t' x h
  obtain ⟨n, rows⟩ := t
  simp only [] at h
  rw [blt_eq] at h
  by_cases hi : i < n
  · simp only [hi, decide_true] at h
    cases hr : rowSet f rows (i / 8) x with
    | none => rw [hr] at h; simp at h
    | some l =>
      rw [hr] at h
      simp only [Option.some.injEq] at h
      subst h
      obtain ⟨h3, h4⟩ := rowSet_spec _ _ _ _ hr
      refine ⟨rfl, fun j hj => by simp_all, fun j => ?_⟩
      unfold RT.get
      simp only [lget_eq, Option.some.injEq]
      rw [h4]
      by_cases hj : j / 8 = i / 8
      · rw [if_pos hj]
        have hget : rows[i / 8]? = some (rows[i / 8]'h3) := List.getElem?_eq_getElem h3
        rw [hj, hget]
        simp only [Option.map_some]
        by_cases hji : i = j
        · subst hji
          rw [if_pos rfl, hc, h1]
        · rw [if_neg hji, h2 _ _ _ (Nat.mod_lt _ (by omega)) (by omega)]
      · rw [if_neg hj, if_neg (by intro e; subst e; exact hj rfl)]
  · simp only [hi, decide_false] at h
    simp at h

theorem putB_ok (d : Option Nat) : ∃ g, putB d = ⟨g⟩ ∧ PutOk g d := by
  cases d with
  | none =>
    refine ⟨_, rfl, ?_⟩
    intro t t' x h
    simp only [Option.some.injEq] at h
    subst h
    exact ⟨rfl, by simp, by simp⟩
  | some i =>
    unfold putB
    simp only [fnat_eq]
    have : i % 8 = 0 ∨ i % 8 = 1 ∨ i % 8 = 2 ∨ i % 8 = 3 ∨ i % 8 = 4 ∨ i % 8 = 5 ∨ i % 8 = 6 ∨ i % 8 = 7 := by omega
    rcases this with h | h | h | h | h | h | h | h <;> rw [h] <;> unfold putAt <;> simp only [] <;>
      refine putIn_ok i _ _ h (fun _ _ => rfl) (fun r x k hk hne => ?_) <;>
      (have h8 : k = 0 ∨ k = 1 ∨ k = 2 ∨ k = 3 ∨ k = 4 ∨ k = 5 ∨ k = 6 ∨ k = 7 := (by omega); rcases h8 with rfl | rfl | rfl | rfl | rfl | rfl | rfl | rfl <;> first | rfl | omega)

theorem set_ok (t t' : RT) (i : Nat) (x : RV) (h : t.set i x = some t') : t'.n = t.n ∧ i < t.n ∧ ∀ j, t'.get j = if i = j then x else t.get j := by
  obtain ⟨g, hg, hok⟩ := putB_ok (some i)
  unfold RT.set at h
  rw [hg] at h
  obtain ⟨h1, h2, h3⟩ := hok t t' x h
  exact ⟨h1, h2 i rfl, fun j => by rw [h3 j]; simp⟩

/-! memory -/

def RW.wf (W : RW) : Prop := W.l.length = W.n

theorem get_lt {W : RW} {b : Nat} {o : RObj} (h : W.get b = some o) : b < W.n := by
  unfold RW.get at h
  rw [blt_eq] at h
  by_cases hb : b < W.n
  · exact hb
  · simp [hb] at h

theorem pushF_eq (W : RW) (o : RObj) : W.pushF o = W.push o := by
  obtain ⟨n, l⟩ := W
  unfold RW.pushF RW.push
  simp only [fnat_eq]

theorem get_push {W : RW} (o : RObj) (b : Nat) : (W.push o).get b = if b = W.n then some o else W.get b := by
  unfold RW.get RW.push
  simp only [blt_eq, lget_eq]
  by_cases h : b = W.n
  · subst h; simp
  · by_cases h2 : b < W.n
    · have h3 : b < W.n + 1 := by omega
      have e : W.n + 1 - 1 - b = (W.n - 1 - b) + 1 := by omega
      simp only [h, h2, h3, decide_true, if_true, if_false, e, List.getElem?_cons_succ]
    · have h3 : ¬ b < W.n + 1 := by omega
      simp [h, h2, h3]

theorem wf_push {W : RW} (hw : W.wf) (o : RObj) : (W.push o).wf := by
  unfold RW.wf RW.push at *
  simp [hw]

theorem RW.set_eq (W : RW) (b : Nat) (o : RObj) : W.set b o = if Nat.blt b W.n then match lset W.l (W.n - 1 - b) o with
    | some l => some ⟨W.n, l⟩
    | none => none
  else none := by cases W; rfl

theorem set_spec {W W' : RW} {b : Nat} {o : RObj} (h : W.set b o = some W') : W'.n = W.n ∧ b < W.n ∧ (W.wf → W'.wf) ∧ (W.wf → ∀ a, W'.get a = if a = b then some o else W.get a) := by
  rw [RW.set_eq] at h
  rw [blt_eq] at h
  by_cases hb : b < W.n
  · simp only [hb, decide_true, if_true] at h
    cases hl : lset W.l (W.n - 1 - b) o with
    | none => rw [hl] at h; simp at h
    | some l =>
      rw [hl] at h
      simp only [Option.some.injEq] at h
      subst h
      obtain ⟨h1, h2⟩ := lset_spec _ _ _ hl
      subst h2
      refine ⟨rfl, hb, fun hw => by unfold RW.wf at *; simp [hw], fun hw a => ?_⟩
      unfold RW.get
      simp only [blt_eq, lget_eq]
      unfold RW.wf at hw
      by_cases ha : a < W.n
      · simp only [ha, decide_true, if_true]
        by_cases hab : a = b
        · subst hab
          simp [h1]
        · rw [if_neg hab, List.getElem?_set_ne (by omega)]
      · have hab : a ≠ b := by omega
        simp [ha, hab]
  · simp [hb] at h
end Go.Rv
