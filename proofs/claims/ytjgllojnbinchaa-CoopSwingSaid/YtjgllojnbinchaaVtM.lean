/- Plain mathematics of votes. -/
import Derived.Test.YtjgllojnbinchaaStM
namespace Go.Proofs.Ytjgllojnbinchaa.Sy
open Go Go.Rv
def allS (W : Rows) : Nat → Int
  | 0 => 0
  | k + 1 => allS W k + cell W k 0
def yesS (W V : Rows) : Nat → Int
  | 0 => 0
  | k + 1 => yesS W V k + (if cell V k 0 = 1 then cell W k 0 else 0)
def opnS (W V : Rows) : Nat → Int
  | 0 => 0
  | k + 1 => opnS W V k + (if cell V k 0 = 0 then cell W k 0 else 0)
def castS (V : Rows) (s : Nat) : Nat → Nat
  | 0 => s
  | k + 1 => if cell V k 0 = 0 then castS V s k / 2 else castS V s k
def castV (V : Rows) (s k : Nat) : Int := if cell V k 0 = 0 then 2 - ((castS V s k % 2 : Nat) : Int) else cell V k 0
def castR (V : Rows) (s : Nat) : Nat → Rows
  | 0 => []
  | k + 1 => castR V s k ++ [[castV V s k]]
theorem castR_len (V : Rows) (s : Nat) : ∀ k, (castR V s k).length = k
  | 0 => rfl
  | k + 1 => by simp [castR, castR_len V s k]
theorem castR_cell (V : Rows) (s : Nat) : ∀ k i, i < k → cell (castR V s k) i 0 = castV V s i
  | 0, i, hi => by omega
  | k + 1, i, hi => by
    have hl := castR_len V s k
    simp only [castR]
    by_cases e : i = k
    · subst e
      have : cell (castR V s i ++ [[castV V s i]]) (castR V s i).length 0 = castV V s i := cell_new
      rwa [hl] at this
    · rw [cell_app (by omega)]
      exact castR_cell V s k i (by omega)
/-- weights that may be -/
def WtOk (W : Rows) : Prop := ∀ i, i < W.length → 0 ≤ cell W i 0 ∧ cell W i 0 ≤ 1000000
theorem all_bd {W V : Rows} (h : WtOk W) : ∀ {k}, k ≤ W.length → 0 ≤ yesS W V k ∧ yesS W V k ≤ allS W k ∧ 0 ≤ opnS W V k ∧ opnS W V k ≤ allS W k ∧ allS W k ≤ k * 1000000
  | 0, _ => by simp [yesS, allS, opnS]
  | k + 1, hk => by
    have ih := all_bd (V := V) h (k := k) (by omega)
    have h0 := h k (by omega)
    have e : ((k + 1 : Nat) : Int) * 1000000 = k * 1000000 + 1000000 := by rw [Int.natCast_add, Int.add_mul]; simp
    rw [e]
    simp only [yesS, allS, opnS]
    split <;> split <;> omega
def passN (W : Rows) (need y : Int) : Prop := need * allS W W.length < y * 1000000
/-- weights, votes and needs: their error -/
def wtAt (W : Rows) (k : Nat) : Prop := 0 ≤ cell W k 0 ∧ cell W k 0 ≤ 1000000
def vtAt (V : Rows) (k : Nat) : Prop := 0 ≤ cell V k 0 ∧ cell V k 0 ≤ 2
open Classical in
noncomputable def motErr (W V : Rows) (need : Int) : Int :=
  if W.length = 0 then 4 else if 12 < W.length then 5 else if ∀ i, i < W.length → wtAt W i then (if V.length = W.length then (if ∀ i, i < V.length → vtAt V i then (if 0 ≤ need ∧ need ≤ 1000000 then 0 else 1) else 3) else 2) else 1
structure MotOk (W V : Rows) (need : Int) : Prop where
  l : 1 ≤ W.length ∧ W.length ≤ 12
  v : V.length = W.length
  w : WtOk W
  t : ∀ i, i < V.length → vtAt V i
  n : 0 ≤ need ∧ need ≤ 1000000
theorem mot_ok {W V : Rows} {need : Int} (h : motErr W V need = 0) : MotOk W V need := by
  unfold motErr at h
  split at h
  · omega
  · split at h
    · omega
    · split at h
      · split at h
        · split at h
          · split at h
            · exact ⟨by omega, by assumption, by assumption, by assumption, by assumption⟩
            · omega
          · omega
        · omega
      · omega
theorem mot_zero {W V : Rows} {need : Int} (h : MotOk W V need) : motErr W V need = 0 := by
  unfold motErr
  rw [if_neg (by have := h.l; omega), if_neg (by have := h.l; omega), if_pos (show ∀ i, i < W.length → wtAt W i from h.w), if_pos h.v, if_pos h.t, if_pos h.n]
open Classical in
/-- what a motion comes to -/
noncomputable def decV (W V : Rows) (need : Int) : Int := if motErr W V need = 0 then (if passN W need (yesS W V W.length) then 1 else if passN W need (yesS W V W.length + opnS W V W.length) then 3 else 2) else 0
end Go.Proofs.Ytjgllojnbinchaa.Sy
