/- Whose the dead ones are (the reference). -/
import Derived.Test.YthgpjpjflgeokaaSyP2
import Derived.Test.YthgpjpjflgeokaaGrM
import Derived.Test.YthgpjpjflgeokaaStM
import Derived.Test.YthgpjpjflgeokaaLrM
import Derived.Test.YthgpjpjflgeokaaDhM
import Derived.Test.YthgpjpjflgeokaaKtT
import Derived.Test.YthgpjpjflgeokaaKtA
import Derived.Test.YthgpjpjflgeokaaKtB
import Derived.Test.YthgpjpjflgeokaaKtD
import Derived.Test.YthgpjpjflgeokaaKtW
import Derived.Test.YthgpjpjflgeokaaKtY
import Derived.Test.YthgpjpjflgeokaaSyP2
import Derived.KernelRfl
import Derived.Test.YthgpjpjflgeokaaProg
namespace Go.Proofs.Ythgpjpjflgeokaa.Sy
open Go Go.Rv
set_option linter.unusedVariables false

open Classical in
noncomputable def lotErr (d : Int) (L : Rows) : Int := if 20 < L.length then 5 else if ∀ i, i < L.length → 0 ≤ cell L i 0 ∧ cell L i 0 ≤ 10000 ∧ 0 ≤ cell L i 1 ∧ cell L i 1 ≤ 10000 then (if d < 0 then 1 else if lotS L L.length + lotW L L.length < d then 12 else 0) else 1
def colO (c : Nat) (L : Rows) (k : Nat) : Rows := (List.range k).map fun i => [cell L i c]
noncomputable def qW (d : Int) (L : Rows) (i : Nat) : Int := shr (min d (lotW L L.length)) (lotW L L.length) (fun i => cell L i 1) L.length i
noncomputable def qS (d : Int) (L : Rows) (i : Nat) : Int := shr (d - min d (lotW L L.length)) (lotS L L.length) (fun i => cell L i 0) L.length i
noncomputable def lqF (d : Int) (L : Rows) (k i : Nat) : Int := qW d L i + (if i < k then qS d L i else 0)
theorem lot_neg {d : Int} {L : Rows} (h : ¬ 20 < L.length) (ha : ∀ i, i < L.length → 0 ≤ cell L i 0 ∧ cell L i 0 ≤ 10000 ∧ 0 ≤ cell L i 1 ∧ cell L i 1 ≤ 10000) (hd : d < 0) : lotErr d L = 1 := by
  unfold lotErr; rw [if_neg h, if_pos ha, if_pos hd]
theorem lot_over {d : Int} {L : Rows} (h : ¬ 20 < L.length) (ha : ∀ i, i < L.length → 0 ≤ cell L i 0 ∧ cell L i 0 ≤ 10000 ∧ 0 ≤ cell L i 1 ∧ cell L i 1 ≤ 10000) (hd : ¬ d < 0) (ho : lotS L L.length + lotW L L.length < d) : lotErr d L = 12 := by
  unfold lotErr; rw [if_neg h, if_pos ha, if_neg hd, if_pos ho]
theorem lot_ok {d : Int} {L : Rows} (h : ¬ 20 < L.length) (ha : ∀ i, i < L.length → 0 ≤ cell L i 0 ∧ cell L i 0 ≤ 10000 ∧ 0 ≤ cell L i 1 ∧ cell L i 1 ≤ 10000) (hd : ¬ d < 0) (ho : ¬ lotS L L.length + lotW L L.length < d) : lotErr d L = 0 := by
  unfold lotErr; rw [if_neg h, if_pos ha, if_neg hd, if_neg ho]
theorem col_len (c : Nat) (L : Rows) (k : Nat) : (colO c L k).length = k := by simp [colO]
theorem col_row (c : Nat) (L : Rows) (k : Nat) : ∀ r ∈ colO c L k, r.length = 1 := by
  intro r hr
  obtain ⟨i, _, rfl⟩ := List.mem_map.1 hr
  rfl
theorem col_cell (c : Nat) (L : Rows) {k i : Nat} (h : i < k) : cell (colO c L k) i 0 = cell L i c := by
  have e : (colO c L k).getD i [] = [cell L i c] := by
    unfold colO
    simp [List.getD_eq_getElem?_getD, h]
  show ((colO c L k).getD i []).getD 0 0 = cell L i c
  rw [e]
  rfl
theorem col_snoc (c : Nat) (L : Rows) (k : Nat) : colO c L (k + 1) = colO c L k ++ [[cell L k c]] := by simp [colO, List.range_succ]
theorem col_at (c : Nat) (L : Rows) {k i : Nat} (h : i < k + 1) : (behind k (.fn (Rv.elemOf [.i64] (colO c L k))) 1 (litEl [SV.i .i64 (cell L k c)] 1 1)).at i = (El.fn (Rv.elemOf [.i64] (colO c L (k + 1)))).at i := by
  have := snoc_at (R := colO c L k) (ks := [.i64]) (r := [cell L k c]) (cs := [SV.i .i64 (cell L k c)]) rfl (i := i) (by rw [col_len]; exact h)
  rw [col_len, ← col_snoc] at this
  exact this
theorem col_plain (c : Nat) (L : Rows) (k : Nat) : PlainE (k + 1) (behind k (.fn (Rv.elemOf [.i64] (colO c L k))) 1 (litEl [SV.i .i64 (cell L k c)] 1 1)) := fun i hi y hy => plain_elemOf [.i64] (colO c L (k + 1)) (k + 1) i hi y (by rw [← col_at c L hi]; exact hy)
theorem col_tot (c : Nat) (L : Rows) (n : Nat) : ∀ k, k ≤ n → totTo (colO c L n) k = sumF (fun i => cell L i c) k
  | 0, _ => rfl
  | k + 1, h => by
    simp only [totTo, sumF]
    rw [col_tot c L n k (by omega), col_cell c L (by omega)]
theorem col_A (c : Nat) (L : Rows) : pA (colO c L L.length) = fun i => cell L i c := by
  funext i
  unfold pA
  by_cases h : i < L.length
  · exact col_cell c L h
  · unfold cell
    have h1 : (colO c L L.length)[i]? = none := List.getElem?_eq_none (by rw [col_len]; omega)
    have h2 : L[i]? = none := List.getElem?_eq_none (by omega)
    simp [List.getD_eq_getElem?_getD, h1, h2]
theorem col_N (c : Nat) (L : Rows) : pN (colO c L L.length) = sumF (fun i => cell L i c) L.length := by
  unfold pN
  rw [col_len]
  exact col_tot c L _ _ (Nat.le_refl _)
theorem col_S (c : Nat) (L : Rows) (d : Int) : pS d (colO c L L.length) = shr d (sumF (fun i => cell L i c) L.length) (fun i => cell L i c) L.length := by
  unfold pS
  rw [col_N, col_A, col_len]
theorem col_ok {c : Nat} {L : Rows} {d : Int} (hl : ¬ 20 < L.length) (h : ∀ i, i < L.length → 0 ≤ cell L i c ∧ cell L i c ≤ 10000) (hd : 0 ≤ d ∧ d ≤ sumF (fun i => cell L i c) L.length) : PrtOk d (colO c L L.length) := by
  refine ⟨by rw [col_len]; omega, fun i hi => ?_, ?_⟩
  · rw [col_len] at hi
    rw [col_cell c L hi]
    exact h i hi
  · have := col_N c L
    unfold pN at this
    rw [this]
    exact hd
theorem pS_bd {d : Int} {R : Rows} (h : PrtOk d R) {i : Nat} (hi : i < R.length) : 0 ≤ pS d R i ∧ pS d R i ≤ 10000 := by
  by_cases h0 : pN R = 0
  · have : pS d R i = 0 := by
      unfold pS shr
      rw [if_pos h0]
    omega
  · have sh := h.sh h0
    have c := h.c i hi
    have h1 : 0 ≤ pS d R i := sh.nn hi
    have h2 : pS d R i ≤ cell R i 0 := sh.le h.d.2 hi
    omega
theorem sm_bd {f : Nat → Int} : ∀ {k : Nat}, (∀ i, i < k → 0 ≤ f i ∧ f i ≤ 10000) → 0 ≤ sumF f k ∧ sumF f k ≤ k * 10000
  | 0, _ => by simp [sumF]
  | k + 1, h => by
    have ih := sm_bd (f := f) (k := k) fun i hi => h i (by omega)
    have hc := h k (by omega)
    have e : ((k + 1 : Nat) : Int) * 10000 = k * 10000 + 10000 := by rw [Int.natCast_add, Int.add_mul]; simp
    rw [e]
    simp only [sumF]
    omega
theorem lq_upd (d : Int) (L : Rows) (k i : Nat) : (updL (El.fn fun i => [SV.i .i64 (lqF d L k i)]) k 0 [SV.i .i64 (lqF d L k k + qS d L k)]).at i = (El.fn fun i => [SV.i .i64 (lqF d L (k + 1) i)]).at i := by
  simp only [updL, El.at]
  by_cases e : i = k
  · subst e
    have n1 : ¬ i < i := by omega
    have n2 : i < i + 1 := by omega
    rw [if_pos rfl]
    show [SV.i .i64 (lqF d L i i + qS d L i)] = [SV.i .i64 (lqF d L (i + 1) i)]
    unfold lqF
    rw [if_neg n1, if_pos n2]
    simp
  · rw [if_neg e]
    show [SV.i .i64 (lqF d L k i)] = [SV.i .i64 (lqF d L (k + 1) i)]
    unfold lqF
    by_cases h : i < k
    · have n1 : i < k + 1 := by omega
      rw [if_pos h, if_pos n1]
    · have n1 : ¬ i < k + 1 := by omega
      rw [if_neg h, if_neg n1]

end Go.Proofs.Ythgpjpjflgeokaa.Sy
