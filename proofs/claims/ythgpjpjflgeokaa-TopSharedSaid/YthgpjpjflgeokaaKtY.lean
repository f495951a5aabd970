/- A number that is shared among some (the reference). -/
import Derived.Test.YthgpjpjflgeokaaSyP2
import Derived.Test.YthgpjpjflgeokaaGrM
import Derived.Test.YthgpjpjflgeokaaStM
import Derived.Test.YthgpjpjflgeokaaLrM
import Derived.Test.YthgpjpjflgeokaaDhM
import Derived.Test.YthgpjpjflgeokaaKtT
import Derived.Test.YthgpjpjflgeokaaKtA
import Derived.Test.YthgpjpjflgeokaaKtB
import Derived.Test.YthgpjpjflgeokaaKtD
import Derived.Test.YthgpjpjflgeokaaKtW
import Derived.Test.YthgpjpjflgeokaaSyP2
import Derived.KernelRfl
import Derived.Test.YthgpjpjflgeokaaProg
namespace Go.Proofs.Ythgpjpjflgeokaa.Sy
open Go Go.Rv
set_option linter.unusedVariables false

structure PrtOk (d : Int) (L : Rows) : Prop where
  l : L.length ≤ 20
  c : ∀ i, i < L.length → 0 ≤ cell L i 0 ∧ cell L i 0 ≤ 10000
  d : 0 ≤ d ∧ d ≤ totTo L L.length
def pA (L : Rows) (i : Nat) : Int := cell L i 0
def pN (L : Rows) : Int := totTo L L.length
def pR (d : Int) (L : Rows) : Nat → Int := rst d (pN L) (pA L)
def pL (d : Int) (L : Rows) : Int := lef d (pN L) (pA L) L.length
def pFl (d : Int) (L : Rows) : Nat → Int := flo d (pN L) (pA L)
def pF (d : Int) (L : Rows) (k i : Nat) : Int := if i < k then pFl d L i else 0
noncomputable def pK (d : Int) (L : Rows) (i : Nat) : Int := (rk (pR d L) L.length i : Nat)
def pG (d : Int) (L : Rows) (s : Int) (i : Nat) : Prop := pK d L i < s
noncomputable def pO (d : Int) (L : Rows) (s : Int) (i : Nat) : Int := pFl d L i + (if pK d L i < s then 1 else 0)
noncomputable def pS (d : Int) (L : Rows) : Nat → Int := shr d (pN L) (pA L) L.length
theorem tot_sum (L : Rows) : ∀ k, totTo L k = sumF (pA L) k
  | 0 => rfl
  | k + 1 => by simp only [totTo, sumF, tot_sum L k, pA]
theorem PrtOk.sh {d : Int} {L : Rows} (h : PrtOk d L) (h0 : pN L ≠ 0) : ShA d (pN L) (pA L) L.length :=
  ⟨h.d.1, fun i hi => (h.c i hi).1, (tot_sum L _).symm, by
    have : 0 ≤ sumF (pA L) L.length := sumF_nn fun i hi => (h.c i hi).1
    have e := tot_sum L L.length
    unfold pN at *
    omega⟩
theorem pK_nn (d : Int) (L : Rows) (i : Nat) : 0 ≤ pK d L i := by unfold pK; omega
theorem pK_inj {d : Int} {L : Rows} {i j : Nat} (hi : i < L.length) (hj : j < L.length) (h : pK d L i = pK d L j) : i = j := rk_inj (R := pR d L) hi hj (by unfold pK at h; omega)
theorem pFl_bd {d : Int} {L : Rows} (h : PrtOk d L) (h0 : pN L ≠ 0) {i : Nat} (hi : i < L.length) : 0 ≤ pFl d L i ∧ pFl d L i ≤ 2000000000 ∧ 0 ≤ d * cell L i 0 ∧ d * cell L i 0 ≤ 2000000000 := by
  have tb := tot_bd (L := L) (M := 10000) (k := L.length) h.c
  have c := h.c i hi
  have hd := h.d
  have hl := h.l
  have m0 : 0 ≤ d * cell L i 0 := Int.mul_nonneg hd.1 c.1
  have m1 : d * cell L i 0 ≤ 200000 * 10000 := Int.mul_le_mul (by omega) c.2 c.1 (by omega)
  have hN : 0 < pN L := by unfold pN at *; omega
  have e : pFl d L i = d * cell L i 0 / pN L := rfl
  rw [e]
  exact ⟨Int.ediv_nonneg m0 (by omega), by have := Int.ediv_le_self (pN L) m0; omega, m0, by omega⟩
theorem pF_upd (d : Int) (L : Rows) (k i : Nat) : (updL (El.fn fun i => [SV.i .i64 (pF d L k i)]) k 0 [SV.i .i64 (pFl d L k)]).at i = (El.fn fun i => [SV.i .i64 (pF d L (k + 1) i)]).at i := by
  simp only [updL, El.at, pF]
  by_cases e : i = k
  · subst e
    have n1 : i < i + 1 := by omega
    rw [if_pos rfl]
    show [SV.i .i64 (pFl d L i)] = [SV.i .i64 (if i < i + 1 then pFl d L i else 0)]
    rw [if_pos n1]
  · rw [if_neg e]
    by_cases h : i < k
    · have n1 : i < k + 1 := by omega
      rw [if_pos h, if_pos n1]
    · have n1 : ¬ i < k + 1 := by omega
      rw [if_neg h, if_neg n1]
theorem pG_upd {d : Int} {L : Rows} {b i : Nat} {s : Int} (hb : b < L.length) (hi : i < L.length) (e : pK d L b = s) : (updL (El.fn fun i => [SV.p (pG d L s i)]) b 0 [SV.p True]).at i = (El.fn fun i => [SV.p (pG d L (s + 1) i)]).at i := by
  simp only [updL, El.at]
  by_cases h : i = b
  · rw [if_pos h, h]
    show [SV.p True] = [SV.p (pG d L (s + 1) b)]
    have : True = pG d L (s + 1) b := propext ⟨fun _ => by unfold pG; omega, fun _ => trivial⟩
    rw [this]
  · rw [if_neg h]
    have : pG d L s i = pG d L (s + 1) i := propext (by
      unfold pG
      constructor
      · intro h1; omega
      · intro h1
        by_cases e2 : pK d L i = s
        · exact absurd (pK_inj (d := d) hi hb (by omega)) h
        · omega)
    show [SV.p (pG d L s i)] = _
    rw [this]
theorem pO_upd {d : Int} {L : Rows} {b i : Nat} {s : Int} (hb : b < L.length) (hi : i < L.length) (e : pK d L b = s) : (updL (El.fn fun i => [SV.i .i64 (pO d L s i)]) b 0 [SV.i .i64 (pO d L s b + 1)]).at i = (El.fn fun i => [SV.i .i64 (pO d L (s + 1) i)]).at i := by
  simp only [updL, El.at]
  by_cases h : i = b
  · rw [if_pos h, h]
    show [SV.i .i64 (pO d L s b + 1)] = [SV.i .i64 (pO d L (s + 1) b)]
    have n1 : ¬ pK d L b < s := by omega
    have n2 : pK d L b < s + 1 := by omega
    unfold pO
    rw [if_neg n1, if_pos n2]
    simp
  · rw [if_neg h]
    show [SV.i .i64 (pO d L s i)] = [SV.i .i64 (pO d L (s + 1) i)]
    unfold pO
    by_cases e2 : pK d L i < s
    · have n1 : pK d L i < s + 1 := by omega
      rw [if_pos e2, if_pos n1]
    · have n1 : ¬ pK d L i < s + 1 := fun h1 => h (pK_inj (d := d) hi hb (by omega))
      rw [if_neg e2, if_neg n1]

end Go.Proofs.Ythgpjpjflgeokaa.Sy
