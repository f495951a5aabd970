/- A number that is shared among some (the program). -/
import Derived.Test.YthgpjpjflgeokaaSyP2
import Derived.Test.YthgpjpjflgeokaaGrM
import Derived.Test.YthgpjpjflgeokaaStM
import Derived.Test.YthgpjpjflgeokaaLrM
import Derived.Test.YthgpjpjflgeokaaDhM
import Derived.Test.YthgpjpjflgeokaaKtT
import Derived.Test.YthgpjpjflgeokaaKtA
import Derived.Test.YthgpjpjflgeokaaKtB
import Derived.Test.YthgpjpjflgeokaaKtD
import Derived.Test.YthgpjpjflgeokaaKtW
import Derived.Test.YthgpjpjflgeokaaKtY
import Derived.Test.YthgpjpjflgeokaaKtX
import Derived.Test.YthgpjpjflgeokaaKtP
import Derived.Test.YthgpjpjflgeokaaSyP2
import Derived.KernelRfl
import Derived.Test.YthgpjpjflgeokaaProg
namespace Go.Proofs.Ythgpjpjflgeokaa.Sy
open Go Go.Rv
set_option linter.unusedVariables false

def odF (k i : Nat) : Int := if i < k then (i : Int) else 0
structure Iq where
  a : Nat
  i : Nat
  D : Nat → Nat
structure Jq where
  j : Nat
  D : Nat → Nat
/-- the first i ones are in their order, and the others where they were -/
structure Srt (R : Nat → Int) (D : Nat → Nat) (i n : Nat) : Prop where
  lo : ∀ q, q < i → D q < i
  hi : ∀ q, i ≤ q → q < n → D q = q
  so : ∀ p q, p < q → q < i → bfr R (D p) (D q)
/-- so are they but for one, that is on its way from i to its place -/
structure Ins (R : Nat → Int) (D : Nat → Nat) (j i n : Nat) : Prop where
  ji : j ≤ i
  inn : i < n
  pl : D j = i
  lo : ∀ q, q ≤ i → q ≠ j → D q < i
  hi : ∀ q, i < q → q < n → D q = q
  so : ∀ p q, p < q → q ≤ i → p ≠ j → q ≠ j → bfr R (D p) (D q)
  up : ∀ q, j < q → q ≤ i → bfr R i (D q)
def Iq.Ok (v : Iq) (d : Int) (L : Rows) : Prop := (v.a = 0 ∧ 1 ≤ v.i ∧ v.i ≤ L.length ∧ Srt (pR d L) v.D v.i L.length) ∨ (v.a = 20 ∧ L.length = 20 ∧ v.i = 21 ∧ Srt (pR d L) v.D L.length L.length)
def Rkd (d : Int) (L : Rows) (D : Nat → Nat) : Prop := ∀ q, q < L.length → D q < L.length ∧ pK d L (D q) = q
theorem odF_upd (k i : Nat) : (updL (El.fn fun i => [SV.i .i64 (odF k i)]) k 0 [SV.i .i64 (k : Int)]).at i = (El.fn fun i => [SV.i .i64 (odF (k + 1) i)]).at i := by
  simp only [updL, El.at, odF]
  by_cases e : i = k
  · subst e
    have n1 : i < i + 1 := by omega
    rw [if_pos rfl]
    show [SV.i .i64 (i : Int)] = [SV.i .i64 (if i < i + 1 then (i : Int) else 0)]
    rw [if_pos n1]
  · rw [if_neg e]
    by_cases h : i < k
    · have n1 : i < k + 1 := by omega
      rw [if_pos h, if_pos n1]
    · have n1 : ¬ i < k + 1 := by omega
      rw [if_neg h, if_neg n1]
theorem srt_one (R : Nat → Int) (n : Nat) : Srt R (fun q => q) 1 n := ⟨fun q h => h, fun _ _ _ => rfl, fun p q h1 h2 => by omega⟩
theorem Srt.ins {R : Nat → Int} {D : Nat → Nat} {i n : Nat} (h : Srt R D i n) (hi : i < n) : Ins R D i i n :=
  ⟨Nat.le_refl _, hi, h.hi i (Nat.le_refl _) hi, fun q h1 h2 => h.lo q (by omega), fun q h1 h2 => h.hi q (by omega) h2, fun p q h1 h2 h3 h4 => h.so p q h1 (by omega), fun q h1 h2 => by omega⟩
def swp (D : Nat → Nat) (j q : Nat) : Nat := if q = j then D (j - 1) else if q = j - 1 then D j else D q
theorem Ins.step {R : Nat → Int} {D : Nat → Nat} {j i n : Nat} (h : Ins R D j i n) (hj : 0 < j) (hR : R (D (j - 1)) < R i) : Ins R (swp D j) (j - 1) i n := by
  have hji := h.ji
  have e1 : swp D j j = D (j - 1) := by unfold swp; rw [if_pos rfl]
  have e2 : swp D j (j - 1) = i := by unfold swp; rw [if_neg (by omega), if_pos rfl, h.pl]
  have e3 : ∀ q, q ≠ j → q ≠ j - 1 → swp D j q = D q := fun q h1 h2 => by unfold swp; rw [if_neg h1, if_neg h2]
  have hb : bfr R i (D (j - 1)) := .inl hR
  refine ⟨by omega, h.inn, e2, fun q h1 h2 => ?_, fun q h1 h2 => ?_, fun p q h1 h2 h3 h4 => ?_, fun q h1 h2 => ?_⟩
  · by_cases e : q = j
    · rw [e, e1]; exact h.lo _ (by omega) (by omega)
    · rw [e3 q e h2]; exact h.lo q h1 e
  · rw [e3 q (by omega) (by omega)]; exact h.hi q h1 h2
  · by_cases e : q = j
    · rw [e, e1, e3 p (by omega) h3]; exact h.so p (j - 1) (by omega) (by omega) (by omega) (by omega)
    · rw [e3 q e h4]
      by_cases e' : p = j
      · rw [e', e1]; exact h.so (j - 1) q (by omega) h2 (by omega) e
      · rw [e3 p e' h3]; exact h.so p q h1 h2 e' e
  · by_cases e : q = j
    · rw [e, e1]; exact hb
    · rw [e3 q e (by omega)]; exact h.up q (by omega) h2
theorem Ins.done {R : Nat → Int} {D : Nat → Nat} {j i n : Nat} (h : Ins R D j i n) (hs : j = 0 ∨ ¬ R (D (j - 1)) < R i) : Srt R D (i + 1) n := by
  have hji := h.ji
  refine ⟨fun q h1 => ?_, fun q h1 h2 => h.hi q (by omega) h2, fun p q h1 h2 => ?_⟩
  · by_cases e : q = j
    · rw [e, h.pl]; omega
    · have := h.lo q (by omega) e; omega
  · by_cases e : q = j
    · rw [e, h.pl]
      have hj : 0 < j := by omega
      have hl := h.lo (j - 1) (by omega) (by omega)
      have hb : bfr R (D (j - 1)) i := by
        unfold bfr
        rcases hs with hs | hs <;> omega
      by_cases e' : p = j - 1
      · rw [e']; exact hb
      · exact bfr_trans (h.so p (j - 1) (by omega) (by omega) (by omega) (by omega)) hb
    · by_cases e' : p = j
      · rw [e', h.pl]; exact h.up q (by omega) (by omega)
      · exact h.so p q h1 (by omega) e' e
theorem cmp_neg (a b : Int) : (if a < b then (-1 : Int) else if b < a then 1 else 0) < 0 ↔ a < b := by
  by_cases h : a < b
  · rw [if_pos h]; omega
  · rw [if_neg h]
    by_cases h2 : b < a
    · rw [if_pos h2]; omega
    · rw [if_neg h2]; omega
theorem Iq.Ok.one {v : Iq} {d : Int} {L : Rows} (h : v.Ok d L) (hi : (v.i : Int) < L.length) : v.a = 0 ∧ 1 ≤ v.i ∧ v.i ≤ L.length ∧ Srt (pR d L) v.D v.i L.length := by
  rcases h with h | ⟨_, h2, h3, _⟩
  · exact h
  · omega
theorem Iq.Ok.all {v : Iq} {d : Int} {L : Rows} (h : v.Ok d L) (hi : ¬ (v.i : Int) < L.length) : Srt (pR d L) v.D L.length L.length := by
  rcases h with ⟨_, _, h3, h4⟩ | ⟨_, _, _, h4⟩
  · have e : v.i = L.length := by omega
    rw [e] at h4
    exact h4
  · exact h4
theorem swp_upd {D : Nat → Nat} {j : Nat} (hj : 0 < j) (i : Nat) : (updL (updL (El.fn fun q => [SV.i .i64 (D q : Nat)]) j 0 [SV.i .i64 (D (j - 1) : Nat)]) (j - 1) 0 [SV.i .i64 (D j : Nat)]).at i = (El.fn fun q => [SV.i .i64 (swp D j q : Nat)]).at i := by
  simp only [updL, El.at, swp]
  by_cases e : i = j - 1
  · have n1 : ¬ i = j := by omega
    rw [if_pos e, if_neg n1, if_neg n1, if_pos e]
    rfl
  · rw [if_neg e]
    by_cases e2 : i = j
    · rw [if_pos e2, if_pos e2]
      rfl
    · rw [if_neg e2, if_neg e2, if_neg e]
theorem plain_up (n : Nat) (D : Nat → Nat) (j : Nat) (z : Int) : PlainE n (updL (El.fn fun q => [SV.i .i64 (D q : Nat)]) j 0 [SV.i .i64 z]) := by
  intro i _ y hy
  simp only [updL, El.at] at hy
  split at hy
  · have hy : y ∈ [SV.i .i64 z] := hy
    simp only [List.mem_cons, List.not_mem_nil, or_false] at hy
    subst hy
    trivial
  · simp only [List.mem_cons, List.not_mem_nil, or_false] at hy
    subst hy
    trivial
theorem up_len (D : Nat → Nat) (j k : Nat) (z : Int) : ((updL (El.fn fun q => [SV.i .i64 (D q : Nat)]) j 0 [SV.i .i64 z]).at k).length = 1 := by
  simp only [updL, El.at]
  split <;> rfl
noncomputable def flR (d : Int) (L : Rows) : Rows := (List.range L.length).map fun i => [pFl d L i]
theorem flR_len (d : Int) (L : Rows) : (flR d L).length = L.length := by simp [flR]
theorem flR_row (d : Int) (L : Rows) : ∀ r ∈ flR d L, r.length = 1 := by
  intro r hr
  obtain ⟨i, _, rfl⟩ := List.mem_map.1 hr
  rfl
theorem flR_cell (d : Int) (L : Rows) {i : Nat} (h : i < L.length) : cell (flR d L) i 0 = pFl d L i := by
  have e : (flR d L).getD i [] = [pFl d L i] := by
    unfold flR
    simp [List.getD_eq_getElem?_getD, h]
  show ((flR d L).getD i []).getD 0 0 = pFl d L i
  rw [e]
  rfl
theorem flR_tot (d : Int) (L : Rows) : ∀ k, k ≤ L.length → totTo (flR d L) k = sumF (pFl d L) k
  | 0, _ => rfl
  | k + 1, h => by
    simp only [totTo, sumF]
    rw [flR_tot d L k (by omega), flR_cell d L (by omega)]
theorem Srt.rkd {d : Int} {L : Rows} {D : Nat → Nat} (h : Srt (pR d L) D L.length L.length) : Rkd d L D := by
  have lt : ∀ p q, p < q → q < L.length → rk (pR d L) L.length (D p) < rk (pR d L) L.length (D q) := fun p q h1 h2 => rk_lt (h.lo p (by omega)) (h.so p q h1 h2)
  have ge : ∀ q, q < L.length → q ≤ rk (pR d L) L.length (D q) := by
    intro q
    induction q with
    | zero => intro _; exact Nat.zero_le _
    | succ q ih => intro hq; have h1 := ih (by omega); have h2 := lt q (q + 1) (by omega) hq; omega
  have le : ∀ k q, q + k + 1 = L.length → rk (pR d L) L.length (D q) ≤ q := by
    intro k
    induction k with
    | zero => intro q hq; have := rk_n (R := pR d L) (h.lo q (by omega)); omega
    | succ k ih => intro q hq; have h1 := ih (q + 1) (by omega); have h2 := lt q (q + 1) (by omega) (by omega); omega
  intro q hq
  refine ⟨h.lo q hq, ?_⟩
  have h1 := ge q hq
  have h2 := le (L.length - q - 1) q (by omega)
  unfold pK
  omega

noncomputable def F_shareT : FnE := ⟨15, none, [i64, .one (.l [.i64])], fun l => match l with | [.z d, .l L] => PrtOk d L | _ => False, fun l => match l with | [.z d, .l L] => [.gsl 0 L.length 1 false] | _ => [], fun l => match l with | [.z d, .l L] => [.gr L.length 1 (.fn fun i => [.i .i64 (pS d L i)]) .ex false] | _ => [], fun l => match l with | [.z d, .l L] => [] | _ => [], false, none⟩
noncomputable def A_shareT : List SV → List Dat → Nat → List SV → Ann := fun xs ds n ts => match xs with
  | [.i _ _, .lst x _ _ _] => match ds with
    | [.z d, .l L] => match n with
      | 7 => ⟨Nat, fun k => [none, none, some (SV.ptr ((0 : Nat)) ((0 : Nat))), some (SV.ptr ((1 : Nat)) ((0 : Nat))), some (SV.v (Value.slice none ((0 : Nat)) ((0 : Nat)))), some (SV.gsl ((2 : Nat)) L.length ((1 : Nat)) false), some (SV.ptr ((3 : Nat)) ((0 : Nat))), some (SV.gsl ((4 : Nat)) L.length ((1 : Nat)) false), none, none, none, none, none, none, none, none, none, none, none, none, none, none, none, some (SV.lst x L.length ((1 : Nat)) (Rv.elemOf [IntKind.i64] L)), some (SV.i IntKind.i64 (↑L.length : Int)), some (.i .i64 k), none, none, none, none, none, none, none, none, none, none, none, none, none, none, none, none, none, none, none, none, none, none, none, none, none, none, none, none, none, none, none, none, none, none, none, none, none, none, none], fun k => [.gr L.length 1 (.fn fun i => [.i .i64 (odF k i)]) .ex false, .cells [.i .i64 (pN L)] .ex, .gr L.length 1 (.fn fun i => [.i .i64 (pF d L k i)]) .ex false, SObj.cells [SV.lst x L.length ((1 : Nat)) (Rv.elemOf [IntKind.i64] L)] Kd.ex, SObj.cells [SV.i IntKind.i64 d] Kd.ex], fun k => k ≤ L.length, fun k => L.length - k, 0⟩
      | 14 => ⟨Jq, fun v => [none, none, none, none, some (SV.v (Value.slice none ((0 : Nat)) ((0 : Nat)))), some (SV.gsl ((2 : Nat)) L.length ((1 : Nat)) false), none, none, none, none, none, none, none, none, none, none, none, none, none, none, none, none, none, none, none, none, none, none, none, none, none, none, none, none, none, none, none, none, none, none, none, none, none, none, none, none, none, none, none, none, none, some (.gsl 4 (pL d L).toNat 1 false), some (.i .i64 ((pL d L).toNat : Nat)), some (.i .i64 (v.j : Nat)), none, none, none, none, none, none, none, none, none, none, none], fun v => [SObj.cells [SV.fv ((25 : Nat)) [(0 : Nat), (1 : Nat), (3 : Nat)]] Kd.ex, .gr L.length 1 (.fn fun q => [.i .i64 (v.D q : Nat)]) .ex false, .cells [.i .i64 (pN L)] .ex, .gr L.length 1 (.fn fun i => [.i .i64 (pO d L (v.j : Nat) i)]) .ex false, SObj.cells [SV.lst x L.length ((1 : Nat)) (Rv.elemOf [IntKind.i64] L)] Kd.ex, SObj.cells [SV.i IntKind.i64 d] Kd.ex], fun v => v.j ≤ (pL d L).toNat ∧ Rkd d L v.D, fun v => (pL d L).toNat - v.j, 0⟩
      | _ => noAnn
    | _ => noAnn
  | _ => noAnn
noncomputable def A_shareT_1 : List SV → List Dat → List SV → List SObj → Nat → List SV → Ann := fun _ _ _ _ _ _ => noAnn
noncomputable def A_shareT_2 : List SV → List Dat → List SV → List SObj → Nat → List SV → Ann := fun _ _ _ _ _ _ => noAnn
noncomputable def A_shareT_3 : List SV → List Dat → List SV → List SObj → Nat → List SV → Ann := fun xs ds ar bs n ts => match xs with
  | [.i _ _, .lst x _ _ _] => match ds with
    | [.z d, .l L] => match n with
      | 2 => ⟨Unit, fun _ => [], fun _ => [], fun _ => True, fun _ => 0, 2⟩
      | 7 => ⟨Unit, fun _ => [], fun _ => [], fun _ => True, fun _ => 0, 1⟩
      | 9 => ⟨Unit, fun _ => [], fun _ => [], fun _ => True, fun _ => 0, 1⟩
      | _ => noAnn
    | _ => noAnn
  | _ => noAnn
noncomputable def A_shareT_4 : List SV → List Dat → List SV → List SObj → Nat → List SV → Ann := fun xs ds ar bs n ts => match xs with
  | [.i _ _, .lst x _ _ _] => match ds with
    | [.z d, .l L] => match n with
      | 1 => ⟨Iq, fun v => [some (SV.gsl ((4 : Nat)) L.length ((1 : Nat)) false), some (.i .i64 (v.a : Nat)), some (.i .i64 (L.length : Nat)), some (SV.fv ((29 : Nat)) [(5 : Nat)]), none, none, none, none, some (.i .i64 (v.i : Nat)), none, none, none, none, none, none, none, none, none, none, none, none, none, none, none, none, none, none, none, none, none, none, none, none, none, none, none, none, none, none, none, none, none, none, none, none, none, none, none, none, none, none, none, none], fun v => [SObj.cells [SV.fv ((25 : Nat)) [(0 : Nat), (1 : Nat), (3 : Nat)]] Kd.ex, .gr L.length 1 (.fn fun q => [.i .i64 (v.D q : Nat)]) .ex false, SObj.cells [SV.i IntKind.i64 (pN L)] Kd.ex, .gr L.length 1 (.fn fun i => [.i .i64 (pF d L L.length i)]) .ex false, SObj.cells [SV.lst x L.length ((1 : Nat)) (Rv.elemOf [IntKind.i64] L)] Kd.ex, SObj.cells [SV.i IntKind.i64 d] Kd.ex], fun v => v.Ok d L, fun v => L.length - v.i, 0⟩
      | 4 => (match lget ts 8 with | some (SV.i _ r8) => (match lget ts 1 with | some (SV.i _ r1) => ⟨Jq, fun v => [some (SV.gsl ((4 : Nat)) L.length ((1 : Nat)) false), some (SV.i .i64 r1), some (SV.i IntKind.i64 (↑L.length : Int)), some (SV.fv ((29 : Nat)) [(5 : Nat)]), none, none, none, none, some (SV.i .i64 r8), some (.i .i64 (v.j : Nat)), none, none, none, none, none, none, none, none, none, none, none, none, none, none, none, none, none, none, none, none, none, none, none, none, none, none, none, none, none, none, none, none, none, none, none, none, none, none, none, none, none, none, none], fun v => [SObj.cells [SV.fv ((25 : Nat)) [(0 : Nat), (1 : Nat), (3 : Nat)]] Kd.ex, .gr L.length 1 (.fn fun q => [.i .i64 (v.D q : Nat)]) .ex false, SObj.cells [SV.i IntKind.i64 (pN L)] Kd.ex, .gr L.length 1 (.fn fun i => [.i .i64 (pF d L L.length i)]) .ex false, SObj.cells [SV.lst x L.length ((1 : Nat)) (Rv.elemOf [IntKind.i64] L)] Kd.ex, SObj.cells [SV.i IntKind.i64 d] Kd.ex], fun v => r1 = 0 ∧ 0 ≤ r8 ∧ Ins (pR d L) v.D v.j r8.toNat L.length, fun v => v.j, 0⟩ | _ => noAnn) | _ => noAnn)
      | _ => noAnn
    | _ => noAnn
  | _ => noAnn
noncomputable def A_shareT_5 : List SV → List Dat → List SV → List SObj → Nat → List SV → Ann := fun _ _ _ _ _ _ => noAnn
noncomputable def I_shareT : List SV → List Dat → List In := fun xs ds => [⟨24, A_shareT_1 xs ds⟩, ⟨28, A_shareT_2 xs ds⟩, ⟨31, A_shareT_3 xs ds⟩, ⟨33, A_shareT_4 xs ds⟩, ⟨29, A_shareT_5 xs ds⟩]

set_option maxRecDepth 10000 in
def V_shareT : Prop :=
  ∀ (B : RW) (n : Int) (x : RV) (rows : List (List Int)), IsLst B x rows.length 1 (Rv.elemOf [.i64] rows) → oneB x = true → (∀ (row : List Int), row ∈ rows → row.length = (1 : Nat)) → F_shareT.pre ([Dat.z n] ++ ([Dat.l
  rows] ++ [])) → Ob (oneB x = true) ∧ Ob (IsLst B x rows.length 1 (Rv.elemOf [.i64] rows)) ∧ Ob ((↑rows.length : Int) = (↑rows.length : Int) ∧ (0 : Int) ≤ (↑rows.length : Int) ∧ rows.length * (9 : Nat) ≤ (1099511627776 :
  Nat)) ∧ ∃ (rows_1 : List (List Int)), Ob (IsLst B x rows.length 1 (Rv.elemOf [.i64] rows) ∧ rows_1.length = rows.length ∧ (∀ (r : List Int), r ∈ rows_1 → r.length = (1 : Nat)) ∧ ∀ (i : Nat), i < rows.length → Rv.elemOf
  [.i64] rows i = Rv.elemOf [.i64] rows_1 i) ∧ Ob (rows_1.length ≤ (1000 : Nat) ∧ ∀ (i : Nat), i < rows_1.length → (0 : Int) ≤ cell rows_1 i 0 ∧ cell rows_1 i 0 ≤ (2000000000 : Int)) ∧ (totTo rows_1 rows_1.length = (0 :
  Int) → Ob (rows.length = rows.length) ∧ Ob (rows.length = rows.length ∧ ∀ (i : Nat), i < rows.length → (El.fn fun (x : Nat) ↦ symL (List.map SV.v (Value.int .i64 (0 : Int)).cells.toList)).at i = (El.fn fun (i : Nat) ↦
  [SV.i .i64 (pS n rows i)]).at i) ∧ Ob (PlainE rows.length (El.fn fun (i : Nat) ↦ [SV.i .i64 (pS n rows i)])) ∧ True) ∧ (¬totTo rows_1 rows_1.length = (0 : Int) → Ob (IsLst B x rows.length 1 (Rv.elemOf [.i64] rows)) ∧ Ob
  ((↑rows.length : Int) = (↑rows.length : Int) ∧ (0 : Int) ≤ (↑rows.length : Int) ∧ rows.length * (9 : Nat) ≤ (1099511627776 : Nat)) ∧ Ob (IsLst B x rows.length 1 (Rv.elemOf [.i64] rows)) ∧ (∃ (a : Nat), Ob (a ≤
  rows.length) ∧ Ob (SV.v (Value.slice none 0 0) = SV.v (Value.slice none 0 0)) ∧ Ob (rows.length = rows.length) ∧ Ob (rows.length = rows.length) ∧ Ob (SV.lst x rows.length 1 (Rv.elemOf [.i64] rows) = SV.lst x rows.length
  1 (Rv.elemOf [.i64] rows)) ∧ Ob ((↑rows.length : Int) = (↑rows.length : Int)) ∧ Ob ((0 : Int) = (↑a : Int)) ∧ Ob (rows.length = rows.length ∧ ∀ (i : Nat), i < rows.length → (El.fn fun (x : Nat) ↦ symL (List.map SV.v
  (Value.int .i64 (0 : Int)).cells.toList)).at i = (El.fn fun (i : Nat) ↦ [SV.i .i64 (odF a i)]).at i) ∧ Ob (totTo rows_1 rows_1.length = pN rows) ∧ Ob (rows.length = rows.length ∧ ∀ (i : Nat), i < rows.length → (El.fn fun
  (x : Nat) ↦ symL (List.map SV.v (Value.int .i64 (0 : Int)).cells.toList)).at i = (El.fn fun (i : Nat) ↦ [SV.i .i64 (pF n rows a i)]).at i) ∧ Ob (SV.lst x rows.length 1 (Rv.elemOf [.i64] rows) = SV.lst x rows.length 1
  (Rv.elemOf [.i64] rows)) ∧ Ob (n = n) ∧ Ob (IsLst B x rows.length 1 (Rv.elemOf [.i64] rows)) ∧ Ob (PlainE rows.length (El.fn fun (i : Nat) ↦ [SV.i .i64 (odF a i)])) ∧ Ob (PlainE rows.length (El.fn fun (i : Nat) ↦ [SV.i
  .i64 (pF n rows a i)])) ∧ Ob (IsLst B x rows.length 1 (Rv.elemOf [.i64] rows)) ∧ True) ∧ ∀ (a : Nat), a ≤ rows.length → ∀ (z z_1 z_2 z_3 z_4 z_5 z_6 z_7 z_8 z_9 z_10 z_11 z_12 z_13 z_14 z_15 z_16 z_17 z_18 z_19 z_20 z_21
  z_22 z_23 z_24 z_25 z_26 z_27 z_28 z_29 z_30 z_31 z_32 z_33 z_34 z_35 z_36 z_37 z_38 z_39 z_40 z_41 z_42 z_43 z_44 z_45 z_46 z_47 z_48 z_49 z_50 z_51 z_52 z_53 z_54 z_55 : Value), ((↑a : Int) < (↑rows.length : Int) → Ob
  ((0 : Int) ≤ (↑a : Int) ∧ a < rows.length ∧ IsLst B x rows.length 1 (Rv.elemOf [.i64] rows)) ∧ Ob (IsLst B x rows.length 1 (Rv.elemOf [.i64] rows) ∧ a < rows.length) ∧ Ob (InR .i64 (n * cell rows a 0)) ∧ Ob ((0 : Int) <
  pN rows ∧ InR .i64 ((n * cell rows a 0).tdiv (pN rows))) ∧ Ob ((0 : Int) ≤ (↑a : Int) ∧ a < rows.length) ∧ Ob (a < rows.length ∧ ((El.fn fun (i : Nat) ↦ [SV.i .i64 (pF n rows a i)]).at a).length = (1 : Nat)) ∧ Ob ((0 :
  Int) ≤ (↑a : Int) ∧ a < rows.length) ∧ Ob (a < rows.length ∧ ((El.fn fun (i : Nat) ↦ [SV.i .i64 (odF a i)]).at a).length = (1 : Nat)) ∧ Ob (InR .i64 ((↑a : Int) + (1 : Int))) ∧ ∃ (a' : Nat), Ob (a' ≤ rows.length ∧
  rows.length - a' < rows.length - a) ∧ Ob (SV.v (Value.slice none 0 0) = SV.v (Value.slice none 0 0)) ∧ Ob (rows.length = rows.length) ∧ Ob (rows.length = rows.length) ∧ Ob (SV.lst x rows.length 1 (Rv.elemOf [.i64] rows)
  = SV.lst x rows.length 1 (Rv.elemOf [.i64] rows)) ∧ Ob ((↑rows.length : Int) = (↑rows.length : Int)) ∧ Ob ((↑a : Int) + (1 : Int) = (↑a' : Int)) ∧ Ob (rows.length = rows.length ∧ ∀ (i : Nat), i < rows.length → (updL
  (El.fn fun (i : Nat) ↦ [SV.i .i64 (odF a i)]) a 0 [SV.i .i64 (↑a : Int)]).at i = (El.fn fun (i : Nat) ↦ [SV.i .i64 (odF a' i)]).at i) ∧ Ob (pN rows = pN rows) ∧ Ob (rows.length = rows.length ∧ ∀ (i : Nat), i <
  rows.length → (updL (El.fn fun (i : Nat) ↦ [SV.i .i64 (pF n rows a i)]) a 0 [SV.i .i64 ((n * cell rows a 0).tdiv (pN rows))]).at i = (El.fn fun (i : Nat) ↦ [SV.i .i64 (pF n rows a' i)]).at i) ∧ Ob (SV.lst x rows.length 1
  (Rv.elemOf [.i64] rows) = SV.lst x rows.length 1 (Rv.elemOf [.i64] rows)) ∧ Ob (n = n) ∧ Ob (IsLst B x rows.length 1 (Rv.elemOf [.i64] rows)) ∧ Ob (PlainE rows.length (El.fn fun (i : Nat) ↦ [SV.i .i64 (odF a' i)])) ∧ Ob
  (PlainE rows.length (El.fn fun (i : Nat) ↦ [SV.i .i64 (pF n rows a' i)])) ∧ Ob (IsLst B x rows.length 1 (Rv.elemOf [.i64] rows)) ∧ True) ∧ (¬(↑a : Int) < (↑rows.length : Int) → ((20 : Int) ≤ (↑rows.length : Int) → (∃
  (a_1 : Iq), Ob (a_1.Ok n rows) ∧ Ob (rows.length = rows.length) ∧ Ob ((0 : Int) = (↑a_1.a : Int)) ∧ Ob ((20 : Int) = (↑rows.length : Int)) ∧ Ob (Int.ofNat 1 = (↑a_1.i : Int)) ∧ Ob (rows.length = rows.length ∧ ∀ (i :
  Nat), i < rows.length → (El.fn fun (i : Nat) ↦ [SV.i .i64 (odF a i)]).at i = (El.fn fun (q : Nat) ↦ [SV.i .i64 (↑(a_1.D q) : Int)]).at i) ∧ Ob (pN rows = pN rows) ∧ Ob (rows.length = rows.length ∧ ∀ (i : Nat), i <
  rows.length → (El.fn fun (i : Nat) ↦ [SV.i .i64 (pF n rows a i)]).at i = (El.fn fun (i : Nat) ↦ [SV.i .i64 (pF n rows rows.length i)]).at i) ∧ Ob (SV.lst x rows.length 1 (Rv.elemOf [.i64] rows) = SV.lst x rows.length 1
  (Rv.elemOf [.i64] rows)) ∧ Ob (n = n) ∧ Ob (PlainE rows.length (El.fn fun (q : Nat) ↦ [SV.i .i64 (↑(a_1.D q) : Int)])) ∧ Ob (PlainE rows.length (El.fn fun (i : Nat) ↦ [SV.i .i64 (pF n rows rows.length i)])) ∧ Ob (IsLst B
  x rows.length 1 (Rv.elemOf [.i64] rows)) ∧ True) ∧ ∀ (a_1 : Iq), a_1.Ok n rows → ∀ (z_56 z_57 z_58 z_59 z_60 z_61 z_62 z_63 z_64 z_65 z_66 z_67 z_68 z_69 z_70 z_71 z_72 z_73 z_74 z_75 z_76 z_77 z_78 z_79 z_80 z_81 z_82
  z_83 z_84 z_85 z_86 z_87 z_88 z_89 z_90 z_91 z_92 z_93 z_94 z_95 z_96 z_97 z_98 z_99 z_100 z_101 z_102 z_103 : Value), ((↑a_1.i : Int) < (↑rows.length : Int) → (∃ (a_2 : Jq), Ob ((↑a_1.a : Int) = (0 : Int) ∧ (0 : Int) ≤
  (↑a_1.i : Int) ∧ Ins (pR n rows) a_2.D a_2.j a_1.i rows.length) ∧ Ob (rows.length = rows.length) ∧ Ob ((↑a_1.a : Int) = (↑a_1.a : Int)) ∧ Ob ((↑rows.length : Int) = (↑rows.length : Int)) ∧ Ob ((↑a_1.i : Int) = (↑a_1.i :
  Int)) ∧ Ob ((↑a_1.i : Int) = (↑a_2.j : Int)) ∧ Ob (rows.length = rows.length ∧ ∀ (i : Nat), i < rows.length → (El.fn fun (q : Nat) ↦ [SV.i .i64 (↑(a_1.D q) : Int)]).at i = (El.fn fun (q : Nat) ↦ [SV.i .i64 (↑(a_2.D q) :
  Int)]).at i) ∧ Ob (pN rows = pN rows) ∧ Ob (rows.length = rows.length ∧ ∀ (i : Nat), i < rows.length → (El.fn fun (i : Nat) ↦ [SV.i .i64 (pF n rows rows.length i)]).at i = (El.fn fun (i : Nat) ↦ [SV.i .i64 (pF n rows
  rows.length i)]).at i) ∧ Ob (SV.lst x rows.length 1 (Rv.elemOf [.i64] rows) = SV.lst x rows.length 1 (Rv.elemOf [.i64] rows)) ∧ Ob (n = n) ∧ Ob (PlainE rows.length (El.fn fun (q : Nat) ↦ [SV.i .i64 (↑(a_2.D q) : Int)]))
  ∧ Ob (PlainE rows.length (El.fn fun (i : Nat) ↦ [SV.i .i64 (pF n rows rows.length i)])) ∧ Ob (IsLst B x rows.length 1 (Rv.elemOf [.i64] rows)) ∧ True) ∧ ∀ (a_2 : Jq), (↑a_1.a : Int) = (0 : Int) ∧ (0 : Int) ≤ (↑a_1.i :
  Int) ∧ Ins (pR n rows) a_2.D a_2.j a_1.i rows.length → ∀ (z_104 z_105 z_106 z_107 z_108 z_109 z_110 z_111 z_112 z_113 z_114 z_115 z_116 z_117 z_118 z_119 z_120 z_121 z_122 z_123 z_124 z_125 z_126 z_127 z_128 z_129 z_130
  z_131 z_132 z_133 z_134 z_135 z_136 z_137 z_138 z_139 z_140 z_141 z_142 z_143 z_144 z_145 z_146 z_147 z_148 z_149 z_150 : Value), ((↑a_1.a : Int) < (↑a_2.j : Int) → Ob ((0 : Int) ≤ (↑a_2.j : Int) ∧ a_2.j < rows.length) ∧
  Ob (a_2.j < rows.length) ∧ Ob (InR .i64 ((↑a_2.j : Int) - (1 : Int))) ∧ Ob ((0 : Int) ≤ (↑a_2.j : Int) - (1 : Int) ∧ ((↑a_2.j : Int) - (1 : Int)).toNat < rows.length) ∧ Ob (((↑a_2.j : Int) - (1 : Int)).toNat <
  rows.length) ∧ ∃ (rows_2 : List (List Int)), Ob (IsLst B x rows.length 1 (Rv.elemOf [.i64] rows) ∧ rows_2.length = rows.length ∧ (∀ (r : List Int), r ∈ rows_2 → r.length = (1 : Nat)) ∧ ∀ (i : Nat), i < rows.length →
  Rv.elemOf [.i64] rows i = Rv.elemOf [.i64] rows_2 i) ∧ Ob (KeyOk (↑(a_2.D ((↑a_2.j : Int) - (1 : Int)).toNat) : Int) n rows_2 (pN rows)) ∧ ∃ (rows_3 : List (List Int)), Ob (IsLst B x rows.length 1 (Rv.elemOf [.i64] rows)
  ∧ rows_3.length = rows.length ∧ (∀ (r : List Int), r ∈ rows_3 → r.length = (1 : Nat)) ∧ ∀ (i : Nat), i < rows.length → Rv.elemOf [.i64] rows i = Rv.elemOf [.i64] rows_3 i) ∧ Ob (KeyOk (↑(a_2.D a_2.j) : Int) n rows_3 (pN
  rows)) ∧ Ob True ∧ ((if pR n rows_2 (↑(a_2.D ((↑a_2.j : Int) - (1 : Int)).toNat) : Int).toNat < pR n rows_3 (a_2.D a_2.j) then (-1 : Int) else if pR n rows_3 (a_2.D a_2.j) < pR n rows_2 (↑(a_2.D ((↑a_2.j : Int) - (1 :
  Int)).toNat) : Int).toNat then (1 : Int) else (0 : Int)) < (0 : Int) → Ob (InR .i64 ((↑a_2.j : Int) - (1 : Int))) ∧ Ob (InR .i64 ((↑a_2.j : Int) - (1 : Int))) ∧ Ob ((0 : Int) ≤ (↑a_2.j : Int) - (1 : Int) ∧ ((↑a_2.j :
  Int) - (1 : Int)).toNat < rows.length) ∧ Ob (((↑a_2.j : Int) - (1 : Int)).toNat < rows.length) ∧ Ob ((0 : Int) ≤ (↑a_2.j : Int) ∧ a_2.j < rows.length) ∧ Ob (a_2.j < rows.length) ∧ Ob ((0 : Int) ≤ (↑a_2.j : Int) ∧ a_2.j <
  rows.length) ∧ Ob (a_2.j < rows.length ∧ ((El.fn fun (q : Nat) ↦ [SV.i .i64 (↑(a_2.D q) : Int)]).at a_2.j).length = (1 : Nat)) ∧ Ob (PlainE rows.length (updL (El.fn fun (q : Nat) ↦ [SV.i .i64 (↑(a_2.D q) : Int)]) a_2.j 0
  [SV.i .i64 (↑(a_2.D ((↑a_2.j : Int) - (1 : Int)).toNat) : Int)])) ∧ Ob ((0 : Int) ≤ (↑a_2.j : Int) - (1 : Int) ∧ ((↑a_2.j : Int) - (1 : Int)).toNat < rows.length) ∧ Ob (((↑a_2.j : Int) - (1 : Int)).toNat < rows.length ∧
  ((updL (El.fn fun (q : Nat) ↦ [SV.i .i64 (↑(a_2.D q) : Int)]) a_2.j 0 [SV.i .i64 (↑(a_2.D ((↑a_2.j : Int) - (1 : Int)).toNat) : Int)]).at ((↑a_2.j : Int) - (1 : Int)).toNat).length = (1 : Nat)) ∧ Ob (InR .i64 ((↑a_2.j :
  Int) - (1 : Int))) ∧ ∃ (a' : Jq), Ob (((↑a_1.a : Int) = (0 : Int) ∧ (0 : Int) ≤ (↑a_1.i : Int) ∧ Ins (pR n rows) a'.D a'.j a_1.i rows.length) ∧ a'.j < a_2.j) ∧ Ob (rows.length = rows.length) ∧ Ob ((↑a_1.a : Int) =
  (↑a_1.a : Int)) ∧ Ob ((↑rows.length : Int) = (↑rows.length : Int)) ∧ Ob ((↑a_1.i : Int) = (↑a_1.i : Int)) ∧ Ob ((↑a_2.j : Int) - (1 : Int) = (↑a'.j : Int)) ∧ Ob (rows.length = rows.length ∧ ∀ (i : Nat), i < rows.length →
  (updL (updL (El.fn fun (q : Nat) ↦ [SV.i .i64 (↑(a_2.D q) : Int)]) a_2.j 0 [SV.i .i64 (↑(a_2.D ((↑a_2.j : Int) - (1 : Int)).toNat) : Int)]) ((↑a_2.j : Int) - (1 : Int)).toNat 0 [SV.i .i64 (↑(a_2.D a_2.j) : Int)]).at i =
  (El.fn fun (q : Nat) ↦ [SV.i .i64 (↑(a'.D q) : Int)]).at i) ∧ Ob (pN rows = pN rows) ∧ Ob (rows.length = rows.length ∧ ∀ (i : Nat), i < rows.length → (El.fn fun (i : Nat) ↦ [SV.i .i64 (pF n rows rows.length i)]).at i =
  (El.fn fun (i : Nat) ↦ [SV.i .i64 (pF n rows rows.length i)]).at i) ∧ Ob (SV.lst x rows.length 1 (Rv.elemOf [.i64] rows) = SV.lst x rows.length 1 (Rv.elemOf [.i64] rows)) ∧ Ob (n = n) ∧ Ob (PlainE rows.length (El.fn fun
  (q : Nat) ↦ [SV.i .i64 (↑(a'.D q) : Int)])) ∧ Ob (PlainE rows.length (El.fn fun (i : Nat) ↦ [SV.i .i64 (pF n rows rows.length i)])) ∧ Ob (IsLst B x rows.length 1 (Rv.elemOf [.i64] rows)) ∧ True) ∧ (¬(if pR n rows_2
  (↑(a_2.D ((↑a_2.j : Int) - (1 : Int)).toNat) : Int).toNat < pR n rows_3 (a_2.D a_2.j) then (-1 : Int) else if pR n rows_3 (a_2.D a_2.j) < pR n rows_2 (↑(a_2.D ((↑a_2.j : Int) - (1 : Int)).toNat) : Int).toNat then (1 :
  Int) else (0 : Int)) < (0 : Int) → Ob (InR .i64 ((↑a_1.i : Int) + (1 : Int))) ∧ ∃ (a' : Iq), Ob (a'.Ok n rows ∧ rows.length - a'.i < rows.length - a_1.i) ∧ Ob (rows.length = rows.length) ∧ Ob ((↑a_1.a : Int) = (↑a'.a :
  Int)) ∧ Ob ((↑rows.length : Int) = (↑rows.length : Int)) ∧ Ob ((↑a_1.i : Int) + (1 : Int) = (↑a'.i : Int)) ∧ Ob (rows.length = rows.length ∧ ∀ (i : Nat), i < rows.length → (El.fn fun (q : Nat) ↦ [SV.i .i64 (↑(a_2.D q) :
  Int)]).at i = (El.fn fun (q : Nat) ↦ [SV.i .i64 (↑(a'.D q) : Int)]).at i) ∧ Ob (pN rows = pN rows) ∧ Ob (rows.length = rows.length ∧ ∀ (i : Nat), i < rows.length → (El.fn fun (i : Nat) ↦ [SV.i .i64 (pF n rows rows.length
  i)]).at i = (El.fn fun (i : Nat) ↦ [SV.i .i64 (pF n rows rows.length i)]).at i) ∧ Ob (SV.lst x rows.length 1 (Rv.elemOf [.i64] rows) = SV.lst x rows.length 1 (Rv.elemOf [.i64] rows)) ∧ Ob (n = n) ∧ Ob (PlainE rows.length
  (El.fn fun (q : Nat) ↦ [SV.i .i64 (↑(a'.D q) : Int)])) ∧ Ob (PlainE rows.length (El.fn fun (i : Nat) ↦ [SV.i .i64 (pF n rows rows.length i)])) ∧ Ob (IsLst B x rows.length 1 (Rv.elemOf [.i64] rows)) ∧ True)) ∧ (¬(↑a_1.a :
  Int) < (↑a_2.j : Int) → Ob (InR .i64 ((↑a_1.i : Int) + (1 : Int))) ∧ ∃ (a' : Iq), Ob (a'.Ok n rows ∧ rows.length - a'.i < rows.length - a_1.i) ∧ Ob (rows.length = rows.length) ∧ Ob ((↑a_1.a : Int) = (↑a'.a : Int)) ∧ Ob
  ((↑rows.length : Int) = (↑rows.length : Int)) ∧ Ob ((↑a_1.i : Int) + (1 : Int) = (↑a'.i : Int)) ∧ Ob (rows.length = rows.length ∧ ∀ (i : Nat), i < rows.length → (El.fn fun (q : Nat) ↦ [SV.i .i64 (↑(a_2.D q) : Int)]).at i
  = (El.fn fun (q : Nat) ↦ [SV.i .i64 (↑(a'.D q) : Int)]).at i) ∧ Ob (pN rows = pN rows) ∧ Ob (rows.length = rows.length ∧ ∀ (i : Nat), i < rows.length → (El.fn fun (i : Nat) ↦ [SV.i .i64 (pF n rows rows.length i)]).at i =
  (El.fn fun (i : Nat) ↦ [SV.i .i64 (pF n rows rows.length i)]).at i) ∧ Ob (SV.lst x rows.length 1 (Rv.elemOf [.i64] rows) = SV.lst x rows.length 1 (Rv.elemOf [.i64] rows)) ∧ Ob (n = n) ∧ Ob (PlainE rows.length (El.fn fun
  (q : Nat) ↦ [SV.i .i64 (↑(a'.D q) : Int)])) ∧ Ob (PlainE rows.length (El.fn fun (i : Nat) ↦ [SV.i .i64 (pF n rows rows.length i)])) ∧ Ob (IsLst B x rows.length 1 (Rv.elemOf [.i64] rows)) ∧ True)) ∧ (¬(↑a_1.i : Int) <
  (↑rows.length : Int) → (Int.ofNat 40 ≤ (↑rows.length : Int) → (∃ (a_2 : Iq), Ob (a_2.Ok n rows) ∧ Ob (rows.length = rows.length) ∧ Ob ((20 : Int) = (↑a_2.a : Int)) ∧ Ob (Int.ofNat 40 = (↑rows.length : Int)) ∧ Ob
  (Int.ofNat 21 = (↑a_2.i : Int)) ∧ Ob (rows.length = rows.length ∧ ∀ (i : Nat), i < rows.length → (El.fn fun (q : Nat) ↦ [SV.i .i64 (↑(a_1.D q) : Int)]).at i = (El.fn fun (q : Nat) ↦ [SV.i .i64 (↑(a_2.D q) : Int)]).at i)
  ∧ Ob (pN rows = pN rows) ∧ Ob (rows.length = rows.length ∧ ∀ (i : Nat), i < rows.length → (El.fn fun (i : Nat) ↦ [SV.i .i64 (pF n rows rows.length i)]).at i = (El.fn fun (i : Nat) ↦ [SV.i .i64 (pF n rows rows.length
  i)]).at i) ∧ Ob (SV.lst x rows.length 1 (Rv.elemOf [.i64] rows) = SV.lst x rows.length 1 (Rv.elemOf [.i64] rows)) ∧ Ob (n = n) ∧ Ob (PlainE rows.length (El.fn fun (q : Nat) ↦ [SV.i .i64 (↑(a_2.D q) : Int)])) ∧ Ob (PlainE
  rows.length (El.fn fun (i : Nat) ↦ [SV.i .i64 (pF n rows rows.length i)])) ∧ Ob (IsLst B x rows.length 1 (Rv.elemOf [.i64] rows)) ∧ True) ∧ ∀ (a_2 : Iq), a_2.Ok n rows → ∀ (z_104 z_105 z_106 z_107 z_108 z_109 z_110 z_111
  z_112 z_113 z_114 z_115 z_116 z_117 z_118 z_119 z_120 z_121 z_122 z_123 z_124 z_125 z_126 z_127 z_128 z_129 z_130 z_131 z_132 z_133 z_134 z_135 z_136 z_137 z_138 z_139 z_140 z_141 z_142 z_143 z_144 z_145 z_146 z_147
  z_148 z_149 z_150 z_151 : Value), ((↑a_2.i : Int) < (↑rows.length : Int) → (∃ (a_3 : Jq), Ob ((↑a_2.a : Int) = (0 : Int) ∧ (0 : Int) ≤ (↑a_2.i : Int) ∧ Ins (pR n rows) a_3.D a_3.j a_2.i rows.length) ∧ Ob (rows.length =
  rows.length) ∧ Ob ((↑a_2.a : Int) = (↑a_2.a : Int)) ∧ Ob ((↑rows.length : Int) = (↑rows.length : Int)) ∧ Ob ((↑a_2.i : Int) = (↑a_2.i : Int)) ∧ Ob ((↑a_2.i : Int) = (↑a_3.j : Int)) ∧ Ob (rows.length = rows.length ∧ ∀ (i
  : Nat), i < rows.length → (El.fn fun (q : Nat) ↦ [SV.i .i64 (↑(a_2.D q) : Int)]).at i = (El.fn fun (q : Nat) ↦ [SV.i .i64 (↑(a_3.D q) : Int)]).at i) ∧ Ob (pN rows = pN rows) ∧ Ob (rows.length = rows.length ∧ ∀ (i : Nat),
  i < rows.length → (El.fn fun (i : Nat) ↦ [SV.i .i64 (pF n rows rows.length i)]).at i = (El.fn fun (i : Nat) ↦ [SV.i .i64 (pF n rows rows.length i)]).at i) ∧ Ob (SV.lst x rows.length 1 (Rv.elemOf [.i64] rows) = SV.lst x
  rows.length 1 (Rv.elemOf [.i64] rows)) ∧ Ob (n = n) ∧ Ob (PlainE rows.length (El.fn fun (q : Nat) ↦ [SV.i .i64 (↑(a_3.D q) : Int)])) ∧ Ob (PlainE rows.length (El.fn fun (i : Nat) ↦ [SV.i .i64 (pF n rows rows.length i)]))
  ∧ Ob (IsLst B x rows.length 1 (Rv.elemOf [.i64] rows)) ∧ True) ∧ ∀ (a_3 : Jq), (↑a_2.a : Int) = (0 : Int) ∧ (0 : Int) ≤ (↑a_2.i : Int) ∧ Ins (pR n rows) a_3.D a_3.j a_2.i rows.length → ∀ (z_152 z_153 z_154 z_155 z_156
  z_157 z_158 z_159 z_160 z_161 z_162 z_163 z_164 z_165 z_166 z_167 z_168 z_169 z_170 z_171 z_172 z_173 z_174 z_175 z_176 z_177 z_178 z_179 z_180 z_181 z_182 z_183 z_184 z_185 z_186 z_187 z_188 z_189 z_190 z_191 z_192
  z_193 z_194 z_195 z_196 z_197 z_198 : Value), ((↑a_2.a : Int) < (↑a_3.j : Int) → Ob ((0 : Int) ≤ (↑a_3.j : Int) ∧ a_3.j < rows.length) ∧ Ob (a_3.j < rows.length) ∧ Ob (InR .i64 ((↑a_3.j : Int) - (1 : Int))) ∧ Ob ((0 :
  Int) ≤ (↑a_3.j : Int) - (1 : Int) ∧ ((↑a_3.j : Int) - (1 : Int)).toNat < rows.length) ∧ Ob (((↑a_3.j : Int) - (1 : Int)).toNat < rows.length) ∧ ∃ (rows_2 : List (List Int)), Ob (IsLst B x rows.length 1 (Rv.elemOf [.i64]
  rows) ∧ rows_2.length = rows.length ∧ (∀ (r : List Int), r ∈ rows_2 → r.length = (1 : Nat)) ∧ ∀ (i : Nat), i < rows.length → Rv.elemOf [.i64] rows i = Rv.elemOf [.i64] rows_2 i) ∧ Ob (KeyOk (↑(a_3.D ((↑a_3.j : Int) - (1
  : Int)).toNat) : Int) n rows_2 (pN rows)) ∧ ∃ (rows_3 : List (List Int)), Ob (IsLst B x rows.length 1 (Rv.elemOf [.i64] rows) ∧ rows_3.length = rows.length ∧ (∀ (r : List Int), r ∈ rows_3 → r.length = (1 : Nat)) ∧ ∀ (i :
  Nat), i < rows.length → Rv.elemOf [.i64] rows i = Rv.elemOf [.i64] rows_3 i) ∧ Ob (KeyOk (↑(a_3.D a_3.j) : Int) n rows_3 (pN rows)) ∧ Ob True ∧ ((if pR n rows_2 (↑(a_3.D ((↑a_3.j : Int) - (1 : Int)).toNat) : Int).toNat <
  pR n rows_3 (a_3.D a_3.j) then (-1 : Int) else if pR n rows_3 (a_3.D a_3.j) < pR n rows_2 (↑(a_3.D ((↑a_3.j : Int) - (1 : Int)).toNat) : Int).toNat then (1 : Int) else (0 : Int)) < (0 : Int) → Ob (InR .i64 ((↑a_3.j :
  Int) - (1 : Int))) ∧ Ob (InR .i64 ((↑a_3.j : Int) - (1 : Int))) ∧ Ob ((0 : Int) ≤ (↑a_3.j : Int) - (1 : Int) ∧ ((↑a_3.j : Int) - (1 : Int)).toNat < rows.length) ∧ Ob (((↑a_3.j : Int) - (1 : Int)).toNat < rows.length) ∧
  Ob ((0 : Int) ≤ (↑a_3.j : Int) ∧ a_3.j < rows.length) ∧ Ob (a_3.j < rows.length) ∧ Ob ((0 : Int) ≤ (↑a_3.j : Int) ∧ a_3.j < rows.length) ∧ Ob (a_3.j < rows.length ∧ ((El.fn fun (q : Nat) ↦ [SV.i .i64 (↑(a_3.D q) :
  Int)]).at a_3.j).length = (1 : Nat)) ∧ Ob (PlainE rows.length (updL (El.fn fun (q : Nat) ↦ [SV.i .i64 (↑(a_3.D q) : Int)]) a_3.j 0 [SV.i .i64 (↑(a_3.D ((↑a_3.j : Int) - (1 : Int)).toNat) : Int)])) ∧ Ob ((0 : Int) ≤
  (↑a_3.j : Int) - (1 : Int) ∧ ((↑a_3.j : Int) - (1 : Int)).toNat < rows.length) ∧ Ob (((↑a_3.j : Int) - (1 : Int)).toNat < rows.length ∧ ((updL (El.fn fun (q : Nat) ↦ [SV.i .i64 (↑(a_3.D q) : Int)]) a_3.j 0 [SV.i .i64
  (↑(a_3.D ((↑a_3.j : Int) - (1 : Int)).toNat) : Int)]).at ((↑a_3.j : Int) - (1 : Int)).toNat).length = (1 : Nat)) ∧ Ob (InR .i64 ((↑a_3.j : Int) - (1 : Int))) ∧ ∃ (a' : Jq), Ob (((↑a_2.a : Int) = (0 : Int) ∧ (0 : Int) ≤
  (↑a_2.i : Int) ∧ Ins (pR n rows) a'.D a'.j a_2.i rows.length) ∧ a'.j < a_3.j) ∧ Ob (rows.length = rows.length) ∧ Ob ((↑a_2.a : Int) = (↑a_2.a : Int)) ∧ Ob ((↑rows.length : Int) = (↑rows.length : Int)) ∧ Ob ((↑a_2.i :
  Int) = (↑a_2.i : Int)) ∧ Ob ((↑a_3.j : Int) - (1 : Int) = (↑a'.j : Int)) ∧ Ob (rows.length = rows.length ∧ ∀ (i : Nat), i < rows.length → (updL (updL (El.fn fun (q : Nat) ↦ [SV.i .i64 (↑(a_3.D q) : Int)]) a_3.j 0 [SV.i
  .i64 (↑(a_3.D ((↑a_3.j : Int) - (1 : Int)).toNat) : Int)]) ((↑a_3.j : Int) - (1 : Int)).toNat 0 [SV.i .i64 (↑(a_3.D a_3.j) : Int)]).at i = (El.fn fun (q : Nat) ↦ [SV.i .i64 (↑(a'.D q) : Int)]).at i) ∧ Ob (pN rows = pN
  rows) ∧ Ob (rows.length = rows.length ∧ ∀ (i : Nat), i < rows.length → (El.fn fun (i : Nat) ↦ [SV.i .i64 (pF n rows rows.length i)]).at i = (El.fn fun (i : Nat) ↦ [SV.i .i64 (pF n rows rows.length i)]).at i) ∧ Ob (SV.lst
  x rows.length 1 (Rv.elemOf [.i64] rows) = SV.lst x rows.length 1 (Rv.elemOf [.i64] rows)) ∧ Ob (n = n) ∧ Ob (PlainE rows.length (El.fn fun (q : Nat) ↦ [SV.i .i64 (↑(a'.D q) : Int)])) ∧ Ob (PlainE rows.length (El.fn fun
  (i : Nat) ↦ [SV.i .i64 (pF n rows rows.length i)])) ∧ Ob (IsLst B x rows.length 1 (Rv.elemOf [.i64] rows)) ∧ True) ∧ (¬(if pR n rows_2 (↑(a_3.D ((↑a_3.j : Int) - (1 : Int)).toNat) : Int).toNat < pR n rows_3 (a_3.D a_3.j)
  then (-1 : Int) else if pR n rows_3 (a_3.D a_3.j) < pR n rows_2 (↑(a_3.D ((↑a_3.j : Int) - (1 : Int)).toNat) : Int).toNat then (1 : Int) else (0 : Int)) < (0 : Int) → Ob (InR .i64 ((↑a_2.i : Int) + (1 : Int))) ∧ ∃ (a' :
  Iq), Ob (a'.Ok n rows ∧ rows.length - a'.i < rows.length - a_2.i) ∧ Ob (rows.length = rows.length) ∧ Ob ((↑a_2.a : Int) = (↑a'.a : Int)) ∧ Ob ((↑rows.length : Int) = (↑rows.length : Int)) ∧ Ob ((↑a_2.i : Int) + (1 : Int)
  = (↑a'.i : Int)) ∧ Ob (rows.length = rows.length ∧ ∀ (i : Nat), i < rows.length → (El.fn fun (q : Nat) ↦ [SV.i .i64 (↑(a_3.D q) : Int)]).at i = (El.fn fun (q : Nat) ↦ [SV.i .i64 (↑(a'.D q) : Int)]).at i) ∧ Ob (pN rows =
  pN rows) ∧ Ob (rows.length = rows.length ∧ ∀ (i : Nat), i < rows.length → (El.fn fun (i : Nat) ↦ [SV.i .i64 (pF n rows rows.length i)]).at i = (El.fn fun (i : Nat) ↦ [SV.i .i64 (pF n rows rows.length i)]).at i) ∧ Ob
  (SV.lst x rows.length 1 (Rv.elemOf [.i64] rows) = SV.lst x rows.length 1 (Rv.elemOf [.i64] rows)) ∧ Ob (n = n) ∧ Ob (PlainE rows.length (El.fn fun (q : Nat) ↦ [SV.i .i64 (↑(a'.D q) : Int)])) ∧ Ob (PlainE rows.length
  (El.fn fun (i : Nat) ↦ [SV.i .i64 (pF n rows rows.length i)])) ∧ Ob (IsLst B x rows.length 1 (Rv.elemOf [.i64] rows)) ∧ True)) ∧ (¬(↑a_2.a : Int) < (↑a_3.j : Int) → Ob (InR .i64 ((↑a_2.i : Int) + (1 : Int))) ∧ ∃ (a' :
  Iq), Ob (a'.Ok n rows ∧ rows.length - a'.i < rows.length - a_2.i) ∧ Ob (rows.length = rows.length) ∧ Ob ((↑a_2.a : Int) = (↑a'.a : Int)) ∧ Ob ((↑rows.length : Int) = (↑rows.length : Int)) ∧ Ob ((↑a_2.i : Int) + (1 : Int)
  = (↑a'.i : Int)) ∧ Ob (rows.length = rows.length ∧ ∀ (i : Nat), i < rows.length → (El.fn fun (q : Nat) ↦ [SV.i .i64 (↑(a_3.D q) : Int)]).at i = (El.fn fun (q : Nat) ↦ [SV.i .i64 (↑(a'.D q) : Int)]).at i) ∧ Ob (pN rows =
  pN rows) ∧ Ob (rows.length = rows.length ∧ ∀ (i : Nat), i < rows.length → (El.fn fun (i : Nat) ↦ [SV.i .i64 (pF n rows rows.length i)]).at i = (El.fn fun (i : Nat) ↦ [SV.i .i64 (pF n rows rows.length i)]).at i) ∧ Ob
  (SV.lst x rows.length 1 (Rv.elemOf [.i64] rows) = SV.lst x rows.length 1 (Rv.elemOf [.i64] rows)) ∧ Ob (n = n) ∧ Ob (PlainE rows.length (El.fn fun (q : Nat) ↦ [SV.i .i64 (↑(a'.D q) : Int)])) ∧ Ob (PlainE rows.length
  (El.fn fun (i : Nat) ↦ [SV.i .i64 (pF n rows rows.length i)])) ∧ Ob (IsLst B x rows.length 1 (Rv.elemOf [.i64] rows)) ∧ True)) ∧ (¬(↑a_2.i : Int) < (↑rows.length : Int) → False)) ∧ (¬Int.ofNat 40 ≤ (↑rows.length : Int) →
  (∃ (a_2 : Iq), Ob (a_2.Ok n rows) ∧ Ob (rows.length = rows.length) ∧ Ob ((20 : Int) = (↑a_2.a : Int)) ∧ Ob ((↑rows.length : Int) = (↑rows.length : Int)) ∧ Ob (Int.ofNat 21 = (↑a_2.i : Int)) ∧ Ob (rows.length =
  rows.length ∧ ∀ (i : Nat), i < rows.length → (El.fn fun (q : Nat) ↦ [SV.i .i64 (↑(a_1.D q) : Int)]).at i = (El.fn fun (q : Nat) ↦ [SV.i .i64 (↑(a_2.D q) : Int)]).at i) ∧ Ob (pN rows = pN rows) ∧ Ob (rows.length =
  rows.length ∧ ∀ (i : Nat), i < rows.length → (El.fn fun (i : Nat) ↦ [SV.i .i64 (pF n rows rows.length i)]).at i = (El.fn fun (i : Nat) ↦ [SV.i .i64 (pF n rows rows.length i)]).at i) ∧ Ob (SV.lst x rows.length 1
  (Rv.elemOf [.i64] rows) = SV.lst x rows.length 1 (Rv.elemOf [.i64] rows)) ∧ Ob (n = n) ∧ Ob (PlainE rows.length (El.fn fun (q : Nat) ↦ [SV.i .i64 (↑(a_2.D q) : Int)])) ∧ Ob (PlainE rows.length (El.fn fun (i : Nat) ↦
  [SV.i .i64 (pF n rows rows.length i)])) ∧ Ob (IsLst B x rows.length 1 (Rv.elemOf [.i64] rows)) ∧ True) ∧ ∀ (a_2 : Iq), a_2.Ok n rows → ∀ (z_104 z_105 z_106 z_107 z_108 z_109 z_110 z_111 z_112 z_113 z_114 z_115 z_116
  z_117 z_118 z_119 z_120 z_121 z_122 z_123 z_124 z_125 z_126 z_127 z_128 z_129 z_130 z_131 z_132 z_133 z_134 z_135 z_136 z_137 z_138 z_139 z_140 z_141 z_142 z_143 z_144 z_145 z_146 z_147 z_148 z_149 z_150 z_151 : Value),
  ((↑a_2.i : Int) < (↑rows.length : Int) → (∃ (a_3 : Jq), Ob ((↑a_2.a : Int) = (0 : Int) ∧ (0 : Int) ≤ (↑a_2.i : Int) ∧ Ins (pR n rows) a_3.D a_3.j a_2.i rows.length) ∧ Ob (rows.length = rows.length) ∧ Ob ((↑a_2.a : Int) =
  (↑a_2.a : Int)) ∧ Ob ((↑rows.length : Int) = (↑rows.length : Int)) ∧ Ob ((↑a_2.i : Int) = (↑a_2.i : Int)) ∧ Ob ((↑a_2.i : Int) = (↑a_3.j : Int)) ∧ Ob (rows.length = rows.length ∧ ∀ (i : Nat), i < rows.length → (El.fn fun
  (q : Nat) ↦ [SV.i .i64 (↑(a_2.D q) : Int)]).at i = (El.fn fun (q : Nat) ↦ [SV.i .i64 (↑(a_3.D q) : Int)]).at i) ∧ Ob (pN rows = pN rows) ∧ Ob (rows.length = rows.length ∧ ∀ (i : Nat), i < rows.length → (El.fn fun (i :
  Nat) ↦ [SV.i .i64 (pF n rows rows.length i)]).at i = (El.fn fun (i : Nat) ↦ [SV.i .i64 (pF n rows rows.length i)]).at i) ∧ Ob (SV.lst x rows.length 1 (Rv.elemOf [.i64] rows) = SV.lst x rows.length 1 (Rv.elemOf [.i64]
  rows)) ∧ Ob (n = n) ∧ Ob (PlainE rows.length (El.fn fun (q : Nat) ↦ [SV.i .i64 (↑(a_3.D q) : Int)])) ∧ Ob (PlainE rows.length (El.fn fun (i : Nat) ↦ [SV.i .i64 (pF n rows rows.length i)])) ∧ Ob (IsLst B x rows.length 1
  (Rv.elemOf [.i64] rows)) ∧ True) ∧ ∀ (a_3 : Jq), (↑a_2.a : Int) = (0 : Int) ∧ (0 : Int) ≤ (↑a_2.i : Int) ∧ Ins (pR n rows) a_3.D a_3.j a_2.i rows.length → ∀ (z_152 z_153 z_154 z_155 z_156 z_157 z_158 z_159 z_160 z_161
  z_162 z_163 z_164 z_165 z_166 z_167 z_168 z_169 z_170 z_171 z_172 z_173 z_174 z_175 z_176 z_177 z_178 z_179 z_180 z_181 z_182 z_183 z_184 z_185 z_186 z_187 z_188 z_189 z_190 z_191 z_192 z_193 z_194 z_195 z_196 z_197
  z_198 : Value), ((↑a_2.a : Int) < (↑a_3.j : Int) → Ob ((0 : Int) ≤ (↑a_3.j : Int) ∧ a_3.j < rows.length) ∧ Ob (a_3.j < rows.length) ∧ Ob (InR .i64 ((↑a_3.j : Int) - (1 : Int))) ∧ Ob ((0 : Int) ≤ (↑a_3.j : Int) - (1 :
  Int) ∧ ((↑a_3.j : Int) - (1 : Int)).toNat < rows.length) ∧ Ob (((↑a_3.j : Int) - (1 : Int)).toNat < rows.length) ∧ ∃ (rows_2 : List (List Int)), Ob (IsLst B x rows.length 1 (Rv.elemOf [.i64] rows) ∧ rows_2.length =
  rows.length ∧ (∀ (r : List Int), r ∈ rows_2 → r.length = (1 : Nat)) ∧ ∀ (i : Nat), i < rows.length → Rv.elemOf [.i64] rows i = Rv.elemOf [.i64] rows_2 i) ∧ Ob (KeyOk (↑(a_3.D ((↑a_3.j : Int) - (1 : Int)).toNat) : Int) n
  rows_2 (pN rows)) ∧ ∃ (rows_3 : List (List Int)), Ob (IsLst B x rows.length 1 (Rv.elemOf [.i64] rows) ∧ rows_3.length = rows.length ∧ (∀ (r : List Int), r ∈ rows_3 → r.length = (1 : Nat)) ∧ ∀ (i : Nat), i < rows.length →
  Rv.elemOf [.i64] rows i = Rv.elemOf [.i64] rows_3 i) ∧ Ob (KeyOk (↑(a_3.D a_3.j) : Int) n rows_3 (pN rows)) ∧ Ob True ∧ ((if pR n rows_2 (↑(a_3.D ((↑a_3.j : Int) - (1 : Int)).toNat) : Int).toNat < pR n rows_3 (a_3.D
  a_3.j) then (-1 : Int) else if pR n rows_3 (a_3.D a_3.j) < pR n rows_2 (↑(a_3.D ((↑a_3.j : Int) - (1 : Int)).toNat) : Int).toNat then (1 : Int) else (0 : Int)) < (0 : Int) → Ob (InR .i64 ((↑a_3.j : Int) - (1 : Int))) ∧
  Ob (InR .i64 ((↑a_3.j : Int) - (1 : Int))) ∧ Ob ((0 : Int) ≤ (↑a_3.j : Int) - (1 : Int) ∧ ((↑a_3.j : Int) - (1 : Int)).toNat < rows.length) ∧ Ob (((↑a_3.j : Int) - (1 : Int)).toNat < rows.length) ∧ Ob ((0 : Int) ≤
  (↑a_3.j : Int) ∧ a_3.j < rows.length) ∧ Ob (a_3.j < rows.length) ∧ Ob ((0 : Int) ≤ (↑a_3.j : Int) ∧ a_3.j < rows.length) ∧ Ob (a_3.j < rows.length ∧ ((El.fn fun (q : Nat) ↦ [SV.i .i64 (↑(a_3.D q) : Int)]).at
  a_3.j).length = (1 : Nat)) ∧ Ob (PlainE rows.length (updL (El.fn fun (q : Nat) ↦ [SV.i .i64 (↑(a_3.D q) : Int)]) a_3.j 0 [SV.i .i64 (↑(a_3.D ((↑a_3.j : Int) - (1 : Int)).toNat) : Int)])) ∧ Ob ((0 : Int) ≤ (↑a_3.j : Int)
  - (1 : Int) ∧ ((↑a_3.j : Int) - (1 : Int)).toNat < rows.length) ∧ Ob (((↑a_3.j : Int) - (1 : Int)).toNat < rows.length ∧ ((updL (El.fn fun (q : Nat) ↦ [SV.i .i64 (↑(a_3.D q) : Int)]) a_3.j 0 [SV.i .i64 (↑(a_3.D ((↑a_3.j
  : Int) - (1 : Int)).toNat) : Int)]).at ((↑a_3.j : Int) - (1 : Int)).toNat).length = (1 : Nat)) ∧ Ob (InR .i64 ((↑a_3.j : Int) - (1 : Int))) ∧ ∃ (a' : Jq), Ob (((↑a_2.a : Int) = (0 : Int) ∧ (0 : Int) ≤ (↑a_2.i : Int) ∧
  Ins (pR n rows) a'.D a'.j a_2.i rows.length) ∧ a'.j < a_3.j) ∧ Ob (rows.length = rows.length) ∧ Ob ((↑a_2.a : Int) = (↑a_2.a : Int)) ∧ Ob ((↑rows.length : Int) = (↑rows.length : Int)) ∧ Ob ((↑a_2.i : Int) = (↑a_2.i :
  Int)) ∧ Ob ((↑a_3.j : Int) - (1 : Int) = (↑a'.j : Int)) ∧ Ob (rows.length = rows.length ∧ ∀ (i : Nat), i < rows.length → (updL (updL (El.fn fun (q : Nat) ↦ [SV.i .i64 (↑(a_3.D q) : Int)]) a_3.j 0 [SV.i .i64 (↑(a_3.D
  ((↑a_3.j : Int) - (1 : Int)).toNat) : Int)]) ((↑a_3.j : Int) - (1 : Int)).toNat 0 [SV.i .i64 (↑(a_3.D a_3.j) : Int)]).at i = (El.fn fun (q : Nat) ↦ [SV.i .i64 (↑(a'.D q) : Int)]).at i) ∧ Ob (pN rows = pN rows) ∧ Ob
  (rows.length = rows.length ∧ ∀ (i : Nat), i < rows.length → (El.fn fun (i : Nat) ↦ [SV.i .i64 (pF n rows rows.length i)]).at i = (El.fn fun (i : Nat) ↦ [SV.i .i64 (pF n rows rows.length i)]).at i) ∧ Ob (SV.lst x
  rows.length 1 (Rv.elemOf [.i64] rows) = SV.lst x rows.length 1 (Rv.elemOf [.i64] rows)) ∧ Ob (n = n) ∧ Ob (PlainE rows.length (El.fn fun (q : Nat) ↦ [SV.i .i64 (↑(a'.D q) : Int)])) ∧ Ob (PlainE rows.length (El.fn fun (i
  : Nat) ↦ [SV.i .i64 (pF n rows rows.length i)])) ∧ Ob (IsLst B x rows.length 1 (Rv.elemOf [.i64] rows)) ∧ True) ∧ (¬(if pR n rows_2 (↑(a_3.D ((↑a_3.j : Int) - (1 : Int)).toNat) : Int).toNat < pR n rows_3 (a_3.D a_3.j)
  then (-1 : Int) else if pR n rows_3 (a_3.D a_3.j) < pR n rows_2 (↑(a_3.D ((↑a_3.j : Int) - (1 : Int)).toNat) : Int).toNat then (1 : Int) else (0 : Int)) < (0 : Int) → Ob (InR .i64 ((↑a_2.i : Int) + (1 : Int))) ∧ ∃ (a' :
  Iq), Ob (a'.Ok n rows ∧ rows.length - a'.i < rows.length - a_2.i) ∧ Ob (rows.length = rows.length) ∧ Ob ((↑a_2.a : Int) = (↑a'.a : Int)) ∧ Ob ((↑rows.length : Int) = (↑rows.length : Int)) ∧ Ob ((↑a_2.i : Int) + (1 : Int)
  = (↑a'.i : Int)) ∧ Ob (rows.length = rows.length ∧ ∀ (i : Nat), i < rows.length → (El.fn fun (q : Nat) ↦ [SV.i .i64 (↑(a_3.D q) : Int)]).at i = (El.fn fun (q : Nat) ↦ [SV.i .i64 (↑(a'.D q) : Int)]).at i) ∧ Ob (pN rows =
  pN rows) ∧ Ob (rows.length = rows.length ∧ ∀ (i : Nat), i < rows.length → (El.fn fun (i : Nat) ↦ [SV.i .i64 (pF n rows rows.length i)]).at i = (El.fn fun (i : Nat) ↦ [SV.i .i64 (pF n rows rows.length i)]).at i) ∧ Ob
  (SV.lst x rows.length 1 (Rv.elemOf [.i64] rows) = SV.lst x rows.length 1 (Rv.elemOf [.i64] rows)) ∧ Ob (n = n) ∧ Ob (PlainE rows.length (El.fn fun (q : Nat) ↦ [SV.i .i64 (↑(a'.D q) : Int)])) ∧ Ob (PlainE rows.length
  (El.fn fun (i : Nat) ↦ [SV.i .i64 (pF n rows rows.length i)])) ∧ Ob (IsLst B x rows.length 1 (Rv.elemOf [.i64] rows)) ∧ True)) ∧ (¬(↑a_2.a : Int) < (↑a_3.j : Int) → Ob (InR .i64 ((↑a_2.i : Int) + (1 : Int))) ∧ ∃ (a' :
  Iq), Ob (a'.Ok n rows ∧ rows.length - a'.i < rows.length - a_2.i) ∧ Ob (rows.length = rows.length) ∧ Ob ((↑a_2.a : Int) = (↑a'.a : Int)) ∧ Ob ((↑rows.length : Int) = (↑rows.length : Int)) ∧ Ob ((↑a_2.i : Int) + (1 : Int)
  = (↑a'.i : Int)) ∧ Ob (rows.length = rows.length ∧ ∀ (i : Nat), i < rows.length → (El.fn fun (q : Nat) ↦ [SV.i .i64 (↑(a_3.D q) : Int)]).at i = (El.fn fun (q : Nat) ↦ [SV.i .i64 (↑(a'.D q) : Int)]).at i) ∧ Ob (pN rows =
  pN rows) ∧ Ob (rows.length = rows.length ∧ ∀ (i : Nat), i < rows.length → (El.fn fun (i : Nat) ↦ [SV.i .i64 (pF n rows rows.length i)]).at i = (El.fn fun (i : Nat) ↦ [SV.i .i64 (pF n rows rows.length i)]).at i) ∧ Ob
  (SV.lst x rows.length 1 (Rv.elemOf [.i64] rows) = SV.lst x rows.length 1 (Rv.elemOf [.i64] rows)) ∧ Ob (n = n) ∧ Ob (PlainE rows.length (El.fn fun (q : Nat) ↦ [SV.i .i64 (↑(a'.D q) : Int)])) ∧ Ob (PlainE rows.length
  (El.fn fun (i : Nat) ↦ [SV.i .i64 (pF n rows rows.length i)])) ∧ Ob (IsLst B x rows.length 1 (Rv.elemOf [.i64] rows)) ∧ True)) ∧ (¬(↑a_2.i : Int) < (↑rows.length : Int) → ((20 : Int) < (↑rows.length : Int) → (Int.ofNat
  40 ≤ (↑rows.length : Int) → False) ∧ (¬Int.ofNat 40 ≤ (↑rows.length : Int) → (Int.ofNat 20 < (↑rows.length : Int) → False) ∧ (¬Int.ofNat 20 < (↑rows.length : Int) → False))) ∧ (¬(20 : Int) < (↑rows.length : Int) → ∃
  (rows_2 : List (List Int)), Ob (rows.length = rows.length ∧ rows_2.length = rows.length ∧ (∀ (r : List Int), r ∈ rows_2 → r.length = (1 : Nat)) ∧ ∀ (i : Nat), i < rows.length → (El.fn fun (i : Nat) ↦ [SV.i .i64 (pF n
  rows rows.length i)]).at i = Rv.elemOf [.i64] rows_2 i) ∧ Ob (rows_2.length ≤ (1000 : Nat) ∧ ∀ (i : Nat), i < rows_2.length → (0 : Int) ≤ cell rows_2 i 0 ∧ cell rows_2 i 0 ≤ (2000000000 : Int)) ∧ Ob (InR .i64 (n - totTo
  rows_2 rows_2.length)) ∧ Ob (rows.length = rows.length ∧ (0 : Nat) < rows.length ∧ (0 : Int) ≤ n - totTo rows_2 rows_2.length ∧ (n - totTo rows_2 rows_2.length).toNat ≤ rows.length) ∧ (∃ (a_3 : Jq), Ob (a_3.j ≤ (pL n
  rows).toNat ∧ Rkd n rows a_3.D) ∧ Ob (SV.v (Value.slice none 0 0) = SV.v (Value.slice none 0 0)) ∧ Ob (rows.length = rows.length) ∧ Ob ((n - totTo rows_2 rows_2.length).toNat = (pL n rows).toNat) ∧ Ob ((↑(n - totTo
  rows_2 rows_2.length).toNat : Int) = (↑(pL n rows).toNat : Int)) ∧ Ob ((0 : Int) = (↑a_3.j : Int)) ∧ Ob (rows.length = rows.length ∧ ∀ (i : Nat), i < rows.length → (El.fn fun (q : Nat) ↦ [SV.i .i64 (↑(a_2.D q) :
  Int)]).at i = (El.fn fun (q : Nat) ↦ [SV.i .i64 (↑(a_3.D q) : Int)]).at i) ∧ Ob (pN rows = pN rows) ∧ Ob (rows.length = rows.length ∧ ∀ (i : Nat), i < rows.length → (El.fn fun (i : Nat) ↦ [SV.i .i64 (pF n rows
  rows.length i)]).at i = (El.fn fun (i : Nat) ↦ [SV.i .i64 (pO n rows (↑a_3.j : Int) i)]).at i) ∧ Ob (SV.lst x rows.length 1 (Rv.elemOf [.i64] rows) = SV.lst x rows.length 1 (Rv.elemOf [.i64] rows)) ∧ Ob (n = n) ∧ Ob
  (PlainE rows.length (El.fn fun (q : Nat) ↦ [SV.i .i64 (↑(a_3.D q) : Int)])) ∧ Ob (PlainE rows.length (El.fn fun (i : Nat) ↦ [SV.i .i64 (pO n rows (↑a_3.j : Int) i)])) ∧ Ob (IsLst B x rows.length 1 (Rv.elemOf [.i64]
  rows)) ∧ True) ∧ ∀ (a_3 : Jq), a_3.j ≤ (pL n rows).toNat ∧ Rkd n rows a_3.D → ∀ (z_152 z_153 z_154 z_155 z_156 z_157 z_158 z_159 z_160 z_161 z_162 z_163 z_164 z_165 z_166 z_167 z_168 z_169 z_170 z_171 z_172 z_173 z_174
  z_175 z_176 z_177 z_178 z_179 z_180 z_181 z_182 z_183 z_184 z_185 z_186 z_187 z_188 z_189 z_190 z_191 z_192 z_193 z_194 z_195 z_196 z_197 z_198 z_199 z_200 z_201 z_202 z_203 z_204 z_205 z_206 z_207 z_208 z_209 z_210
  z_211 : Value), ((↑a_3.j : Int) < (↑(pL n rows).toNat : Int) → Ob ((0 : Int) ≤ (↑a_3.j : Int) ∧ a_3.j < (pL n rows).toNat) ∧ Ob (a_3.j < rows.length) ∧ Ob ((0 : Int) ≤ (↑(a_3.D a_3.j) : Int) ∧ a_3.D a_3.j < rows.length)
  ∧ Ob (a_3.D a_3.j < rows.length) ∧ Ob (InR .i64 (pO n rows (↑a_3.j : Int) (a_3.D a_3.j) + (1 : Int))) ∧ Ob ((0 : Int) ≤ (↑(a_3.D a_3.j) : Int) ∧ a_3.D a_3.j < rows.length) ∧ Ob (a_3.D a_3.j < rows.length ∧ ((El.fn fun (i
  : Nat) ↦ [SV.i .i64 (pO n rows (↑a_3.j : Int) i)]).at (a_3.D a_3.j)).length = (1 : Nat)) ∧ Ob (InR .i64 ((↑a_3.j : Int) + (1 : Int))) ∧ ∃ (a' : Jq), Ob ((a'.j ≤ (pL n rows).toNat ∧ Rkd n rows a'.D) ∧ (pL n rows).toNat -
  a'.j < (pL n rows).toNat - a_3.j) ∧ Ob (SV.v (Value.slice none 0 0) = SV.v (Value.slice none 0 0)) ∧ Ob (rows.length = rows.length) ∧ Ob ((pL n rows).toNat = (pL n rows).toNat) ∧ Ob ((↑(pL n rows).toNat : Int) = (↑(pL n
  rows).toNat : Int)) ∧ Ob ((↑a_3.j : Int) + (1 : Int) = (↑a'.j : Int)) ∧ Ob (rows.length = rows.length ∧ ∀ (i : Nat), i < rows.length → (El.fn fun (q : Nat) ↦ [SV.i .i64 (↑(a_3.D q) : Int)]).at i = (El.fn fun (q : Nat) ↦
  [SV.i .i64 (↑(a'.D q) : Int)]).at i) ∧ Ob (pN rows = pN rows) ∧ Ob (rows.length = rows.length ∧ ∀ (i : Nat), i < rows.length → (updL (El.fn fun (i : Nat) ↦ [SV.i .i64 (pO n rows (↑a_3.j : Int) i)]) (a_3.D a_3.j) 0 [SV.i
  .i64 (pO n rows (↑a_3.j : Int) (a_3.D a_3.j) + (1 : Int))]).at i = (El.fn fun (i : Nat) ↦ [SV.i .i64 (pO n rows (↑a'.j : Int) i)]).at i) ∧ Ob (SV.lst x rows.length 1 (Rv.elemOf [.i64] rows) = SV.lst x rows.length 1
  (Rv.elemOf [.i64] rows)) ∧ Ob (n = n) ∧ Ob (PlainE rows.length (El.fn fun (q : Nat) ↦ [SV.i .i64 (↑(a'.D q) : Int)])) ∧ Ob (PlainE rows.length (El.fn fun (i : Nat) ↦ [SV.i .i64 (pO n rows (↑a'.j : Int) i)])) ∧ Ob (IsLst
  B x rows.length 1 (Rv.elemOf [.i64] rows)) ∧ True) ∧ (¬(↑a_3.j : Int) < (↑(pL n rows).toNat : Int) → Ob (rows.length = rows.length) ∧ Ob (rows.length = rows.length ∧ ∀ (i : Nat), i < rows.length → (El.fn fun (i : Nat) ↦
  [SV.i .i64 (pO n rows (↑a_3.j : Int) i)]).at i = (El.fn fun (i : Nat) ↦ [SV.i .i64 (pS n rows i)]).at i) ∧ Ob (PlainE rows.length (El.fn fun (i : Nat) ↦ [SV.i .i64 (pS n rows i)])) ∧ True)))))) ∧ (¬(20 : Int) ≤
  (↑rows.length : Int) → (∃ (a_1 : Iq), Ob (a_1.Ok n rows) ∧ Ob (rows.length = rows.length) ∧ Ob ((0 : Int) = (↑a_1.a : Int)) ∧ Ob ((↑rows.length : Int) = (↑rows.length : Int)) ∧ Ob (Int.ofNat 1 = (↑a_1.i : Int)) ∧ Ob
  (rows.length = rows.length ∧ ∀ (i : Nat), i < rows.length → (El.fn fun (i : Nat) ↦ [SV.i .i64 (odF a i)]).at i = (El.fn fun (q : Nat) ↦ [SV.i .i64 (↑(a_1.D q) : Int)]).at i) ∧ Ob (pN rows = pN rows) ∧ Ob (rows.length =
  rows.length ∧ ∀ (i : Nat), i < rows.length → (El.fn fun (i : Nat) ↦ [SV.i .i64 (pF n rows a i)]).at i = (El.fn fun (i : Nat) ↦ [SV.i .i64 (pF n rows rows.length i)]).at i) ∧ Ob (SV.lst x rows.length 1 (Rv.elemOf [.i64]
  rows) = SV.lst x rows.length 1 (Rv.elemOf [.i64] rows)) ∧ Ob (n = n) ∧ Ob (PlainE rows.length (El.fn fun (q : Nat) ↦ [SV.i .i64 (↑(a_1.D q) : Int)])) ∧ Ob (PlainE rows.length (El.fn fun (i : Nat) ↦ [SV.i .i64 (pF n rows
  rows.length i)])) ∧ Ob (IsLst B x rows.length 1 (Rv.elemOf [.i64] rows)) ∧ True) ∧ ∀ (a_1 : Iq), a_1.Ok n rows → ∀ (z_56 z_57 z_58 z_59 z_60 z_61 z_62 z_63 z_64 z_65 z_66 z_67 z_68 z_69 z_70 z_71 z_72 z_73 z_74 z_75 z_76
  z_77 z_78 z_79 z_80 z_81 z_82 z_83 z_84 z_85 z_86 z_87 z_88 z_89 z_90 z_91 z_92 z_93 z_94 z_95 z_96 z_97 z_98 z_99 z_100 z_101 z_102 z_103 : Value), ((↑a_1.i : Int) < (↑rows.length : Int) → (∃ (a_2 : Jq), Ob ((↑a_1.a :
  Int) = (0 : Int) ∧ (0 : Int) ≤ (↑a_1.i : Int) ∧ Ins (pR n rows) a_2.D a_2.j a_1.i rows.length) ∧ Ob (rows.length = rows.length) ∧ Ob ((↑a_1.a : Int) = (↑a_1.a : Int)) ∧ Ob ((↑rows.length : Int) = (↑rows.length : Int)) ∧
  Ob ((↑a_1.i : Int) = (↑a_1.i : Int)) ∧ Ob ((↑a_1.i : Int) = (↑a_2.j : Int)) ∧ Ob (rows.length = rows.length ∧ ∀ (i : Nat), i < rows.length → (El.fn fun (q : Nat) ↦ [SV.i .i64 (↑(a_1.D q) : Int)]).at i = (El.fn fun (q :
  Nat) ↦ [SV.i .i64 (↑(a_2.D q) : Int)]).at i) ∧ Ob (pN rows = pN rows) ∧ Ob (rows.length = rows.length ∧ ∀ (i : Nat), i < rows.length → (El.fn fun (i : Nat) ↦ [SV.i .i64 (pF n rows rows.length i)]).at i = (El.fn fun (i :
  Nat) ↦ [SV.i .i64 (pF n rows rows.length i)]).at i) ∧ Ob (SV.lst x rows.length 1 (Rv.elemOf [.i64] rows) = SV.lst x rows.length 1 (Rv.elemOf [.i64] rows)) ∧ Ob (n = n) ∧ Ob (PlainE rows.length (El.fn fun (q : Nat) ↦
  [SV.i .i64 (↑(a_2.D q) : Int)])) ∧ Ob (PlainE rows.length (El.fn fun (i : Nat) ↦ [SV.i .i64 (pF n rows rows.length i)])) ∧ Ob (IsLst B x rows.length 1 (Rv.elemOf [.i64] rows)) ∧ True) ∧ ∀ (a_2 : Jq), (↑a_1.a : Int) = (0
  : Int) ∧ (0 : Int) ≤ (↑a_1.i : Int) ∧ Ins (pR n rows) a_2.D a_2.j a_1.i rows.length → ∀ (z_104 z_105 z_106 z_107 z_108 z_109 z_110 z_111 z_112 z_113 z_114 z_115 z_116 z_117 z_118 z_119 z_120 z_121 z_122 z_123 z_124 z_125
  z_126 z_127 z_128 z_129 z_130 z_131 z_132 z_133 z_134 z_135 z_136 z_137 z_138 z_139 z_140 z_141 z_142 z_143 z_144 z_145 z_146 z_147 z_148 z_149 z_150 : Value), ((↑a_1.a : Int) < (↑a_2.j : Int) → Ob ((0 : Int) ≤ (↑a_2.j :
  Int) ∧ a_2.j < rows.length) ∧ Ob (a_2.j < rows.length) ∧ Ob (InR .i64 ((↑a_2.j : Int) - (1 : Int))) ∧ Ob ((0 : Int) ≤ (↑a_2.j : Int) - (1 : Int) ∧ ((↑a_2.j : Int) - (1 : Int)).toNat < rows.length) ∧ Ob (((↑a_2.j : Int) -
  (1 : Int)).toNat < rows.length) ∧ ∃ (rows_2 : List (List Int)), Ob (IsLst B x rows.length 1 (Rv.elemOf [.i64] rows) ∧ rows_2.length = rows.length ∧ (∀ (r : List Int), r ∈ rows_2 → r.length = (1 : Nat)) ∧ ∀ (i : Nat), i <
  rows.length → Rv.elemOf [.i64] rows i = Rv.elemOf [.i64] rows_2 i) ∧ Ob (KeyOk (↑(a_2.D ((↑a_2.j : Int) - (1 : Int)).toNat) : Int) n rows_2 (pN rows)) ∧ ∃ (rows_3 : List (List Int)), Ob (IsLst B x rows.length 1
  (Rv.elemOf [.i64] rows) ∧ rows_3.length = rows.length ∧ (∀ (r : List Int), r ∈ rows_3 → r.length = (1 : Nat)) ∧ ∀ (i : Nat), i < rows.length → Rv.elemOf [.i64] rows i = Rv.elemOf [.i64] rows_3 i) ∧ Ob (KeyOk (↑(a_2.D
  a_2.j) : Int) n rows_3 (pN rows)) ∧ Ob True ∧ ((if pR n rows_2 (↑(a_2.D ((↑a_2.j : Int) - (1 : Int)).toNat) : Int).toNat < pR n rows_3 (a_2.D a_2.j) then (-1 : Int) else if pR n rows_3 (a_2.D a_2.j) < pR n rows_2
  (↑(a_2.D ((↑a_2.j : Int) - (1 : Int)).toNat) : Int).toNat then (1 : Int) else (0 : Int)) < (0 : Int) → Ob (InR .i64 ((↑a_2.j : Int) - (1 : Int))) ∧ Ob (InR .i64 ((↑a_2.j : Int) - (1 : Int))) ∧ Ob ((0 : Int) ≤ (↑a_2.j :
  Int) - (1 : Int) ∧ ((↑a_2.j : Int) - (1 : Int)).toNat < rows.length) ∧ Ob (((↑a_2.j : Int) - (1 : Int)).toNat < rows.length) ∧ Ob ((0 : Int) ≤ (↑a_2.j : Int) ∧ a_2.j < rows.length) ∧ Ob (a_2.j < rows.length) ∧ Ob ((0 :
  Int) ≤ (↑a_2.j : Int) ∧ a_2.j < rows.length) ∧ Ob (a_2.j < rows.length ∧ ((El.fn fun (q : Nat) ↦ [SV.i .i64 (↑(a_2.D q) : Int)]).at a_2.j).length = (1 : Nat)) ∧ Ob (PlainE rows.length (updL (El.fn fun (q : Nat) ↦ [SV.i
  .i64 (↑(a_2.D q) : Int)]) a_2.j 0 [SV.i .i64 (↑(a_2.D ((↑a_2.j : Int) - (1 : Int)).toNat) : Int)])) ∧ Ob ((0 : Int) ≤ (↑a_2.j : Int) - (1 : Int) ∧ ((↑a_2.j : Int) - (1 : Int)).toNat < rows.length) ∧ Ob (((↑a_2.j : Int) -
  (1 : Int)).toNat < rows.length ∧ ((updL (El.fn fun (q : Nat) ↦ [SV.i .i64 (↑(a_2.D q) : Int)]) a_2.j 0 [SV.i .i64 (↑(a_2.D ((↑a_2.j : Int) - (1 : Int)).toNat) : Int)]).at ((↑a_2.j : Int) - (1 : Int)).toNat).length = (1 :
  Nat)) ∧ Ob (InR .i64 ((↑a_2.j : Int) - (1 : Int))) ∧ ∃ (a' : Jq), Ob (((↑a_1.a : Int) = (0 : Int) ∧ (0 : Int) ≤ (↑a_1.i : Int) ∧ Ins (pR n rows) a'.D a'.j a_1.i rows.length) ∧ a'.j < a_2.j) ∧ Ob (rows.length =
  rows.length) ∧ Ob ((↑a_1.a : Int) = (↑a_1.a : Int)) ∧ Ob ((↑rows.length : Int) = (↑rows.length : Int)) ∧ Ob ((↑a_1.i : Int) = (↑a_1.i : Int)) ∧ Ob ((↑a_2.j : Int) - (1 : Int) = (↑a'.j : Int)) ∧ Ob (rows.length =
  rows.length ∧ ∀ (i : Nat), i < rows.length → (updL (updL (El.fn fun (q : Nat) ↦ [SV.i .i64 (↑(a_2.D q) : Int)]) a_2.j 0 [SV.i .i64 (↑(a_2.D ((↑a_2.j : Int) - (1 : Int)).toNat) : Int)]) ((↑a_2.j : Int) - (1 : Int)).toNat
  0 [SV.i .i64 (↑(a_2.D a_2.j) : Int)]).at i = (El.fn fun (q : Nat) ↦ [SV.i .i64 (↑(a'.D q) : Int)]).at i) ∧ Ob (pN rows = pN rows) ∧ Ob (rows.length = rows.length ∧ ∀ (i : Nat), i < rows.length → (El.fn fun (i : Nat) ↦
  [SV.i .i64 (pF n rows rows.length i)]).at i = (El.fn fun (i : Nat) ↦ [SV.i .i64 (pF n rows rows.length i)]).at i) ∧ Ob (SV.lst x rows.length 1 (Rv.elemOf [.i64] rows) = SV.lst x rows.length 1 (Rv.elemOf [.i64] rows)) ∧
  Ob (n = n) ∧ Ob (PlainE rows.length (El.fn fun (q : Nat) ↦ [SV.i .i64 (↑(a'.D q) : Int)])) ∧ Ob (PlainE rows.length (El.fn fun (i : Nat) ↦ [SV.i .i64 (pF n rows rows.length i)])) ∧ Ob (IsLst B x rows.length 1 (Rv.elemOf
  [.i64] rows)) ∧ True) ∧ (¬(if pR n rows_2 (↑(a_2.D ((↑a_2.j : Int) - (1 : Int)).toNat) : Int).toNat < pR n rows_3 (a_2.D a_2.j) then (-1 : Int) else if pR n rows_3 (a_2.D a_2.j) < pR n rows_2 (↑(a_2.D ((↑a_2.j : Int) -
  (1 : Int)).toNat) : Int).toNat then (1 : Int) else (0 : Int)) < (0 : Int) → Ob (InR .i64 ((↑a_1.i : Int) + (1 : Int))) ∧ ∃ (a' : Iq), Ob (a'.Ok n rows ∧ rows.length - a'.i < rows.length - a_1.i) ∧ Ob (rows.length =
  rows.length) ∧ Ob ((↑a_1.a : Int) = (↑a'.a : Int)) ∧ Ob ((↑rows.length : Int) = (↑rows.length : Int)) ∧ Ob ((↑a_1.i : Int) + (1 : Int) = (↑a'.i : Int)) ∧ Ob (rows.length = rows.length ∧ ∀ (i : Nat), i < rows.length →
  (El.fn fun (q : Nat) ↦ [SV.i .i64 (↑(a_2.D q) : Int)]).at i = (El.fn fun (q : Nat) ↦ [SV.i .i64 (↑(a'.D q) : Int)]).at i) ∧ Ob (pN rows = pN rows) ∧ Ob (rows.length = rows.length ∧ ∀ (i : Nat), i < rows.length → (El.fn
  fun (i : Nat) ↦ [SV.i .i64 (pF n rows rows.length i)]).at i = (El.fn fun (i : Nat) ↦ [SV.i .i64 (pF n rows rows.length i)]).at i) ∧ Ob (SV.lst x rows.length 1 (Rv.elemOf [.i64] rows) = SV.lst x rows.length 1 (Rv.elemOf
  [.i64] rows)) ∧ Ob (n = n) ∧ Ob (PlainE rows.length (El.fn fun (q : Nat) ↦ [SV.i .i64 (↑(a'.D q) : Int)])) ∧ Ob (PlainE rows.length (El.fn fun (i : Nat) ↦ [SV.i .i64 (pF n rows rows.length i)])) ∧ Ob (IsLst B x
  rows.length 1 (Rv.elemOf [.i64] rows)) ∧ True)) ∧ (¬(↑a_1.a : Int) < (↑a_2.j : Int) → Ob (InR .i64 ((↑a_1.i : Int) + (1 : Int))) ∧ ∃ (a' : Iq), Ob (a'.Ok n rows ∧ rows.length - a'.i < rows.length - a_1.i) ∧ Ob
  (rows.length = rows.length) ∧ Ob ((↑a_1.a : Int) = (↑a'.a : Int)) ∧ Ob ((↑rows.length : Int) = (↑rows.length : Int)) ∧ Ob ((↑a_1.i : Int) + (1 : Int) = (↑a'.i : Int)) ∧ Ob (rows.length = rows.length ∧ ∀ (i : Nat), i <
  rows.length → (El.fn fun (q : Nat) ↦ [SV.i .i64 (↑(a_2.D q) : Int)]).at i = (El.fn fun (q : Nat) ↦ [SV.i .i64 (↑(a'.D q) : Int)]).at i) ∧ Ob (pN rows = pN rows) ∧ Ob (rows.length = rows.length ∧ ∀ (i : Nat), i <
  rows.length → (El.fn fun (i : Nat) ↦ [SV.i .i64 (pF n rows rows.length i)]).at i = (El.fn fun (i : Nat) ↦ [SV.i .i64 (pF n rows rows.length i)]).at i) ∧ Ob (SV.lst x rows.length 1 (Rv.elemOf [.i64] rows) = SV.lst x
  rows.length 1 (Rv.elemOf [.i64] rows)) ∧ Ob (n = n) ∧ Ob (PlainE rows.length (El.fn fun (q : Nat) ↦ [SV.i .i64 (↑(a'.D q) : Int)])) ∧ Ob (PlainE rows.length (El.fn fun (i : Nat) ↦ [SV.i .i64 (pF n rows rows.length i)]))
  ∧ Ob (IsLst B x rows.length 1 (Rv.elemOf [.i64] rows)) ∧ True)) ∧ (¬(↑a_1.i : Int) < (↑rows.length : Int) → ((20 : Int) < (↑rows.length : Int) → (Int.ofNat 40 ≤ (↑rows.length : Int) → False) ∧ (¬Int.ofNat 40 ≤
  (↑rows.length : Int) → (Int.ofNat 20 < (↑rows.length : Int) → False) ∧ (¬Int.ofNat 20 < (↑rows.length : Int) → False))) ∧ (¬(20 : Int) < (↑rows.length : Int) → ∃ (rows_2 : List (List Int)), Ob (rows.length = rows.length
  ∧ rows_2.length = rows.length ∧ (∀ (r : List Int), r ∈ rows_2 → r.length = (1 : Nat)) ∧ ∀ (i : Nat), i < rows.length → (El.fn fun (i : Nat) ↦ [SV.i .i64 (pF n rows rows.length i)]).at i = Rv.elemOf [.i64] rows_2 i) ∧ Ob
  (rows_2.length ≤ (1000 : Nat) ∧ ∀ (i : Nat), i < rows_2.length → (0 : Int) ≤ cell rows_2 i 0 ∧ cell rows_2 i 0 ≤ (2000000000 : Int)) ∧ Ob (InR .i64 (n - totTo rows_2 rows_2.length)) ∧ Ob (rows.length = rows.length ∧ (0 :
  Nat) < rows.length ∧ (0 : Int) ≤ n - totTo rows_2 rows_2.length ∧ (n - totTo rows_2 rows_2.length).toNat ≤ rows.length) ∧ (∃ (a_2 : Jq), Ob (a_2.j ≤ (pL n rows).toNat ∧ Rkd n rows a_2.D) ∧ Ob (SV.v (Value.slice none 0 0)
  = SV.v (Value.slice none 0 0)) ∧ Ob (rows.length = rows.length) ∧ Ob ((n - totTo rows_2 rows_2.length).toNat = (pL n rows).toNat) ∧ Ob ((↑(n - totTo rows_2 rows_2.length).toNat : Int) = (↑(pL n rows).toNat : Int)) ∧ Ob
  ((0 : Int) = (↑a_2.j : Int)) ∧ Ob (rows.length = rows.length ∧ ∀ (i : Nat), i < rows.length → (El.fn fun (q : Nat) ↦ [SV.i .i64 (↑(a_1.D q) : Int)]).at i = (El.fn fun (q : Nat) ↦ [SV.i .i64 (↑(a_2.D q) : Int)]).at i) ∧
  Ob (pN rows = pN rows) ∧ Ob (rows.length = rows.length ∧ ∀ (i : Nat), i < rows.length → (El.fn fun (i : Nat) ↦ [SV.i .i64 (pF n rows rows.length i)]).at i = (El.fn fun (i : Nat) ↦ [SV.i .i64 (pO n rows (↑a_2.j : Int)
  i)]).at i) ∧ Ob (SV.lst x rows.length 1 (Rv.elemOf [.i64] rows) = SV.lst x rows.length 1 (Rv.elemOf [.i64] rows)) ∧ Ob (n = n) ∧ Ob (PlainE rows.length (El.fn fun (q : Nat) ↦ [SV.i .i64 (↑(a_2.D q) : Int)])) ∧ Ob (PlainE
  rows.length (El.fn fun (i : Nat) ↦ [SV.i .i64 (pO n rows (↑a_2.j : Int) i)])) ∧ Ob (IsLst B x rows.length 1 (Rv.elemOf [.i64] rows)) ∧ True) ∧ ∀ (a_2 : Jq), a_2.j ≤ (pL n rows).toNat ∧ Rkd n rows a_2.D → ∀ (z_104 z_105
  z_106 z_107 z_108 z_109 z_110 z_111 z_112 z_113 z_114 z_115 z_116 z_117 z_118 z_119 z_120 z_121 z_122 z_123 z_124 z_125 z_126 z_127 z_128 z_129 z_130 z_131 z_132 z_133 z_134 z_135 z_136 z_137 z_138 z_139 z_140 z_141
  z_142 z_143 z_144 z_145 z_146 z_147 z_148 z_149 z_150 z_151 z_152 z_153 z_154 z_155 z_156 z_157 z_158 z_159 z_160 z_161 z_162 z_163 : Value), ((↑a_2.j : Int) < (↑(pL n rows).toNat : Int) → Ob ((0 : Int) ≤ (↑a_2.j : Int)
  ∧ a_2.j < (pL n rows).toNat) ∧ Ob (a_2.j < rows.length) ∧ Ob ((0 : Int) ≤ (↑(a_2.D a_2.j) : Int) ∧ a_2.D a_2.j < rows.length) ∧ Ob (a_2.D a_2.j < rows.length) ∧ Ob (InR .i64 (pO n rows (↑a_2.j : Int) (a_2.D a_2.j) + (1 :
  Int))) ∧ Ob ((0 : Int) ≤ (↑(a_2.D a_2.j) : Int) ∧ a_2.D a_2.j < rows.length) ∧ Ob (a_2.D a_2.j < rows.length ∧ ((El.fn fun (i : Nat) ↦ [SV.i .i64 (pO n rows (↑a_2.j : Int) i)]).at (a_2.D a_2.j)).length = (1 : Nat)) ∧ Ob
  (InR .i64 ((↑a_2.j : Int) + (1 : Int))) ∧ ∃ (a' : Jq), Ob ((a'.j ≤ (pL n rows).toNat ∧ Rkd n rows a'.D) ∧ (pL n rows).toNat - a'.j < (pL n rows).toNat - a_2.j) ∧ Ob (SV.v (Value.slice none 0 0) = SV.v (Value.slice none 0
  0)) ∧ Ob (rows.length = rows.length) ∧ Ob ((pL n rows).toNat = (pL n rows).toNat) ∧ Ob ((↑(pL n rows).toNat : Int) = (↑(pL n rows).toNat : Int)) ∧ Ob ((↑a_2.j : Int) + (1 : Int) = (↑a'.j : Int)) ∧ Ob (rows.length =
  rows.length ∧ ∀ (i : Nat), i < rows.length → (El.fn fun (q : Nat) ↦ [SV.i .i64 (↑(a_2.D q) : Int)]).at i = (El.fn fun (q : Nat) ↦ [SV.i .i64 (↑(a'.D q) : Int)]).at i) ∧ Ob (pN rows = pN rows) ∧ Ob (rows.length =
  rows.length ∧ ∀ (i : Nat), i < rows.length → (updL (El.fn fun (i : Nat) ↦ [SV.i .i64 (pO n rows (↑a_2.j : Int) i)]) (a_2.D a_2.j) 0 [SV.i .i64 (pO n rows (↑a_2.j : Int) (a_2.D a_2.j) + (1 : Int))]).at i = (El.fn fun (i :
  Nat) ↦ [SV.i .i64 (pO n rows (↑a'.j : Int) i)]).at i) ∧ Ob (SV.lst x rows.length 1 (Rv.elemOf [.i64] rows) = SV.lst x rows.length 1 (Rv.elemOf [.i64] rows)) ∧ Ob (n = n) ∧ Ob (PlainE rows.length (El.fn fun (q : Nat) ↦
  [SV.i .i64 (↑(a'.D q) : Int)])) ∧ Ob (PlainE rows.length (El.fn fun (i : Nat) ↦ [SV.i .i64 (pO n rows (↑a'.j : Int) i)])) ∧ Ob (IsLst B x rows.length 1 (Rv.elemOf [.i64] rows)) ∧ True) ∧ (¬(↑a_2.j : Int) < (↑(pL n
  rows).toNat : Int) → Ob (rows.length = rows.length) ∧ Ob (rows.length = rows.length ∧ ∀ (i : Nat), i < rows.length → (El.fn fun (i : Nat) ↦ [SV.i .i64 (pO n rows (↑a_2.j : Int) i)]).at i = (El.fn fun (i : Nat) ↦ [SV.i
  .i64 (pS n rows i)]).at i) ∧ Ob (PlainE rows.length (El.fn fun (i : Nat) ↦ [SV.i .i64 (pS n rows i)])) ∧ True))))))

set_option linter.unusedSimpArgs false in
set_option maxRecDepth 4000 in
set_option maxHeartbeats 2000000 in
theorem v_shareT : V_shareT := by
  unfold V_shareT
  intro B d x L hx hox hrx hok
  have hok : PrtOk d L := hok
  have hl := hok.l
  have hc := hok.c
  have hd := hok.d
  have tb : ∀ k, k ≤ L.length → 0 ≤ totTo L k ∧ totTo L k ≤ k * 10000 := fun k hk => tot_bd fun i hi => hc i (by omega)
  simp only [Ob_iff, and_true, true_and, implies_true, true_implies, not_true_eq_false, false_implies, forall_const]
  refine ⟨hox, hx, ⟨by omega, by omega⟩, L, ⟨hx, rfl, hrx, fun _ _ => rfl⟩, ⟨by omega, fun i hi => by have := hc i hi; omega⟩, fun h0 => ⟨fun i _ => ?_, plain_fnD _ _⟩, fun h0 => ?_⟩
  · have e : pS d L i = 0 := by
      unfold pS shr pN
      rw [if_pos h0]
    show [SV.i .i64 0] = [SV.i .i64 (pS d L i)]
    rw [e]
  have h0 : pN L ≠ 0 := h0
  have sh := hok.sh h0
  have hN : 0 < pN L := sh.p
  have hn : 0 < L.length := by
    apply Classical.byContradiction
    intro h
    have e : L.length = 0 := by omega
    apply h0
    unfold pN
    rw [e]
    rfl
  refine ⟨hx, ⟨by omega, by omega⟩, hx, ⟨0, Nat.zero_le _, rfl, fun i _ => ?_, rfl, fun i _ => ?_, hx, plain_fnD _ _, plain_fnD _ _, hx⟩, ?_⟩
  · show [SV.i .i64 0] = [SV.i .i64 (odF 0 i)]
    simp [odF]
  · show [SV.i .i64 0] = [SV.i .i64 (pF d L 0 i)]
    simp [pF]
  intro k hk
  refine ⟨fun h => ?_, fun h => ?_⟩
  · have hk' : k < L.length := by omega
    have c := pFl_bd hok h0 hk'
    have e : (d * cell L k 0).tdiv (pN L) = pFl d L k := by rw [Int.tdiv_eq_ediv_of_nonneg c.2.2.1]; rfl
    rw [e]
    exact ⟨⟨by omega, hk', hx⟩, ⟨hx, hk'⟩, by simp only [InR]; omega, ⟨hN, by simp only [InR]; omega⟩, ⟨by omega, hk'⟩, ⟨hk', rfl⟩, ⟨by omega, hk'⟩, ⟨hk', rfl⟩, by simp only [InR]; omega, k + 1, ⟨hk', by omega⟩, by omega, fun i _ => odF_upd k i, fun i _ => pF_upd d L k i, hx, plain_fnD _ _, plain_fnD _ _, hx⟩
  have ek : k = L.length := by omega
  subst ek
  clear h hk
  have hod : ∀ i, i < L.length → (El.fn fun i => [SV.i .i64 (odF L.length i)]).at i = (El.fn fun q => [SV.i .i64 (((fun q => q) q : Nat) : Int)]).at i := fun i hi => by
    show [SV.i .i64 (odF L.length i)] = [SV.i .i64 (i : Int)]
    unfold odF
    rw [if_pos hi]
  refine ⟨fun h20 => ?_, fun h20 => ?_⟩
  · have e20 : L.length = 20 := by omega
    refine ⟨⟨⟨0, 1, fun q => q⟩, .inl ⟨rfl, Nat.le_refl _, hn, srt_one _ _⟩, rfl, by omega, rfl, hod, fun _ _ => rfl, plain_fnD _ _, plain_fnD _ _, hx⟩, ?_⟩
    intro v hvv
    refine ⟨fun h1 => ?_, fun h1 => ?_⟩
    · obtain ⟨ha, hi1, hi2, hs⟩ := hvv.one h1
      refine ⟨⟨⟨v.i, v.D⟩, ⟨by omega, by omega, hs.ins (by omega)⟩, rfl, fun _ _ => rfl, plain_fnD _ _, plain_fnD _ _, hx⟩, ?_⟩
      intro uv ⟨hu1, hu2, hu⟩
      have hj1 := hu.ji
      have hj2 := hu.inn
      refine ⟨fun h2 => ?_, fun h2 => ?_⟩
      · have hj : 0 < uv.j := by omega
        have et : ((uv.j : Int) - 1).toNat = uv.j - 1 := by omega
        have l1 := hu.lo (uv.j - 1) (by omega) (by omega)
        have l2 := hu.pl
        simp only [et, cmp_neg, Int.toNat_natCast]
        refine ⟨⟨by omega, by omega⟩, by omega, by simp only [InR]; omega, ⟨by omega, by omega⟩, by omega, L, ⟨hx, rfl, hrx, fun _ _ => rfl⟩, ⟨hok, rfl, h0, by omega, by rw [Int.toNat_natCast]; omega⟩, L, ⟨hx, rfl, hrx, fun _ _ => rfl⟩, ⟨hok, rfl, h0, by omega, by rw [Int.toNat_natCast]; omega⟩, fun h3 => ?_, fun h3 => ?_⟩
        · have st := hu.step hj (by rw [l2] at h3; exact h3)
          exact ⟨by simp only [InR]; omega, by simp only [InR]; omega, ⟨by omega, by omega⟩, by omega, ⟨by omega, by omega⟩, by omega, ⟨by omega, by omega⟩, ⟨by omega, rfl⟩, plain_up _ _ _ _, ⟨by omega, by omega⟩, ⟨by omega, up_len _ _ _ _⟩, by simp only [InR]; omega, ⟨uv.j - 1, swp uv.D uv.j⟩, ⟨⟨by omega, by omega, st⟩, by show uv.j - 1 < uv.j; omega⟩, by show (uv.j : Int) - 1 = ((uv.j - 1 : Nat) : Int); omega, fun i _ => swp_upd hj i, plain_fnD _ _, plain_fnD _ _, hx⟩
        · have st := hu.done (.inr (by rw [l2] at h3; exact h3))
          exact ⟨by simp only [InR]; omega, ⟨0, v.i + 1, uv.D⟩, ⟨.inl ⟨rfl, by show 1 ≤ v.i + 1; omega, by show v.i + 1 ≤ L.length; omega, st⟩, by show L.length - (v.i + 1) < L.length - v.i; omega⟩, by show (v.a : Int) = ((0 : Nat) : Int); omega, rfl, fun _ _ => rfl, plain_fnD _ _, plain_fnD _ _, hx⟩
      · have st := hu.done (.inl (by omega))
        exact ⟨by simp only [InR]; omega, ⟨0, v.i + 1, uv.D⟩, ⟨.inl ⟨rfl, by show 1 ≤ v.i + 1; omega, by show v.i + 1 ≤ L.length; omega, st⟩, by show L.length - (v.i + 1) < L.length - v.i; omega⟩, by show (v.a : Int) = ((0 : Nat) : Int); omega, rfl, fun _ _ => rfl, plain_fnD _ _, plain_fnD _ _, hx⟩
    have hsv := hvv.all h1
    refine ⟨fun h40 => absurd h40 (by show ¬ ((40 : Nat) : Int) ≤ _; omega), fun _ => ⟨⟨⟨20, 21, v.D⟩, .inr ⟨rfl, e20, rfl, hsv⟩, rfl, rfl, fun _ _ => rfl, plain_fnD _ _, plain_fnD _ _, hx⟩, ?_⟩⟩
    intro t hvt
    refine ⟨fun h1 => ?_, fun h1 => ?_⟩
    · obtain ⟨ha, hi1, hi2, hs⟩ := hvt.one h1
      refine ⟨⟨⟨t.i, t.D⟩, ⟨by omega, by omega, hs.ins (by omega)⟩, rfl, fun _ _ => rfl, plain_fnD _ _, plain_fnD _ _, hx⟩, ?_⟩
      intro ut ⟨hu1, hu2, hu⟩
      have hj1 := hu.ji
      have hj2 := hu.inn
      refine ⟨fun h2 => ?_, fun h2 => ?_⟩
      · have hj : 0 < ut.j := by omega
        have et : ((ut.j : Int) - 1).toNat = ut.j - 1 := by omega
        have l1 := hu.lo (ut.j - 1) (by omega) (by omega)
        have l2 := hu.pl
        simp only [et, cmp_neg, Int.toNat_natCast]
        refine ⟨⟨by omega, by omega⟩, by omega, by simp only [InR]; omega, ⟨by omega, by omega⟩, by omega, L, ⟨hx, rfl, hrx, fun _ _ => rfl⟩, ⟨hok, rfl, h0, by omega, by rw [Int.toNat_natCast]; omega⟩, L, ⟨hx, rfl, hrx, fun _ _ => rfl⟩, ⟨hok, rfl, h0, by omega, by rw [Int.toNat_natCast]; omega⟩, fun h3 => ?_, fun h3 => ?_⟩
        · have st := hu.step hj (by rw [l2] at h3; exact h3)
          exact ⟨by simp only [InR]; omega, by simp only [InR]; omega, ⟨by omega, by omega⟩, by omega, ⟨by omega, by omega⟩, by omega, ⟨by omega, by omega⟩, ⟨by omega, rfl⟩, plain_up _ _ _ _, ⟨by omega, by omega⟩, ⟨by omega, up_len _ _ _ _⟩, by simp only [InR]; omega, ⟨ut.j - 1, swp ut.D ut.j⟩, ⟨⟨by omega, by omega, st⟩, by show ut.j - 1 < ut.j; omega⟩, by show (ut.j : Int) - 1 = ((ut.j - 1 : Nat) : Int); omega, fun i _ => swp_upd hj i, plain_fnD _ _, plain_fnD _ _, hx⟩
        · have st := hu.done (.inr (by rw [l2] at h3; exact h3))
          exact ⟨by simp only [InR]; omega, ⟨0, t.i + 1, ut.D⟩, ⟨.inl ⟨rfl, by show 1 ≤ t.i + 1; omega, by show t.i + 1 ≤ L.length; omega, st⟩, by show L.length - (t.i + 1) < L.length - t.i; omega⟩, by show (t.a : Int) = ((0 : Nat) : Int); omega, rfl, fun _ _ => rfl, plain_fnD _ _, plain_fnD _ _, hx⟩
      · have st := hu.done (.inl (by omega))
        exact ⟨by simp only [InR]; omega, ⟨0, t.i + 1, ut.D⟩, ⟨.inl ⟨rfl, by show 1 ≤ t.i + 1; omega, by show t.i + 1 ≤ L.length; omega, st⟩, by show L.length - (t.i + 1) < L.length - t.i; omega⟩, by show (t.a : Int) = ((0 : Nat) : Int); omega, rfl, fun _ _ => rfl, plain_fnD _ _, plain_fnD _ _, hx⟩
    have hst := hvt.all h1
    refine ⟨fun h => absurd h (by omega), fun _ => ?_⟩
    have etot : d - totTo (flR d L) (flR d L).length = pL d L := by
      rw [flR_len, flR_tot d L _ (Nat.le_refl _)]
      rfl
    have lb : 0 ≤ pL d L := sh.lefB.1
    have ll : pL d L ≤ L.length := sh.lt
    refine ⟨flR d L, ⟨flR_len d L, flR_row d L, fun i hi => ?_⟩, ⟨by rw [flR_len]; omega, fun i hi => ?_⟩, ?_⟩
    · show [SV.i .i64 (pF d L L.length i)] = [SV.i .i64 (cell (flR d L) i 0)]
      rw [flR_cell d L hi]
      unfold pF
      rw [if_pos hi]
    · rw [flR_len] at hi
      rw [flR_cell d L hi]
      have := pFl_bd hok h0 hi
      omega
    rw [etot]
    refine ⟨by simp only [InR]; omega, ⟨hn, lb, by omega⟩, ⟨⟨0, t.D⟩, ⟨Nat.zero_le _, hst.rkd⟩, rfl, rfl, rfl, fun _ _ => rfl, fun i hi => ?_, plain_fnD _ _, plain_fnD _ _, hx⟩, ?_⟩
    · show [SV.i .i64 (pF d L L.length i)] = [SV.i .i64 (pO d L ((0 : Nat) : Int) i)]
      have := pK_nn d L i
      unfold pF pO
      rw [if_pos hi, if_neg (by omega)]
      simp
    intro y ⟨hy1, hy2⟩
    refine ⟨fun h5 => ?_, fun h5 => ?_⟩
    · have hj : y.j < L.length := by omega
      obtain ⟨hD, hK⟩ := hy2 y.j hj
      have cb := pFl_bd hok h0 hD
      have ob : 0 ≤ pO d L (y.j : Int) (y.D y.j) ∧ pO d L (y.j : Int) (y.D y.j) ≤ 2000000001 := by
        unfold pO
        split <;> omega
      have es : ((y.j + 1 : Nat) : Int) = (y.j : Int) + 1 := by omega
      exact ⟨⟨by omega, by omega⟩, by omega, ⟨by omega, hD⟩, hD, by simp only [InR]; omega, ⟨by omega, hD⟩, ⟨hD, rfl⟩, by simp only [InR]; omega, ⟨y.j + 1, y.D⟩, ⟨⟨by show y.j + 1 ≤ (pL d L).toNat; omega, hy2⟩, by show (pL d L).toNat - (y.j + 1) < (pL d L).toNat - y.j; omega⟩, es.symm, fun _ _ => rfl, fun i hi => by rw [es]; exact pO_upd hD hi hK, plain_fnD _ _, plain_fnD _ _, hx⟩
    have ej : (y.j : Int) = pL d L := by omega
    rw [ej]
    refine ⟨fun i hi => ?_, plain_fnD _ _⟩
    show [SV.i .i64 (pO d L (pL d L) i)] = [SV.i .i64 (pS d L i)]
    have : pO d L (pL d L) i = pS d L i := by
      unfold pO pS shr
      rw [if_neg h0]
      rfl
    rw [this]
  
  · refine ⟨⟨⟨0, 1, fun q => q⟩, .inl ⟨rfl, Nat.le_refl _, hn, srt_one _ _⟩, rfl, rfl, hod, fun _ _ => rfl, plain_fnD _ _, plain_fnD _ _, hx⟩, ?_⟩
    intro v hvv
    refine ⟨fun h1 => ?_, fun h1 => ?_⟩
    · obtain ⟨ha, hi1, hi2, hs⟩ := hvv.one h1
      refine ⟨⟨⟨v.i, v.D⟩, ⟨by omega, by omega, hs.ins (by omega)⟩, rfl, fun _ _ => rfl, plain_fnD _ _, plain_fnD _ _, hx⟩, ?_⟩
      intro uv ⟨hu1, hu2, hu⟩
      have hj1 := hu.ji
      have hj2 := hu.inn
      refine ⟨fun h2 => ?_, fun h2 => ?_⟩
      · have hj : 0 < uv.j := by omega
        have et : ((uv.j : Int) - 1).toNat = uv.j - 1 := by omega
        have l1 := hu.lo (uv.j - 1) (by omega) (by omega)
        have l2 := hu.pl
        simp only [et, cmp_neg, Int.toNat_natCast]
        refine ⟨⟨by omega, by omega⟩, by omega, by simp only [InR]; omega, ⟨by omega, by omega⟩, by omega, L, ⟨hx, rfl, hrx, fun _ _ => rfl⟩, ⟨hok, rfl, h0, by omega, by rw [Int.toNat_natCast]; omega⟩, L, ⟨hx, rfl, hrx, fun _ _ => rfl⟩, ⟨hok, rfl, h0, by omega, by rw [Int.toNat_natCast]; omega⟩, fun h3 => ?_, fun h3 => ?_⟩
        · have st := hu.step hj (by rw [l2] at h3; exact h3)
          exact ⟨by simp only [InR]; omega, by simp only [InR]; omega, ⟨by omega, by omega⟩, by omega, ⟨by omega, by omega⟩, by omega, ⟨by omega, by omega⟩, ⟨by omega, rfl⟩, plain_up _ _ _ _, ⟨by omega, by omega⟩, ⟨by omega, up_len _ _ _ _⟩, by simp only [InR]; omega, ⟨uv.j - 1, swp uv.D uv.j⟩, ⟨⟨by omega, by omega, st⟩, by show uv.j - 1 < uv.j; omega⟩, by show (uv.j : Int) - 1 = ((uv.j - 1 : Nat) : Int); omega, fun i _ => swp_upd hj i, plain_fnD _ _, plain_fnD _ _, hx⟩
        · have st := hu.done (.inr (by rw [l2] at h3; exact h3))
          exact ⟨by simp only [InR]; omega, ⟨0, v.i + 1, uv.D⟩, ⟨.inl ⟨rfl, by show 1 ≤ v.i + 1; omega, by show v.i + 1 ≤ L.length; omega, st⟩, by show L.length - (v.i + 1) < L.length - v.i; omega⟩, by show (v.a : Int) = ((0 : Nat) : Int); omega, rfl, fun _ _ => rfl, plain_fnD _ _, plain_fnD _ _, hx⟩
      · have st := hu.done (.inl (by omega))
        exact ⟨by simp only [InR]; omega, ⟨0, v.i + 1, uv.D⟩, ⟨.inl ⟨rfl, by show 1 ≤ v.i + 1; omega, by show v.i + 1 ≤ L.length; omega, st⟩, by show L.length - (v.i + 1) < L.length - v.i; omega⟩, by show (v.a : Int) = ((0 : Nat) : Int); omega, rfl, fun _ _ => rfl, plain_fnD _ _, plain_fnD _ _, hx⟩
    have hsv := hvv.all h1
    refine ⟨fun h => absurd h (by omega), fun _ => ?_⟩
    have etot : d - totTo (flR d L) (flR d L).length = pL d L := by
      rw [flR_len, flR_tot d L _ (Nat.le_refl _)]
      rfl
    have lb : 0 ≤ pL d L := sh.lefB.1
    have ll : pL d L ≤ L.length := sh.lt
    refine ⟨flR d L, ⟨flR_len d L, flR_row d L, fun i hi => ?_⟩, ⟨by rw [flR_len]; omega, fun i hi => ?_⟩, ?_⟩
    · show [SV.i .i64 (pF d L L.length i)] = [SV.i .i64 (cell (flR d L) i 0)]
      rw [flR_cell d L hi]
      unfold pF
      rw [if_pos hi]
    · rw [flR_len] at hi
      rw [flR_cell d L hi]
      have := pFl_bd hok h0 hi
      omega
    rw [etot]
    refine ⟨by simp only [InR]; omega, ⟨hn, lb, by omega⟩, ⟨⟨0, v.D⟩, ⟨Nat.zero_le _, hsv.rkd⟩, rfl, rfl, rfl, fun _ _ => rfl, fun i hi => ?_, plain_fnD _ _, plain_fnD _ _, hx⟩, ?_⟩
    · show [SV.i .i64 (pF d L L.length i)] = [SV.i .i64 (pO d L ((0 : Nat) : Int) i)]
      have := pK_nn d L i
      unfold pF pO
      rw [if_pos hi, if_neg (by omega)]
      simp
    intro y ⟨hy1, hy2⟩
    refine ⟨fun h5 => ?_, fun h5 => ?_⟩
    · have hj : y.j < L.length := by omega
      obtain ⟨hD, hK⟩ := hy2 y.j hj
      have cb := pFl_bd hok h0 hD
      have ob : 0 ≤ pO d L (y.j : Int) (y.D y.j) ∧ pO d L (y.j : Int) (y.D y.j) ≤ 2000000001 := by
        unfold pO
        split <;> omega
      have es : ((y.j + 1 : Nat) : Int) = (y.j : Int) + 1 := by omega
      exact ⟨⟨by omega, by omega⟩, by omega, ⟨by omega, hD⟩, hD, by simp only [InR]; omega, ⟨by omega, hD⟩, ⟨hD, rfl⟩, by simp only [InR]; omega, ⟨y.j + 1, y.D⟩, ⟨⟨by show y.j + 1 ≤ (pL d L).toNat; omega, hy2⟩, by show (pL d L).toNat - (y.j + 1) < (pL d L).toNat - y.j; omega⟩, es.symm, fun _ _ => rfl, fun i hi => by rw [es]; exact pO_upd hD hi hK, plain_fnD _ _, plain_fnD _ _, hx⟩
    have ej : (y.j : Int) = pL d L := by omega
    rw [ej]
    refine ⟨fun i hi => ?_, plain_fnD _ _⟩
    show [SV.i .i64 (pO d L (pL d L) i)] = [SV.i .i64 (pS d L i)]
    have : pO d L (pL d L) i = pS d L i := by
      unfold pO pS shr
      rw [if_neg h0]
      rfl
    rw [this]

theorem e_shareT : V_shareT = needEI P [F_sumT, F_key, F_cmp] [] I_shareT A_shareT F_shareT := by kernel_rfl

theorem n_shareT : Ob (needEI P [F_sumT, F_key, F_cmp] [] I_shareT A_shareT F_shareT) := by
  rw [← e_shareT]
  exact ⟨v_shareT⟩

theorem b_shareT : ((P.funcs[15]?).any fun fn => fn.body.isSome) = true := by kernel_rfl

theorem shareT_ok : FnE.Ok P F_shareT := FnE.okI named (l := [F_sumT, F_key, F_cmp]) (es := []) (I := I_shareT) (A := A_shareT) (by rfl) (by rfl) (by rfl) (by
  intro F h
  simp only [List.mem_cons, List.not_mem_nil, or_false] at h
  rcases h with rfl | rfl | rfl
  · exact sumT_ok
  · exact key_ok
  · exact cmp_ok
) (by
  intro F h; simp at h) b_shareT (by
  intro ds h o ho n sz e k z he
  subst he
  simp only [F_shareT] at ho
  split at ho
  · simp only [List.mem_cons, List.not_mem_nil, or_false, SObj.gr.injEq] at ho
    obtain ⟨rfl, rfl, rfl, rfl, rfl⟩ := ho
    exact plain_fnD _ _
  · simp at ho) n_shareT

end Go.Proofs.Ythgpjpjflgeokaa.Sy
