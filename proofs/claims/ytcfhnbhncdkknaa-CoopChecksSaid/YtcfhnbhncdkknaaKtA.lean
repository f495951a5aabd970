/- Copies and comparisons of lists; sums. -/
import Derived.Test.YtcfhnbhncdkknaaSyP2
import Derived.Test.YtcfhnbhncdkknaaGrM
import Derived.Test.YtcfhnbhncdkknaaKtT
import Derived.Test.YtcfhnbhncdkknaaSyP2
import Derived.KernelRfl
import Derived.Test.YtcfhnbhncdkknaaProg
namespace Go.Proofs.Ytcfhnbhncdkknaa.Sy
open Go Go.Rv
set_option linter.unusedVariables false

def eqRow (L M : Rows) (i : Nat) : Nat → Prop
  | 0 => True
  | c + 1 => eqRow L M i c ∧ cell L i c = cell M i c
/-- as many rows, and the first ones are equal -/
def samTo (w : Nat) (L M : Rows) (k : Nat) : Prop := L.length = M.length ∧ ∀ i, i < k → eqRow L M i w
theorem sam_zero (w : Nat) (L M : Rows) : samTo w L M 0 ↔ L.length = M.length := ⟨fun h => h.1, fun h => ⟨h, fun i hi => absurd hi (Nat.not_lt_zero i)⟩⟩
theorem sam_succ {w : Nat} {L M : Rows} {k : Nat} (h : samTo w L M k) : samTo w L M (k + 1) ↔ eqRow L M k w := by
  constructor
  · intro h2
    exact h2.2 k (by omega)
  · intro h2
    refine ⟨h.1, fun i hi => ?_⟩
    by_cases e : i = k
    · subst e; exact h2
    · exact h.2 i (by omega)
theorem sam_stop {w : Nat} {L M : Rows} {k n : Nat} (hk : k ≤ n) (h : ¬ samTo w L M k) : ¬ samTo w L M n := fun h2 => h ⟨h2.1, fun i hi => h2.2 i (by omega)⟩
theorem sam_self (w : Nat) (L : Rows) (n : Nat) : samTo w L L n := by
  refine ⟨rfl, fun i _ => ?_⟩
  induction w with
  | zero => trivial
  | succ w ih => exact ⟨ih, rfl⟩
theorem row1 (L M : Rows) (k : Nat) : eqRow L M k 1 ↔ cell L k 0 = cell M k 0 := ⟨fun h => h.2, fun h => ⟨trivial, h⟩⟩
theorem row3c (L M : Rows) (k : Nat) : eqRow L M k 3 ↔ (cell L k 0 = cell M k 0 ∧ cell L k 1 = cell M k 1 ∧ cell L k 2 = cell M k 2) := ⟨fun h => ⟨h.1.1.2, h.1.2, h.2⟩, fun h => ⟨⟨⟨trivial, h.1⟩, h.2.1⟩, h.2.2⟩⟩
def totTo (L : Rows) : Nat → Int
  | 0 => 0
  | k + 1 => totTo L k + cell L k 0
noncomputable def F_SameClaims : Fn0 := ⟨33, [.one (.l [.i64, .i64, .i64]), .one (.l [.i64, .i64, .i64])], fun l => match l with | [.l R, .l S] => R.length ≤ 4000000 ∧ S.length ≤ 4000000 | _ => False, fun l => match l with | [.l R, .l S] => .p (samTo 3 R S R.length) | _ => .v undef⟩
noncomputable def A_SameClaims : List SV → List Dat → Nat → List SV → Ann := fun xs ds n ts => match xs with
  | [.lst x _ _ _, .lst y _ _ _] => match ds with
    | [.l R, .l S] => match n with
      | 3 => ⟨Nat, fun k => [some (SV.lst x R.length ((3 : Nat)) (Rv.elemOf [IntKind.i64, IntKind.i64, IntKind.i64] R)), some (SV.lst y S.length ((3 : Nat)) (Rv.elemOf [IntKind.i64, IntKind.i64, IntKind.i64] S)), none, none, some (SV.v (Value.bool false)), some (.p (samTo 3 R S k)), some (.i .i64 k), none, none, none, none, none, none, none, none, none, none, none, none, none, none, none, none, none, none, none, none, none, none, none, none], fun k => [], fun k => k ≤ R.length, fun k => R.length - k, 0⟩
      | _ => noAnn
    | _ => noAnn
  | _ => noAnn

def V_SameClaims : Prop :=
  ∀ (B : RW) (x : RV) (rows : List (List Int)), IsLst B x rows.length 3 (Rv.elemOf [.i64, .i64, .i64] rows) → oneB x = true → (∀ (row : List Int), row ∈ rows → row.length = (3 : Nat)) → ∀ (x_1 : RV) (rows_1 : List (List
  Int)), IsLst B x_1 rows_1.length 3 (Rv.elemOf [.i64, .i64, .i64] rows_1) → oneB x_1 = true → (∀ (row : List Int), row ∈ rows_1 → row.length = (3 : Nat)) → rows.length ≤ (4000000 : Nat) ∧ rows_1.length ≤ (4000000 : Nat) →
  Ob (IsLst B x rows.length 3 (Rv.elemOf [.i64, .i64, .i64] rows)) ∧ Ob (IsLst B x_1 rows_1.length 3 (Rv.elemOf [.i64, .i64, .i64] rows_1)) ∧ (∃ (a : Nat), Ob (a ≤ rows.length) ∧ Ob (SV.lst x rows.length 3 (Rv.elemOf
  [.i64, .i64, .i64] rows) = SV.lst x rows.length 3 (Rv.elemOf [.i64, .i64, .i64] rows)) ∧ Ob (SV.lst x_1 rows_1.length 3 (Rv.elemOf [.i64, .i64, .i64] rows_1) = SV.lst x_1 rows_1.length 3 (Rv.elemOf [.i64, .i64, .i64]
  rows_1)) ∧ Ob (SV.v (Value.bool false) = SV.v (Value.bool false)) ∧ Ob ((↑rows.length : Int) = (↑rows_1.length : Int) ↔ samTo 3 rows rows_1 a) ∧ Ob ((0 : Int) = (↑a : Int)) ∧ Ob (IsLst B x rows.length 3 (Rv.elemOf [.i64,
  .i64, .i64] rows)) ∧ Ob (IsLst B x_1 rows_1.length 3 (Rv.elemOf [.i64, .i64, .i64] rows_1)) ∧ True) ∧ ∀ (a : Nat), a ≤ rows.length → ∀ (z z_1 z_2 z_3 z_4 z_5 z_6 z_7 z_8 z_9 z_10 z_11 z_12 z_13 z_14 z_15 z_16 z_17 z_18
  z_19 z_20 z_21 z_22 z_23 z_24 z_25 : Value), (samTo 3 rows rows_1 a → Ob (IsLst B x rows.length 3 (Rv.elemOf [.i64, .i64, .i64] rows)) ∧ ((↑a : Int) < (↑rows.length : Int) → Ob (IsLst B x rows.length 3 (Rv.elemOf [.i64,
  .i64, .i64] rows)) ∧ Ob ((0 : Int) ≤ (↑a : Int) ∧ a < rows.length ∧ IsLst B x rows.length 3 (Rv.elemOf [.i64, .i64, .i64] rows)) ∧ Ob (IsLst B x rows.length 3 (Rv.elemOf [.i64, .i64, .i64] rows) ∧ a < rows.length) ∧ Ob
  (IsLst B x rows.length 3 (Rv.elemOf [.i64, .i64, .i64] rows) ∧ a < rows.length) ∧ Ob (IsLst B x_1 rows_1.length 3 (Rv.elemOf [.i64, .i64, .i64] rows_1)) ∧ Ob ((0 : Int) ≤ (↑a : Int) ∧ a < rows_1.length ∧ IsLst B x_1
  rows_1.length 3 (Rv.elemOf [.i64, .i64, .i64] rows_1)) ∧ Ob (IsLst B x_1 rows_1.length 3 (Rv.elemOf [.i64, .i64, .i64] rows_1) ∧ a < rows_1.length) ∧ Ob (IsLst B x_1 rows_1.length 3 (Rv.elemOf [.i64, .i64, .i64] rows_1)
  ∧ a < rows_1.length) ∧ Ob (InR .i64 ((↑a : Int) + (1 : Int))) ∧ ∃ (a' : Nat), Ob (a' ≤ rows.length ∧ rows.length - a' < rows.length - a) ∧ Ob (SV.lst x rows.length 3 (Rv.elemOf [.i64, .i64, .i64] rows) = SV.lst x
  rows.length 3 (Rv.elemOf [.i64, .i64, .i64] rows)) ∧ Ob (SV.lst x_1 rows_1.length 3 (Rv.elemOf [.i64, .i64, .i64] rows_1) = SV.lst x_1 rows_1.length 3 (Rv.elemOf [.i64, .i64, .i64] rows_1)) ∧ Ob (SV.v (Value.bool false)
  = SV.v (Value.bool false)) ∧ Ob (cell rows a 0 = cell rows_1 a 0 ∧ cell rows a 1 = cell rows_1 a 1 ∧ cell rows a 2 = cell rows_1 a 2 ∧ True ↔ samTo 3 rows rows_1 a') ∧ Ob ((↑a : Int) + (1 : Int) = (↑a' : Int)) ∧ Ob
  (IsLst B x rows.length 3 (Rv.elemOf [.i64, .i64, .i64] rows)) ∧ Ob (IsLst B x_1 rows_1.length 3 (Rv.elemOf [.i64, .i64, .i64] rows_1)) ∧ True) ∧ (¬(↑a : Int) < (↑rows.length : Int) → Ob (samTo 3 rows rows_1 a ↔ samTo 3
  rows rows_1 rows.length) ∧ True)) ∧ (¬samTo 3 rows rows_1 a → Ob (samTo 3 rows rows_1 a ↔ samTo 3 rows rows_1 rows.length) ∧ True)

set_option linter.unusedSimpArgs false in
set_option maxRecDepth 4000 in
set_option maxHeartbeats 400000 in
theorem v_SameClaims : V_SameClaims := by
  unfold V_SameClaims
  intro B x R hx hox hrx y S hy hoy hry ⟨hR, hS⟩
  simp only [Ob_iff, and_true, true_and, InR]
  have z0 := sam_zero 3 R S
  have body : ∀ k, k ≤ R.length → samTo 3 R S k → (k : Int) < (R.length : Int) → k < S.length := fun k h1 h2 h3 => by
    have := h2.1
    omega
  have e0 : ∀ k, k ≤ R.length → ¬ samTo 3 R S k → (samTo 3 R S k ↔ samTo 3 R S R.length) := fun k h1 h2 => ⟨fun h => absurd h h2, fun h => absurd h (sam_stop h1 h2)⟩
  have e1 : ∀ k, k ≤ R.length → ¬ (k : Int) < (R.length : Int) → (samTo 3 R S k ↔ samTo 3 R S R.length) := fun k h1 h2 => by
    have e : k = R.length := by omega
    subst e
    exact Iff.rfl
  refine ⟨hx, hy, ⟨0, ?_⟩, ?_⟩
  · rw [z0]
    repeat' (with_reducible apply And.intro)
    all_goals first | exact hx | exact hy | omega | trivial
  intro k hk
  intros
  refine ⟨fun h3 => ⟨hx, fun h4 => ?_, fun h4 => e1 k hk h4⟩, fun h3 => e0 k hk h3⟩
  have hkR : k < R.length := by omega
  have hkS := body k hk h3 h4
  have nx := (sam_succ h3).trans (row3c R S k)
  repeat' (with_reducible apply And.intro)
  all_goals first | exact hx | exact hy | exact hkR | exact hkS | omega | skip
  refine ⟨k + 1, ?_⟩
  repeat' (with_reducible apply And.intro)
  all_goals first | exact hx | exact hy | exact nx.symm | omega | trivial

noncomputable def F_SameInts : Fn0 := ⟨20, [.one (.l [.i64]), .one (.l [.i64])], fun l => match l with | [.l R, .l S] => R.length ≤ 4000000 ∧ S.length ≤ 4000000 | _ => False, fun l => match l with | [.l R, .l S] => .p (samTo 1 R S R.length) | _ => .v undef⟩
noncomputable def A_SameInts : List SV → List Dat → Nat → List SV → Ann := fun xs ds n ts => match xs with
  | [.lst x _ _ _, .lst y _ _ _] => match ds with
    | [.l R, .l S] => match n with
      | 3 => ⟨Nat, fun k => [some (SV.lst x R.length ((1 : Nat)) (Rv.elemOf [IntKind.i64] R)), some (SV.lst y S.length ((1 : Nat)) (Rv.elemOf [IntKind.i64] S)), none, none, some (SV.v (Value.bool false)), some (.p (samTo 1 R S k)), some (.i .i64 k), none, none, none, none, none, none, none, none, none, none, none, none, none, none, none, none, none, none, none, none, none, none, none, none], fun k => [], fun k => k ≤ R.length, fun k => R.length - k, 0⟩
      | _ => noAnn
    | _ => noAnn
  | _ => noAnn

def V_SameInts : Prop :=
  ∀ (B : RW) (x : RV) (rows : List (List Int)), IsLst B x rows.length 1 (Rv.elemOf [.i64] rows) → oneB x = true → (∀ (row : List Int), row ∈ rows → row.length = (1 : Nat)) → ∀ (x_1 : RV) (rows_1 : List (List Int)), IsLst B
  x_1 rows_1.length 1 (Rv.elemOf [.i64] rows_1) → oneB x_1 = true → (∀ (row : List Int), row ∈ rows_1 → row.length = (1 : Nat)) → rows.length ≤ (4000000 : Nat) ∧ rows_1.length ≤ (4000000 : Nat) → Ob (IsLst B x rows.length
  1 (Rv.elemOf [.i64] rows)) ∧ Ob (IsLst B x_1 rows_1.length 1 (Rv.elemOf [.i64] rows_1)) ∧ (∃ (a : Nat), Ob (a ≤ rows.length) ∧ Ob (SV.lst x rows.length 1 (Rv.elemOf [.i64] rows) = SV.lst x rows.length 1 (Rv.elemOf [.i64]
  rows)) ∧ Ob (SV.lst x_1 rows_1.length 1 (Rv.elemOf [.i64] rows_1) = SV.lst x_1 rows_1.length 1 (Rv.elemOf [.i64] rows_1)) ∧ Ob (SV.v (Value.bool false) = SV.v (Value.bool false)) ∧ Ob ((↑rows.length : Int) =
  (↑rows_1.length : Int) ↔ samTo 1 rows rows_1 a) ∧ Ob ((0 : Int) = (↑a : Int)) ∧ Ob (IsLst B x rows.length 1 (Rv.elemOf [.i64] rows)) ∧ Ob (IsLst B x_1 rows_1.length 1 (Rv.elemOf [.i64] rows_1)) ∧ True) ∧ ∀ (a : Nat), a ≤
  rows.length → ∀ (z z_1 z_2 z_3 z_4 z_5 z_6 z_7 z_8 z_9 z_10 z_11 z_12 z_13 z_14 z_15 z_16 z_17 z_18 z_19 z_20 z_21 z_22 z_23 z_24 z_25 : Value), (samTo 1 rows rows_1 a → Ob (IsLst B x rows.length 1 (Rv.elemOf [.i64]
  rows)) ∧ ((↑a : Int) < (↑rows.length : Int) → Ob (IsLst B x rows.length 1 (Rv.elemOf [.i64] rows)) ∧ Ob ((0 : Int) ≤ (↑a : Int) ∧ a < rows.length ∧ IsLst B x rows.length 1 (Rv.elemOf [.i64] rows)) ∧ Ob (IsLst B x
  rows.length 1 (Rv.elemOf [.i64] rows) ∧ a < rows.length) ∧ Ob (IsLst B x rows.length 1 (Rv.elemOf [.i64] rows) ∧ a < rows.length) ∧ Ob (IsLst B x_1 rows_1.length 1 (Rv.elemOf [.i64] rows_1)) ∧ Ob ((0 : Int) ≤ (↑a : Int)
  ∧ a < rows_1.length ∧ IsLst B x_1 rows_1.length 1 (Rv.elemOf [.i64] rows_1)) ∧ Ob (IsLst B x_1 rows_1.length 1 (Rv.elemOf [.i64] rows_1) ∧ a < rows_1.length) ∧ Ob (IsLst B x_1 rows_1.length 1 (Rv.elemOf [.i64] rows_1) ∧
  a < rows_1.length) ∧ Ob (InR .i64 ((↑a : Int) + (1 : Int))) ∧ ∃ (a' : Nat), Ob (a' ≤ rows.length ∧ rows.length - a' < rows.length - a) ∧ Ob (SV.lst x rows.length 1 (Rv.elemOf [.i64] rows) = SV.lst x rows.length 1
  (Rv.elemOf [.i64] rows)) ∧ Ob (SV.lst x_1 rows_1.length 1 (Rv.elemOf [.i64] rows_1) = SV.lst x_1 rows_1.length 1 (Rv.elemOf [.i64] rows_1)) ∧ Ob (SV.v (Value.bool false) = SV.v (Value.bool false)) ∧ Ob (cell rows a 0 =
  cell rows_1 a 0 ↔ samTo 1 rows rows_1 a') ∧ Ob ((↑a : Int) + (1 : Int) = (↑a' : Int)) ∧ Ob (IsLst B x rows.length 1 (Rv.elemOf [.i64] rows)) ∧ Ob (IsLst B x_1 rows_1.length 1 (Rv.elemOf [.i64] rows_1)) ∧ True) ∧ (¬(↑a :
  Int) < (↑rows.length : Int) → Ob (samTo 1 rows rows_1 a ↔ samTo 1 rows rows_1 rows.length) ∧ True)) ∧ (¬samTo 1 rows rows_1 a → Ob (samTo 1 rows rows_1 a ↔ samTo 1 rows rows_1 rows.length) ∧ True)

set_option linter.unusedSimpArgs false in
set_option maxRecDepth 4000 in
set_option maxHeartbeats 400000 in
theorem v_SameInts : V_SameInts := by
  unfold V_SameInts
  intro B x R hx hox hrx y S hy hoy hry ⟨hR, hS⟩
  simp only [Ob_iff, and_true, true_and, InR]
  have z0 := sam_zero 1 R S
  have body : ∀ k, k ≤ R.length → samTo 1 R S k → (k : Int) < (R.length : Int) → k < S.length := fun k h1 h2 h3 => by
    have := h2.1
    omega
  have e0 : ∀ k, k ≤ R.length → ¬ samTo 1 R S k → (samTo 1 R S k ↔ samTo 1 R S R.length) := fun k h1 h2 => ⟨fun h => absurd h h2, fun h => absurd h (sam_stop h1 h2)⟩
  have e1 : ∀ k, k ≤ R.length → ¬ (k : Int) < (R.length : Int) → (samTo 1 R S k ↔ samTo 1 R S R.length) := fun k h1 h2 => by
    have e : k = R.length := by omega
    subst e
    exact Iff.rfl
  refine ⟨hx, hy, ⟨0, ?_⟩, ?_⟩
  · rw [z0]
    repeat' (with_reducible apply And.intro)
    all_goals first | exact hx | exact hy | omega | trivial
  intro k hk
  intros
  refine ⟨fun h3 => ⟨hx, fun h4 => ?_, fun h4 => e1 k hk h4⟩, fun h3 => e0 k hk h3⟩
  have hkR : k < R.length := by omega
  have hkS := body k hk h3 h4
  have nx := (sam_succ h3).trans (row1 R S k)
  repeat' (with_reducible apply And.intro)
  all_goals first | exact hx | exact hy | exact hkR | exact hkS | omega | skip
  refine ⟨k + 1, ?_⟩
  repeat' (with_reducible apply And.intro)
  all_goals first | exact hx | exact hy | exact nx.symm | omega | trivial

theorem e_SameInts : V_SameInts = needF P [] A_SameInts F_SameInts := by kernel_rfl

theorem n_SameInts : Ob (needF P [] A_SameInts F_SameInts) := by
  rw [← e_SameInts]
  exact ⟨v_SameInts⟩

theorem b_SameInts : ((P.funcs[20]?).any fun fn => fn.body.isSome) = true := by kernel_rfl

theorem SameInts_ok : Fn0.Ok P F_SameInts := Fn0.ok named (l := []) (A := A_SameInts) (by rfl) (by
  intro F h; simp at h) b_SameInts (by
  intro ds N
  simp only [F_SameInts]
  split <;> rfl) n_SameInts

end Go.Proofs.Ytcfhnbhncdkknaa.Sy
