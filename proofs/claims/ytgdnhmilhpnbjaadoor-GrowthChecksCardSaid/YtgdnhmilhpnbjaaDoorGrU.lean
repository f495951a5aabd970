/- Lists that are equal. -/
import Derived.Test.YtgdnhmilhpnbjaaDoorSyP2
import Derived.Test.YtgdnhmilhpnbjaaDoorGrM
import Derived.Test.YtgdnhmilhpnbjaaDoorGrT
import Derived.KernelRfl
import Derived.Test.YtgdnhmilhpnbjaaDoorProg
namespace Go.Proofs.YtgdnhmilhpnbjaaDoor.Sy
open Go Go.Rv
set_option linter.unusedVariables false

noncomputable def F_SameSpans : Fn0 := ⟨19, [.one (.l [.i64, .i64]), .one (.l [.i64, .i64])], fun l => match l with | [.l a, .l b] => a.length ≤ 1000 ∧ b.length ≤ 1000 | _ => False, fun l => match l with | [.l a, .l b] => .p (sameR a b) | _ => .v undef⟩
noncomputable def A_SameSpans : List SV → List Dat → Nat → List SV → Ann := fun xs ds n ts => match xs with
  | [.lst x _ _ _, .lst y _ _ _] => match ds with
    | [.l a, .l b] => match n with
      | 3 => ⟨Nat, fun k => [some (SV.lst x a.length ((2 : Nat)) (Rv.elemOf [IntKind.i64, IntKind.i64] a)), some (SV.lst y b.length ((2 : Nat)) (Rv.elemOf [IntKind.i64, IntKind.i64] b)), none, none, some (SV.v (Value.bool false)), some (.p (sameTo a b k)), some (.i .i64 k), none, none, none, none, none, none, none, none, none, none, none, none, none, none, none, none, none, none, none, none, none, none, none, none], fun k => [], fun k => k ≤ a.length, fun k => a.length - k, 0⟩
      | _ => noAnn
    | _ => noAnn
  | _ => noAnn

def V_SameSpans : Prop :=
  ∀ (B : RW) (x : RV) (rows : List (List Int)), IsLst B x rows.length ((2 : Nat)) (Rv.elemOf [IntKind.i64, IntKind.i64] rows) → oneB x = true → (∀ (row : List Int), row ∈ rows → row.length = (2 : Nat)) → ∀ (x_1 : RV)
  (rows_1 : List (List Int)), IsLst B x_1 rows_1.length ((2 : Nat)) (Rv.elemOf [IntKind.i64, IntKind.i64] rows_1) → oneB x_1 = true → (∀ (row : List Int), row ∈ rows_1 → row.length = (2 : Nat)) → rows.length ≤ (1000 : Nat)
  ∧ rows_1.length ≤ (1000 : Nat) → Ob (IsLst B x rows.length ((2 : Nat)) (Rv.elemOf [IntKind.i64, IntKind.i64] rows)) ∧ Ob (IsLst B x_1 rows_1.length ((2 : Nat)) (Rv.elemOf [IntKind.i64, IntKind.i64] rows_1)) ∧ (∃ (a :
  Nat), Ob (a ≤ rows.length) ∧ Ob (SV.lst x rows.length ((2 : Nat)) (Rv.elemOf [IntKind.i64, IntKind.i64] rows) = SV.lst x rows.length ((2 : Nat)) (Rv.elemOf [IntKind.i64, IntKind.i64] rows)) ∧ Ob (SV.lst x_1 rows_1.length
  ((2 : Nat)) (Rv.elemOf [IntKind.i64, IntKind.i64] rows_1) = SV.lst x_1 rows_1.length ((2 : Nat)) (Rv.elemOf [IntKind.i64, IntKind.i64] rows_1)) ∧ Ob (SV.v (Value.bool false) = SV.v (Value.bool false)) ∧ Ob ((↑rows.length
  : Int) = (↑rows_1.length : Int) ↔ sameTo rows rows_1 a) ∧ Ob ((0 : Int) = (↑a : Int)) ∧ Ob (IsLst B x rows.length ((2 : Nat)) (Rv.elemOf [IntKind.i64, IntKind.i64] rows)) ∧ Ob (IsLst B x_1 rows_1.length ((2 : Nat))
  (Rv.elemOf [IntKind.i64, IntKind.i64] rows_1)) ∧ True) ∧ ∀ (a : Nat), a ≤ rows.length → ∀ (z z_1 z_2 z_3 z_4 z_5 z_6 z_7 z_8 z_9 z_10 z_11 z_12 z_13 z_14 z_15 z_16 z_17 z_18 z_19 z_20 z_21 z_22 z_23 z_24 z_25 : Value),
  (sameTo rows rows_1 a → Ob (IsLst B x rows.length ((2 : Nat)) (Rv.elemOf [IntKind.i64, IntKind.i64] rows)) ∧ ((↑a : Int) < (↑rows.length : Int) → Ob (IsLst B x rows.length ((2 : Nat)) (Rv.elemOf [IntKind.i64,
  IntKind.i64] rows)) ∧ Ob ((0 : Int) ≤ (↑a : Int) ∧ a < rows.length ∧ IsLst B x rows.length ((2 : Nat)) (Rv.elemOf [IntKind.i64, IntKind.i64] rows)) ∧ Ob (IsLst B x rows.length ((2 : Nat)) (Rv.elemOf [IntKind.i64,
  IntKind.i64] rows) ∧ a < rows.length) ∧ Ob (IsLst B x rows.length ((2 : Nat)) (Rv.elemOf [IntKind.i64, IntKind.i64] rows) ∧ a < rows.length) ∧ Ob (IsLst B x_1 rows_1.length ((2 : Nat)) (Rv.elemOf [IntKind.i64,
  IntKind.i64] rows_1)) ∧ Ob ((0 : Int) ≤ (↑a : Int) ∧ a < rows_1.length ∧ IsLst B x_1 rows_1.length ((2 : Nat)) (Rv.elemOf [IntKind.i64, IntKind.i64] rows_1)) ∧ Ob (IsLst B x_1 rows_1.length ((2 : Nat)) (Rv.elemOf
  [IntKind.i64, IntKind.i64] rows_1) ∧ a < rows_1.length) ∧ Ob (IsLst B x_1 rows_1.length ((2 : Nat)) (Rv.elemOf [IntKind.i64, IntKind.i64] rows_1) ∧ a < rows_1.length) ∧ Ob (InR IntKind.i64 ((↑a : Int) + (1 : Int))) ∧ ∃
  (a' : Nat), Ob (a' ≤ rows.length ∧ rows.length - a' < rows.length - a) ∧ Ob (SV.lst x rows.length ((2 : Nat)) (Rv.elemOf [IntKind.i64, IntKind.i64] rows) = SV.lst x rows.length ((2 : Nat)) (Rv.elemOf [IntKind.i64,
  IntKind.i64] rows)) ∧ Ob (SV.lst x_1 rows_1.length ((2 : Nat)) (Rv.elemOf [IntKind.i64, IntKind.i64] rows_1) = SV.lst x_1 rows_1.length ((2 : Nat)) (Rv.elemOf [IntKind.i64, IntKind.i64] rows_1)) ∧ Ob (SV.v (Value.bool
  false) = SV.v (Value.bool false)) ∧ Ob (cell rows a ((0 : Nat)) = cell rows_1 a ((0 : Nat)) ∧ cell rows a ((1 : Nat)) = cell rows_1 a ((1 : Nat)) ∧ True ↔ sameTo rows rows_1 a') ∧ Ob ((↑a : Int) + (1 : Int) = (↑a' :
  Int)) ∧ Ob (IsLst B x rows.length ((2 : Nat)) (Rv.elemOf [IntKind.i64, IntKind.i64] rows)) ∧ Ob (IsLst B x_1 rows_1.length ((2 : Nat)) (Rv.elemOf [IntKind.i64, IntKind.i64] rows_1)) ∧ True) ∧ (¬(↑a : Int) < (↑rows.length
  : Int) → Ob (sameTo rows rows_1 a ↔ sameR rows rows_1) ∧ True)) ∧ (¬sameTo rows rows_1 a → Ob (sameTo rows rows_1 a ↔ sameR rows rows_1) ∧ True)

set_option linter.unusedSimpArgs false in
set_option maxRecDepth 4000 in
set_option maxHeartbeats 400000 in
theorem v_SameSpans : V_SameSpans := by
  unfold V_SameSpans
  intro B x a hx hox hrx y b hy hoy hry ⟨ha, hb⟩
  simp only [Ob_iff, and_true, true_and, InR]
  refine ⟨hx, hy, ⟨0, by omega, ?_, rfl, hx, hy⟩, ?_⟩
  · unfold sameTo
    constructor
    · exact fun h => ⟨by omega, fun i hi => by omega⟩
    · exact fun h => by omega
  intro k hk
  intros
  refine ⟨fun hs => ⟨hx, fun h1 => ?_, fun h1 => ?_⟩, fun hs => ?_⟩
  · have h2 : k < a.length := by omega
    have h3 : k < b.length := by have := hs.1; omega
    refine ⟨hx, ⟨by omega, h2, hx⟩, ⟨hx, h2⟩, ⟨hx, h2⟩, hy, ⟨by omega, h3, hy⟩, ⟨hy, h3⟩, ⟨hy, h3⟩, by omega, k + 1, by omega, ?_, by omega, hx, hy⟩
    constructor
    · intro he
      refine ⟨hs.1, fun i hi => ?_⟩
      by_cases hik : i = k
      · subst hik; exact he
      · exact hs.2 i (by omega)
    · intro he
      exact he.2 k (by omega)
  · have h2 : k = a.length := by omega
    subst h2
    exact Iff.rfl
  · constructor
    · exact fun h => absurd h hs
    · exact fun h => absurd ⟨h.1, fun i hi => h.2 i (by omega)⟩ hs

theorem e_SameSpans : V_SameSpans = needF P [] A_SameSpans F_SameSpans := by kernel_rfl

theorem n_SameSpans : Ob (needF P [] A_SameSpans F_SameSpans) := by
  rw [← e_SameSpans]
  exact ⟨v_SameSpans⟩

theorem b_SameSpans : ((P.funcs[19]?).any fun fn => fn.body.isSome) = true := by kernel_rfl

theorem SameSpans_ok : Fn0.Ok P F_SameSpans := Fn0.ok named (l := []) (A := A_SameSpans) (by rfl) (by
  intro F h; simp at h) b_SameSpans (by
  intro ds N
  simp only [F_SameSpans]
  split <;> rfl) n_SameSpans

end Go.Proofs.YtgdnhmilhpnbjaaDoor.Sy
