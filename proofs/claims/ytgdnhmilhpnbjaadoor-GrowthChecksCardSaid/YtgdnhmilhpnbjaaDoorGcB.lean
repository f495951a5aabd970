/- Heat of days. -/
import Derived.Test.YtgdnhmilhpnbjaaDoorSyP2
import Derived.Test.YtgdnhmilhpnbjaaDoorGrM
import Derived.Test.YtgdnhmilhpnbjaaDoorGrA
import Derived.Test.YtgdnhmilhpnbjaaDoorGrT
import Derived.Test.YtgdnhmilhpnbjaaDoorGcA
import Derived.KernelRfl
import Derived.Test.YtgdnhmilhpnbjaaDoorProg
namespace Go.Proofs.YtgdnhmilhpnbjaaDoor.Sy
open Go Go.Rv
set_option linter.unusedVariables false

theorem dayTo_all {D : Rows} : ∀ {k : Nat}, dayTo D k = 0 → ∀ j, j < k → spanErr (cell D j 0) (cell D j 1) (-50) 400 = 0
  | k + 1, h, j, hj => by
    simp only [dayTo] at h
    by_cases h0 : dayTo D k = 0
    · rw [if_pos h0] at h
      by_cases e : j = k
      · subst e; exact h
      · exact dayTo_all h0 j (by omega)
    · rw [if_neg h0] at h
      exact absurd h h0
theorem dayTo_le {D : Rows} : ∀ {n : Nat}, dayTo D n = 0 → ∀ k, k ≤ n → dayTo D k = 0
  | 0, h, k, hk => by
    have e : k = 0 := by omega
    subst e; rfl
  | n + 1, h, k, hk => by
    by_cases e : k = n + 1
    · subst e; exact h
    · have h0 : dayTo D n = 0 := by
        simp only [dayTo] at h
        by_cases h0 : dayTo D n = 0
        · exact h0
        · rw [if_neg h0] at h
          exact absurd h h0
      exact dayTo_le h0 k (by omega)
theorem hSum_bd {base : Int} {D : Rows} (h1 : -50 ≤ base) (h2 : base ≤ 400) : ∀ {k : Nat}, dayTo D k = 0 → 0 ≤ hSum base D 0 k ∧ hSum base D 0 k ≤ 450 * (k : Int) ∧ 0 ≤ hSum base D 1 k ∧ hSum base D 1 k ≤ 450 * (k : Int)
  | 0, _ => by simp [hSum]
  | k + 1, h => by
    have h3 := span_ok (dayTo_all h k (by omega))
    have h4 : dayTo D k = 0 := by
      simp only [dayTo] at h
      by_cases h0 : dayTo D k = 0
      · exact h0
      · rw [if_neg h0] at h
        exact absurd h h0
    have h5 := hSum_bd (base := base) h1 h2 h4
    simp only [hSum]
    omega

noncomputable def F_Heat : Fn0 := ⟨14, [.agg [.i .i64, .i .i64, .l [.i64, .i64, .i64, .i64, .i64]], .one (.l [.i64, .i64])], fun l => match l with | [.z base, .z most, .l R, .l D] => R.length ≤ 1000 ∧ D.length ≤ 1000 | _ => False, fun l => match l with | [.z base, .z most, .l R, .l D] => .tup [.agg [.i .i64 (heat base most R D 0), .i .i64 (heat base most R D 1)], .i .i64 (hErr base most R D)] | _ => .v undef⟩
noncomputable def A_Heat : List SV → List Dat → Nat → List SV → Ann := fun xs ds n ts => match xs with
  | [.agg [_, _, .lst x _ _ _], .lst y _ _ _] => match ds with
    | [.z base, .z most, .l R, .l D] => match n with
      | 8 => ⟨Nat, fun k => [none, none, some (SV.ptr ((0 : Nat)) ((0 : Nat))), none, some (SV.ptr ((1 : Nat)) ((0 : Nat))), none, none, some (SV.ptr ((2 : Nat)) ((0 : Nat))), none, none, none, none, none, none, none, none, none, none, none, none, none, some (SV.lst y D.length ((2 : Nat)) (Rv.elemOf [IntKind.i64, IntKind.i64] D)), some (SV.i IntKind.i64 (↑D.length : Int)), some (.i .i64 k), none, none, none, none, none, none, none, none, none, none, none, none, none, none, none, none, none, none, none, none, none, none, none, none, none, none, none, none, none, none, none], fun k => [.cells [.i .i64 (hSum base D 0 k), .i .i64 (hSum base D 1 k)] .ex, SObj.cells [SV.v (Value.int IntKind.i64 (0 : Int)), SV.v (Value.int IntKind.i64 (0 : Int))] Kd.ex, SObj.cells [SV.i IntKind.i64 base, SV.i IntKind.i64 most, SV.lst x R.length ((5 : Nat)) (Rv.elemOf [IntKind.i64, IntKind.i64, IntKind.i64, IntKind.i64, IntKind.i64] R)] Kd.ex], fun k => k ≤ D.length ∧ dayTo D k = 0, fun k => D.length - k, 0⟩
      | _ => noAnn
    | _ => noAnn
  | _ => noAnn

def V_Heat : Prop :=
  ∀ (B : RW) (n n_1 : Int) (x : RV) (rows : List (List Int)), IsLst B x rows.length ((5 : Nat)) (Rv.elemOf [IntKind.i64, IntKind.i64, IntKind.i64, IntKind.i64, IntKind.i64] rows) → oneB x = true → (∀ (row : List Int), row
  ∈ rows → row.length = (5 : Nat)) → ∀ (x_1 : RV) (rows_1 : List (List Int)), IsLst B x_1 rows_1.length ((2 : Nat)) (Rv.elemOf [IntKind.i64, IntKind.i64] rows_1) → oneB x_1 = true → (∀ (row : List Int), row ∈ rows_1 →
  row.length = (2 : Nat)) → rows.length ≤ (1000 : Nat) ∧ rows_1.length ≤ (1000 : Nat) → ∃ (rows_2 : List (List Int)), Ob (IsLst B x rows.length ((5 : Nat)) (Rv.elemOf [IntKind.i64, IntKind.i64, IntKind.i64, IntKind.i64,
  IntKind.i64] rows) ∧ rows_2.length = rows.length ∧ (∀ (r : List Int), r ∈ rows_2 → r.length = (5 : Nat)) ∧ ∀ (i : Nat), i < rows.length → Rv.elemOf [IntKind.i64, IntKind.i64, IntKind.i64, IntKind.i64, IntKind.i64] rows i
  = Rv.elemOf [IntKind.i64, IntKind.i64, IntKind.i64, IntKind.i64, IntKind.i64] rows_2 i) ∧ Ob (rows_2.length ≤ (1000 : Nat)) ∧ (¬gErr n n_1 rows_2 = (0 : Int) → Ob ((0 : Int) = heat n n_1 rows rows_1 ((0 : Nat))) ∧ Ob ((0
  : Int) = heat n n_1 rows rows_1 ((1 : Nat))) ∧ Ob (gErr n n_1 rows_2 = hErr n n_1 rows rows_1) ∧ True) ∧ (¬¬gErr n n_1 rows_2 = (0 : Int) → Ob (IsLst B x_1 rows_1.length ((2 : Nat)) (Rv.elemOf [IntKind.i64, IntKind.i64]
  rows_1)) ∧ ((400 : Int) < (↑rows_1.length : Int) → Ob ((0 : Int) = heat n n_1 rows rows_1 ((0 : Nat))) ∧ Ob ((0 : Int) = heat n n_1 rows rows_1 ((1 : Nat))) ∧ Ob ((5 : Int) = hErr n n_1 rows rows_1) ∧ True) ∧ (¬(400 :
  Int) < (↑rows_1.length : Int) → Ob (IsLst B x_1 rows_1.length ((2 : Nat)) (Rv.elemOf [IntKind.i64, IntKind.i64] rows_1)) ∧ (∃ (a : Nat), Ob (a ≤ rows_1.length ∧ dayTo rows_1 a = (0 : Int)) ∧ Ob (SV.lst x_1 rows_1.length
  ((2 : Nat)) (Rv.elemOf [IntKind.i64, IntKind.i64] rows_1) = SV.lst x_1 rows_1.length ((2 : Nat)) (Rv.elemOf [IntKind.i64, IntKind.i64] rows_1)) ∧ Ob ((↑rows_1.length : Int) = (↑rows_1.length : Int)) ∧ Ob ((0 : Int) = (↑a
  : Int)) ∧ Ob ((0 : Int) = hSum n rows_1 ((0 : Nat)) a) ∧ Ob ((0 : Int) = hSum n rows_1 ((1 : Nat)) a) ∧ Ob (Value.int IntKind.i64 (0 : Int) = Value.int IntKind.i64 (0 : Int)) ∧ Ob (Value.int IntKind.i64 (0 : Int) =
  Value.int IntKind.i64 (0 : Int)) ∧ Ob (n = n) ∧ Ob (n_1 = n_1) ∧ Ob (SV.lst x rows.length ((5 : Nat)) (Rv.elemOf [IntKind.i64, IntKind.i64, IntKind.i64, IntKind.i64, IntKind.i64] rows) = SV.lst x rows.length ((5 : Nat))
  (Rv.elemOf [IntKind.i64, IntKind.i64, IntKind.i64, IntKind.i64, IntKind.i64] rows)) ∧ Ob (IsLst B x_1 rows_1.length ((2 : Nat)) (Rv.elemOf [IntKind.i64, IntKind.i64] rows_1)) ∧ Ob (IsLst B x rows.length ((5 : Nat))
  (Rv.elemOf [IntKind.i64, IntKind.i64, IntKind.i64, IntKind.i64, IntKind.i64] rows)) ∧ True) ∧ ∀ (a : Nat), a ≤ rows_1.length ∧ dayTo rows_1 a = (0 : Int) → ∀ (z z_1 z_2 z_3 z_4 z_5 z_6 z_7 z_8 z_9 z_10 z_11 z_12 z_13
  z_14 z_15 z_16 z_17 z_18 z_19 z_20 z_21 z_22 z_23 z_24 z_25 z_26 z_27 z_28 z_29 z_30 z_31 z_32 z_33 z_34 z_35 z_36 z_37 z_38 z_39 z_40 z_41 z_42 z_43 z_44 z_45 z_46 z_47 z_48 : Value), ((↑a : Int) < (↑rows_1.length :
  Int) → Ob ((0 : Int) ≤ (↑a : Int) ∧ a < rows_1.length ∧ IsLst B x_1 rows_1.length ((2 : Nat)) (Rv.elemOf [IntKind.i64, IntKind.i64] rows_1)) ∧ Ob (IsLst B x_1 rows_1.length ((2 : Nat)) (Rv.elemOf [IntKind.i64,
  IntKind.i64] rows_1) ∧ a < rows_1.length) ∧ Ob True ∧ (¬spanErr (cell rows_1 a ((0 : Nat))) (cell rows_1 a ((1 : Nat))) (-50 : Int) (400 : Int) = (0 : Int) → Ob ((0 : Int) = heat n n_1 rows rows_1 ((0 : Nat))) ∧ Ob ((0 :
  Int) = heat n n_1 rows rows_1 ((1 : Nat))) ∧ Ob (spanErr (cell rows_1 a ((0 : Nat))) (cell rows_1 a ((1 : Nat))) (-50 : Int) (400 : Int) = hErr n n_1 rows rows_1) ∧ True) ∧ (¬¬spanErr (cell rows_1 a ((0 : Nat))) (cell
  rows_1 a ((1 : Nat))) (-50 : Int) (400 : Int) = (0 : Int) → Ob (InR IntKind.i64 (cell rows_1 a ((0 : Nat)) - n)) ∧ Ob (InR IntKind.i64 (hSum n rows_1 ((0 : Nat)) a + max (cell rows_1 a ((0 : Nat)) - n) (0 : Int))) ∧ Ob
  (InR IntKind.i64 (cell rows_1 a ((1 : Nat)) - n)) ∧ Ob (InR IntKind.i64 (hSum n rows_1 ((1 : Nat)) a + max (cell rows_1 a ((1 : Nat)) - n) (0 : Int))) ∧ Ob (InR IntKind.i64 ((↑a : Int) + (1 : Int))) ∧ ∃ (a' : Nat), Ob
  ((a' ≤ rows_1.length ∧ dayTo rows_1 a' = (0 : Int)) ∧ rows_1.length - a' < rows_1.length - a) ∧ Ob (SV.lst x_1 rows_1.length ((2 : Nat)) (Rv.elemOf [IntKind.i64, IntKind.i64] rows_1) = SV.lst x_1 rows_1.length ((2 :
  Nat)) (Rv.elemOf [IntKind.i64, IntKind.i64] rows_1)) ∧ Ob ((↑rows_1.length : Int) = (↑rows_1.length : Int)) ∧ Ob ((↑a : Int) + (1 : Int) = (↑a' : Int)) ∧ Ob (hSum n rows_1 ((0 : Nat)) a + max (cell rows_1 a ((0 : Nat)) -
  n) (0 : Int) = hSum n rows_1 ((0 : Nat)) a') ∧ Ob (hSum n rows_1 ((1 : Nat)) a + max (cell rows_1 a ((1 : Nat)) - n) (0 : Int) = hSum n rows_1 ((1 : Nat)) a') ∧ Ob (Value.int IntKind.i64 (0 : Int) = Value.int IntKind.i64
  (0 : Int)) ∧ Ob (Value.int IntKind.i64 (0 : Int) = Value.int IntKind.i64 (0 : Int)) ∧ Ob (n = n) ∧ Ob (n_1 = n_1) ∧ Ob (SV.lst x rows.length ((5 : Nat)) (Rv.elemOf [IntKind.i64, IntKind.i64, IntKind.i64, IntKind.i64,
  IntKind.i64] rows) = SV.lst x rows.length ((5 : Nat)) (Rv.elemOf [IntKind.i64, IntKind.i64, IntKind.i64, IntKind.i64, IntKind.i64] rows)) ∧ Ob (IsLst B x_1 rows_1.length ((2 : Nat)) (Rv.elemOf [IntKind.i64, IntKind.i64]
  rows_1)) ∧ Ob (IsLst B x rows.length ((5 : Nat)) (Rv.elemOf [IntKind.i64, IntKind.i64, IntKind.i64, IntKind.i64, IntKind.i64] rows)) ∧ True)) ∧ (¬(↑a : Int) < (↑rows_1.length : Int) → Ob (hSum n rows_1 ((0 : Nat)) a =
  heat n n_1 rows rows_1 ((0 : Nat))) ∧ Ob (hSum n rows_1 ((1 : Nat)) a = heat n n_1 rows rows_1 ((1 : Nat))) ∧ Ob ((0 : Int) = hErr n n_1 rows rows_1) ∧ True)))

set_option linter.unusedSimpArgs false in
set_option maxRecDepth 4000 in
set_option maxHeartbeats 400000 in
theorem v_Heat : V_Heat := by
  unfold V_Heat
  intro B base most x R hx hox hrx y D hy hoy hry ⟨hR, hD⟩
  simp only [Ob_iff, and_true, true_and, InR]
  refine ⟨R, ⟨hx, rfl, hrx, fun _ _ => rfl⟩, hR, fun h1 => ?_, fun h1 => ⟨hy, fun h2 => ?_, fun h2 => ⟨hy, ⟨0, ⟨by omega, rfl⟩, by omega, rfl, rfl, hy, hx⟩, ?_⟩⟩⟩
  · simp [heat, hErr, h1]
  · have h2' : 400 < D.length := by omega
    simp [heat, hErr, Classical.not_not.1 h1, daysErr, h2']
  have h1' := Classical.not_not.1 h1
  have hb := g_ok h1'
  have h2' : ¬ 400 < D.length := by omega
  have he : hErr base most R D = dayTo D D.length := by simp [hErr, h1', daysErr, h2']
  intro k ⟨hk, hc⟩
  intros
  have hs := hSum_bd hb.1 hb.2 hc
  refine ⟨fun h3 => ⟨⟨by omega, by omega, hy⟩, ⟨hy, by omega⟩, fun h4 => ?_, fun h4 => ?_⟩, fun h3 => ?_⟩
  · have h5 := day_stop h4 hc D.length (by omega)
    rw [h5] at he
    simp [heat, he, h4]
  · have h4' := Classical.not_not.1 h4
    have h5 := span_ok h4'
    refine ⟨by omega, by omega, by omega, by omega, by omega, k + 1, ⟨⟨by omega, by simp [dayTo, hc, h4']⟩, by omega⟩, by omega, rfl, rfl, hy, hx⟩
  · have e : k = D.length := by omega
    subst e
    have he' : hErr base most R D = 0 := by rw [he, hc]
    simp [heat, he']

theorem e_Heat : V_Heat = needF P [F_Check, F_checkWarmth] A_Heat F_Heat := by kernel_rfl

theorem n_Heat : Ob (needF P [F_Check, F_checkWarmth] A_Heat F_Heat) := by
  rw [← e_Heat]
  exact ⟨v_Heat⟩

theorem b_Heat : ((P.funcs[14]?).any fun fn => fn.body.isSome) = true := by kernel_rfl

theorem Heat_ok : Fn0.Ok P F_Heat := Fn0.ok named (l := [F_Check, F_checkWarmth]) (A := A_Heat) (by rfl) (by
  intro F h
  simp only [List.mem_cons, List.not_mem_nil, or_false] at h
  rcases h with rfl | rfl
  · exact Check_ok
  · exact checkWarmth_ok
) b_Heat (by
  intro ds N
  simp only [F_Heat]
  split <;> rfl) n_Heat

noncomputable def F_rHeat : Fn0 := ⟨15, [.agg [.i .i64, .i .i64, .l [.i64, .i64, .i64, .i64, .i64]], .one (.l [.i64, .i64])], fun l => match l with | [.z base, .z most, .l R, .l D] => R.length ≤ 1000 ∧ D.length ≤ 1000 | _ => False, fun l => match l with | [.z base, .z most, .l R, .l D] => .tup [.agg [.i .i64 (heat base most R D 0), .i .i64 (heat base most R D 1)], .i .i64 (hErr base most R D)] | _ => .v undef⟩
noncomputable def A_rHeat : List SV → List Dat → Nat → List SV → Ann := fun xs ds n ts => match xs with
  | [.agg [_, _, .lst x _ _ _], .lst y _ _ _] => match ds with
    | [.z base, .z most, .l R, .l D] => match n with
      | 6 => ⟨Nat, fun k => [none, some (SV.lst y D.length ((2 : Nat)) (Rv.elemOf [IntKind.i64, IntKind.i64] D)), some (SV.ptr ((0 : Nat)) ((0 : Nat))), none, some (SV.ptr ((1 : Nat)) ((0 : Nat))), some (SV.v (Value.int IntKind.i64 (0 : Int))), none, some (SV.ptr ((3 : Nat)) ((0 : Nat))), some (.i .i64 k), none, none, none, none, none, none, none, none, none, none, none, none, none, none, none, none, none, none, none, none, none, none, none, none, none, none, none, none, none, none, none, none, none, none, none, none, none, none, none, none, none, none, none], fun k => [.cells [.i .i64 (hSum base D 0 k), .i .i64 (hSum base D 1 k)] .ex, .dead, SObj.cells [SV.v (Value.int IntKind.i64 (0 : Int)), SV.v (Value.int IntKind.i64 (0 : Int))] Kd.ex, SObj.cells [SV.i IntKind.i64 base, SV.i IntKind.i64 most, SV.lst x R.length ((5 : Nat)) (Rv.elemOf [IntKind.i64, IntKind.i64, IntKind.i64, IntKind.i64, IntKind.i64] R)] Kd.ex], fun k => k ≤ D.length, fun k => D.length - k, 0⟩
      | _ => noAnn
    | _ => noAnn
  | _ => noAnn

def V_rHeat : Prop :=
  ∀ (B : RW) (n n_1 : Int) (x : RV) (rows : List (List Int)), IsLst B x rows.length ((5 : Nat)) (Rv.elemOf [IntKind.i64, IntKind.i64, IntKind.i64, IntKind.i64, IntKind.i64] rows) → oneB x = true → (∀ (row : List Int), row
  ∈ rows → row.length = (5 : Nat)) → ∀ (x_1 : RV) (rows_1 : List (List Int)), IsLst B x_1 rows_1.length ((2 : Nat)) (Rv.elemOf [IntKind.i64, IntKind.i64] rows_1) → oneB x_1 = true → (∀ (row : List Int), row ∈ rows_1 →
  row.length = (2 : Nat)) → rows.length ≤ (1000 : Nat) ∧ rows_1.length ≤ (1000 : Nat) → ∃ (rows_2 : List (List Int)), Ob (IsLst B x rows.length ((5 : Nat)) (Rv.elemOf [IntKind.i64, IntKind.i64, IntKind.i64, IntKind.i64,
  IntKind.i64] rows) ∧ rows_2.length = rows.length ∧ (∀ (r : List Int), r ∈ rows_2 → r.length = (5 : Nat)) ∧ ∀ (i : Nat), i < rows.length → Rv.elemOf [IntKind.i64, IntKind.i64, IntKind.i64, IntKind.i64, IntKind.i64] rows i
  = Rv.elemOf [IntKind.i64, IntKind.i64, IntKind.i64, IntKind.i64, IntKind.i64] rows_2 i) ∧ Ob (rows_2.length ≤ (1000 : Nat)) ∧ ∃ (rows_3 : List (List Int)), Ob (IsLst B x_1 rows_1.length ((2 : Nat)) (Rv.elemOf
  [IntKind.i64, IntKind.i64] rows_1) ∧ rows_3.length = rows_1.length ∧ (∀ (r : List Int), r ∈ rows_3 → r.length = (2 : Nat)) ∧ ∀ (i : Nat), i < rows_1.length → Rv.elemOf [IntKind.i64, IntKind.i64] rows_1 i = Rv.elemOf
  [IntKind.i64, IntKind.i64] rows_3 i) ∧ Ob (rows_3.length ≤ (1000 : Nat)) ∧ Ob ([[gErr n n_1 rows_2], [daysErr rows_3]].length ≤ (1000 : Nat)) ∧ (¬firstOf [[gErr n n_1 rows_2], [daysErr rows_3]] = (0 : Int) → Ob ((0 :
  Int) = heat n n_1 rows rows_1 ((0 : Nat))) ∧ Ob ((0 : Int) = heat n n_1 rows rows_1 ((1 : Nat))) ∧ Ob (firstOf [[gErr n n_1 rows_2], [daysErr rows_3]] = hErr n n_1 rows rows_1) ∧ True) ∧ (¬¬firstOf [[gErr n n_1 rows_2],
  [daysErr rows_3]] = (0 : Int) → (∃ (a : Nat), Ob (a ≤ rows_1.length) ∧ Ob (SV.lst x_1 rows_1.length ((2 : Nat)) (Rv.elemOf [IntKind.i64, IntKind.i64] rows_1) = SV.lst x_1 rows_1.length ((2 : Nat)) (Rv.elemOf
  [IntKind.i64, IntKind.i64] rows_1)) ∧ Ob (Value.int IntKind.i64 (0 : Int) = Value.int IntKind.i64 (0 : Int)) ∧ Ob ((0 : Int) = (↑a : Int)) ∧ Ob ((0 : Int) = hSum n rows_1 ((0 : Nat)) a) ∧ Ob ((0 : Int) = hSum n rows_1
  ((1 : Nat)) a) ∧ Ob (Value.int IntKind.i64 (0 : Int) = Value.int IntKind.i64 (0 : Int)) ∧ Ob (Value.int IntKind.i64 (0 : Int) = Value.int IntKind.i64 (0 : Int)) ∧ Ob (n = n) ∧ Ob (n_1 = n_1) ∧ Ob (SV.lst x rows.length
  ((5 : Nat)) (Rv.elemOf [IntKind.i64, IntKind.i64, IntKind.i64, IntKind.i64, IntKind.i64] rows) = SV.lst x rows.length ((5 : Nat)) (Rv.elemOf [IntKind.i64, IntKind.i64, IntKind.i64, IntKind.i64, IntKind.i64] rows)) ∧ Ob
  (IsLst B x_1 rows_1.length ((2 : Nat)) (Rv.elemOf [IntKind.i64, IntKind.i64] rows_1)) ∧ Ob (IsLst B x rows.length ((5 : Nat)) (Rv.elemOf [IntKind.i64, IntKind.i64, IntKind.i64, IntKind.i64, IntKind.i64] rows)) ∧ True) ∧
  ∀ (a : Nat), a ≤ rows_1.length → ∀ (z z_1 z_2 z_3 z_4 z_5 z_6 z_7 z_8 z_9 z_10 z_11 z_12 z_13 z_14 z_15 z_16 z_17 z_18 z_19 z_20 z_21 z_22 z_23 z_24 z_25 z_26 z_27 z_28 z_29 z_30 z_31 z_32 z_33 z_34 z_35 z_36 z_37 z_38
  z_39 z_40 z_41 z_42 z_43 z_44 z_45 : Value), Ob (IsLst B x_1 rows_1.length ((2 : Nat)) (Rv.elemOf [IntKind.i64, IntKind.i64] rows_1)) ∧ ((↑a : Int) < (↑rows_1.length : Int) → Ob (IsLst B x_1 rows_1.length ((2 : Nat))
  (Rv.elemOf [IntKind.i64, IntKind.i64] rows_1)) ∧ Ob ((0 : Int) ≤ (↑a : Int) ∧ a < rows_1.length ∧ IsLst B x_1 rows_1.length ((2 : Nat)) (Rv.elemOf [IntKind.i64, IntKind.i64] rows_1)) ∧ Ob (IsLst B x_1 rows_1.length ((2 :
  Nat)) (Rv.elemOf [IntKind.i64, IntKind.i64] rows_1) ∧ a < rows_1.length) ∧ Ob (IsLst B x_1 rows_1.length ((2 : Nat)) (Rv.elemOf [IntKind.i64, IntKind.i64] rows_1) ∧ a < rows_1.length) ∧ Ob (IsLst B x_1 rows_1.length ((2
  : Nat)) (Rv.elemOf [IntKind.i64, IntKind.i64] rows_1) ∧ a < rows_1.length) ∧ Ob (InR IntKind.i64 (cell rows_1 a ((0 : Nat)) - n)) ∧ Ob (InR IntKind.i64 (hSum n rows_1 ((0 : Nat)) a + max (0 : Int) (cell rows_1 a ((0 :
  Nat)) - n))) ∧ Ob (IsLst B x_1 rows_1.length ((2 : Nat)) (Rv.elemOf [IntKind.i64, IntKind.i64] rows_1)) ∧ Ob ((0 : Int) ≤ (↑a : Int) ∧ a < rows_1.length ∧ IsLst B x_1 rows_1.length ((2 : Nat)) (Rv.elemOf [IntKind.i64,
  IntKind.i64] rows_1)) ∧ Ob (IsLst B x_1 rows_1.length ((2 : Nat)) (Rv.elemOf [IntKind.i64, IntKind.i64] rows_1) ∧ a < rows_1.length) ∧ Ob (IsLst B x_1 rows_1.length ((2 : Nat)) (Rv.elemOf [IntKind.i64, IntKind.i64]
  rows_1) ∧ a < rows_1.length) ∧ Ob (IsLst B x_1 rows_1.length ((2 : Nat)) (Rv.elemOf [IntKind.i64, IntKind.i64] rows_1) ∧ a < rows_1.length) ∧ Ob (InR IntKind.i64 (cell rows_1 a ((1 : Nat)) - n)) ∧ Ob (InR IntKind.i64
  (hSum n rows_1 ((1 : Nat)) a + max (0 : Int) (cell rows_1 a ((1 : Nat)) - n))) ∧ Ob (InR IntKind.i64 ((↑a : Int) + (1 : Int))) ∧ ∃ (a' : Nat), Ob (a' ≤ rows_1.length ∧ rows_1.length - a' < rows_1.length - a) ∧ Ob (SV.lst
  x_1 rows_1.length ((2 : Nat)) (Rv.elemOf [IntKind.i64, IntKind.i64] rows_1) = SV.lst x_1 rows_1.length ((2 : Nat)) (Rv.elemOf [IntKind.i64, IntKind.i64] rows_1)) ∧ Ob (Value.int IntKind.i64 (0 : Int) = Value.int
  IntKind.i64 (0 : Int)) ∧ Ob ((↑a : Int) + (1 : Int) = (↑a' : Int)) ∧ Ob (hSum n rows_1 ((0 : Nat)) a + max (0 : Int) (cell rows_1 a ((0 : Nat)) - n) = hSum n rows_1 ((0 : Nat)) a') ∧ Ob (hSum n rows_1 ((1 : Nat)) a + max
  (0 : Int) (cell rows_1 a ((1 : Nat)) - n) = hSum n rows_1 ((1 : Nat)) a') ∧ Ob (Value.int IntKind.i64 (0 : Int) = Value.int IntKind.i64 (0 : Int)) ∧ Ob (Value.int IntKind.i64 (0 : Int) = Value.int IntKind.i64 (0 : Int))
  ∧ Ob (n = n) ∧ Ob (n_1 = n_1) ∧ Ob (SV.lst x rows.length (nat_lit 5) (Rv.elemOf [IntKind.i64, IntKind.i64, IntKind.i64, IntKind.i64, IntKind.i64] rows) = SV.lst x rows.length (nat_lit 5) (Rv.elemOf [IntKind.i64,
  IntKind.i64, IntKind.i64, IntKind.i64, IntKind.i64] rows)) ∧ Ob (IsLst B x_1 rows_1.length (nat_lit 2) (Rv.elemOf [IntKind.i64, IntKind.i64] rows_1)) ∧ Ob (IsLst B x rows.length (nat_lit 5) (Rv.elemOf [IntKind.i64,
  IntKind.i64, IntKind.i64, IntKind.i64, IntKind.i64] rows)) ∧ True) ∧ (¬(↑a : Int) < (↑rows_1.length : Int) → Ob (hSum n rows_1 ((0 : Nat)) a = heat n n_1 rows rows_1 ((0 : Nat))) ∧ Ob (hSum n rows_1 ((1 : Nat)) a = heat
  n n_1 rows rows_1 ((1 : Nat))) ∧ Ob ((0 : Int) = hErr n n_1 rows rows_1) ∧ True))

set_option linter.unusedSimpArgs false in
set_option maxRecDepth 4000 in
set_option maxHeartbeats 400000 in
theorem v_rHeat : V_rHeat := by
  unfold V_rHeat
  intro B base most x R hx hox hrx y D hy hoy hry ⟨hR, hD⟩
  simp only [Ob_iff, and_true, true_and, InR]
  have hf : firstOf [[gErr base most R], [daysErr D]] = hErr base most R D := by
    simp only [firstOf, List.getD_cons_zero, hErr]
    split
    · split <;> simp_all
    · rfl
  refine ⟨R, ⟨hx, rfl, hrx, fun _ _ => rfl⟩, hR, D, ⟨hy, rfl, hry, fun _ _ => rfl⟩, hD, by simp, ?_⟩
  rw [hf]
  refine ⟨fun h1 => ?_, fun h1 => ⟨⟨0, by omega, by omega, rfl, rfl, hy, hx⟩, ?_⟩⟩
  · simp [heat, h1]
  have h1' := Classical.not_not.1 h1
  have hg : gErr base most R = 0 := by
    by_cases h : gErr base most R = 0
    · exact h
    · simp [hErr, h] at h1'
  have hd : daysErr D = 0 := by simpa [hErr, hg] using h1'
  have h2' : ¬ 400 < D.length := fun h => by simp [daysErr, h] at hd
  have hd' : dayTo D D.length = 0 := by simpa [daysErr, h2'] using hd
  have hb := g_ok hg
  intro k hk
  intros
  have hs := hSum_bd hb.1 hb.2 (dayTo_le hd' k hk)
  refine ⟨hy, fun h3 => ?_, fun h3 => ?_⟩
  · have h6 := h3
    have h5 := span_ok (dayTo_all hd' k (by omega))
    have hkD : k < D.length := by omega
    refine ⟨hy, ⟨by omega, hkD, hy⟩, ⟨hy, hkD⟩, ⟨hy, hkD⟩, ⟨hy, hkD⟩, by omega, by omega, hy, ⟨by omega, hkD, hy⟩, ⟨hy, hkD⟩, ⟨hy, hkD⟩, ⟨hy, hkD⟩, by omega, by omega, by omega, k + 1, ⟨by omega, by omega⟩, by omega, ?_, ?_, hy, hx⟩
    · simp only [hSum]; omega
    · simp only [hSum]; omega
  · have e : k = D.length := by omega
    subst e
    simp [heat, h1']

theorem e_rHeat : V_rHeat = needF P [F_rCheck, F_rcheckDays, F_rfirst] A_rHeat F_rHeat := by kernel_rfl

theorem n_rHeat : Ob (needF P [F_rCheck, F_rcheckDays, F_rfirst] A_rHeat F_rHeat) := by
  rw [← e_rHeat]
  exact ⟨v_rHeat⟩

theorem b_rHeat : ((P.funcs[15]?).any fun fn => fn.body.isSome) = true := by kernel_rfl

theorem rHeat_ok : Fn0.Ok P F_rHeat := Fn0.ok named (l := [F_rCheck, F_rcheckDays, F_rfirst]) (A := A_rHeat) (by rfl) (by
  intro F h
  simp only [List.mem_cons, List.not_mem_nil, or_false] at h
  rcases h with rfl | rfl | rfl
  · exact rCheck_ok
  · exact rcheckDays_ok
  · exact rfirst_ok
) b_rHeat (by
  intro ds N
  simp only [F_rHeat]
  split <;> rfl) n_rHeat

end Go.Proofs.YtgdnhmilhpnbjaaDoor.Sy
