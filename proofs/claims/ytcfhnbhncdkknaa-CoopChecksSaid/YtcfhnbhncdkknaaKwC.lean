/- Books of a cooperative: the errors (the reference). -/
import Derived.Test.YtcfhnbhncdkknaaSyP2
import Derived.Test.YtcfhnbhncdkknaaGrM
import Derived.Test.YtcfhnbhncdkknaaStM
import Derived.Test.YtcfhnbhncdkknaaKtT
import Derived.Test.YtcfhnbhncdkknaaKtA
import Derived.Test.YtcfhnbhncdkknaaKtB
import Derived.Test.YtcfhnbhncdkknaaKwA
import Derived.Test.YtcfhnbhncdkknaaKwB
import Derived.Test.YtcfhnbhncdkknaaSyP2
import Derived.KernelRfl
import Derived.Test.YtcfhnbhncdkknaaProg
namespace Go.Proofs.Ytcfhnbhncdkknaa.Sy
open Go Go.Rv
set_option linter.unusedVariables false

def allM (L : Rows) : Prop := ∀ i, i < L.length → mny (cell L i 0)
/-- nobody has sold anything -/
def idl (A : Rows) : Prop := ∀ i, i < A.length → cell A i 2 ≤ 0

noncomputable def F_withinR : Fn0 := ⟨45, [i64, i64, i64], fun _ => True, fun l => match l with | [.z n, .z lo, .z hi] => .p (lo ≤ n ∧ n ≤ hi) | _ => .v undef⟩
noncomputable def A_withinR : List SV → List Dat → Nat → List SV → Ann := fun _ _ _ _ => noAnn

def V_withinR : Prop :=
  ∀ (B : RW) (n n_1 n_2 : Int), True → (n_1 ≤ n → Ob (n ≤ n_2 ↔ n_1 ≤ n ∧ n ≤ n_2) ∧ True) ∧ (¬n_1 ≤ n → Ob (false = true ↔ n_1 ≤ n ∧ n ≤ n_2) ∧ True)

set_option linter.unusedSimpArgs false in
set_option maxRecDepth 4000 in
set_option maxHeartbeats 400000 in
theorem v_withinR : V_withinR := by
  unfold V_withinR
  intros
  simp only [Ob_iff, and_true, true_and, InR] at *
  all_goals grind

theorem e_withinR : V_withinR = needF P [] A_withinR F_withinR := by kernel_rfl

theorem n_withinR : Ob (needF P [] A_withinR F_withinR) := by
  rw [← e_withinR]
  exact ⟨v_withinR⟩

theorem b_withinR : ((P.funcs[45]?).any fun fn => fn.body.isSome) = true := by kernel_rfl

theorem withinR_ok : Fn0.Ok P F_withinR := Fn0.ok named (l := []) (A := A_withinR) (by rfl) (by
  intro F h; simp at h) b_withinR (by
  intro ds N
  simp only [F_withinR]
  split <;> rfl) n_withinR

noncomputable def F_moneyR : Fn0 := ⟨40, [.one (.l [.i64])], fun l => match l with | [.l L] => L.length ≤ 4000000 | _ => False, fun l => match l with | [.l L] => .p (allM L) | _ => .v undef⟩
noncomputable def A_moneyR : List SV → List Dat → Nat → List SV → Ann := fun xs ds n ts => match xs with
  | [.lst x _ _ _] => match ds with
    | [.l L] => match n with
      | 2 => ⟨Nat, fun k => [some (SV.lst x L.length ((1 : Nat)) (Rv.elemOf [IntKind.i64] L)), none, none, some (.i .i64 k), none, none, none, none, none, none, none, none, none, none, none, none], fun k => [], fun k => k ≤ L.length ∧ ∀ i, i < k → mny (cell L i 0), fun k => L.length - k, 0⟩
      | _ => noAnn
    | _ => noAnn
  | _ => noAnn

def V_moneyR : Prop :=
  ∀ (B : RW) (x : RV) (rows : List (List Int)), IsLst B x rows.length 1 (Rv.elemOf [.i64] rows) → oneB x = true → (∀ (row : List Int), row ∈ rows → row.length = (1 : Nat)) → rows.length ≤ (4000000 : Nat) → (∃ (a : Nat), Ob
  (a ≤ rows.length ∧ ∀ (i : Nat), i < a → mny (cell rows i 0)) ∧ Ob (SV.lst x rows.length 1 (Rv.elemOf [.i64] rows) = SV.lst x rows.length 1 (Rv.elemOf [.i64] rows)) ∧ Ob ((0 : Int) = (↑a : Int)) ∧ Ob (IsLst B x
  rows.length 1 (Rv.elemOf [.i64] rows)) ∧ True) ∧ ∀ (a : Nat), (a ≤ rows.length ∧ ∀ (i : Nat), i < a → mny (cell rows i 0)) → ∀ (z z_1 z_2 z_3 z_4 z_5 z_6 z_7 z_8 z_9 z_10 z_11 z_12 z_13 : Value), Ob (IsLst B x
  rows.length 1 (Rv.elemOf [.i64] rows)) ∧ ((↑a : Int) < (↑rows.length : Int) → Ob ((0 : Int) ≤ (↑a : Int) ∧ a < rows.length ∧ IsLst B x rows.length 1 (Rv.elemOf [.i64] rows)) ∧ Ob (IsLst B x rows.length 1 (Rv.elemOf
  [.i64] rows) ∧ a < rows.length) ∧ Ob True ∧ (¬((0 : Int) ≤ cell rows a 0 ∧ cell rows a 0 ≤ (1000000000 : Int)) → Ob (false = true ↔ allM rows) ∧ True) ∧ (¬¬((0 : Int) ≤ cell rows a 0 ∧ cell rows a 0 ≤ (1000000000 : Int))
  → Ob (InR .i64 ((↑a : Int) + (1 : Int))) ∧ ∃ (a' : Nat), Ob ((a' ≤ rows.length ∧ ∀ (i : Nat), i < a' → mny (cell rows i 0)) ∧ rows.length - a' < rows.length - a) ∧ Ob (SV.lst x rows.length 1 (Rv.elemOf [.i64] rows) =
  SV.lst x rows.length 1 (Rv.elemOf [.i64] rows)) ∧ Ob ((↑a : Int) + (1 : Int) = (↑a' : Int)) ∧ Ob (IsLst B x rows.length 1 (Rv.elemOf [.i64] rows)) ∧ True)) ∧ (¬(↑a : Int) < (↑rows.length : Int) → Ob (true = true ↔ allM
  rows) ∧ True)

set_option linter.unusedSimpArgs false in
set_option maxRecDepth 4000 in
set_option maxHeartbeats 400000 in
theorem v_moneyR : V_moneyR := by
  unfold V_moneyR
  intro B x L hx hox hrx hL
  have hL : L.length ≤ 4000000 := hL
  simp only [Ob_iff, allM, and_true, true_and, Classical.not_not]
  refine ⟨⟨0, ⟨Nat.zero_le _, fun i hi => absurd hi (Nat.not_lt_zero _)⟩, rfl, hx⟩, ?_⟩
  intro k ⟨hk, hk2⟩
  intros
  refine ⟨hx, fun h7 => ?_, fun h7 => ?_⟩
  · have hk' : k < L.length := by omega
    refine ⟨⟨by omega, hk', hx⟩, ⟨hx, hk'⟩, fun h8 => ?_, fun h8 => ?_⟩
    · constructor
      · intro h; cases h
      · intro h; exact absurd (h k hk') h8
    · refine ⟨by simp only [InR]; omega, k + 1, ⟨⟨hk', fun i hi => ?_⟩, by omega⟩, by omega, hx⟩
      by_cases e : i = k
      · subst e; exact h8
      · exact hk2 i (by omega)
  have ek : k = L.length := by omega
  subst ek
  exact ⟨fun _ => hk2, fun _ => trivial⟩

theorem e_moneyR : V_moneyR = needF P [F_withinR] A_moneyR F_moneyR := by kernel_rfl

theorem n_moneyR : Ob (needF P [F_withinR] A_moneyR F_moneyR) := by
  rw [← e_moneyR]
  exact ⟨v_moneyR⟩

theorem b_moneyR : ((P.funcs[40]?).any fun fn => fn.body.isSome) = true := by kernel_rfl

theorem moneyR_ok : Fn0.Ok P F_moneyR := Fn0.ok named (l := [F_withinR]) (A := A_moneyR) (by rfl) (by
  intro F h
  simp only [List.mem_cons, List.not_mem_nil, or_false] at h
  rcases h with rfl
  · exact withinR_ok
) b_moneyR (by
  intro ds N
  simp only [F_moneyR]
  split <;> rfl) n_moneyR

noncomputable def F_surplusR : Fn0 := ⟨37, [.agg [.i .i64, .i .i64, .i .i64, .i .i64, .l [.i64, .i64, .i64], .i .i64]], fun l => match l with | [.z fee, .z itr, .z pri, .z cre, .l A, .z till] => Small A till | _ => False, fun l => match l with | [.z fee, .z itr, .z pri, .z cre, .l A, .z till] => .i .i64 (surp A till) | _ => .v undef⟩
noncomputable def A_surplusR : List SV → List Dat → Nat → List SV → Ann := fun xs ds n ts => match xs with
  | [.agg [_, _, _, _, .lst x _ _ _, _]] => match ds with
    | [.z fee, .z itr, .z pri, .z cre, .l A, .z till] => match n with
      | 3 => ⟨Nat, fun k => [none, some (SV.ptr ((0 : Nat)) ((0 : Nat))), some (SV.v (Value.int IntKind.i64 (0 : Int))), some (.i .i64 (till + colS 1 A k - colS 0 A k)), some (.i .i64 k), none, none, none, none, none, none, none, none, none, none, none, none, none, none, none, none, none, none, none, none, none, none, none, none, none], fun k => [SObj.cells [SV.i IntKind.i64 fee, SV.i IntKind.i64 itr, SV.i IntKind.i64 pri, SV.i IntKind.i64 cre, SV.lst x A.length ((3 : Nat)) (Rv.elemOf [IntKind.i64, IntKind.i64, IntKind.i64] A), SV.i IntKind.i64 till] Kd.ex], fun k => k ≤ A.length, fun k => A.length - k, 0⟩
      | _ => noAnn
    | _ => noAnn
  | _ => noAnn

def V_surplusR : Prop :=
  ∀ (B : RW) (n n_1 n_2 n_3 : Int) (x : RV) (rows : List (List Int)), IsLst B x rows.length 3 (Rv.elemOf [.i64, .i64, .i64] rows) → oneB x = true → (∀ (row : List Int), row ∈ rows → row.length = (3 : Nat)) → ∀ (n_4 : Int),
  Small rows n_4 → (∃ (a : Nat), Ob (a ≤ rows.length) ∧ Ob (Value.int .i64 (0 : Int) = Value.int .i64 (0 : Int)) ∧ Ob (n_4 = n_4 + colS 1 rows a - colS 0 rows a) ∧ Ob ((0 : Int) = (↑a : Int)) ∧ Ob (n = n) ∧ Ob (n_1 = n_1)
  ∧ Ob (n_2 = n_2) ∧ Ob (n_3 = n_3) ∧ Ob (SV.lst x rows.length 3 (Rv.elemOf [.i64, .i64, .i64] rows) = SV.lst x rows.length 3 (Rv.elemOf [.i64, .i64, .i64] rows)) ∧ Ob (n_4 = n_4) ∧ Ob (IsLst B x rows.length 3 (Rv.elemOf
  [.i64, .i64, .i64] rows)) ∧ True) ∧ ∀ (a : Nat), a ≤ rows.length → ∀ (z z_1 z_2 z_3 z_4 z_5 z_6 z_7 z_8 z_9 z_10 z_11 z_12 z_13 z_14 z_15 z_16 z_17 z_18 z_19 z_20 z_21 z_22 z_23 z_24 z_25 : Value), Ob (IsLst B x
  rows.length 3 (Rv.elemOf [.i64, .i64, .i64] rows)) ∧ ((↑a : Int) < (↑rows.length : Int) → Ob (IsLst B x rows.length 3 (Rv.elemOf [.i64, .i64, .i64] rows)) ∧ Ob ((0 : Int) ≤ (↑a : Int) ∧ a < rows.length ∧ IsLst B x
  rows.length 3 (Rv.elemOf [.i64, .i64, .i64] rows)) ∧ Ob (IsLst B x rows.length 3 (Rv.elemOf [.i64, .i64, .i64] rows) ∧ a < rows.length) ∧ Ob (IsLst B x rows.length 3 (Rv.elemOf [.i64, .i64, .i64] rows) ∧ a < rows.length)
  ∧ Ob (IsLst B x rows.length 3 (Rv.elemOf [.i64, .i64, .i64] rows) ∧ a < rows.length) ∧ Ob (InR .i64 (n_4 + colS 1 rows a - colS 0 rows a + cell rows a 1)) ∧ Ob (IsLst B x rows.length 3 (Rv.elemOf [.i64, .i64, .i64]
  rows)) ∧ Ob ((0 : Int) ≤ (↑a : Int) ∧ a < rows.length ∧ IsLst B x rows.length 3 (Rv.elemOf [.i64, .i64, .i64] rows)) ∧ Ob (IsLst B x rows.length 3 (Rv.elemOf [.i64, .i64, .i64] rows) ∧ a < rows.length) ∧ Ob (IsLst B x
  rows.length 3 (Rv.elemOf [.i64, .i64, .i64] rows) ∧ a < rows.length) ∧ Ob (IsLst B x rows.length 3 (Rv.elemOf [.i64, .i64, .i64] rows) ∧ a < rows.length) ∧ Ob (InR .i64 (n_4 + colS 1 rows a - colS 0 rows a + cell rows a
  1 - cell rows a 0)) ∧ Ob (InR .i64 ((↑a : Int) + (1 : Int))) ∧ ∃ (a' : Nat), Ob (a' ≤ rows.length ∧ rows.length - a' < rows.length - a) ∧ Ob (Value.int .i64 (0 : Int) = Value.int .i64 (0 : Int)) ∧ Ob (n_4 + colS 1 rows a
  - colS 0 rows a + cell rows a 1 - cell rows a 0 = n_4 + colS 1 rows a' - colS 0 rows a') ∧ Ob ((↑a : Int) + (1 : Int) = (↑a' : Int)) ∧ Ob (n = n) ∧ Ob (n_1 = n_1) ∧ Ob (n_2 = n_2) ∧ Ob (n_3 = n_3) ∧ Ob (SV.lst x
  rows.length 3 (Rv.elemOf [.i64, .i64, .i64] rows) = SV.lst x rows.length 3 (Rv.elemOf [.i64, .i64, .i64] rows)) ∧ Ob (n_4 = n_4) ∧ Ob (IsLst B x rows.length 3 (Rv.elemOf [.i64, .i64, .i64] rows)) ∧ True) ∧ (¬(↑a : Int) <
  (↑rows.length : Int) → Ob (n_4 + colS 1 rows a - colS 0 rows a = surp rows n_4) ∧ True)

set_option linter.unusedSimpArgs false in
set_option maxRecDepth 4000 in
set_option maxHeartbeats 400000 in
theorem v_surplusR : V_surplusR := by
  unfold V_surplusR
  intro B fee itr pri cre x A hx hox hrx till hS
  have hS : Small A till := hS
  have hl := hS.l
  have bt := hS.t
  simp only [Ob_iff, and_true, true_and]
  refine ⟨⟨0, Nat.zero_le _, by simp [colS, sumF], rfl, hx⟩, ?_⟩
  intro k hk
  intros
  refine ⟨hx, fun h7 => ?_, fun h7 => ?_⟩
  · have hk' : k < A.length := by omega
    have s1 := hS.sum (c := 1) (by omega) hk
    have s0 := hS.sum (c := 0) (by omega) hk
    have c1 := hS.col (c := 1) (by omega) k hk'
    have c0 := hS.col (c := 0) (by omega) k hk'
    have e1 : colS 1 A (k + 1) = colS 1 A k + cell A k 1 := rfl
    have e0 : colS 0 A (k + 1) = colS 0 A k + cell A k 0 := rfl
    refine ⟨hx, ⟨by omega, hk', hx⟩, ⟨hx, hk'⟩, ⟨hx, hk'⟩, ⟨hx, hk'⟩, by simp only [InR]; omega, hx, ⟨by omega, hk', hx⟩, ⟨hx, hk'⟩, ⟨hx, hk'⟩, ⟨hx, hk'⟩, by simp only [InR]; omega, by simp only [InR]; omega, k + 1, ⟨hk', by omega⟩, by rw [e1, e0]; omega, by omega, hx⟩
  have ek : k = A.length := by omega
  subst ek
  rfl

theorem e_surplusR : V_surplusR = needF P [] A_surplusR F_surplusR := by kernel_rfl

theorem n_surplusR : Ob (needF P [] A_surplusR F_surplusR) := by
  rw [← e_surplusR]
  exact ⟨v_surplusR⟩

theorem b_surplusR : ((P.funcs[37]?).any fun fn => fn.body.isSome) = true := by kernel_rfl

theorem surplusR_ok : Fn0.Ok P F_surplusR := Fn0.ok named (l := []) (A := A_surplusR) (by rfl) (by
  intro F h; simp at h) b_surplusR (by
  intro ds N
  simp only [F_surplusR]
  split <;> rfl) n_surplusR

noncomputable def F_CheckR : Fn0 := ⟨19, [.agg [.i .i64, .i .i64, .i .i64, .i .i64, .l [.i64, .i64, .i64], .i .i64]], fun l => match l with | [.z fee, .z itr, .z pri, .z cre, .l A, .z till] => A.length ≤ 4000000 | _ => False, fun l => match l with | [.z fee, .z itr, .z pri, .z cre, .l A, .z till] => .i .i64 (coopErr fee itr pri cre A till) | _ => .v undef⟩
noncomputable def A_CheckR : List SV → List Dat → Nat → List SV → Ann := fun xs ds n ts => match xs with
  | [.agg [_, _, _, _, .lst x _ _ _, _]] => match ds with
    | [.z fee, .z itr, .z pri, .z cre, .l A, .z till] => match n with
      | 9 => ⟨Nat, fun k => [none, some (SV.ptr ((0 : Nat)) ((0 : Nat))), none, none, some (.i .i64 k), none, none, none, none, none, none, none, none, none, none, none, none, none, none, none, none, none, none, none, none, none, none, none, none, none, none, none, none, none, none, none, none, none, none, none, none, none, none, none, none, none, none, none, none, none, none, none, none, none, none, none, none, none, none, none, none, none, none, none, none, none, none, none, none, none, none, none, none, none], fun k => [SObj.cells [SV.i IntKind.i64 cre] Kd.ex, SObj.cells [SV.i IntKind.i64 fee, SV.i IntKind.i64 itr, SV.i IntKind.i64 pri, SV.i IntKind.i64 cre] Kd.ex, SObj.cells [SV.i IntKind.i64 fee, SV.i IntKind.i64 itr, SV.i IntKind.i64 pri, SV.i IntKind.i64 cre, SV.lst x A.length ((3 : Nat)) (Rv.elemOf [IntKind.i64, IntKind.i64, IntKind.i64] A), SV.i IntKind.i64 till] Kd.ex], fun k => k ≤ A.length ∧ ∀ i, i < k → accAt A i, fun k => A.length - k, 0⟩
      | _ => noAnn
    | _ => noAnn
  | _ => noAnn

def V_CheckR : Prop :=
  ∀ (B : RW) (n n_1 n_2 n_3 : Int) (x : RV) (rows : List (List Int)), IsLst B x rows.length 3 (Rv.elemOf [.i64, .i64, .i64] rows) → oneB x = true → (∀ (row : List Int), row ∈ rows → row.length = (3 : Nat)) → ∀ (n_4 : Int),
  rows.length ≤ (4000000 : Nat) → Ob True ∧ (¬¬((0 : Int) ≤ n ∧ n ≤ (1000000 : Int)) → Ob True ∧ (¬¬((0 : Int) ≤ n_1 ∧ n_1 ≤ (1000000 : Int)) → Ob True ∧ (¬¬((0 : Int) ≤ n_2 ∧ n_2 ≤ (1000 : Int)) → Ob ([[n_3]].length ≤
  (4000000 : Nat)) ∧ (¬allM [[n_3]] → Ob ((1 : Int) = coopErr n n_1 n_2 n_3 rows n_4) ∧ True) ∧ (¬¬allM [[n_3]] → Ob (IsLst B x rows.length 3 (Rv.elemOf [.i64, .i64, .i64] rows)) ∧ ((↑rows.length : Int) = (0 : Int) → Ob
  ((4 : Int) = coopErr n n_1 n_2 n_3 rows n_4) ∧ True) ∧ (¬(↑rows.length : Int) = (0 : Int) → Ob (IsLst B x rows.length 3 (Rv.elemOf [.i64, .i64, .i64] rows)) ∧ ((12 : Int) < (↑rows.length : Int) → Ob ((5 : Int) = coopErr
  n n_1 n_2 n_3 rows n_4) ∧ True) ∧ (¬(12 : Int) < (↑rows.length : Int) → (∃ (a : Nat), Ob (a ≤ rows.length ∧ ∀ (i : Nat), i < a → accAt rows i) ∧ Ob ((0 : Int) = (↑a : Int)) ∧ Ob (n_3 = n_3) ∧ Ob (n = n) ∧ Ob (n_1 = n_1)
  ∧ Ob (n_2 = n_2) ∧ Ob (n_3 = n_3) ∧ Ob (n = n) ∧ Ob (n_1 = n_1) ∧ Ob (n_2 = n_2) ∧ Ob (n_3 = n_3) ∧ Ob (SV.lst x rows.length 3 (Rv.elemOf [.i64, .i64, .i64] rows) = SV.lst x rows.length 3 (Rv.elemOf [.i64, .i64, .i64]
  rows)) ∧ Ob (n_4 = n_4) ∧ Ob (IsLst B x rows.length 3 (Rv.elemOf [.i64, .i64, .i64] rows)) ∧ True) ∧ ∀ (a : Nat), (a ≤ rows.length ∧ ∀ (i : Nat), i < a → accAt rows i) → ∀ (z z_1 z_2 z_3 z_4 z_5 z_6 z_7 z_8 z_9 z_10 z_11
  z_12 z_13 z_14 z_15 z_16 z_17 z_18 z_19 z_20 z_21 z_22 z_23 z_24 z_25 z_26 z_27 z_28 z_29 z_30 z_31 z_32 z_33 z_34 z_35 z_36 z_37 z_38 z_39 z_40 z_41 z_42 z_43 z_44 z_45 z_46 z_47 z_48 z_49 z_50 z_51 z_52 z_53 z_54 z_55
  z_56 z_57 z_58 z_59 z_60 z_61 z_62 z_63 z_64 z_65 z_66 z_67 z_68 z_69 z_70 z_71 : Value), Ob (IsLst B x rows.length 3 (Rv.elemOf [.i64, .i64, .i64] rows)) ∧ ((↑a : Int) < (↑rows.length : Int) → Ob (IsLst B x rows.length
  3 (Rv.elemOf [.i64, .i64, .i64] rows)) ∧ Ob ((0 : Int) ≤ (↑a : Int) ∧ a < rows.length ∧ IsLst B x rows.length 3 (Rv.elemOf [.i64, .i64, .i64] rows)) ∧ Ob (IsLst B x rows.length 3 (Rv.elemOf [.i64, .i64, .i64] rows) ∧ a <
  rows.length) ∧ Ob (IsLst B x rows.length 3 (Rv.elemOf [.i64, .i64, .i64] rows) ∧ a < rows.length) ∧ Ob (IsLst B x rows.length 3 (Rv.elemOf [.i64, .i64, .i64] rows) ∧ a < rows.length) ∧ Ob (IsLst B x rows.length 3
  (Rv.elemOf [.i64, .i64, .i64] rows)) ∧ Ob ((0 : Int) ≤ (↑a : Int) ∧ a < rows.length ∧ IsLst B x rows.length 3 (Rv.elemOf [.i64, .i64, .i64] rows)) ∧ Ob (IsLst B x rows.length 3 (Rv.elemOf [.i64, .i64, .i64] rows) ∧ a <
  rows.length) ∧ Ob (IsLst B x rows.length 3 (Rv.elemOf [.i64, .i64, .i64] rows) ∧ a < rows.length) ∧ Ob (IsLst B x rows.length 3 (Rv.elemOf [.i64, .i64, .i64] rows) ∧ a < rows.length) ∧ Ob (IsLst B x rows.length 3
  (Rv.elemOf [.i64, .i64, .i64] rows)) ∧ Ob ((0 : Int) ≤ (↑a : Int) ∧ a < rows.length ∧ IsLst B x rows.length 3 (Rv.elemOf [.i64, .i64, .i64] rows)) ∧ Ob (IsLst B x rows.length 3 (Rv.elemOf [.i64, .i64, .i64] rows) ∧ a <
  rows.length) ∧ Ob (IsLst B x rows.length 3 (Rv.elemOf [.i64, .i64, .i64] rows) ∧ a < rows.length) ∧ Ob (IsLst B x rows.length 3 (Rv.elemOf [.i64, .i64, .i64] rows) ∧ a < rows.length) ∧ Ob ([[cell rows a 0], [cell rows a
  1], [cell rows a 2]].length ≤ (4000000 : Nat)) ∧ (¬allM [[cell rows a 0], [cell rows a 1], [cell rows a 2]] → Ob ((1 : Int) = coopErr n n_1 n_2 n_3 rows n_4) ∧ True) ∧ (¬¬allM [[cell rows a 0], [cell rows a 1], [cell
  rows a 2]] → Ob (InR .i64 ((↑a : Int) + (1 : Int))) ∧ ∃ (a' : Nat), Ob ((a' ≤ rows.length ∧ ∀ (i : Nat), i < a' → accAt rows i) ∧ rows.length - a' < rows.length - a) ∧ Ob ((↑a : Int) + (1 : Int) = (↑a' : Int)) ∧ Ob (n_3
  = n_3) ∧ Ob (n = n) ∧ Ob (n_1 = n_1) ∧ Ob (n_2 = n_2) ∧ Ob (n_3 = n_3) ∧ Ob (n = n) ∧ Ob (n_1 = n_1) ∧ Ob (n_2 = n_2) ∧ Ob (n_3 = n_3) ∧ Ob (SV.lst x rows.length 3 (Rv.elemOf [.i64, .i64, .i64] rows) = SV.lst x
  rows.length 3 (Rv.elemOf [.i64, .i64, .i64] rows)) ∧ Ob (n_4 = n_4) ∧ Ob (IsLst B x rows.length 3 (Rv.elemOf [.i64, .i64, .i64] rows)) ∧ True)) ∧ (¬(↑a : Int) < (↑rows.length : Int) → Ob ([[n_4]].length ≤ (4000000 :
  Nat)) ∧ (¬allM [[n_4]] → Ob ((1 : Int) = coopErr n n_1 n_2 n_3 rows n_4) ∧ True) ∧ (¬¬allM [[n_4]] → ∃ (rows_1 : List (List Int)), Ob (IsLst B x rows.length 3 (Rv.elemOf [.i64, .i64, .i64] rows) ∧ rows_1.length =
  rows.length ∧ (∀ (r : List Int), r ∈ rows_1 → r.length = (3 : Nat)) ∧ ∀ (i : Nat), i < rows.length → Rv.elemOf [.i64, .i64, .i64] rows i = Rv.elemOf [.i64, .i64, .i64] rows_1 i) ∧ Ob (Small rows_1 n_4) ∧ (surp rows_1 n_4
  < (0 : Int) → Ob ((9 : Int) = coopErr n n_1 n_2 n_3 rows n_4) ∧ True) ∧ (¬surp rows_1 n_4 < (0 : Int) → Ob ((0 : Int) = coopErr n n_1 n_2 n_3 rows n_4) ∧ True))))))) ∧ (¬((0 : Int) ≤ n_2 ∧ n_2 ≤ (1000 : Int)) → Ob ((1 :
  Int) = coopErr n n_1 n_2 n_3 rows n_4) ∧ True)) ∧ (¬((0 : Int) ≤ n_1 ∧ n_1 ≤ (1000000 : Int)) → Ob ((1 : Int) = coopErr n n_1 n_2 n_3 rows n_4) ∧ True)) ∧ (¬((0 : Int) ≤ n ∧ n ≤ (1000000 : Int)) → Ob ((1 : Int) = coopErr
  n n_1 n_2 n_3 rows n_4) ∧ True)

set_option linter.unusedSimpArgs false in
set_option maxRecDepth 4000 in
set_option maxHeartbeats 400000 in
theorem v_CheckR : V_CheckR := by
  unfold V_CheckR
  intro B fee itr pri cre x A hx hox hrx till hA
  have hA : A.length ≤ 4000000 := hA
  have m1 : ∀ n : Int, allM [[n]] ↔ mny n := fun n => ⟨fun h => h 0 (Nat.lt_succ_self 0), fun h i hi => by
    have hi : i < 1 := hi
    have e : i = 0 := by omega
    subst e
    exact h⟩
  have m3 : ∀ k, allM [[cell A k 0], [cell A k 1], [cell A k 2]] ↔ accAt A k := fun k => ⟨fun h => ⟨h 0 (by show 0 < 3; omega), h 1 (by show 1 < 3; omega), h 2 (by show 2 < 3; omega)⟩, fun h i hi => by
    have hi : i < 3 := hi
    have : i = 0 ∨ i = 1 ∨ i = 2 := by omega
    rcases this with rfl | rfl | rfl
    · exact h.1
    · exact h.2.1
    · exact h.2.2⟩
  have l1 : ∀ n : Int, [[n]].length ≤ 4000000 := fun n => by show 1 ≤ 4000000; omega
  have l3 : ∀ k, [[cell A k 0], [cell A k 1], [cell A k 2]].length ≤ 4000000 := fun k => by show 3 ≤ 4000000; omega
  simp only [Ob_iff, and_true, true_and, Classical.not_not, m1, m3]
  have bad : ¬ ((0 ≤ fee ∧ fee ≤ 1000000) ∧ (0 ≤ itr ∧ itr ≤ 1000000) ∧ (0 ≤ pri ∧ pri ≤ 1000) ∧ mny cre) → 1 = coopErr fee itr pri cre A till := fun h => by
    unfold coopErr
    rw [if_neg h]
  refine ⟨fun h1 => ⟨fun h2 => ⟨fun h3 => ⟨l1 _, fun h4 => bad fun h => h4 h.2.2.2, fun h4 => ?_⟩, fun h3 => bad fun h => h3 h.2.2.1⟩, fun h2 => bad fun h => h2 h.2.1⟩, fun h1 => bad fun h => h1 h.1⟩
  have hr : (0 ≤ fee ∧ fee ≤ 1000000) ∧ (0 ≤ itr ∧ itr ≤ 1000000) ∧ (0 ≤ pri ∧ pri ≤ 1000) ∧ mny cre := ⟨h1, h2, h3, h4⟩
  refine ⟨hx, fun h5 => ?_, fun h5 => ⟨hx, fun h6 => ?_, fun h6 => ?_⟩⟩
  · unfold coopErr
    rw [if_pos hr, if_pos (by omega)]
  · unfold coopErr
    rw [if_pos hr, if_neg (by omega), if_pos (by omega)]
  have l0 : ¬ A.length = 0 := by omega
  have l2 : ¬ 12 < A.length := by omega
  refine ⟨⟨0, ⟨Nat.zero_le _, fun i hi => absurd hi (Nat.not_lt_zero _)⟩, rfl, hx⟩, ?_⟩
  intro k ⟨hk, hk2⟩
  intros
  refine ⟨hx, fun h7 => ?_, fun h7 => ?_⟩
  · have hk' : k < A.length := by omega
    have badk : ¬ accAt A k → 1 = coopErr fee itr pri cre A till := fun h => by
      unfold coopErr
      rw [if_pos hr, if_neg l0, if_neg l2, if_neg fun hh => h (hh k hk')]
    refine ⟨hx, ⟨by omega, hk', hx⟩, ⟨hx, hk'⟩, ⟨hx, hk'⟩, ⟨hx, hk'⟩, hx, ⟨by omega, hk', hx⟩, ⟨hx, hk'⟩, ⟨hx, hk'⟩, ⟨hx, hk'⟩, hx, ⟨by omega, hk', hx⟩, ⟨hx, hk'⟩, ⟨hx, hk'⟩, ⟨hx, hk'⟩, l3 k, fun h8 => badk h8, fun h8 => ?_⟩
    refine ⟨by simp only [InR]; omega, k + 1, ⟨⟨hk', fun i hi => ?_⟩, by omega⟩, by omega, hx⟩
    by_cases e : i = k
    · subst e; exact h8
    · exact hk2 i (by omega)
  have ek : k = A.length := by omega
  subst ek
  refine ⟨l1 _, fun h8 => ?_, fun h8 => ?_⟩
  · unfold coopErr
    rw [if_pos hr, if_neg l0, if_neg l2, if_pos hk2, if_neg h8]
  refine ⟨A, ⟨hx, rfl, hrx, fun _ _ => rfl⟩, small_of (by omega) hk2 h8, fun h9 => ?_, fun h9 => ?_⟩
  · unfold coopErr
    rw [if_pos hr, if_neg l0, if_neg l2, if_pos hk2, if_pos h8, if_pos h9]
  · unfold coopErr
    rw [if_pos hr, if_neg l0, if_neg l2, if_pos hk2, if_pos h8, if_neg h9]

theorem e_CheckR : V_CheckR = needF P [F_withinR, F_moneyR, F_surplusR] A_CheckR F_CheckR := by kernel_rfl

theorem n_CheckR : Ob (needF P [F_withinR, F_moneyR, F_surplusR] A_CheckR F_CheckR) := by
  rw [← e_CheckR]
  exact ⟨v_CheckR⟩

theorem b_CheckR : ((P.funcs[19]?).any fun fn => fn.body.isSome) = true := by kernel_rfl

theorem CheckR_ok : Fn0.Ok P F_CheckR := Fn0.ok named (l := [F_withinR, F_moneyR, F_surplusR]) (A := A_CheckR) (by rfl) (by
  intro F h
  simp only [List.mem_cons, List.not_mem_nil, or_false] at h
  rcases h with rfl | rfl | rfl
  · exact withinR_ok
  · exact moneyR_ok
  · exact surplusR_ok
) b_CheckR (by
  intro ds N
  simp only [F_CheckR]
  split <;> rfl) n_CheckR

noncomputable def F_SurplusR : FnE := ⟨15, none, [.agg [.i .i64, .i .i64, .i .i64, .i .i64, .l [.i64, .i64, .i64], .i .i64]], fun l => match l with | [.z fee, .z itr, .z pri, .z cre, .l A, .z till] => A.length ≤ 4000000 | _ => False, fun l => match l with | [.z fee, .z itr, .z pri, .z cre, .l A, .z till] => [.i .i64 (surV fee itr pri cre A till), .i .i64 (coopErr fee itr pri cre A till)] | _ => [], fun l => match l with | [.z fee, .z itr, .z pri, .z cre, .l A, .z till] => [] | _ => [], fun l => match l with | [.z fee, .z itr, .z pri, .z cre, .l A, .z till] => [] | _ => [], false, none⟩
noncomputable def A_SurplusR : List SV → List Dat → Nat → List SV → Ann := fun _ _ _ _ => noAnn

def V_SurplusR : Prop :=
  ∀ (B : RW) (n n_1 n_2 n_3 : Int) (x : RV) (rows : List (List Int)), IsLst B x rows.length 3 (Rv.elemOf [.i64, .i64, .i64] rows) → oneB x = true → (∀ (row : List Int), row ∈ rows → row.length = (3 : Nat)) → ∀ (n_4 : Int),
  F_SurplusR.pre ([Dat.z n, Dat.z n_1, Dat.z n_2, Dat.z n_3, Dat.l rows, Dat.z n_4] ++ []) → ∃ (rows_1 : List (List Int)), Ob (IsLst B x rows.length 3 (Rv.elemOf [.i64, .i64, .i64] rows) ∧ rows_1.length = rows.length ∧ (∀
  (r : List Int), r ∈ rows_1 → r.length = (3 : Nat)) ∧ ∀ (i : Nat), i < rows.length → Rv.elemOf [.i64, .i64, .i64] rows i = Rv.elemOf [.i64, .i64, .i64] rows_1 i) ∧ Ob (rows_1.length ≤ (4000000 : Nat)) ∧ (¬coopErr n n_1
  n_2 n_3 rows_1 n_4 = (0 : Int) → Ob ((0 : Int) = surV n n_1 n_2 n_3 rows n_4) ∧ Ob (coopErr n n_1 n_2 n_3 rows_1 n_4 = coopErr n n_1 n_2 n_3 rows n_4) ∧ True) ∧ (¬¬coopErr n n_1 n_2 n_3 rows_1 n_4 = (0 : Int) → ∃ (rows_2
  : List (List Int)), Ob (IsLst B x rows.length 3 (Rv.elemOf [.i64, .i64, .i64] rows) ∧ rows_2.length = rows.length ∧ (∀ (r : List Int), r ∈ rows_2 → r.length = (3 : Nat)) ∧ ∀ (i : Nat), i < rows.length → Rv.elemOf [.i64,
  .i64, .i64] rows i = Rv.elemOf [.i64, .i64, .i64] rows_2 i) ∧ Ob (Small rows_2 n_4) ∧ Ob (surp rows_2 n_4 = surV n n_1 n_2 n_3 rows n_4) ∧ Ob ((0 : Int) = coopErr n n_1 n_2 n_3 rows n_4) ∧ True)

set_option linter.unusedSimpArgs false in
set_option maxRecDepth 4000 in
set_option maxHeartbeats 400000 in
theorem v_SurplusR : V_SurplusR := by
  unfold V_SurplusR
  intro B fee itr pri cre x A hx hox hrx till hA
  have hA : A.length ≤ 4000000 := hA
  simp only [Ob_iff, and_true, true_and]
  refine ⟨A, ⟨hx, rfl, hrx, fun _ _ => rfl⟩, hA, fun h1 => ?_, fun h1 => ?_⟩
  · unfold surV
    rw [if_neg h1]
    exact ⟨rfl, rfl⟩
  have h1 := Classical.not_not.1 h1
  refine ⟨A, ⟨hx, rfl, hrx, fun _ _ => rfl⟩, (coop_ok h1).small, ?_⟩
  unfold surV
  rw [if_pos h1]
  exact ⟨rfl, h1.symm⟩

theorem e_SurplusR : V_SurplusR = needE P [F_surplusR, F_CheckR] [] A_SurplusR F_SurplusR := by kernel_rfl

theorem n_SurplusR : Ob (needE P [F_surplusR, F_CheckR] [] A_SurplusR F_SurplusR) := by
  rw [← e_SurplusR]
  exact ⟨v_SurplusR⟩

theorem b_SurplusR : ((P.funcs[15]?).any fun fn => fn.body.isSome) = true := by kernel_rfl

theorem SurplusR_ok : FnE.Ok P F_SurplusR := FnE.ok named (l := [F_surplusR, F_CheckR]) (es := []) (A := A_SurplusR) (by rfl) (by rfl) (by rfl) (by
  intro F h
  simp only [List.mem_cons, List.not_mem_nil, or_false] at h
  rcases h with rfl | rfl
  · exact surplusR_ok
  · exact CheckR_ok
) (by
  intro F h; simp at h) b_SurplusR (by
  rintro ds h o ho n sz e k z rfl
  simp only [F_SurplusR] at ho
  split at ho <;> simp at ho) n_SurplusR

noncomputable def F_idleR : Fn0 := ⟨41, [.one (.l [.i64, .i64, .i64])], fun l => match l with | [.l A] => A.length ≤ 4000000 | _ => False, fun l => match l with | [.l A] => .p (idl A) | _ => .v undef⟩
noncomputable def A_idleR : List SV → List Dat → Nat → List SV → Ann := fun xs ds n ts => match xs with
  | [.lst x _ _ _] => match ds with
    | [.l A] => match n with
      | 2 => ⟨Nat, fun k => [some (SV.lst x A.length ((3 : Nat)) (Rv.elemOf [IntKind.i64, IntKind.i64, IntKind.i64] A)), none, none, some (.i .i64 k), none, none, none, none, none, none, none, none, none, none, none, none], fun k => [], fun k => k ≤ A.length ∧ ∀ i, i < k → cell A i 2 ≤ 0, fun k => A.length - k, 0⟩
      | _ => noAnn
    | _ => noAnn
  | _ => noAnn

def V_idleR : Prop :=
  ∀ (B : RW) (x : RV) (rows : List (List Int)), IsLst B x rows.length 3 (Rv.elemOf [.i64, .i64, .i64] rows) → oneB x = true → (∀ (row : List Int), row ∈ rows → row.length = (3 : Nat)) → rows.length ≤ (4000000 : Nat) → (∃
  (a : Nat), Ob (a ≤ rows.length ∧ ∀ (i : Nat), i < a → cell rows i 2 ≤ (0 : Int)) ∧ Ob (SV.lst x rows.length 3 (Rv.elemOf [.i64, .i64, .i64] rows) = SV.lst x rows.length 3 (Rv.elemOf [.i64, .i64, .i64] rows)) ∧ Ob ((0 :
  Int) = (↑a : Int)) ∧ Ob (IsLst B x rows.length 3 (Rv.elemOf [.i64, .i64, .i64] rows)) ∧ True) ∧ ∀ (a : Nat), (a ≤ rows.length ∧ ∀ (i : Nat), i < a → cell rows i 2 ≤ (0 : Int)) → ∀ (z z_1 z_2 z_3 z_4 z_5 z_6 z_7 z_8 z_9
  z_10 z_11 z_12 z_13 : Value), Ob (IsLst B x rows.length 3 (Rv.elemOf [.i64, .i64, .i64] rows)) ∧ ((↑a : Int) < (↑rows.length : Int) → Ob ((0 : Int) ≤ (↑a : Int) ∧ a < rows.length ∧ IsLst B x rows.length 3 (Rv.elemOf
  [.i64, .i64, .i64] rows)) ∧ Ob (IsLst B x rows.length 3 (Rv.elemOf [.i64, .i64, .i64] rows) ∧ a < rows.length) ∧ ((0 : Int) < cell rows a 2 → Ob (false = true ↔ idl rows) ∧ True) ∧ (¬(0 : Int) < cell rows a 2 → Ob (InR
  .i64 ((↑a : Int) + (1 : Int))) ∧ ∃ (a' : Nat), Ob ((a' ≤ rows.length ∧ ∀ (i : Nat), i < a' → cell rows i 2 ≤ (0 : Int)) ∧ rows.length - a' < rows.length - a) ∧ Ob (SV.lst x rows.length 3 (Rv.elemOf [.i64, .i64, .i64]
  rows) = SV.lst x rows.length 3 (Rv.elemOf [.i64, .i64, .i64] rows)) ∧ Ob ((↑a : Int) + (1 : Int) = (↑a' : Int)) ∧ Ob (IsLst B x rows.length 3 (Rv.elemOf [.i64, .i64, .i64] rows)) ∧ True)) ∧ (¬(↑a : Int) < (↑rows.length :
  Int) → Ob (true = true ↔ idl rows) ∧ True)

set_option linter.unusedSimpArgs false in
set_option maxRecDepth 4000 in
set_option maxHeartbeats 400000 in
theorem v_idleR : V_idleR := by
  unfold V_idleR
  intro B x A hx hox hrx hL
  have hL : A.length ≤ 4000000 := hL
  simp only [Ob_iff, idl, and_true, true_and, Classical.not_not]
  refine ⟨⟨0, ⟨Nat.zero_le _, fun i hi => absurd hi (Nat.not_lt_zero _)⟩, rfl, hx⟩, ?_⟩
  intro k ⟨hk, hk2⟩
  intros
  refine ⟨hx, fun h7 => ?_, fun h7 => ?_⟩
  · have hk' : k < A.length := by omega
    refine ⟨⟨by omega, hk', hx⟩, ⟨hx, hk'⟩, fun h8 => ?_, fun h8 => ?_⟩
    · constructor
      · intro h; cases h
      · intro h; have := h k hk'; omega
    · refine ⟨by simp only [InR]; omega, k + 1, ⟨⟨hk', fun i hi => ?_⟩, by omega⟩, by omega, hx⟩
      by_cases e : i = k
      · subst e; omega
      · exact hk2 i (by omega)
  have ek : k = A.length := by omega
  subst ek
  exact ⟨fun _ => hk2, fun _ => trivial⟩

theorem e_idleR : V_idleR = needF P [] A_idleR F_idleR := by kernel_rfl

theorem n_idleR : Ob (needF P [] A_idleR F_idleR) := by
  rw [← e_idleR]
  exact ⟨v_idleR⟩

theorem b_idleR : ((P.funcs[41]?).any fun fn => fn.body.isSome) = true := by kernel_rfl

theorem idleR_ok : Fn0.Ok P F_idleR := Fn0.ok named (l := []) (A := A_idleR) (by rfl) (by
  intro F h; simp at h) b_idleR (by
  intro ds N
  simp only [F_idleR]
  split <;> rfl) n_idleR

end Go.Proofs.Ytcfhnbhncdkknaa.Sy
