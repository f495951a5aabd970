/- Numbers, spans, parts: growth, and the reference. -/
import Derived.Test.YtgdnhmilhpnbjaaDoorSyP2
import Derived.Test.YtgdnhmilhpnbjaaDoorGrM
import Derived.KernelRfl
import Derived.Test.YtgdnhmilhpnbjaaDoorProg
namespace Go.Proofs.YtgdnhmilhpnbjaaDoor.Sy
open Go Go.Rv
set_option linter.unusedVariables false



noncomputable def F_within : Fn0 := ⟨37, [i64, i64, i64], fun _ => True, fun l => match l with | [.z n, .z lo, .z hi] => .p (inB n lo hi) | _ => .v undef⟩
noncomputable def A_within : List SV → List Dat → Nat → List SV → Ann := fun _ _ _ _ => noAnn

def V_within : Prop :=
  ∀ (B : RW) (n n_1 n_2 : Int), True → (n_1 ≤ n → Ob (n ≤ n_2 ↔ inB n n_1 n_2) ∧ True) ∧ (¬n_1 ≤ n → Ob (false = true ↔ inB n n_1 n_2) ∧ True)

set_option linter.unusedSimpArgs false in
set_option maxRecDepth 4000 in
set_option maxHeartbeats 400000 in
theorem v_within : V_within := by
  unfold V_within
  intros
  simp only [Ob_iff, and_true, true_and, inB, spanErr, InR] at *
  all_goals grind

theorem e_within : V_within = needF P [] A_within F_within := by kernel_rfl

theorem n_within : Ob (needF P [] A_within F_within) := by
  rw [← e_within]
  exact ⟨v_within⟩

theorem b_within : ((P.funcs[37]?).any fun fn => fn.body.isSome) = true := by kernel_rfl

theorem within_ok : Fn0.Ok P F_within := Fn0.ok named (l := []) (A := A_within) (by rfl) (by
  intro F h; simp at h) b_within (by
  intro ds N
  simp only [F_within]
  split <;> rfl) n_within

noncomputable def F_rwithin : Fn0 := ⟨40, [i64, i64, i64], fun _ => True, fun l => match l with | [.z n, .z lo, .z hi] => .p (inB n lo hi) | _ => .v undef⟩
noncomputable def A_rwithin : List SV → List Dat → Nat → List SV → Ann := fun _ _ _ _ => noAnn

def V_rwithin : Prop :=
  ∀ (B : RW) (n n_1 n_2 : Int), True → (n_1 ≤ n → Ob (n ≤ n_2 ↔ inB n n_1 n_2) ∧ True) ∧ (¬n_1 ≤ n → Ob (false = true ↔ inB n n_1 n_2) ∧ True)

set_option linter.unusedSimpArgs false in
set_option maxRecDepth 4000 in
set_option maxHeartbeats 400000 in
theorem v_rwithin : V_rwithin := by
  unfold V_rwithin
  intros
  simp only [Ob_iff, and_true, true_and, inB, spanErr, InR] at *
  all_goals grind

theorem e_rwithin : V_rwithin = needF P [] A_rwithin F_rwithin := by kernel_rfl

theorem n_rwithin : Ob (needF P [] A_rwithin F_rwithin) := by
  rw [← e_rwithin]
  exact ⟨v_rwithin⟩

theorem b_rwithin : ((P.funcs[40]?).any fun fn => fn.body.isSome) = true := by kernel_rfl

theorem rwithin_ok : Fn0.Ok P F_rwithin := Fn0.ok named (l := []) (A := A_rwithin) (by rfl) (by
  intro F h; simp at h) b_rwithin (by
  intro ds N
  simp only [F_rwithin]
  split <;> rfl) n_rwithin

noncomputable def F_isSize : Fn0 := ⟨38, [i64], fun _ => True, fun l => match l with | [.z n] => .p (inB n 0 2500) | _ => .v undef⟩
noncomputable def A_isSize : List SV → List Dat → Nat → List SV → Ann := fun _ _ _ _ => noAnn

def V_isSize : Prop :=
  ∀ (B : RW) (n : Int), True → Ob True ∧ Ob (inB n (0 : Int) (2500 : Int) ↔ inB n (0 : Int) (2500 : Int)) ∧ True

set_option linter.unusedSimpArgs false in
set_option maxRecDepth 4000 in
set_option maxHeartbeats 400000 in
theorem v_isSize : V_isSize := by
  unfold V_isSize
  intros
  simp only [Ob_iff, and_true, true_and, inB, spanErr, InR] at *
  all_goals grind

theorem e_isSize : V_isSize = needF P [F_within] A_isSize F_isSize := by kernel_rfl

theorem n_isSize : Ob (needF P [F_within] A_isSize F_isSize) := by
  rw [← e_isSize]
  exact ⟨v_isSize⟩

theorem b_isSize : ((P.funcs[38]?).any fun fn => fn.body.isSome) = true := by kernel_rfl

theorem isSize_ok : Fn0.Ok P F_isSize := Fn0.ok named (l := [F_within]) (A := A_isSize) (by rfl) (by
  intro F h
  simp only [List.mem_cons, List.not_mem_nil, or_false] at h
  rcases h with rfl
  · exact within_ok
) b_isSize (by
  intro ds N
  simp only [F_isSize]
  split <;> rfl) n_isSize

noncomputable def F_checkSpan : Fn0 := ⟨43, [.agg [.i .i64, .i .i64], i64, i64], fun _ => True, fun l => match l with | [.z a, .z b, .z lo, .z hi] => .i .i64 (spanErr a b lo hi) | _ => .v undef⟩
noncomputable def A_checkSpan : List SV → List Dat → Nat → List SV → Ann := fun _ _ _ _ => noAnn

def V_checkSpan : Prop :=
  ∀ (B : RW) (n n_1 n_2 n_3 : Int), True → Ob True ∧ (¬¬inB n n_2 n_3 → Ob True ∧ (¬inB n_1 n_2 n_3 → Ob ((1 : Int) = spanErr n n_1 n_2 n_3) ∧ True) ∧ (¬¬inB n_1 n_2 n_3 → (n_1 < n → Ob ((8 : Int) = spanErr n n_1 n_2 n_3)
  ∧ True) ∧ (¬n_1 < n → Ob ((0 : Int) = spanErr n n_1 n_2 n_3) ∧ True))) ∧ (¬inB n n_2 n_3 → Ob ((1 : Int) = spanErr n n_1 n_2 n_3) ∧ True)

set_option linter.unusedSimpArgs false in
set_option maxRecDepth 4000 in
set_option maxHeartbeats 400000 in
theorem v_checkSpan : V_checkSpan := by
  unfold V_checkSpan
  intros
  simp only [Ob_iff, and_true, true_and, inB, spanErr, InR] at *
  all_goals grind

theorem e_checkSpan : V_checkSpan = needF P [F_within] A_checkSpan F_checkSpan := by kernel_rfl

theorem n_checkSpan : Ob (needF P [F_within] A_checkSpan F_checkSpan) := by
  rw [← e_checkSpan]
  exact ⟨v_checkSpan⟩

theorem b_checkSpan : ((P.funcs[43]?).any fun fn => fn.body.isSome) = true := by kernel_rfl

theorem checkSpan_ok : Fn0.Ok P F_checkSpan := Fn0.ok named (l := [F_within]) (A := A_checkSpan) (by rfl) (by
  intro F h
  simp only [List.mem_cons, List.not_mem_nil, or_false] at h
  rcases h with rfl
  · exact within_ok
) b_checkSpan (by
  intro ds N
  simp only [F_checkSpan]
  split <;> rfl) n_checkSpan

noncomputable def F_rcheckSpan : Fn0 := ⟨41, [.agg [.i .i64, .i .i64], i64, i64], fun _ => True, fun l => match l with | [.z a, .z b, .z lo, .z hi] => .i .i64 (spanErr a b lo hi) | _ => .v undef⟩
noncomputable def A_rcheckSpan : List SV → List Dat → Nat → List SV → Ann := fun _ _ _ _ => noAnn

def V_rcheckSpan : Prop :=
  ∀ (B : RW) (n n_1 n_2 n_3 : Int), True → Ob True ∧ (¬¬inB n n_2 n_3 → Ob True ∧ (¬inB n_1 n_2 n_3 → Ob ((1 : Int) = spanErr n n_1 n_2 n_3) ∧ True) ∧ (¬¬inB n_1 n_2 n_3 → (n_1 < n → Ob ((8 : Int) = spanErr n n_1 n_2 n_3)
  ∧ True) ∧ (¬n_1 < n → Ob ((0 : Int) = spanErr n n_1 n_2 n_3) ∧ True))) ∧ (¬inB n n_2 n_3 → Ob ((1 : Int) = spanErr n n_1 n_2 n_3) ∧ True)

set_option linter.unusedSimpArgs false in
set_option maxRecDepth 4000 in
set_option maxHeartbeats 400000 in
theorem v_rcheckSpan : V_rcheckSpan := by
  unfold V_rcheckSpan
  intros
  simp only [Ob_iff, and_true, true_and, inB, spanErr, InR] at *
  all_goals grind

theorem e_rcheckSpan : V_rcheckSpan = needF P [F_rwithin] A_rcheckSpan F_rcheckSpan := by kernel_rfl

theorem n_rcheckSpan : Ob (needF P [F_rwithin] A_rcheckSpan F_rcheckSpan) := by
  rw [← e_rcheckSpan]
  exact ⟨v_rcheckSpan⟩

theorem b_rcheckSpan : ((P.funcs[41]?).any fun fn => fn.body.isSome) = true := by kernel_rfl

theorem rcheckSpan_ok : Fn0.Ok P F_rcheckSpan := Fn0.ok named (l := [F_rwithin]) (A := A_rcheckSpan) (by rfl) (by
  intro F h
  simp only [List.mem_cons, List.not_mem_nil, or_false] at h
  rcases h with rfl
  · exact rwithin_ok
) b_rcheckSpan (by
  intro ds N
  simp only [F_rcheckSpan]
  split <;> rfl) n_rcheckSpan

noncomputable def F_checkWarmth : Fn0 := ⟨34, [.agg [.i .i64, .i .i64]], fun _ => True, fun l => match l with | [.z a, .z b] => .i .i64 (spanErr a b (-50) 400) | _ => .v undef⟩
noncomputable def A_checkWarmth : List SV → List Dat → Nat → List SV → Ann := fun _ _ _ _ => noAnn

def V_checkWarmth : Prop :=
  ∀ (B : RW) (n n_1 : Int), True → Ob True ∧ Ob (spanErr n n_1 (-50 : Int) (400 : Int) = spanErr n n_1 (-50 : Int) (400 : Int)) ∧ True

set_option linter.unusedSimpArgs false in
set_option maxRecDepth 4000 in
set_option maxHeartbeats 400000 in
theorem v_checkWarmth : V_checkWarmth := by
  unfold V_checkWarmth
  intros
  simp only [Ob_iff, and_true, true_and, inB, spanErr, InR] at *
  all_goals grind

theorem e_checkWarmth : V_checkWarmth = needF P [F_checkSpan] A_checkWarmth F_checkWarmth := by kernel_rfl

theorem n_checkWarmth : Ob (needF P [F_checkSpan] A_checkWarmth F_checkWarmth) := by
  rw [← e_checkWarmth]
  exact ⟨v_checkWarmth⟩

theorem b_checkWarmth : ((P.funcs[34]?).any fun fn => fn.body.isSome) = true := by kernel_rfl

theorem checkWarmth_ok : Fn0.Ok P F_checkWarmth := Fn0.ok named (l := [F_checkSpan]) (A := A_checkWarmth) (by rfl) (by
  intro F h
  simp only [List.mem_cons, List.not_mem_nil, or_false] at h
  rcases h with rfl
  · exact checkSpan_ok
) b_checkWarmth (by
  intro ds N
  simp only [F_checkWarmth]
  split <;> rfl) n_checkWarmth

noncomputable def F_checkHeat : Fn0 := ⟨51, [.agg [.i .i64, .i .i64]], fun _ => True, fun l => match l with | [.z a, .z b] => .i .i64 (spanErr a b 0 1000000) | _ => .v undef⟩
noncomputable def A_checkHeat : List SV → List Dat → Nat → List SV → Ann := fun _ _ _ _ => noAnn

def V_checkHeat : Prop :=
  ∀ (B : RW) (n n_1 : Int), True → Ob True ∧ Ob (spanErr n n_1 (0 : Int) (1000000 : Int) = spanErr n n_1 (0 : Int) (1000000 : Int)) ∧ True

set_option linter.unusedSimpArgs false in
set_option maxRecDepth 4000 in
set_option maxHeartbeats 400000 in
theorem v_checkHeat : V_checkHeat := by
  unfold V_checkHeat
  intros
  simp only [Ob_iff, and_true, true_and, inB, spanErr, InR] at *
  all_goals grind

theorem e_checkHeat : V_checkHeat = needF P [F_checkSpan] A_checkHeat F_checkHeat := by kernel_rfl

theorem n_checkHeat : Ob (needF P [F_checkSpan] A_checkHeat F_checkHeat) := by
  rw [← e_checkHeat]
  exact ⟨v_checkHeat⟩

theorem b_checkHeat : ((P.funcs[51]?).any fun fn => fn.body.isSome) = true := by kernel_rfl

theorem checkHeat_ok : Fn0.Ok P F_checkHeat := Fn0.ok named (l := [F_checkSpan]) (A := A_checkHeat) (by rfl) (by
  intro F h
  simp only [List.mem_cons, List.not_mem_nil, or_false] at h
  rcases h with rfl
  · exact checkSpan_ok
) b_checkHeat (by
  intro ds N
  simp only [F_checkHeat]
  split <;> rfl) n_checkHeat

noncomputable def F_checkSizes : Fn0 := ⟨58, [.agg [.i .i64, .i .i64]], fun _ => True, fun l => match l with | [.z a, .z b] => .i .i64 (spanErr a b 0 2500) | _ => .v undef⟩
noncomputable def A_checkSizes : List SV → List Dat → Nat → List SV → Ann := fun _ _ _ _ => noAnn

def V_checkSizes : Prop :=
  ∀ (B : RW) (n n_1 : Int), True → Ob True ∧ Ob (spanErr n n_1 (0 : Int) (2500 : Int) = spanErr n n_1 (0 : Int) (2500 : Int)) ∧ True

set_option linter.unusedSimpArgs false in
set_option maxRecDepth 4000 in
set_option maxHeartbeats 400000 in
theorem v_checkSizes : V_checkSizes := by
  unfold V_checkSizes
  intros
  simp only [Ob_iff, and_true, true_and, inB, spanErr, InR] at *
  all_goals grind

theorem e_checkSizes : V_checkSizes = needF P [F_checkSpan] A_checkSizes F_checkSizes := by kernel_rfl

theorem n_checkSizes : Ob (needF P [F_checkSpan] A_checkSizes F_checkSizes) := by
  rw [← e_checkSizes]
  exact ⟨v_checkSizes⟩

theorem b_checkSizes : ((P.funcs[58]?).any fun fn => fn.body.isSome) = true := by kernel_rfl

theorem checkSizes_ok : Fn0.Ok P F_checkSizes := Fn0.ok named (l := [F_checkSpan]) (A := A_checkSizes) (by rfl) (by
  intro F h
  simp only [List.mem_cons, List.not_mem_nil, or_false] at h
  rcases h with rfl
  · exact checkSpan_ok
) b_checkSizes (by
  intro ds N
  simp only [F_checkSizes]
  split <;> rfl) n_checkSizes

noncomputable def F_partDown : Fn0 := ⟨44, [i64, i64], fun l => match l with | [.z n, .z r] => 0 ≤ n ∧ n ≤ 1000000000 ∧ 0 ≤ r ∧ r ≤ 1000000 | _ => False, fun l => match l with | [.z n, .z r] => .i .i64 (n * r / 1000000) | _ => .v undef⟩
noncomputable def A_partDown : List SV → List Dat → Nat → List SV → Ann := fun _ _ _ _ => noAnn

def V_partDown : Prop :=
  ∀ (B : RW) (n n_1 : Int), (0 : Int) ≤ n ∧ n ≤ (1000000000 : Int) ∧ (0 : Int) ≤ n_1 ∧ n_1 ≤ (1000000 : Int) → Ob (InR IntKind.i64 (n * n_1)) ∧ Ob ((0 : Int) ≤ n * n_1 ∧ (0 : Int) < (1000000 : Int) ∧ InR IntKind.i64 (n *
  n_1 / (1000000 : Int))) ∧ Ob (n * n_1 / (1000000 : Int) = n * n_1 / (1000000 : Int)) ∧ True

set_option linter.unusedSimpArgs false in
set_option maxRecDepth 4000 in
set_option maxHeartbeats 400000 in
theorem v_partDown : V_partDown := by
  unfold V_partDown
  intro B n r ⟨h1, h2, h3, h4⟩
  have h5 := part_bd h1 h2 h3 h4
  simp only [Ob_iff, and_true, InR]
  generalize n * r = q at *
  repeat' (first | apply And.intro | intro _)
  all_goals first | trivial | omega

theorem e_partDown : V_partDown = needF P [] A_partDown F_partDown := by kernel_rfl

theorem n_partDown : Ob (needF P [] A_partDown F_partDown) := by
  rw [← e_partDown]
  exact ⟨v_partDown⟩

theorem b_partDown : ((P.funcs[44]?).any fun fn => fn.body.isSome) = true := by kernel_rfl

theorem partDown_ok : Fn0.Ok P F_partDown := Fn0.ok named (l := []) (A := A_partDown) (by rfl) (by
  intro F h; simp at h) b_partDown (by
  intro ds N
  simp only [F_partDown]
  split <;> rfl) n_partDown

noncomputable def F_partUp : Fn0 := ⟨45, [i64, i64], fun l => match l with | [.z n, .z r] => 0 ≤ n ∧ n ≤ 1000000000 ∧ 0 ≤ r ∧ r ≤ 1000000 | _ => False, fun l => match l with | [.z n, .z r] => .i .i64 ((n * r + 999999) / 1000000) | _ => .v undef⟩
noncomputable def A_partUp : List SV → List Dat → Nat → List SV → Ann := fun _ _ _ _ => noAnn

def V_partUp : Prop :=
  ∀ (B : RW) (n n_1 : Int), (0 : Int) ≤ n ∧ n ≤ (1000000000 : Int) ∧ (0 : Int) ≤ n_1 ∧ n_1 ≤ (1000000 : Int) → Ob (InR IntKind.i64 (n * n_1)) ∧ Ob (InR IntKind.i64 (n * n_1 + (1000000 : Int))) ∧ Ob (InR IntKind.i64 (n *
  n_1 + (1000000 : Int) - (1 : Int))) ∧ Ob ((0 : Int) ≤ n * n_1 + (1000000 : Int) - (1 : Int) ∧ (0 : Int) < (1000000 : Int) ∧ InR IntKind.i64 ((n * n_1 + (1000000 : Int) - (1 : Int)) / (1000000 : Int))) ∧ Ob ((n * n_1 +
  (1000000 : Int) - (1 : Int)) / (1000000 : Int) = (n * n_1 + (999999 : Int)) / (1000000 : Int)) ∧ True

set_option linter.unusedSimpArgs false in
set_option maxRecDepth 4000 in
set_option maxHeartbeats 400000 in
theorem v_partUp : V_partUp := by
  unfold V_partUp
  intro B n r ⟨h1, h2, h3, h4⟩
  have h5 := part_bd h1 h2 h3 h4
  simp only [Ob_iff, and_true, InR]
  generalize n * r = q at *
  repeat' (first | apply And.intro | intro _)
  all_goals first | trivial | omega

theorem e_partUp : V_partUp = needF P [] A_partUp F_partUp := by kernel_rfl

theorem n_partUp : Ob (needF P [] A_partUp F_partUp) := by
  rw [← e_partUp]
  exact ⟨v_partUp⟩

theorem b_partUp : ((P.funcs[45]?).any fun fn => fn.body.isSome) = true := by kernel_rfl

theorem partUp_ok : Fn0.Ok P F_partUp := Fn0.ok named (l := []) (A := A_partUp) (by rfl) (by
  intro F h; simp at h) b_partUp (by
  intro ds N
  simp only [F_partUp]
  split <;> rfl) n_partUp

noncomputable def F_rPart : Fn0 := ⟨25, [i64, i64], fun l => match l with | [.z n, .z r] => 0 ≤ n ∧ n ≤ 1000000000 ∧ 0 ≤ r ∧ r ≤ 1000000 | _ => False, fun l => match l with | [.z n, .z r] => .tup [.i .i64 (n * r / 1000000), .i .i64 ((n * r + 999999) / 1000000)] | _ => .v undef⟩
noncomputable def A_rPart : List SV → List Dat → Nat → List SV → Ann := fun _ _ _ _ => noAnn

def V_rPart : Prop :=
  ∀ (B : RW) (n n_1 : Int), (0 : Int) ≤ n ∧ n ≤ (1000000000 : Int) ∧ (0 : Int) ≤ n_1 ∧ n_1 ≤ (1000000 : Int) → Ob (InR IntKind.i64 (n * n_1)) ∧ Ob ((0 : Int) ≤ n * n_1 ∧ (0 : Int) < (1000000 : Int) ∧ InR IntKind.i64 (n *
  n_1 / (1000000 : Int))) ∧ Ob (InR IntKind.i64 (n * n_1)) ∧ Ob ((0 : Int) < (1000000 : Int) ∧ InR IntKind.i64 ((n * n_1).tmod (1000000 : Int))) ∧ ((n * n_1).tmod (1000000 : Int) = (0 : Int) → Ob (n * n_1 / (1000000 : Int)
  = n * n_1 / (1000000 : Int)) ∧ Ob (n * n_1 / (1000000 : Int) = (n * n_1 + (999999 : Int)) / (1000000 : Int)) ∧ True) ∧ (¬(n * n_1).tmod (1000000 : Int) = (0 : Int) → Ob (InR IntKind.i64 (n * n_1 / (1000000 : Int) + (1 :
  Int))) ∧ Ob (n * n_1 / (1000000 : Int) = n * n_1 / (1000000 : Int)) ∧ Ob (n * n_1 / (1000000 : Int) + (1 : Int) = (n * n_1 + (999999 : Int)) / (1000000 : Int)) ∧ True)

set_option linter.unusedSimpArgs false in
set_option maxRecDepth 4000 in
set_option maxHeartbeats 400000 in
theorem v_rPart : V_rPart := by
  unfold V_rPart
  intro B n r ⟨h1, h2, h3, h4⟩
  have h5 := part_bd h1 h2 h3 h4
  simp only [Ob_iff, and_true, InR]
  rw [Int.tmod_eq_emod_of_nonneg h5.1]
  generalize n * r = q at *
  repeat' (first | apply And.intro | intro _)
  all_goals first | trivial | omega

theorem e_rPart : V_rPart = needF P [] A_rPart F_rPart := by kernel_rfl

theorem n_rPart : Ob (needF P [] A_rPart F_rPart) := by
  rw [← e_rPart]
  exact ⟨v_rPart⟩

theorem b_rPart : ((P.funcs[25]?).any fun fn => fn.body.isSome) = true := by kernel_rfl

theorem rPart_ok : Fn0.Ok P F_rPart := Fn0.ok named (l := []) (A := A_rPart) (by rfl) (by
  intro F h; simp at h) b_rPart (by
  intro ds N
  simp only [F_rPart]
  split <;> rfl) n_rPart

noncomputable def F_checkNursery : Fn0 := ⟨42, [.agg [.i .i64, .i .i64, .i .i64, .i .i64]], fun _ => True, fun l => match l with | [.z lo, .z hi, .z rate, .z room] => .i .i64 (nurErr lo hi rate room) | _ => .v undef⟩
noncomputable def A_checkNursery : List SV → List Dat → Nat → List SV → Ann := fun _ _ _ _ => noAnn

def V_checkNursery : Prop :=
  ∀ (B : RW) (n n_1 n_2 n_3 : Int), True → Ob True ∧ (¬¬inB n (-50 : Int) (400 : Int) → Ob True ∧ (¬inB n_1 (-50 : Int) (400 : Int) → Ob ((1 : Int) = nurErr n n_1 n_2 n_3) ∧ True) ∧ (¬¬inB n_1 (-50 : Int) (400 : Int) → Ob
  True ∧ (¬¬inB n_2 (0 : Int) (1000000 : Int) → Ob True ∧ (¬inB n_3 (0 : Int) (1000000000 : Int) → Ob ((1 : Int) = nurErr n n_1 n_2 n_3) ∧ True) ∧ (¬¬inB n_3 (0 : Int) (1000000000 : Int) → (n_1 < n → Ob ((8 : Int) = nurErr
  n n_1 n_2 n_3) ∧ True) ∧ (¬n_1 < n → Ob ((0 : Int) = nurErr n n_1 n_2 n_3) ∧ True))) ∧ (¬inB n_2 (0 : Int) (1000000 : Int) → Ob ((1 : Int) = nurErr n n_1 n_2 n_3) ∧ True))) ∧ (¬inB n (-50 : Int) (400 : Int) → Ob ((1 :
  Int) = nurErr n n_1 n_2 n_3) ∧ True)

set_option linter.unusedSimpArgs false in
set_option maxRecDepth 4000 in
set_option maxHeartbeats 400000 in
theorem v_checkNursery : V_checkNursery := by
  unfold V_checkNursery
  intros
  simp only [Ob_iff, and_true, true_and, inB, nurErr, InR] at *
  all_goals grind

theorem e_checkNursery : V_checkNursery = needF P [F_within] A_checkNursery F_checkNursery := by kernel_rfl

theorem n_checkNursery : Ob (needF P [F_within] A_checkNursery F_checkNursery) := by
  rw [← e_checkNursery]
  exact ⟨v_checkNursery⟩

theorem b_checkNursery : ((P.funcs[42]?).any fun fn => fn.body.isSome) = true := by kernel_rfl

theorem checkNursery_ok : Fn0.Ok P F_checkNursery := Fn0.ok named (l := [F_within]) (A := A_checkNursery) (by rfl) (by
  intro F h
  simp only [List.mem_cons, List.not_mem_nil, or_false] at h
  rcases h with rfl
  · exact within_ok
) b_checkNursery (by
  intro ds N
  simp only [F_checkNursery]
  split <;> rfl) n_checkNursery

noncomputable def F_rfirst : Fn0 := ⟨35, [.one (.l [.i64])], fun l => match l with | [.l l] => l.length ≤ 1000 | _ => False, fun l => match l with | [.l l] => .i .i64 (firstOf l) | _ => .v undef⟩
noncomputable def A_rfirst : List SV → List Dat → Nat → List SV → Ann := fun xs ds n ts => match xs with
  | [.lst x _ _ _] => match ds with
    | [.l l] => match n with
      | 2 => ⟨Nat, fun k => [some (SV.lst x l.length ((1 : Nat)) (Rv.elemOf [IntKind.i64] l)), none, none, some (.i .i64 k), none, none, none, none, none, none, none, none, none, none, none, none, none, none, none], fun k => [], fun k => k ≤ l.length ∧ ∀ i, i < k → cell l i 0 = 0, fun k => l.length - k, 0⟩
      | _ => noAnn
    | _ => noAnn
  | _ => noAnn

def V_rfirst : Prop :=
  ∀ (B : RW) (x : RV) (rows : List (List Int)), IsLst B x rows.length ((1 : Nat)) (Rv.elemOf [IntKind.i64] rows) → oneB x = true → (∀ (row : List Int), row ∈ rows → row.length = (1 : Nat)) → rows.length ≤ (1000 : Nat) → (∃
  (a : Nat), Ob (a ≤ rows.length ∧ ∀ (i : Nat), i < a → cell rows i ((0 : Nat)) = (0 : Int)) ∧ Ob (SV.lst x rows.length ((1 : Nat)) (Rv.elemOf [IntKind.i64] rows) = SV.lst x rows.length ((1 : Nat)) (Rv.elemOf [IntKind.i64]
  rows)) ∧ Ob ((0 : Int) = (↑a : Int)) ∧ Ob (IsLst B x rows.length ((1 : Nat)) (Rv.elemOf [IntKind.i64] rows)) ∧ True) ∧ ∀ (a : Nat), (a ≤ rows.length ∧ ∀ (i : Nat), i < a → cell rows i ((0 : Nat)) = (0 : Int)) → ∀ (z z_1
  z_2 z_3 z_4 z_5 z_6 z_7 z_8 z_9 z_10 z_11 z_12 z_13 z_14 z_15 z_16 : Value), Ob (IsLst B x rows.length ((1 : Nat)) (Rv.elemOf [IntKind.i64] rows)) ∧ ((↑a : Int) < (↑rows.length : Int) → Ob ((0 : Int) ≤ (↑a : Int) ∧ a <
  rows.length ∧ IsLst B x rows.length ((1 : Nat)) (Rv.elemOf [IntKind.i64] rows)) ∧ Ob (IsLst B x rows.length ((1 : Nat)) (Rv.elemOf [IntKind.i64] rows) ∧ a < rows.length) ∧ (¬cell rows a ((0 : Nat)) = (0 : Int) → Ob ((0 :
  Int) ≤ (↑a : Int) ∧ a < rows.length ∧ IsLst B x rows.length ((1 : Nat)) (Rv.elemOf [IntKind.i64] rows)) ∧ Ob (IsLst B x rows.length ((1 : Nat)) (Rv.elemOf [IntKind.i64] rows) ∧ a < rows.length) ∧ Ob (cell rows a ((0 :
  Nat)) = firstOf rows) ∧ True) ∧ (¬¬cell rows a ((0 : Nat)) = (0 : Int) → Ob (InR IntKind.i64 ((↑a : Int) + (1 : Int))) ∧ ∃ (a' : Nat), Ob ((a' ≤ rows.length ∧ ∀ (i : Nat), i < a' → cell rows i ((0 : Nat)) = (0 : Int)) ∧
  rows.length - a' < rows.length - a) ∧ Ob (SV.lst x rows.length ((1 : Nat)) (Rv.elemOf [IntKind.i64] rows) = SV.lst x rows.length ((1 : Nat)) (Rv.elemOf [IntKind.i64] rows)) ∧ Ob ((↑a : Int) + (1 : Int) = (↑a' : Int)) ∧
  Ob (IsLst B x rows.length ((1 : Nat)) (Rv.elemOf [IntKind.i64] rows)) ∧ True)) ∧ (¬(↑a : Int) < (↑rows.length : Int) → Ob ((0 : Int) = firstOf rows) ∧ True)

set_option linter.unusedSimpArgs false in
set_option maxRecDepth 4000 in
set_option maxHeartbeats 400000 in
theorem v_rfirst : V_rfirst := by
  unfold V_rfirst
  intro B x l hx ho hr hl
  simp only [Ob_iff, and_true, true_and, InR]
  refine ⟨⟨0, ⟨by omega, fun i hi => by omega⟩, rfl, hx⟩, ?_⟩
  intro k ⟨hk, ha⟩
  intros
  refine ⟨hx, fun h1 => ?_, fun h1 => ?_⟩
  · have h1' : k < l.length := by omega
    refine ⟨⟨by omega, h1', hx⟩, ⟨hx, h1'⟩, fun h2 => ⟨⟨by omega, h1', hx⟩, ⟨hx, h1'⟩, (firstOf_at h1' ha h2).symm⟩, fun h2 => ⟨by omega, k + 1, ⟨⟨by omega, fun i hi => ?_⟩, by omega⟩, by omega, hx⟩⟩
    by_cases hik : i = k
    · subst hik; exact Decidable.not_not.1 h2
    · exact ha i (by omega)
  · exact (firstOf_none fun i hi => ha i (by omega)).symm

theorem e_rfirst : V_rfirst = needF P [] A_rfirst F_rfirst := by kernel_rfl

theorem n_rfirst : Ob (needF P [] A_rfirst F_rfirst) := by
  rw [← e_rfirst]
  exact ⟨v_rfirst⟩

theorem b_rfirst : ((P.funcs[35]?).any fun fn => fn.body.isSome) = true := by kernel_rfl

theorem rfirst_ok : Fn0.Ok P F_rfirst := Fn0.ok named (l := []) (A := A_rfirst) (by rfl) (by
  intro F h; simp at h) b_rfirst (by
  intro ds N
  simp only [F_rfirst]
  split <;> rfl) n_rfirst

noncomputable def F_Settle : Fn0 := ⟨21, [.agg [.i .i64, .i .i64, .i .i64, .i .i64], .one (.l [.i64, .i64]), .one (.l [.i64, .i64])], fun l => match l with | [.z lo, .z hi, .z rate, .z room, .l D, .l L] => D.length ≤ 1000 ∧ L.length ≤ 1000 | _ => False, fun l => match l with | [.z lo, .z hi, .z rate, .z room, .l D, .l L] => .tup [.agg [.i .i64 (setLo lo hi rate room D L), .i .i64 (setHi lo hi rate room D L)], .i .i64 (setErr lo hi rate room D L)] | _ => .v undef⟩
noncomputable def A_Settle : List SV → List Dat → Nat → List SV → Ann := fun xs ds n ts => match xs with
  | [.agg [_, _, _, _], .lst x _ _ _, .lst y _ _ _] => match ds with
    | [.z lo, .z hi, .z rate, .z room, .l D, .l L] => match n with
      | 10 => ⟨Nat, fun k => [none, none, some (SV.lst y L.length ((2 : Nat)) (Rv.elemOf [IntKind.i64, IntKind.i64] L)), some (SV.ptr ((0 : Nat)) ((0 : Nat))), none, none, some (SV.ptr ((1 : Nat)) ((0 : Nat))), none, none, some (SV.ptr ((2 : Nat)) ((0 : Nat))), none, none, none, none, none, none, none, none, none, none, none, none, none, none, none, none, none, none, none, none, some (SV.lst x D.length ((2 : Nat)) (Rv.elemOf [IntKind.i64, IntKind.i64] D)), some (SV.i IntKind.i64 (↑D.length : Int)), some (.i .i64 k), none, none, none, none, none, none, none, none, none, none, none, none, none, none, none, none, none, none, none, none, none, none, none, none, none, none, none, none, none, none, none, none, none, none, none, none, none, none, none, none, none, none, none, none, none, none, none, none, none, none, none, none, none, none, none, none, none, none, none, none, none, none, none, none, none, none, none, none, none, none, none, none, none, none, none, none, none, none, none], fun k => [.cells [.i .i64 (sumLo lo hi rate D L k), .i .i64 (sumHi lo hi rate D L k)] .ex, SObj.cells [SV.v (Value.int IntKind.i64 (0 : Int)), SV.v (Value.int IntKind.i64 (0 : Int))] Kd.ex, SObj.cells [SV.i IntKind.i64 lo, SV.i IntKind.i64 hi, SV.i IntKind.i64 rate, SV.i IntKind.i64 room] Kd.ex], fun k => k ≤ D.length ∧ firstErr D L k = 0, fun k => D.length - k, 0⟩
      | _ => noAnn
    | _ => noAnn
  | _ => noAnn

def V_Settle : Prop :=
  ∀ (B : RW) (n n_1 n_2 n_3 : Int) (x : RV) (rows : List (List Int)), IsLst B x rows.length ((2 : Nat)) (Rv.elemOf [IntKind.i64, IntKind.i64] rows) → oneB x = true → (∀ (row : List Int), row ∈ rows → row.length = (2 :
  Nat)) → ∀ (x_1 : RV) (rows_1 : List (List Int)), IsLst B x_1 rows_1.length ((2 : Nat)) (Rv.elemOf [IntKind.i64, IntKind.i64] rows_1) → oneB x_1 = true → (∀ (row : List Int), row ∈ rows_1 → row.length = (2 : Nat)) →
  rows.length ≤ (1000 : Nat) ∧ rows_1.length ≤ (1000 : Nat) → Ob True ∧ (¬nurErr n n_1 n_2 n_3 = (0 : Int) → Ob ((0 : Int) = setLo n n_1 n_2 n_3 rows rows_1) ∧ Ob ((0 : Int) = setHi n n_1 n_2 n_3 rows rows_1) ∧ Ob (nurErr
  n n_1 n_2 n_3 = setErr n n_1 n_2 n_3 rows rows_1) ∧ True) ∧ (¬¬nurErr n n_1 n_2 n_3 = (0 : Int) → Ob (IsLst B x rows.length ((2 : Nat)) (Rv.elemOf [IntKind.i64, IntKind.i64] rows)) ∧ ((400 : Int) < (↑rows.length : Int) →
  Ob ((0 : Int) = setLo n n_1 n_2 n_3 rows rows_1) ∧ Ob ((0 : Int) = setHi n n_1 n_2 n_3 rows rows_1) ∧ Ob ((5 : Int) = setErr n n_1 n_2 n_3 rows rows_1) ∧ True) ∧ (¬(400 : Int) < (↑rows.length : Int) → Ob (IsLst B x_1
  rows_1.length ((2 : Nat)) (Rv.elemOf [IntKind.i64, IntKind.i64] rows_1)) ∧ Ob (IsLst B x rows.length ((2 : Nat)) (Rv.elemOf [IntKind.i64, IntKind.i64] rows)) ∧ (¬(↑rows_1.length : Int) = (↑rows.length : Int) → Ob ((0 :
  Int) = setLo n n_1 n_2 n_3 rows rows_1) ∧ Ob ((0 : Int) = setHi n n_1 n_2 n_3 rows rows_1) ∧ Ob ((2 : Int) = setErr n n_1 n_2 n_3 rows rows_1) ∧ True) ∧ (¬¬(↑rows_1.length : Int) = (↑rows.length : Int) → Ob (IsLst B x
  rows.length ((2 : Nat)) (Rv.elemOf [IntKind.i64, IntKind.i64] rows)) ∧ (∃ (a : Nat), Ob (a ≤ rows.length ∧ firstErr rows rows_1 a = (0 : Int)) ∧ Ob (SV.lst x_1 rows_1.length ((2 : Nat)) (Rv.elemOf [IntKind.i64,
  IntKind.i64] rows_1) = SV.lst x_1 rows_1.length ((2 : Nat)) (Rv.elemOf [IntKind.i64, IntKind.i64] rows_1)) ∧ Ob (SV.lst x rows.length ((2 : Nat)) (Rv.elemOf [IntKind.i64, IntKind.i64] rows) = SV.lst x rows.length ((2 :
  Nat)) (Rv.elemOf [IntKind.i64, IntKind.i64] rows)) ∧ Ob ((↑rows.length : Int) = (↑rows.length : Int)) ∧ Ob ((0 : Int) = (↑a : Int)) ∧ Ob ((0 : Int) = sumLo n n_1 n_2 rows rows_1 a) ∧ Ob ((0 : Int) = sumHi n n_1 n_2 rows
  rows_1 a) ∧ Ob (Value.int IntKind.i64 (0 : Int) = Value.int IntKind.i64 (0 : Int)) ∧ Ob (Value.int IntKind.i64 (0 : Int) = Value.int IntKind.i64 (0 : Int)) ∧ Ob (n = n) ∧ Ob (n_1 = n_1) ∧ Ob (n_2 = n_2) ∧ Ob (n_3 = n_3)
  ∧ Ob (IsLst B x_1 rows_1.length ((2 : Nat)) (Rv.elemOf [IntKind.i64, IntKind.i64] rows_1)) ∧ Ob (IsLst B x rows.length ((2 : Nat)) (Rv.elemOf [IntKind.i64, IntKind.i64] rows)) ∧ True) ∧ ∀ (a : Nat), a ≤ rows.length ∧
  firstErr rows rows_1 a = (0 : Int) → ∀ (z z_1 z_2 z_3 z_4 z_5 z_6 z_7 z_8 z_9 z_10 z_11 z_12 z_13 z_14 z_15 z_16 z_17 z_18 z_19 z_20 z_21 z_22 z_23 z_24 z_25 z_26 z_27 z_28 z_29 z_30 z_31 z_32 z_33 z_34 z_35 z_36 z_37
  z_38 z_39 z_40 z_41 z_42 z_43 z_44 z_45 z_46 z_47 z_48 z_49 z_50 z_51 z_52 z_53 z_54 z_55 z_56 z_57 z_58 z_59 z_60 z_61 z_62 z_63 z_64 z_65 z_66 z_67 z_68 z_69 z_70 z_71 z_72 z_73 z_74 z_75 z_76 z_77 z_78 z_79 z_80 z_81
  z_82 z_83 z_84 z_85 z_86 z_87 z_88 z_89 z_90 z_91 z_92 z_93 z_94 z_95 z_96 z_97 z_98 z_99 z_100 z_101 z_102 z_103 z_104 : Value), ((↑a : Int) < (↑rows.length : Int) → Ob ((0 : Int) ≤ (↑a : Int) ∧ a < rows.length ∧ IsLst
  B x rows.length ((2 : Nat)) (Rv.elemOf [IntKind.i64, IntKind.i64] rows)) ∧ Ob (IsLst B x rows.length ((2 : Nat)) (Rv.elemOf [IntKind.i64, IntKind.i64] rows) ∧ a < rows.length) ∧ Ob True ∧ (¬spanErr (cell rows a ((0 :
  Nat))) (cell rows a ((1 : Nat))) (-50 : Int) (400 : Int) = (0 : Int) → Ob ((0 : Int) = setLo n n_1 n_2 n_3 rows rows_1) ∧ Ob ((0 : Int) = setHi n n_1 n_2 n_3 rows rows_1) ∧ Ob (spanErr (cell rows a ((0 : Nat))) (cell
  rows a ((1 : Nat))) (-50 : Int) (400 : Int) = setErr n n_1 n_2 n_3 rows rows_1) ∧ True) ∧ (¬¬spanErr (cell rows a ((0 : Nat))) (cell rows a ((1 : Nat))) (-50 : Int) (400 : Int) = (0 : Int) → Ob ((0 : Int) ≤ (↑a : Int) ∧
  a < rows_1.length ∧ IsLst B x_1 rows_1.length ((2 : Nat)) (Rv.elemOf [IntKind.i64, IntKind.i64] rows_1)) ∧ Ob (IsLst B x_1 rows_1.length ((2 : Nat)) (Rv.elemOf [IntKind.i64, IntKind.i64] rows_1) ∧ a < rows_1.length) ∧ Ob
  True ∧ (¬spanErr (cell rows_1 a ((0 : Nat))) (cell rows_1 a ((1 : Nat))) (0 : Int) (1000000000 : Int) = (0 : Int) → Ob ((0 : Int) = setLo n n_1 n_2 n_3 rows rows_1) ∧ Ob ((0 : Int) = setHi n n_1 n_2 n_3 rows rows_1) ∧ Ob
  (spanErr (cell rows_1 a ((0 : Nat))) (cell rows_1 a ((1 : Nat))) (0 : Int) (1000000000 : Int) = setErr n n_1 n_2 n_3 rows rows_1) ∧ True) ∧ (¬¬spanErr (cell rows_1 a ((0 : Nat))) (cell rows_1 a ((1 : Nat))) (0 : Int)
  (1000000000 : Int) = (0 : Int) → (n ≤ cell rows a ((0 : Nat)) → (cell rows a ((1 : Nat)) ≤ n_1 → Ob (IsLst B x_1 rows_1.length ((2 : Nat)) (Rv.elemOf [IntKind.i64, IntKind.i64] rows_1)) ∧ Ob ((0 : Int) ≤ (↑a : Int) ∧ a <
  rows_1.length ∧ IsLst B x_1 rows_1.length ((2 : Nat)) (Rv.elemOf [IntKind.i64, IntKind.i64] rows_1)) ∧ Ob (IsLst B x_1 rows_1.length ((2 : Nat)) (Rv.elemOf [IntKind.i64, IntKind.i64] rows_1) ∧ a < rows_1.length) ∧ Ob
  (IsLst B x_1 rows_1.length ((2 : Nat)) (Rv.elemOf [IntKind.i64, IntKind.i64] rows_1) ∧ a < rows_1.length) ∧ Ob (IsLst B x_1 rows_1.length ((2 : Nat)) (Rv.elemOf [IntKind.i64, IntKind.i64] rows_1) ∧ a < rows_1.length) ∧
  Ob ((0 : Int) ≤ cell rows_1 a ((0 : Nat)) ∧ cell rows_1 a ((0 : Nat)) ≤ (1000000000 : Int) ∧ (0 : Int) ≤ n_2 ∧ n_2 ≤ (1000000 : Int)) ∧ Ob (InR IntKind.i64 (sumLo n n_1 n_2 rows rows_1 a + cell rows_1 a ((0 : Nat)) * n_2
  / (1000000 : Int))) ∧ (cell rows a ((0 : Nat)) ≤ n_1 → (n ≤ cell rows a ((1 : Nat)) → Ob (IsLst B x_1 rows_1.length ((2 : Nat)) (Rv.elemOf [IntKind.i64, IntKind.i64] rows_1)) ∧ Ob ((0 : Int) ≤ (↑a : Int) ∧ a <
  rows_1.length ∧ IsLst B x_1 rows_1.length (nat_lit 2) (Rv.elemOf [IntKind.i64, IntKind.i64] rows_1)) ∧ Ob (IsLst B x_1 rows_1.length (nat_lit 2) (Rv.elemOf [IntKind.i64, IntKind.i64] rows_1) ∧ a < rows_1.length) ∧ Ob
  (IsLst B x_1 rows_1.length (nat_lit 2) (Rv.elemOf [IntKind.i64, IntKind.i64] rows_1) ∧ a < rows_1.length) ∧ Ob (IsLst B x_1 rows_1.length (nat_lit 2) (Rv.elemOf [IntKind.i64, IntKind.i64] rows_1) ∧ a < rows_1.length) ∧
  Ob ((0 : Int) ≤ cell rows_1 a (nat_lit 1) ∧ cell rows_1 a (nat_lit 1) ≤ (1000000000 : Int) ∧ (0 : Int) ≤ n_2 ∧ n_2 ≤ (1000000 : Int)) ∧ Ob (InR IntKind.i64 (sumHi n n_1 n_2 rows rows_1 a + (cell rows_1 a (nat_lit 1) *
  n_2 + (999999 : Int)) / (1000000 : Int))) ∧ Ob (InR IntKind.i64 ((↑a : Int) + (1 : Int))) ∧ ∃ (a' : Nat), Ob ((a' ≤ rows.length ∧ firstErr rows rows_1 a' = (0 : Int)) ∧ rows.length - a' < rows.length - a) ∧ Ob (SV.lst
  x_1 rows_1.length (nat_lit 2) (Rv.elemOf [IntKind.i64, IntKind.i64] rows_1) = SV.lst x_1 rows_1.length (nat_lit 2) (Rv.elemOf [IntKind.i64, IntKind.i64] rows_1)) ∧ Ob (SV.lst x rows.length (nat_lit 2) (Rv.elemOf
  [IntKind.i64, IntKind.i64] rows) = SV.lst x rows.length (nat_lit 2) (Rv.elemOf [IntKind.i64, IntKind.i64] rows)) ∧ Ob ((↑rows.length : Int) = (↑rows.length : Int)) ∧ Ob ((↑a : Int) + (1 : Int) = (↑a' : Int)) ∧ Ob (sumLo
  n n_1 n_2 rows rows_1 a + cell rows_1 a (nat_lit 0) * n_2 / (1000000 : Int) = sumLo n n_1 n_2 rows rows_1 a') ∧ Ob (sumHi n n_1 n_2 rows rows_1 a + (cell rows_1 a (nat_lit 1) * n_2 + (999999 : Int)) / (1000000 : Int) =
  sumHi n n_1 n_2 rows rows_1 a') ∧ Ob (Value.int IntKind.i64 (0 : Int) = Value.int IntKind.i64 (0 : Int)) ∧ Ob (Value.int IntKind.i64 (0 : Int) = Value.int IntKind.i64 (0 : Int)) ∧ Ob (n = n) ∧ Ob (n_1 = n_1) ∧ Ob (n_2 =
  n_2) ∧ Ob (n_3 = n_3) ∧ Ob (IsLst B x_1 rows_1.length (nat_lit 2) (Rv.elemOf [IntKind.i64, IntKind.i64] rows_1)) ∧ Ob (IsLst B x rows.length (nat_lit 2) (Rv.elemOf [IntKind.i64, IntKind.i64] rows)) ∧ True) ∧ (¬n ≤ cell
  rows a (nat_lit 1) → Ob (InR IntKind.i64 ((↑a : Int) + (1 : Int))) ∧ ∃ (a' : Nat), Ob ((a' ≤ rows.length ∧ firstErr rows rows_1 a' = (0 : Int)) ∧ rows.length - a' < rows.length - a) ∧ Ob (SV.lst x_1 rows_1.length
  (nat_lit 2) (Rv.elemOf [IntKind.i64, IntKind.i64] rows_1) = SV.lst x_1 rows_1.length (nat_lit 2) (Rv.elemOf [IntKind.i64, IntKind.i64] rows_1)) ∧ Ob (SV.lst x rows.length (nat_lit 2) (Rv.elemOf [IntKind.i64, IntKind.i64]
  rows) = SV.lst x rows.length (nat_lit 2) (Rv.elemOf [IntKind.i64, IntKind.i64] rows)) ∧ Ob ((↑rows.length : Int) = (↑rows.length : Int)) ∧ Ob ((↑a : Int) + (1 : Int) = (↑a' : Int)) ∧ Ob (sumLo n n_1 n_2 rows rows_1 a +
  cell rows_1 a (nat_lit 0) * n_2 / (1000000 : Int) = sumLo n n_1 n_2 rows rows_1 a') ∧ Ob (sumHi n n_1 n_2 rows rows_1 a = sumHi n n_1 n_2 rows rows_1 a') ∧ Ob (Value.int IntKind.i64 (0 : Int) = Value.int IntKind.i64 (0 :
  Int)) ∧ Ob (Value.int IntKind.i64 (0 : Int) = Value.int IntKind.i64 (0 : Int)) ∧ Ob (n = n) ∧ Ob (n_1 = n_1) ∧ Ob (n_2 = n_2) ∧ Ob (n_3 = n_3) ∧ Ob (IsLst B x_1 rows_1.length (nat_lit 2) (Rv.elemOf [IntKind.i64,
  IntKind.i64] rows_1)) ∧ Ob (IsLst B x rows.length (nat_lit 2) (Rv.elemOf [IntKind.i64, IntKind.i64] rows)) ∧ True)) ∧ (¬cell rows a ((0 : Nat)) ≤ n_1 → Ob (InR IntKind.i64 ((↑a : Int) + (1 : Int))) ∧ ∃ (a' : Nat), Ob
  ((a' ≤ rows.length ∧ firstErr rows rows_1 a' = (0 : Int)) ∧ rows.length - a' < rows.length - a) ∧ Ob (SV.lst x_1 rows_1.length (nat_lit 2) (Rv.elemOf [IntKind.i64, IntKind.i64] rows_1) = SV.lst x_1 rows_1.length (nat_lit
  2) (Rv.elemOf [IntKind.i64, IntKind.i64] rows_1)) ∧ Ob (SV.lst x rows.length (nat_lit 2) (Rv.elemOf [IntKind.i64, IntKind.i64] rows) = SV.lst x rows.length (nat_lit 2) (Rv.elemOf [IntKind.i64, IntKind.i64] rows)) ∧ Ob
  ((↑rows.length : Int) = (↑rows.length : Int)) ∧ Ob ((↑a : Int) + (1 : Int) = (↑a' : Int)) ∧ Ob (sumLo n n_1 n_2 rows rows_1 a + cell rows_1 a (nat_lit 0) * n_2 / (1000000 : Int) = sumLo n n_1 n_2 rows rows_1 a') ∧ Ob
  (sumHi n n_1 n_2 rows rows_1 a = sumHi n n_1 n_2 rows rows_1 a') ∧ Ob (Value.int IntKind.i64 (0 : Int) = Value.int IntKind.i64 (0 : Int)) ∧ Ob (Value.int IntKind.i64 (0 : Int) = Value.int IntKind.i64 (0 : Int)) ∧ Ob (n =
  n) ∧ Ob (n_1 = n_1) ∧ Ob (n_2 = n_2) ∧ Ob (n_3 = n_3) ∧ Ob (IsLst B x_1 rows_1.length (nat_lit 2) (Rv.elemOf [IntKind.i64, IntKind.i64] rows_1)) ∧ Ob (IsLst B x rows.length (nat_lit 2) (Rv.elemOf [IntKind.i64,
  IntKind.i64] rows)) ∧ True)) ∧ (¬cell rows a ((1 : Nat)) ≤ n_1 → (cell rows a ((0 : Nat)) ≤ n_1 → (n ≤ cell rows a ((1 : Nat)) → Ob (IsLst B x_1 rows_1.length ((2 : Nat)) (Rv.elemOf [IntKind.i64, IntKind.i64] rows_1)) ∧
  Ob ((0 : Int) ≤ (↑a : Int) ∧ a < rows_1.length ∧ IsLst B x_1 rows_1.length ((2 : Nat)) (Rv.elemOf [IntKind.i64, IntKind.i64] rows_1)) ∧ Ob (IsLst B x_1 rows_1.length ((2 : Nat)) (Rv.elemOf [IntKind.i64, IntKind.i64]
  rows_1) ∧ a < rows_1.length) ∧ Ob (IsLst B x_1 rows_1.length ((2 : Nat)) (Rv.elemOf [IntKind.i64, IntKind.i64] rows_1) ∧ a < rows_1.length) ∧ Ob (IsLst B x_1 rows_1.length ((2 : Nat)) (Rv.elemOf [IntKind.i64,
  IntKind.i64] rows_1) ∧ a < rows_1.length) ∧ Ob ((0 : Int) ≤ cell rows_1 a (nat_lit 1) ∧ cell rows_1 a (nat_lit 1) ≤ (1000000000 : Int) ∧ (0 : Int) ≤ n_2 ∧ n_2 ≤ (1000000 : Int)) ∧ Ob (InR IntKind.i64 (sumHi n n_1 n_2
  rows rows_1 a + (cell rows_1 a (nat_lit 1) * n_2 + (999999 : Int)) / (1000000 : Int))) ∧ Ob (InR IntKind.i64 ((↑a : Int) + (1 : Int))) ∧ ∃ (a' : Nat), Ob ((a' ≤ rows.length ∧ firstErr rows rows_1 a' = (0 : Int)) ∧
  rows.length - a' < rows.length - a) ∧ Ob (SV.lst x_1 rows_1.length (nat_lit 2) (Rv.elemOf [IntKind.i64, IntKind.i64] rows_1) = SV.lst x_1 rows_1.length (nat_lit 2) (Rv.elemOf [IntKind.i64, IntKind.i64] rows_1)) ∧ Ob
  (SV.lst x rows.length (nat_lit 2) (Rv.elemOf [IntKind.i64, IntKind.i64] rows) = SV.lst x rows.length (nat_lit 2) (Rv.elemOf [IntKind.i64, IntKind.i64] rows)) ∧ Ob ((↑rows.length : Int) = (↑rows.length : Int)) ∧ Ob ((↑a :
  Int) + (1 : Int) = (↑a' : Int)) ∧ Ob (sumLo n n_1 n_2 rows rows_1 a = sumLo n n_1 n_2 rows rows_1 a') ∧ Ob (sumHi n n_1 n_2 rows rows_1 a + (cell rows_1 a (nat_lit 1) * n_2 + (999999 : Int)) / (1000000 : Int) = sumHi n
  n_1 n_2 rows rows_1 a') ∧ Ob (Value.int IntKind.i64 (0 : Int) = Value.int IntKind.i64 (0 : Int)) ∧ Ob (Value.int IntKind.i64 (0 : Int) = Value.int IntKind.i64 (0 : Int)) ∧ Ob (n = n) ∧ Ob (n_1 = n_1) ∧ Ob (n_2 = n_2) ∧
  Ob (n_3 = n_3) ∧ Ob (IsLst B x_1 rows_1.length (nat_lit 2) (Rv.elemOf [IntKind.i64, IntKind.i64] rows_1)) ∧ Ob (IsLst B x rows.length (nat_lit 2) (Rv.elemOf [IntKind.i64, IntKind.i64] rows)) ∧ True) ∧ (¬n ≤ cell rows a
  ((1 : Nat)) → Ob (InR IntKind.i64 ((↑a : Int) + (1 : Int))) ∧ ∃ (a' : Nat), Ob ((a' ≤ rows.length ∧ firstErr rows rows_1 a' = (0 : Int)) ∧ rows.length - a' < rows.length - a) ∧ Ob (SV.lst x_1 rows_1.length ((2 : Nat))
  (Rv.elemOf [IntKind.i64, IntKind.i64] rows_1) = SV.lst x_1 rows_1.length ((2 : Nat)) (Rv.elemOf [IntKind.i64, IntKind.i64] rows_1)) ∧ Ob (SV.lst x rows.length ((2 : Nat)) (Rv.elemOf [IntKind.i64, IntKind.i64] rows) =
  SV.lst x rows.length ((2 : Nat)) (Rv.elemOf [IntKind.i64, IntKind.i64] rows)) ∧ Ob ((↑rows.length : Int) = (↑rows.length : Int)) ∧ Ob ((↑a : Int) + (1 : Int) = (↑a' : Int)) ∧ Ob (sumLo n n_1 n_2 rows rows_1 a = sumLo n
  n_1 n_2 rows rows_1 a') ∧ Ob (sumHi n n_1 n_2 rows rows_1 a = sumHi n n_1 n_2 rows rows_1 a') ∧ Ob (Value.int IntKind.i64 (0 : Int) = Value.int IntKind.i64 (0 : Int)) ∧ Ob (Value.int IntKind.i64 (0 : Int) = Value.int
  IntKind.i64 (0 : Int)) ∧ Ob (n = n) ∧ Ob (n_1 = n_1) ∧ Ob (n_2 = n_2) ∧ Ob (n_3 = n_3) ∧ Ob (IsLst B x_1 rows_1.length (nat_lit 2) (Rv.elemOf [IntKind.i64, IntKind.i64] rows_1)) ∧ Ob (IsLst B x rows.length (nat_lit 2)
  (Rv.elemOf [IntKind.i64, IntKind.i64] rows)) ∧ True)) ∧ (¬cell rows a ((0 : Nat)) ≤ n_1 → Ob (InR IntKind.i64 ((↑a : Int) + (1 : Int))) ∧ ∃ (a' : Nat), Ob ((a' ≤ rows.length ∧ firstErr rows rows_1 a' = (0 : Int)) ∧
  rows.length - a' < rows.length - a) ∧ Ob (SV.lst x_1 rows_1.length ((2 : Nat)) (Rv.elemOf [IntKind.i64, IntKind.i64] rows_1) = SV.lst x_1 rows_1.length ((2 : Nat)) (Rv.elemOf [IntKind.i64, IntKind.i64] rows_1)) ∧ Ob
  (SV.lst x rows.length ((2 : Nat)) (Rv.elemOf [IntKind.i64, IntKind.i64] rows) = SV.lst x rows.length ((2 : Nat)) (Rv.elemOf [IntKind.i64, IntKind.i64] rows)) ∧ Ob ((↑rows.length : Int) = (↑rows.length : Int)) ∧ Ob ((↑a :
  Int) + (1 : Int) = (↑a' : Int)) ∧ Ob (sumLo n n_1 n_2 rows rows_1 a = sumLo n n_1 n_2 rows rows_1 a') ∧ Ob (sumHi n n_1 n_2 rows rows_1 a = sumHi n n_1 n_2 rows rows_1 a') ∧ Ob (Value.int IntKind.i64 (0 : Int) =
  Value.int IntKind.i64 (0 : Int)) ∧ Ob (Value.int IntKind.i64 (0 : Int) = Value.int IntKind.i64 (0 : Int)) ∧ Ob (n = n) ∧ Ob (n_1 = n_1) ∧ Ob (n_2 = n_2) ∧ Ob (n_3 = n_3) ∧ Ob (IsLst B x_1 rows_1.length (nat_lit 2)
  (Rv.elemOf [IntKind.i64, IntKind.i64] rows_1)) ∧ Ob (IsLst B x rows.length (nat_lit 2) (Rv.elemOf [IntKind.i64, IntKind.i64] rows)) ∧ True))) ∧ (¬n ≤ cell rows a ((0 : Nat)) → (cell rows a ((0 : Nat)) ≤ n_1 → (n ≤ cell
  rows a ((1 : Nat)) → Ob (IsLst B x_1 rows_1.length ((2 : Nat)) (Rv.elemOf [IntKind.i64, IntKind.i64] rows_1)) ∧ Ob ((0 : Int) ≤ (↑a : Int) ∧ a < rows_1.length ∧ IsLst B x_1 rows_1.length ((2 : Nat)) (Rv.elemOf
  [IntKind.i64, IntKind.i64] rows_1)) ∧ Ob (IsLst B x_1 rows_1.length ((2 : Nat)) (Rv.elemOf [IntKind.i64, IntKind.i64] rows_1) ∧ a < rows_1.length) ∧ Ob (IsLst B x_1 rows_1.length ((2 : Nat)) (Rv.elemOf [IntKind.i64,
  IntKind.i64] rows_1) ∧ a < rows_1.length) ∧ Ob (IsLst B x_1 rows_1.length ((2 : Nat)) (Rv.elemOf [IntKind.i64, IntKind.i64] rows_1) ∧ a < rows_1.length) ∧ Ob ((0 : Int) ≤ cell rows_1 a ((1 : Nat)) ∧ cell rows_1 a ((1 :
  Nat)) ≤ (1000000000 : Int) ∧ (0 : Int) ≤ n_2 ∧ n_2 ≤ (1000000 : Int)) ∧ Ob (InR IntKind.i64 (sumHi n n_1 n_2 rows rows_1 a + (cell rows_1 a (nat_lit 1) * n_2 + (999999 : Int)) / (1000000 : Int))) ∧ Ob (InR IntKind.i64
  ((↑a : Int) + (1 : Int))) ∧ ∃ (a' : Nat), Ob ((a' ≤ rows.length ∧ firstErr rows rows_1 a' = (0 : Int)) ∧ rows.length - a' < rows.length - a) ∧ Ob (SV.lst x_1 rows_1.length (nat_lit 2) (Rv.elemOf [IntKind.i64,
  IntKind.i64] rows_1) = SV.lst x_1 rows_1.length (nat_lit 2) (Rv.elemOf [IntKind.i64, IntKind.i64] rows_1)) ∧ Ob (SV.lst x rows.length (nat_lit 2) (Rv.elemOf [IntKind.i64, IntKind.i64] rows) = SV.lst x rows.length
  (nat_lit 2) (Rv.elemOf [IntKind.i64, IntKind.i64] rows)) ∧ Ob ((↑rows.length : Int) = (↑rows.length : Int)) ∧ Ob ((↑a : Int) + (1 : Int) = (↑a' : Int)) ∧ Ob (sumLo n n_1 n_2 rows rows_1 a = sumLo n n_1 n_2 rows rows_1
  a') ∧ Ob (sumHi n n_1 n_2 rows rows_1 a + (cell rows_1 a (nat_lit 1) * n_2 + (999999 : Int)) / (1000000 : Int) = sumHi n n_1 n_2 rows rows_1 a') ∧ Ob (Value.int IntKind.i64 (0 : Int) = Value.int IntKind.i64 (0 : Int)) ∧
  Ob (Value.int IntKind.i64 (0 : Int) = Value.int IntKind.i64 (0 : Int)) ∧ Ob (n = n) ∧ Ob (n_1 = n_1) ∧ Ob (n_2 = n_2) ∧ Ob (n_3 = n_3) ∧ Ob (IsLst B x_1 rows_1.length (nat_lit 2) (Rv.elemOf [IntKind.i64, IntKind.i64]
  rows_1)) ∧ Ob (IsLst B x rows.length (nat_lit 2) (Rv.elemOf [IntKind.i64, IntKind.i64] rows)) ∧ True) ∧ (¬n ≤ cell rows a ((1 : Nat)) → Ob (InR IntKind.i64 ((↑a : Int) + (1 : Int))) ∧ ∃ (a' : Nat), Ob ((a' ≤ rows.length
  ∧ firstErr rows rows_1 a' = (0 : Int)) ∧ rows.length - a' < rows.length - a) ∧ Ob (SV.lst x_1 rows_1.length ((2 : Nat)) (Rv.elemOf [IntKind.i64, IntKind.i64] rows_1) = SV.lst x_1 rows_1.length ((2 : Nat)) (Rv.elemOf
  [IntKind.i64, IntKind.i64] rows_1)) ∧ Ob (SV.lst x rows.length ((2 : Nat)) (Rv.elemOf [IntKind.i64, IntKind.i64] rows) = SV.lst x rows.length ((2 : Nat)) (Rv.elemOf [IntKind.i64, IntKind.i64] rows)) ∧ Ob ((↑rows.length :
  Int) = (↑rows.length : Int)) ∧ Ob ((↑a : Int) + (1 : Int) = (↑a' : Int)) ∧ Ob (sumLo n n_1 n_2 rows rows_1 a = sumLo n n_1 n_2 rows rows_1 a') ∧ Ob (sumHi n n_1 n_2 rows rows_1 a = sumHi n n_1 n_2 rows rows_1 a') ∧ Ob
  (Value.int IntKind.i64 (0 : Int) = Value.int IntKind.i64 (0 : Int)) ∧ Ob (Value.int IntKind.i64 (0 : Int) = Value.int IntKind.i64 (0 : Int)) ∧ Ob (n = n) ∧ Ob (n_1 = n_1) ∧ Ob (n_2 = n_2) ∧ Ob (n_3 = n_3) ∧ Ob (IsLst B
  x_1 rows_1.length (nat_lit 2) (Rv.elemOf [IntKind.i64, IntKind.i64] rows_1)) ∧ Ob (IsLst B x rows.length (nat_lit 2) (Rv.elemOf [IntKind.i64, IntKind.i64] rows)) ∧ True)) ∧ (¬cell rows a ((0 : Nat)) ≤ n_1 → Ob (InR
  IntKind.i64 ((↑a : Int) + (1 : Int))) ∧ ∃ (a' : Nat), Ob ((a' ≤ rows.length ∧ firstErr rows rows_1 a' = (0 : Int)) ∧ rows.length - a' < rows.length - a) ∧ Ob (SV.lst x_1 rows_1.length ((2 : Nat)) (Rv.elemOf [IntKind.i64,
  IntKind.i64] rows_1) = SV.lst x_1 rows_1.length ((2 : Nat)) (Rv.elemOf [IntKind.i64, IntKind.i64] rows_1)) ∧ Ob (SV.lst x rows.length ((2 : Nat)) (Rv.elemOf [IntKind.i64, IntKind.i64] rows) = SV.lst x rows.length ((2 :
  Nat)) (Rv.elemOf [IntKind.i64, IntKind.i64] rows)) ∧ Ob ((↑rows.length : Int) = (↑rows.length : Int)) ∧ Ob ((↑a : Int) + (1 : Int) = (↑a' : Int)) ∧ Ob (sumLo n n_1 n_2 rows rows_1 a = sumLo n n_1 n_2 rows rows_1 a') ∧ Ob
  (sumHi n n_1 n_2 rows rows_1 a = sumHi n n_1 n_2 rows rows_1 a') ∧ Ob (Value.int IntKind.i64 (0 : Int) = Value.int IntKind.i64 (0 : Int)) ∧ Ob (Value.int IntKind.i64 (0 : Int) = Value.int IntKind.i64 (0 : Int)) ∧ Ob (n =
  n) ∧ Ob (n_1 = n_1) ∧ Ob (n_2 = n_2) ∧ Ob (n_3 = n_3) ∧ Ob (IsLst B x_1 rows_1.length (nat_lit 2) (Rv.elemOf [IntKind.i64, IntKind.i64] rows_1)) ∧ Ob (IsLst B x rows.length (nat_lit 2) (Rv.elemOf [IntKind.i64,
  IntKind.i64] rows)) ∧ True))))) ∧ (¬(↑a : Int) < (↑rows.length : Int) → Ob (min (sumLo n n_1 n_2 rows rows_1 a) n_3 = setLo n n_1 n_2 n_3 rows rows_1) ∧ Ob (min (sumHi n n_1 n_2 rows rows_1 a) n_3 = setHi n n_1 n_2 n_3
  rows rows_1) ∧ Ob ((0 : Int) = setErr n n_1 n_2 n_3 rows rows_1) ∧ True))))

set_option linter.unusedSimpArgs false in
set_option maxRecDepth 4000 in
set_option maxHeartbeats 400000 in
theorem v_Settle : V_Settle := by
  unfold V_Settle
  intro B lo hi rate room x D hx hox hrx y L hy hoy hry ⟨hD, hL⟩
  simp only [Ob_iff, and_true, true_and, hx, hy, InR, Decidable.not_not]
  refine ⟨fun h => ?_, fun h0 => ⟨fun h => ?_, fun h4 => ⟨fun h => ?_, fun h5 => ⟨⟨0, ?_⟩, ?_⟩⟩⟩⟩
  · simp [setLo, setHi, setErr, h]
  · have h' : 400 < D.length := by omega
    simp [setLo, setHi, setErr, h0, h']
  · have h' : ¬ 400 < D.length := by omega
    have h'' : ¬ L.length = D.length := by omega
    simp [setLo, setHi, setErr, h0, h', h'']
  · simp [sumLo, sumHi, firstErr]
  intro k ⟨hk, he⟩
  intros
  have h4' : ¬ 400 < D.length := by omega
  have h5' : L.length = D.length := by omega
  obtain ⟨r1, r2, r3, r4⟩ := nur_rate h0
  have hset : setErr lo hi rate room D L = firstErr D L D.length := by simp [setErr, h0, h4', h5']
  refine ⟨fun h6 => ⟨⟨by omega, by omega⟩, by omega, fun h7 => ?_, fun h7 => ⟨⟨by omega, by omega⟩, by omega, fun h8 => ?_, fun h8 => ?_⟩⟩, fun h6 => ?_⟩
  · have hd : dayErr D L k = spanErr (cell D k 0) (cell D k 1) (-50) 400 := by simp [dayErr, h7]
    have hf := first_at (n := D.length) (by omega) he (by rw [hd]; exact h7)
    simp [setLo, setHi, hset, hf, hd, h7]
  · have hd : dayErr D L k = spanErr (cell L k 0) (cell L k 1) 0 1000000000 := by simp [dayErr, h7]
    have hf := first_at (n := D.length) (by omega) he (by rw [hd]; exact h8)
    simp [setLo, setHi, hset, hf, hd, h8]
  · have hne : firstErr D L (k + 1) = 0 := by simp [firstErr, he, dayErr, h7, h8]
    obtain ⟨z1, z2, z3⟩ := span_ok h8
    obtain ⟨t1, t2, t3, t4⟩ := sums_bd (lo := lo) (hi := hi) r1 r2 k he
    have p1 := part_bd z1 (by omega) r1 r2
    have p2 := part_bd (x := cell L k 1) (by omega) z3 r1 r2
    have g1 : sumLo lo hi rate D L (k + 1) = sumLo lo hi rate D L k + (if lo ≤ cell D k 0 ∧ cell D k 1 ≤ hi then cell L k 0 * rate / 1000000 else 0) := rfl
    have g2 : sumHi lo hi rate D L (k + 1) = sumHi lo hi rate D L k + (if cell D k 0 ≤ hi ∧ lo ≤ cell D k 1 then (cell L k 1 * rate + 999999) / 1000000 else 0) := rfl
    generalize sumLo lo hi rate D L k = S1 at *
    generalize sumHi lo hi rate D L k = S2 at *
    generalize cell L k 0 * rate = q1 at *
    generalize cell L k 1 * rate = q2 at *
    repeat' (first | apply And.intro | intro _)
    all_goals first
      | omega
      | (refine ⟨k + 1, ⟨⟨by omega, hne⟩, by omega⟩, by omega, ?_, ?_⟩
         · rw [g1]; split <;> omega
         · rw [g2]; split <;> omega)
  · have hkn : k = D.length := by omega
    subst hkn
    simp [setLo, setHi, hset, he]

theorem e_Settle : V_Settle = needF P [F_checkNursery, F_checkWarmth, F_checkSpan, F_partDown, F_partUp] A_Settle F_Settle := by kernel_rfl

theorem n_Settle : Ob (needF P [F_checkNursery, F_checkWarmth, F_checkSpan, F_partDown, F_partUp] A_Settle F_Settle) := by
  rw [← e_Settle]
  exact ⟨v_Settle⟩

theorem b_Settle : ((P.funcs[21]?).any fun fn => fn.body.isSome) = true := by kernel_rfl

theorem Settle_ok : Fn0.Ok P F_Settle := Fn0.ok named (l := [F_checkNursery, F_checkWarmth, F_checkSpan, F_partDown, F_partUp]) (A := A_Settle) (by rfl) (by
  intro F h
  simp only [List.mem_cons, List.not_mem_nil, or_false] at h
  rcases h with rfl | rfl | rfl | rfl | rfl
  · exact checkNursery_ok
  · exact checkWarmth_ok
  · exact checkSpan_ok
  · exact partDown_ok
  · exact partUp_ok
) b_Settle (by
  intro ds N
  simp only [F_Settle]
  split <;> rfl) n_Settle

noncomputable def F_rSettle : Fn0 := ⟨22, [.agg [.i .i64, .i .i64, .i .i64, .i .i64], .one (.l [.i64, .i64]), .one (.l [.i64, .i64])], fun l => match l with | [.z lo, .z hi, .z rate, .z room, .l D, .l L] => D.length ≤ 1000 ∧ L.length ≤ 1000 | _ => False, fun l => match l with | [.z lo, .z hi, .z rate, .z room, .l D, .l L] => .tup [.agg [.i .i64 (setLo lo hi rate room D L), .i .i64 (setHi lo hi rate room D L)], .i .i64 (setErr lo hi rate room D L)] | _ => .v undef⟩
noncomputable def A_rSettle : List SV → List Dat → Nat → List SV → Ann := fun xs ds n ts => match xs with
  | [.agg [_, _, _, _], .lst x _ _ _, .lst y _ _ _] => match ds with
    | [.z lo, .z hi, .z rate, .z room, .l D, .l L] => match n with
      | 11 => ⟨Nat, fun k => [none, some (SV.lst x D.length ((2 : Nat)) (Rv.elemOf [IntKind.i64, IntKind.i64] D)), some (SV.lst y L.length ((2 : Nat)) (Rv.elemOf [IntKind.i64, IntKind.i64] L)), some (SV.ptr ((0 : Nat)) ((0 : Nat))), none, none, some (SV.ptr ((1 : Nat)) ((0 : Nat))), none, some (SV.ptr ((2 : Nat)) ((0 : Nat))), some (.i .i64 k), none, none, none, none, none, none, none, none, none, none, none, none, none, none, none, none, none, none, none, none, none, none, none, none, none, none, none, none, none, none, none, none, none, none, none, none, none, none, none, none, none, none, none, none, none, none, none, none, none, none, none, none, none, none, none, none, none, none, none, none, none, none, none, none, none, none, none, none, none, none, none, none, none, none, none, none, none, none, none, none, none, none, none, none, none, none, none, none, none, none, none, none, none, none, none, none, none, none, none, none, none, none, none, none, none, none, none, none, none, none, none, none, none, none, none, none, none, none, none, none, none, none, none, none, none, none, none, none, none, none, none, none, none, none, none, none, none, none, none, none, none, none, none, none, none], fun k => [.cells [.i .i64 (sumLo lo hi rate D L k), .i .i64 (sumHi lo hi rate D L k)] .ex, SObj.cells [SV.v (Value.int IntKind.i64 (0 : Int)), SV.v (Value.int IntKind.i64 (0 : Int))] Kd.ex, SObj.cells [SV.i IntKind.i64 lo, SV.i IntKind.i64 hi, SV.i IntKind.i64 rate, SV.i IntKind.i64 room] Kd.ex], fun k => k ≤ D.length ∧ firstErr D L k = 0, fun k => D.length - k, 0⟩
      | _ => noAnn
    | _ => noAnn
  | _ => noAnn

def V_rSettle : Prop :=
  ∀ (B : RW) (n n_1 n_2 n_3 : Int) (x : RV) (rows : List (List Int)), IsLst B x rows.length ((2 : Nat)) (Rv.elemOf [IntKind.i64, IntKind.i64] rows) → oneB x = true → (∀ (row : List Int), row ∈ rows → row.length = (2 :
  Nat)) → ∀ (x_1 : RV) (rows_1 : List (List Int)), IsLst B x_1 rows_1.length ((2 : Nat)) (Rv.elemOf [IntKind.i64, IntKind.i64] rows_1) → oneB x_1 = true → (∀ (row : List Int), row ∈ rows_1 → row.length = (2 : Nat)) →
  rows.length ≤ (1000 : Nat) ∧ rows_1.length ≤ (1000 : Nat) → Ob True ∧ (¬¬inB n (-50 : Int) (400 : Int) → Ob True ∧ (¬¬inB n_1 (-50 : Int) (400 : Int) → Ob True ∧ (¬¬inB n_2 (0 : Int) (1000000 : Int) → Ob True ∧ (¬inB n_3
  (0 : Int) (1000000000 : Int) → Ob ((0 : Int) = setLo n n_1 n_2 n_3 rows rows_1) ∧ Ob ((0 : Int) = setHi n n_1 n_2 n_3 rows rows_1) ∧ Ob ((1 : Int) = setErr n n_1 n_2 n_3 rows rows_1) ∧ True) ∧ (¬¬inB n_3 (0 : Int)
  (1000000000 : Int) → (n_1 < n → Ob ((0 : Int) = setLo n n_1 n_2 n_3 rows rows_1) ∧ Ob ((0 : Int) = setHi n n_1 n_2 n_3 rows rows_1) ∧ Ob ((8 : Int) = setErr n n_1 n_2 n_3 rows rows_1) ∧ True) ∧ (¬n_1 < n → Ob (IsLst B x
  rows.length ((2 : Nat)) (Rv.elemOf [IntKind.i64, IntKind.i64] rows)) ∧ ((400 : Int) < (↑rows.length : Int) → Ob ((0 : Int) = setLo n n_1 n_2 n_3 rows rows_1) ∧ Ob ((0 : Int) = setHi n n_1 n_2 n_3 rows rows_1) ∧ Ob ((5 :
  Int) = setErr n n_1 n_2 n_3 rows rows_1) ∧ True) ∧ (¬(400 : Int) < (↑rows.length : Int) → Ob (IsLst B x_1 rows_1.length ((2 : Nat)) (Rv.elemOf [IntKind.i64, IntKind.i64] rows_1)) ∧ Ob (IsLst B x rows.length ((2 : Nat))
  (Rv.elemOf [IntKind.i64, IntKind.i64] rows)) ∧ (¬(↑rows_1.length : Int) = (↑rows.length : Int) → Ob ((0 : Int) = setLo n n_1 n_2 n_3 rows rows_1) ∧ Ob ((0 : Int) = setHi n n_1 n_2 n_3 rows rows_1) ∧ Ob ((2 : Int) =
  setErr n n_1 n_2 n_3 rows rows_1) ∧ True) ∧ (¬¬(↑rows_1.length : Int) = (↑rows.length : Int) → (∃ (a : Nat), Ob (a ≤ rows.length ∧ firstErr rows rows_1 a = (0 : Int)) ∧ Ob (SV.lst x rows.length ((2 : Nat)) (Rv.elemOf
  [IntKind.i64, IntKind.i64] rows) = SV.lst x rows.length ((2 : Nat)) (Rv.elemOf [IntKind.i64, IntKind.i64] rows)) ∧ Ob (SV.lst x_1 rows_1.length ((2 : Nat)) (Rv.elemOf [IntKind.i64, IntKind.i64] rows_1) = SV.lst x_1
  rows_1.length ((2 : Nat)) (Rv.elemOf [IntKind.i64, IntKind.i64] rows_1)) ∧ Ob ((0 : Int) = (↑a : Int)) ∧ Ob ((0 : Int) = sumLo n n_1 n_2 rows rows_1 a) ∧ Ob ((0 : Int) = sumHi n n_1 n_2 rows rows_1 a) ∧ Ob (Value.int
  IntKind.i64 (0 : Int) = Value.int IntKind.i64 (0 : Int)) ∧ Ob (Value.int IntKind.i64 (0 : Int) = Value.int IntKind.i64 (0 : Int)) ∧ Ob (n = n) ∧ Ob (n_1 = n_1) ∧ Ob (n_2 = n_2) ∧ Ob (n_3 = n_3) ∧ Ob (IsLst B x
  rows.length ((2 : Nat)) (Rv.elemOf [IntKind.i64, IntKind.i64] rows)) ∧ Ob (IsLst B x_1 rows_1.length ((2 : Nat)) (Rv.elemOf [IntKind.i64, IntKind.i64] rows_1)) ∧ True) ∧ ∀ (a : Nat), a ≤ rows.length ∧ firstErr rows
  rows_1 a = (0 : Int) → ∀ (z z_1 z_2 z_3 z_4 z_5 z_6 z_7 z_8 z_9 z_10 z_11 z_12 z_13 z_14 z_15 z_16 z_17 z_18 z_19 z_20 z_21 z_22 z_23 z_24 z_25 z_26 z_27 z_28 z_29 z_30 z_31 z_32 z_33 z_34 z_35 z_36 z_37 z_38 z_39 z_40
  z_41 z_42 z_43 z_44 z_45 z_46 z_47 z_48 z_49 z_50 z_51 z_52 z_53 z_54 z_55 z_56 z_57 z_58 z_59 z_60 z_61 z_62 z_63 z_64 z_65 z_66 z_67 z_68 z_69 z_70 z_71 z_72 z_73 z_74 z_75 z_76 z_77 z_78 z_79 z_80 z_81 z_82 z_83 z_84
  z_85 z_86 z_87 z_88 z_89 z_90 z_91 z_92 z_93 z_94 z_95 z_96 z_97 z_98 z_99 z_100 z_101 z_102 z_103 z_104 z_105 z_106 z_107 z_108 z_109 z_110 z_111 z_112 z_113 z_114 z_115 z_116 z_117 z_118 z_119 z_120 z_121 z_122 z_123
  z_124 z_125 z_126 z_127 z_128 z_129 z_130 z_131 z_132 z_133 z_134 z_135 z_136 z_137 z_138 z_139 z_140 z_141 z_142 z_143 z_144 z_145 z_146 z_147 z_148 : Value), Ob (IsLst B x rows.length ((2 : Nat)) (Rv.elemOf
  [IntKind.i64, IntKind.i64] rows)) ∧ ((↑a : Int) < (↑rows.length : Int) → Ob (IsLst B x rows.length ((2 : Nat)) (Rv.elemOf [IntKind.i64, IntKind.i64] rows)) ∧ Ob ((0 : Int) ≤ (↑a : Int) ∧ a < rows.length ∧ IsLst B x
  rows.length ((2 : Nat)) (Rv.elemOf [IntKind.i64, IntKind.i64] rows)) ∧ Ob (IsLst B x rows.length ((2 : Nat)) (Rv.elemOf [IntKind.i64, IntKind.i64] rows) ∧ a < rows.length) ∧ Ob (IsLst B x rows.length ((2 : Nat))
  (Rv.elemOf [IntKind.i64, IntKind.i64] rows) ∧ a < rows.length) ∧ Ob True ∧ Ob (IsLst B x_1 rows_1.length ((2 : Nat)) (Rv.elemOf [IntKind.i64, IntKind.i64] rows_1)) ∧ Ob ((0 : Int) ≤ (↑a : Int) ∧ a < rows_1.length ∧ IsLst
  B x_1 rows_1.length ((2 : Nat)) (Rv.elemOf [IntKind.i64, IntKind.i64] rows_1)) ∧ Ob (IsLst B x_1 rows_1.length ((2 : Nat)) (Rv.elemOf [IntKind.i64, IntKind.i64] rows_1) ∧ a < rows_1.length) ∧ Ob (IsLst B x_1
  rows_1.length ((2 : Nat)) (Rv.elemOf [IntKind.i64, IntKind.i64] rows_1) ∧ a < rows_1.length) ∧ Ob True ∧ Ob ([[spanErr (cell rows a (nat_lit 0)) (cell rows a (nat_lit 1)) (-50 : Int) (400 : Int)], [spanErr (cell rows_1 a
  (nat_lit 0)) (cell rows_1 a (nat_lit 1)) (0 : Int) (1000000000 : Int)]].length ≤ (1000 : Nat)) ∧ (¬firstOf [[spanErr (cell rows a (nat_lit 0)) (cell rows a (nat_lit 1)) (-50 : Int) (400 : Int)], [spanErr (cell rows_1 a
  (nat_lit 0)) (cell rows_1 a (nat_lit 1)) (0 : Int) (1000000000 : Int)]] = (0 : Int) → Ob ((0 : Int) = setLo n n_1 n_2 n_3 rows rows_1) ∧ Ob ((0 : Int) = setHi n n_1 n_2 n_3 rows rows_1) ∧ Ob (firstOf [[spanErr (cell rows
  a (nat_lit 0)) (cell rows a (nat_lit 1)) (-50 : Int) (400 : Int)], [spanErr (cell rows_1 a (nat_lit 0)) (cell rows_1 a (nat_lit 1)) (0 : Int) (1000000000 : Int)]] = setErr n n_1 n_2 n_3 rows rows_1) ∧ True) ∧ (¬¬firstOf
  [[spanErr (cell rows a (nat_lit 0)) (cell rows a (nat_lit 1)) (-50 : Int) (400 : Int)], [spanErr (cell rows_1 a (nat_lit 0)) (cell rows_1 a (nat_lit 1)) (0 : Int) (1000000000 : Int)]] = (0 : Int) → Ob (IsLst B x_1
  rows_1.length ((2 : Nat)) (Rv.elemOf [IntKind.i64, IntKind.i64] rows_1)) ∧ Ob ((0 : Int) ≤ (↑a : Int) ∧ a < rows_1.length ∧ IsLst B x_1 rows_1.length (nat_lit 2) (Rv.elemOf [IntKind.i64, IntKind.i64] rows_1)) ∧ Ob (IsLst
  B x_1 rows_1.length (nat_lit 2) (Rv.elemOf [IntKind.i64, IntKind.i64] rows_1) ∧ a < rows_1.length) ∧ Ob (IsLst B x_1 rows_1.length (nat_lit 2) (Rv.elemOf [IntKind.i64, IntKind.i64] rows_1) ∧ a < rows_1.length) ∧ Ob
  (IsLst B x_1 rows_1.length (nat_lit 2) (Rv.elemOf [IntKind.i64, IntKind.i64] rows_1) ∧ a < rows_1.length) ∧ Ob ((0 : Int) ≤ cell rows_1 a (nat_lit 0) ∧ cell rows_1 a (nat_lit 0) ≤ (1000000000 : Int) ∧ (0 : Int) ≤ n_2 ∧
  n_2 ≤ (1000000 : Int)) ∧ Ob (IsLst B x_1 rows_1.length (nat_lit 2) (Rv.elemOf [IntKind.i64, IntKind.i64] rows_1)) ∧ Ob ((0 : Int) ≤ (↑a : Int) ∧ a < rows_1.length ∧ IsLst B x_1 rows_1.length (nat_lit 2) (Rv.elemOf
  [IntKind.i64, IntKind.i64] rows_1)) ∧ Ob (IsLst B x_1 rows_1.length (nat_lit 2) (Rv.elemOf [IntKind.i64, IntKind.i64] rows_1) ∧ a < rows_1.length) ∧ Ob (IsLst B x_1 rows_1.length (nat_lit 2) (Rv.elemOf [IntKind.i64,
  IntKind.i64] rows_1) ∧ a < rows_1.length) ∧ Ob (IsLst B x_1 rows_1.length (nat_lit 2) (Rv.elemOf [IntKind.i64, IntKind.i64] rows_1) ∧ a < rows_1.length) ∧ Ob ((0 : Int) ≤ cell rows_1 a (nat_lit 1) ∧ cell rows_1 a
  (nat_lit 1) ≤ (1000000000 : Int) ∧ (0 : Int) ≤ n_2 ∧ n_2 ≤ (1000000 : Int)) ∧ Ob (IsLst B x rows.length (nat_lit 2) (Rv.elemOf [IntKind.i64, IntKind.i64] rows)) ∧ Ob ((0 : Int) ≤ (↑a : Int) ∧ a < rows.length ∧ IsLst B x
  rows.length (nat_lit 2) (Rv.elemOf [IntKind.i64, IntKind.i64] rows)) ∧ Ob (IsLst B x rows.length (nat_lit 2) (Rv.elemOf [IntKind.i64, IntKind.i64] rows) ∧ a < rows.length) ∧ Ob (IsLst B x rows.length (nat_lit 2)
  (Rv.elemOf [IntKind.i64, IntKind.i64] rows) ∧ a < rows.length) ∧ Ob (IsLst B x rows.length (nat_lit 2) (Rv.elemOf [IntKind.i64, IntKind.i64] rows) ∧ a < rows.length) ∧ (n ≤ cell rows a (nat_lit 0) → Ob (IsLst B x
  rows.length (nat_lit 2) (Rv.elemOf [IntKind.i64, IntKind.i64] rows)) ∧ Ob ((0 : Int) ≤ (↑a : Int) ∧ a < rows.length ∧ IsLst B x rows.length (nat_lit 2) (Rv.elemOf [IntKind.i64, IntKind.i64] rows)) ∧ Ob (IsLst B x
  rows.length (nat_lit 2) (Rv.elemOf [IntKind.i64, IntKind.i64] rows) ∧ a < rows.length) ∧ Ob (IsLst B x rows.length (nat_lit 2) (Rv.elemOf [IntKind.i64, IntKind.i64] rows) ∧ a < rows.length) ∧ Ob (IsLst B x rows.length
  (nat_lit 2) (Rv.elemOf [IntKind.i64, IntKind.i64] rows) ∧ a < rows.length) ∧ (cell rows a (nat_lit 1) ≤ n_1 → Ob (InR IntKind.i64 (sumLo n n_1 n_2 rows rows_1 a + cell rows_1 a (nat_lit 0) * n_2 / (1000000 : Int))) ∧ Ob
  (IsLst B x rows.length (nat_lit 2) (Rv.elemOf [IntKind.i64, IntKind.i64] rows)) ∧ Ob ((0 : Int) ≤ (↑a : Int) ∧ a < rows.length ∧ IsLst B x rows.length (nat_lit 2) (Rv.elemOf [IntKind.i64, IntKind.i64] rows)) ∧ Ob (IsLst
  B x rows.length (nat_lit 2) (Rv.elemOf [IntKind.i64, IntKind.i64] rows) ∧ a < rows.length) ∧ Ob (IsLst B x rows.length (nat_lit 2) (Rv.elemOf [IntKind.i64, IntKind.i64] rows) ∧ a < rows.length) ∧ Ob (IsLst B x
  rows.length (nat_lit 2) (Rv.elemOf [IntKind.i64, IntKind.i64] rows) ∧ a < rows.length) ∧ (n ≤ cell rows a (nat_lit 1) → Ob (IsLst B x rows.length (nat_lit 2) (Rv.elemOf [IntKind.i64, IntKind.i64] rows)) ∧ Ob ((0 : Int) ≤
  (↑a : Int) ∧ a < rows.length ∧ IsLst B x rows.length (nat_lit 2) (Rv.elemOf [IntKind.i64, IntKind.i64] rows)) ∧ Ob (IsLst B x rows.length (nat_lit 2) (Rv.elemOf [IntKind.i64, IntKind.i64] rows) ∧ a < rows.length) ∧ Ob
  (IsLst B x rows.length (nat_lit 2) (Rv.elemOf [IntKind.i64, IntKind.i64] rows) ∧ a < rows.length) ∧ Ob (IsLst B x rows.length (nat_lit 2) (Rv.elemOf [IntKind.i64, IntKind.i64] rows) ∧ a < rows.length) ∧ (cell rows a
  (nat_lit 0) ≤ n_1 → Ob (InR IntKind.i64 (sumHi n n_1 n_2 rows rows_1 a + (cell rows_1 a (nat_lit 1) * n_2 + (999999 : Int)) / (1000000 : Int))) ∧ Ob (InR IntKind.i64 ((↑a : Int) + (1 : Int))) ∧ ∃ (a' : Nat), Ob ((a' ≤
  rows.length ∧ firstErr rows rows_1 a' = (0 : Int)) ∧ rows.length - a' < rows.length - a) ∧ Ob (SV.lst x rows.length (nat_lit 2) (Rv.elemOf [IntKind.i64, IntKind.i64] rows) = SV.lst x rows.length (nat_lit 2) (Rv.elemOf
  [IntKind.i64, IntKind.i64] rows)) ∧ Ob (SV.lst x_1 rows_1.length (nat_lit 2) (Rv.elemOf [IntKind.i64, IntKind.i64] rows_1) = SV.lst x_1 rows_1.length (nat_lit 2) (Rv.elemOf [IntKind.i64, IntKind.i64] rows_1)) ∧ Ob ((↑a :
  Int) + (1 : Int) = (↑a' : Int)) ∧ Ob (sumLo n n_1 n_2 rows rows_1 a + cell rows_1 a (nat_lit 0) * n_2 / (1000000 : Int) = sumLo n n_1 n_2 rows rows_1 a') ∧ Ob (sumHi n n_1 n_2 rows rows_1 a + (cell rows_1 a (nat_lit 1) *
  n_2 + (999999 : Int)) / (1000000 : Int) = sumHi n n_1 n_2 rows rows_1 a') ∧ Ob (Value.int IntKind.i64 (0 : Int) = Value.int IntKind.i64 (0 : Int)) ∧ Ob (Value.int IntKind.i64 (0 : Int) = Value.int IntKind.i64 (0 : Int))
  ∧ Ob (n = n) ∧ Ob (n_1 = n_1) ∧ Ob (n_2 = n_2) ∧ Ob (n_3 = n_3) ∧ Ob (IsLst B x rows.length (nat_lit 2) (Rv.elemOf [IntKind.i64, IntKind.i64] rows)) ∧ Ob (IsLst B x_1 rows_1.length (nat_lit 2) (Rv.elemOf [IntKind.i64,
  IntKind.i64] rows_1)) ∧ True) ∧ (¬cell rows a (nat_lit 0) ≤ n_1 → Ob (InR IntKind.i64 ((↑a : Int) + (1 : Int))) ∧ ∃ (a' : Nat), Ob ((a' ≤ rows.length ∧ firstErr rows rows_1 a' = (0 : Int)) ∧ rows.length - a' <
  rows.length - a) ∧ Ob (SV.lst x rows.length (nat_lit 2) (Rv.elemOf [IntKind.i64, IntKind.i64] rows) = SV.lst x rows.length (nat_lit 2) (Rv.elemOf [IntKind.i64, IntKind.i64] rows)) ∧ Ob (SV.lst x_1 rows_1.length (nat_lit
  2) (Rv.elemOf [IntKind.i64, IntKind.i64] rows_1) = SV.lst x_1 rows_1.length (nat_lit 2) (Rv.elemOf [IntKind.i64, IntKind.i64] rows_1)) ∧ Ob ((↑a : Int) + (1 : Int) = (↑a' : Int)) ∧ Ob (sumLo n n_1 n_2 rows rows_1 a +
  cell rows_1 a (nat_lit 0) * n_2 / (1000000 : Int) = sumLo n n_1 n_2 rows rows_1 a') ∧ Ob (sumHi n n_1 n_2 rows rows_1 a = sumHi n n_1 n_2 rows rows_1 a') ∧ Ob (Value.int IntKind.i64 (0 : Int) = Value.int IntKind.i64 (0 :
  Int)) ∧ Ob (Value.int IntKind.i64 (0 : Int) = Value.int IntKind.i64 (0 : Int)) ∧ Ob (n = n) ∧ Ob (n_1 = n_1) ∧ Ob (n_2 = n_2) ∧ Ob (n_3 = n_3) ∧ Ob (IsLst B x rows.length (nat_lit 2) (Rv.elemOf [IntKind.i64, IntKind.i64]
  rows)) ∧ Ob (IsLst B x_1 rows_1.length (nat_lit 2) (Rv.elemOf [IntKind.i64, IntKind.i64] rows_1)) ∧ True)) ∧ (¬n ≤ cell rows a (nat_lit 1) → Ob (InR IntKind.i64 ((↑a : Int) + (1 : Int))) ∧ ∃ (a' : Nat), Ob ((a' ≤
  rows.length ∧ firstErr rows rows_1 a' = (0 : Int)) ∧ rows.length - a' < rows.length - a) ∧ Ob (SV.lst x rows.length (nat_lit 2) (Rv.elemOf [IntKind.i64, IntKind.i64] rows) = SV.lst x rows.length (nat_lit 2) (Rv.elemOf
  [IntKind.i64, IntKind.i64] rows)) ∧ Ob (SV.lst x_1 rows_1.length (nat_lit 2) (Rv.elemOf [IntKind.i64, IntKind.i64] rows_1) = SV.lst x_1 rows_1.length (nat_lit 2) (Rv.elemOf [IntKind.i64, IntKind.i64] rows_1)) ∧ Ob ((↑a :
  Int) + (1 : Int) = (↑a' : Int)) ∧ Ob (sumLo n n_1 n_2 rows rows_1 a + cell rows_1 a (nat_lit 0) * n_2 / (1000000 : Int) = sumLo n n_1 n_2 rows rows_1 a') ∧ Ob (sumHi n n_1 n_2 rows rows_1 a = sumHi n n_1 n_2 rows rows_1
  a') ∧ Ob (Value.int IntKind.i64 (0 : Int) = Value.int IntKind.i64 (0 : Int)) ∧ Ob (Value.int IntKind.i64 (0 : Int) = Value.int IntKind.i64 (0 : Int)) ∧ Ob (n = n) ∧ Ob (n_1 = n_1) ∧ Ob (n_2 = n_2) ∧ Ob (n_3 = n_3) ∧ Ob
  (IsLst B x rows.length (nat_lit 2) (Rv.elemOf [IntKind.i64, IntKind.i64] rows)) ∧ Ob (IsLst B x_1 rows_1.length (nat_lit 2) (Rv.elemOf [IntKind.i64, IntKind.i64] rows_1)) ∧ True)) ∧ (¬cell rows a (nat_lit 1) ≤ n_1 → Ob
  (IsLst B x rows.length (nat_lit 2) (Rv.elemOf [IntKind.i64, IntKind.i64] rows)) ∧ Ob ((0 : Int) ≤ (↑a : Int) ∧ a < rows.length ∧ IsLst B x rows.length (nat_lit 2) (Rv.elemOf [IntKind.i64, IntKind.i64] rows)) ∧ Ob (IsLst
  B x rows.length (nat_lit 2) (Rv.elemOf [IntKind.i64, IntKind.i64] rows) ∧ a < rows.length) ∧ Ob (IsLst B x rows.length (nat_lit 2) (Rv.elemOf [IntKind.i64, IntKind.i64] rows) ∧ a < rows.length) ∧ Ob (IsLst B x
  rows.length (nat_lit 2) (Rv.elemOf [IntKind.i64, IntKind.i64] rows) ∧ a < rows.length) ∧ (n ≤ cell rows a (nat_lit 1) → Ob (IsLst B x rows.length (nat_lit 2) (Rv.elemOf [IntKind.i64, IntKind.i64] rows)) ∧ Ob ((0 : Int) ≤
  (↑a : Int) ∧ a < rows.length ∧ IsLst B x rows.length (nat_lit 2) (Rv.elemOf [IntKind.i64, IntKind.i64] rows)) ∧ Ob (IsLst B x rows.length (nat_lit 2) (Rv.elemOf [IntKind.i64, IntKind.i64] rows) ∧ a < rows.length) ∧ Ob
  (IsLst B x rows.length (nat_lit 2) (Rv.elemOf [IntKind.i64, IntKind.i64] rows) ∧ a < rows.length) ∧ Ob (IsLst B x rows.length (nat_lit 2) (Rv.elemOf [IntKind.i64, IntKind.i64] rows) ∧ a < rows.length) ∧ (cell rows a
  (nat_lit 0) ≤ n_1 → Ob (InR IntKind.i64 (sumHi n n_1 n_2 rows rows_1 a + (cell rows_1 a (nat_lit 1) * n_2 + (999999 : Int)) / (1000000 : Int))) ∧ Ob (InR IntKind.i64 ((↑a : Int) + (1 : Int))) ∧ ∃ (a' : Nat), Ob ((a' ≤
  rows.length ∧ firstErr rows rows_1 a' = (0 : Int)) ∧ rows.length - a' < rows.length - a) ∧ Ob (SV.lst x rows.length (nat_lit 2) (Rv.elemOf [IntKind.i64, IntKind.i64] rows) = SV.lst x rows.length (nat_lit 2) (Rv.elemOf
  [IntKind.i64, IntKind.i64] rows)) ∧ Ob (SV.lst x_1 rows_1.length (nat_lit 2) (Rv.elemOf [IntKind.i64, IntKind.i64] rows_1) = SV.lst x_1 rows_1.length (nat_lit 2) (Rv.elemOf [IntKind.i64, IntKind.i64] rows_1)) ∧ Ob ((↑a :
  Int) + (1 : Int) = (↑a' : Int)) ∧ Ob (sumLo n n_1 n_2 rows rows_1 a = sumLo n n_1 n_2 rows rows_1 a') ∧ Ob (sumHi n n_1 n_2 rows rows_1 a + (cell rows_1 a (nat_lit 1) * n_2 + (999999 : Int)) / (1000000 : Int) = sumHi n
  n_1 n_2 rows rows_1 a') ∧ Ob (Value.int IntKind.i64 (0 : Int) = Value.int IntKind.i64 (0 : Int)) ∧ Ob (Value.int IntKind.i64 (0 : Int) = Value.int IntKind.i64 (0 : Int)) ∧ Ob (n = n) ∧ Ob (n_1 = n_1) ∧ Ob (n_2 = n_2) ∧
  Ob (n_3 = n_3) ∧ Ob (IsLst B x rows.length (nat_lit 2) (Rv.elemOf [IntKind.i64, IntKind.i64] rows)) ∧ Ob (IsLst B x_1 rows_1.length (nat_lit 2) (Rv.elemOf [IntKind.i64, IntKind.i64] rows_1)) ∧ True) ∧ (¬cell rows a
  (nat_lit 0) ≤ n_1 → Ob (InR IntKind.i64 ((↑a : Int) + (1 : Int))) ∧ ∃ (a' : Nat), Ob ((a' ≤ rows.length ∧ firstErr rows rows_1 a' = (0 : Int)) ∧ rows.length - a' < rows.length - a) ∧ Ob (SV.lst x rows.length (nat_lit 2)
  (Rv.elemOf [IntKind.i64, IntKind.i64] rows) = SV.lst x rows.length (nat_lit 2) (Rv.elemOf [IntKind.i64, IntKind.i64] rows)) ∧ Ob (SV.lst x_1 rows_1.length (nat_lit 2) (Rv.elemOf [IntKind.i64, IntKind.i64] rows_1) =
  SV.lst x_1 rows_1.length (nat_lit 2) (Rv.elemOf [IntKind.i64, IntKind.i64] rows_1)) ∧ Ob ((↑a : Int) + (1 : Int) = (↑a' : Int)) ∧ Ob (sumLo n n_1 n_2 rows rows_1 a = sumLo n n_1 n_2 rows rows_1 a') ∧ Ob (sumHi n n_1 n_2
  rows rows_1 a = sumHi n n_1 n_2 rows rows_1 a') ∧ Ob (Value.int IntKind.i64 (0 : Int) = Value.int IntKind.i64 (0 : Int)) ∧ Ob (Value.int IntKind.i64 (0 : Int) = Value.int IntKind.i64 (0 : Int)) ∧ Ob (n = n) ∧ Ob (n_1 =
  n_1) ∧ Ob (n_2 = n_2) ∧ Ob (n_3 = n_3) ∧ Ob (IsLst B x rows.length (nat_lit 2) (Rv.elemOf [IntKind.i64, IntKind.i64] rows)) ∧ Ob (IsLst B x_1 rows_1.length (nat_lit 2) (Rv.elemOf [IntKind.i64, IntKind.i64] rows_1)) ∧
  True)) ∧ (¬n ≤ cell rows a (nat_lit 1) → Ob (InR IntKind.i64 ((↑a : Int) + (1 : Int))) ∧ ∃ (a' : Nat), Ob ((a' ≤ rows.length ∧ firstErr rows rows_1 a' = (0 : Int)) ∧ rows.length - a' < rows.length - a) ∧ Ob (SV.lst x
  rows.length (nat_lit 2) (Rv.elemOf [IntKind.i64, IntKind.i64] rows) = SV.lst x rows.length (nat_lit 2) (Rv.elemOf [IntKind.i64, IntKind.i64] rows)) ∧ Ob (SV.lst x_1 rows_1.length (nat_lit 2) (Rv.elemOf [IntKind.i64,
  IntKind.i64] rows_1) = SV.lst x_1 rows_1.length (nat_lit 2) (Rv.elemOf [IntKind.i64, IntKind.i64] rows_1)) ∧ Ob ((↑a : Int) + (1 : Int) = (↑a' : Int)) ∧ Ob (sumLo n n_1 n_2 rows rows_1 a = sumLo n n_1 n_2 rows rows_1 a')
  ∧ Ob (sumHi n n_1 n_2 rows rows_1 a = sumHi n n_1 n_2 rows rows_1 a') ∧ Ob (Value.int IntKind.i64 (0 : Int) = Value.int IntKind.i64 (0 : Int)) ∧ Ob (Value.int IntKind.i64 (0 : Int) = Value.int IntKind.i64 (0 : Int)) ∧ Ob
  (n = n) ∧ Ob (n_1 = n_1) ∧ Ob (n_2 = n_2) ∧ Ob (n_3 = n_3) ∧ Ob (IsLst B x rows.length (nat_lit 2) (Rv.elemOf [IntKind.i64, IntKind.i64] rows)) ∧ Ob (IsLst B x_1 rows_1.length (nat_lit 2) (Rv.elemOf [IntKind.i64,
  IntKind.i64] rows_1)) ∧ True))) ∧ (¬n ≤ cell rows a (nat_lit 0) → Ob (IsLst B x rows.length (nat_lit 2) (Rv.elemOf [IntKind.i64, IntKind.i64] rows)) ∧ Ob ((0 : Int) ≤ (↑a : Int) ∧ a < rows.length ∧ IsLst B x rows.length
  (nat_lit 2) (Rv.elemOf [IntKind.i64, IntKind.i64] rows)) ∧ Ob (IsLst B x rows.length (nat_lit 2) (Rv.elemOf [IntKind.i64, IntKind.i64] rows) ∧ a < rows.length) ∧ Ob (IsLst B x rows.length (nat_lit 2) (Rv.elemOf
  [IntKind.i64, IntKind.i64] rows) ∧ a < rows.length) ∧ Ob (IsLst B x rows.length (nat_lit 2) (Rv.elemOf [IntKind.i64, IntKind.i64] rows) ∧ a < rows.length) ∧ (n ≤ cell rows a (nat_lit 1) → Ob (IsLst B x rows.length
  (nat_lit 2) (Rv.elemOf [IntKind.i64, IntKind.i64] rows)) ∧ Ob ((0 : Int) ≤ (↑a : Int) ∧ a < rows.length ∧ IsLst B x rows.length (nat_lit 2) (Rv.elemOf [IntKind.i64, IntKind.i64] rows)) ∧ Ob (IsLst B x rows.length
  (nat_lit 2) (Rv.elemOf [IntKind.i64, IntKind.i64] rows) ∧ a < rows.length) ∧ Ob (IsLst B x rows.length (nat_lit 2) (Rv.elemOf [IntKind.i64, IntKind.i64] rows) ∧ a < rows.length) ∧ Ob (IsLst B x rows.length (nat_lit 2)
  (Rv.elemOf [IntKind.i64, IntKind.i64] rows) ∧ a < rows.length) ∧ (cell rows a (nat_lit 0) ≤ n_1 → Ob (InR IntKind.i64 (sumHi n n_1 n_2 rows rows_1 a + (cell rows_1 a (nat_lit 1) * n_2 + (999999 : Int)) / (1000000 :
  Int))) ∧ Ob (InR IntKind.i64 ((↑a : Int) + (1 : Int))) ∧ ∃ (a' : Nat), Ob ((a' ≤ rows.length ∧ firstErr rows rows_1 a' = (0 : Int)) ∧ rows.length - a' < rows.length - a) ∧ Ob (SV.lst x rows.length (nat_lit 2) (Rv.elemOf
  [IntKind.i64, IntKind.i64] rows) = SV.lst x rows.length (nat_lit 2) (Rv.elemOf [IntKind.i64, IntKind.i64] rows)) ∧ Ob (SV.lst x_1 rows_1.length (nat_lit 2) (Rv.elemOf [IntKind.i64, IntKind.i64] rows_1) = SV.lst x_1
  rows_1.length (nat_lit 2) (Rv.elemOf [IntKind.i64, IntKind.i64] rows_1)) ∧ Ob ((↑a : Int) + (1 : Int) = (↑a' : Int)) ∧ Ob (sumLo n n_1 n_2 rows rows_1 a = sumLo n n_1 n_2 rows rows_1 a') ∧ Ob (sumHi n n_1 n_2 rows rows_1
  a + (cell rows_1 a (nat_lit 1) * n_2 + (999999 : Int)) / (1000000 : Int) = sumHi n n_1 n_2 rows rows_1 a') ∧ Ob (Value.int IntKind.i64 (0 : Int) = Value.int IntKind.i64 (0 : Int)) ∧ Ob (Value.int IntKind.i64 (0 : Int) =
  Value.int IntKind.i64 (0 : Int)) ∧ Ob (n = n) ∧ Ob (n_1 = n_1) ∧ Ob (n_2 = n_2) ∧ Ob (n_3 = n_3) ∧ Ob (IsLst B x rows.length (nat_lit 2) (Rv.elemOf [IntKind.i64, IntKind.i64] rows)) ∧ Ob (IsLst B x_1 rows_1.length
  (nat_lit 2) (Rv.elemOf [IntKind.i64, IntKind.i64] rows_1)) ∧ True) ∧ (¬cell rows a (nat_lit 0) ≤ n_1 → Ob (InR IntKind.i64 ((↑a : Int) + (1 : Int))) ∧ ∃ (a' : Nat), Ob ((a' ≤ rows.length ∧ firstErr rows rows_1 a' = (0 :
  Int)) ∧ rows.length - a' < rows.length - a) ∧ Ob (SV.lst x rows.length (nat_lit 2) (Rv.elemOf [IntKind.i64, IntKind.i64] rows) = SV.lst x rows.length (nat_lit 2) (Rv.elemOf [IntKind.i64, IntKind.i64] rows)) ∧ Ob (SV.lst
  x_1 rows_1.length (nat_lit 2) (Rv.elemOf [IntKind.i64, IntKind.i64] rows_1) = SV.lst x_1 rows_1.length (nat_lit 2) (Rv.elemOf [IntKind.i64, IntKind.i64] rows_1)) ∧ Ob ((↑a : Int) + (1 : Int) = (↑a' : Int)) ∧ Ob (sumLo n
  n_1 n_2 rows rows_1 a = sumLo n n_1 n_2 rows rows_1 a') ∧ Ob (sumHi n n_1 n_2 rows rows_1 a = sumHi n n_1 n_2 rows rows_1 a') ∧ Ob (Value.int IntKind.i64 (0 : Int) = Value.int IntKind.i64 (0 : Int)) ∧ Ob (Value.int
  IntKind.i64 (0 : Int) = Value.int IntKind.i64 (0 : Int)) ∧ Ob (n = n) ∧ Ob (n_1 = n_1) ∧ Ob (n_2 = n_2) ∧ Ob (n_3 = n_3) ∧ Ob (IsLst B x rows.length (nat_lit 2) (Rv.elemOf [IntKind.i64, IntKind.i64] rows)) ∧ Ob (IsLst B
  x_1 rows_1.length (nat_lit 2) (Rv.elemOf [IntKind.i64, IntKind.i64] rows_1)) ∧ True)) ∧ (¬n ≤ cell rows a (nat_lit 1) → Ob (InR IntKind.i64 ((↑a : Int) + (1 : Int))) ∧ ∃ (a' : Nat), Ob ((a' ≤ rows.length ∧ firstErr rows
  rows_1 a' = (0 : Int)) ∧ rows.length - a' < rows.length - a) ∧ Ob (SV.lst x rows.length (nat_lit 2) (Rv.elemOf [IntKind.i64, IntKind.i64] rows) = SV.lst x rows.length (nat_lit 2) (Rv.elemOf [IntKind.i64, IntKind.i64]
  rows)) ∧ Ob (SV.lst x_1 rows_1.length (nat_lit 2) (Rv.elemOf [IntKind.i64, IntKind.i64] rows_1) = SV.lst x_1 rows_1.length (nat_lit 2) (Rv.elemOf [IntKind.i64, IntKind.i64] rows_1)) ∧ Ob ((↑a : Int) + (1 : Int) = (↑a' :
  Int)) ∧ Ob (sumLo n n_1 n_2 rows rows_1 a = sumLo n n_1 n_2 rows rows_1 a') ∧ Ob (sumHi n n_1 n_2 rows rows_1 a = sumHi n n_1 n_2 rows rows_1 a') ∧ Ob (Value.int IntKind.i64 (0 : Int) = Value.int IntKind.i64 (0 : Int)) ∧
  Ob (Value.int IntKind.i64 (0 : Int) = Value.int IntKind.i64 (0 : Int)) ∧ Ob (n = n) ∧ Ob (n_1 = n_1) ∧ Ob (n_2 = n_2) ∧ Ob (n_3 = n_3) ∧ Ob (IsLst B x rows.length (nat_lit 2) (Rv.elemOf [IntKind.i64, IntKind.i64] rows))
  ∧ Ob (IsLst B x_1 rows_1.length (nat_lit 2) (Rv.elemOf [IntKind.i64, IntKind.i64] rows_1)) ∧ True)))) ∧ (¬(↑a : Int) < (↑rows.length : Int) → Ob (min n_3 (sumLo n n_1 n_2 rows rows_1 a) = setLo n n_1 n_2 n_3 rows rows_1)
  ∧ Ob (min n_3 (sumHi n n_1 n_2 rows rows_1 a) = setHi n n_1 n_2 n_3 rows rows_1) ∧ Ob ((0 : Int) = setErr n n_1 n_2 n_3 rows rows_1) ∧ True)))))) ∧ (¬inB n_2 (0 : Int) (1000000 : Int) → Ob ((0 : Int) = setLo n n_1 n_2
  n_3 rows rows_1) ∧ Ob ((0 : Int) = setHi n n_1 n_2 n_3 rows rows_1) ∧ Ob ((1 : Int) = setErr n n_1 n_2 n_3 rows rows_1) ∧ True)) ∧ (¬inB n_1 (-50 : Int) (400 : Int) → Ob ((0 : Int) = setLo n n_1 n_2 n_3 rows rows_1) ∧ Ob
  ((0 : Int) = setHi n n_1 n_2 n_3 rows rows_1) ∧ Ob ((1 : Int) = setErr n n_1 n_2 n_3 rows rows_1) ∧ True)) ∧ (¬inB n (-50 : Int) (400 : Int) → Ob ((0 : Int) = setLo n n_1 n_2 n_3 rows rows_1) ∧ Ob ((0 : Int) = setHi n
  n_1 n_2 n_3 rows rows_1) ∧ Ob ((1 : Int) = setErr n n_1 n_2 n_3 rows rows_1) ∧ True)

set_option linter.unusedSimpArgs false in
set_option maxRecDepth 4000 in
set_option maxHeartbeats 400000 in
theorem v_rSettle : V_rSettle := by
  unfold V_rSettle
  intro B lo hi rate room x D hx hox hrx y L hy hoy hry ⟨hD, hL⟩
  simp only [Ob_iff, and_true, true_and, hx, hy, InR, Decidable.not_not]
  refine ⟨fun a1 => ⟨fun a2 => ⟨fun a3 => ⟨fun a4 => ?_, fun a4 => ⟨fun a5 => ?_, fun a5 => ⟨fun h => ?_, fun h4 => ⟨fun h => ?_, fun h5 => ⟨⟨0, ?_⟩, ?_⟩⟩⟩⟩⟩, fun a3 => ?_⟩, fun a2 => ?_⟩, fun a1 => ?_⟩
  case refine_6 =>
    intro k ⟨hk, he⟩
    intros
    have b1 := Classical.not_not.1 a1
    have b2 := Classical.not_not.1 a2
    have b3 := Classical.not_not.1 a3
    have b4 := Classical.not_not.1 a4
    have h0 : nurErr lo hi rate room = 0 := by simp [nurErr, b1, b2, b3, b4, a5]
    have h4' : ¬ 400 < D.length := by omega
    have h5' : L.length = D.length := by omega
    obtain ⟨r1, r2, r3, r4⟩ := nur_rate h0
    have hset : setErr lo hi rate room D L = firstErr D L D.length := by simp [setErr, h0, h4', h5']
    have hfo : firstOf [[spanErr (cell D k 0) (cell D k 1) (-50) 400], [spanErr (cell L k 0) (cell L k 1) 0 1000000000]] = dayErr D L k := by
      by_cases e1 : spanErr (cell D k 0) (cell D k 1) (-50) 400 = 0 <;> by_cases e2 : spanErr (cell L k 0) (cell L k 1) 0 1000000000 = 0 <;> simp [firstOf, dayErr, e1, e2]
    rw [hfo]
    refine ⟨fun h6 => ⟨⟨by omega, by omega⟩, by omega, by omega, ⟨by omega, by omega⟩, by omega, by omega, by simp, fun h7 => ?_, fun h7 => ?_⟩, fun h6 => ?_⟩
    · have hf := first_at (n := D.length) (by omega) he h7
      simp [setLo, setHi, hset, hf, h7]
    · have hne : firstErr D L (k + 1) = 0 := by simp [firstErr, he, h7]
      obtain ⟨h8, h9⟩ := day_ok h7
      obtain ⟨z1, z2, z3⟩ := span_ok h9
      obtain ⟨t1, t2, t3, t4⟩ := sums_bd (lo := lo) (hi := hi) r1 r2 k he
      have p1 := part_bd z1 (by omega) r1 r2
      have p2 := part_bd (x := cell L k 1) (by omega) z3 r1 r2
      have g1 : sumLo lo hi rate D L (k + 1) = sumLo lo hi rate D L k + (if lo ≤ cell D k 0 ∧ cell D k 1 ≤ hi then cell L k 0 * rate / 1000000 else 0) := rfl
      have g2 : sumHi lo hi rate D L (k + 1) = sumHi lo hi rate D L k + (if cell D k 0 ≤ hi ∧ lo ≤ cell D k 1 then (cell L k 1 * rate + 999999) / 1000000 else 0) := rfl
      generalize sumLo lo hi rate D L k = S1 at *
      generalize sumHi lo hi rate D L k = S2 at *
      generalize cell L k 0 * rate = q1 at *
      generalize cell L k 1 * rate = q2 at *
      clear hfo hset
      repeat' (first | apply And.intro | intro _)
      all_goals first
        | omega
        | (refine ⟨k + 1, ⟨⟨by omega, hne⟩, by omega⟩, by omega, ?_, ?_⟩
           · rw [g1]; split <;> omega
           · rw [g2]; split <;> omega)
    · have hkn : k = D.length := by omega
      subst hkn
      refine ⟨?_, ?_, ?_⟩
      · simp only [setLo, hset, he, if_true]; omega
      · simp only [setHi, hset, he, if_true]; omega
      · rw [hset, he]
  case refine_5 => simp [sumLo, sumHi, firstErr]
  case refine_1 => simp [setLo, setHi, setErr, nurErr, a4]
  case refine_2 =>
    have b1 := Classical.not_not.1 a1
    have b2 := Classical.not_not.1 a2
    have b3 := Classical.not_not.1 a3
    have b4 := Classical.not_not.1 a4
    simp [setLo, setHi, setErr, nurErr, b1, b2, b3, b4, a5]
  case refine_3 =>
    have b1 := Classical.not_not.1 a1
    have b2 := Classical.not_not.1 a2
    have b3 := Classical.not_not.1 a3
    have b4 := Classical.not_not.1 a4
    have h0 : nurErr lo hi rate room = 0 := by simp [nurErr, b1, b2, b3, b4, a5]
    have h' : 400 < D.length := by omega
    simp [setLo, setHi, setErr, h0, h']
  case refine_4 =>
    have b1 := Classical.not_not.1 a1
    have b2 := Classical.not_not.1 a2
    have b3 := Classical.not_not.1 a3
    have b4 := Classical.not_not.1 a4
    have h0 : nurErr lo hi rate room = 0 := by simp [nurErr, b1, b2, b3, b4, a5]
    have h' : ¬ 400 < D.length := by omega
    have h'' : ¬ L.length = D.length := by omega
    simp [setLo, setHi, setErr, h0, h', h'']
  case refine_7 => simp [setLo, setHi, setErr, nurErr, a3]
  case refine_8 => simp [setLo, setHi, setErr, nurErr, a2]
  case refine_9 => simp [setLo, setHi, setErr, nurErr, a1]

theorem e_rSettle : V_rSettle = needF P [F_rwithin, F_rcheckSpan, F_rfirst, F_rPart] A_rSettle F_rSettle := by kernel_rfl

theorem n_rSettle : Ob (needF P [F_rwithin, F_rcheckSpan, F_rfirst, F_rPart] A_rSettle F_rSettle) := by
  rw [← e_rSettle]
  exact ⟨v_rSettle⟩

theorem b_rSettle : ((P.funcs[22]?).any fun fn => fn.body.isSome) = true := by kernel_rfl

theorem rSettle_ok : Fn0.Ok P F_rSettle := Fn0.ok named (l := [F_rwithin, F_rcheckSpan, F_rfirst, F_rPart]) (A := A_rSettle) (by rfl) (by
  intro F h
  simp only [List.mem_cons, List.not_mem_nil, or_false] at h
  rcases h with rfl | rfl | rfl | rfl
  · exact rwithin_ok
  · exact rcheckSpan_ok
  · exact rfirst_ok
  · exact rPart_ok
) b_rSettle (by
  intro ds N
  simp only [F_rSettle]
  split <;> rfl) n_rSettle

end Go.Proofs.YtgdnhmilhpnbjaaDoor.Sy
