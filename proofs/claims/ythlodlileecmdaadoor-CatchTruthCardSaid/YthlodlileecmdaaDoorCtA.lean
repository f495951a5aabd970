/- Animals that are valid, and edges. -/
import Derived.Test.YthlodlileecmdaaDoorSyP2
import Derived.Test.YthlodlileecmdaaDoorGrM
import Derived.KernelRfl
import Derived.Test.YthlodlileecmdaaDoorProg
namespace Go.Proofs.YthlodlileecmdaaDoor.Sy
open Go Go.Rv
set_option linter.unusedVariables false

open Classical in
noncomputable def capErr (a b sex eggs notch shell : Int) : Int :=
  if inB a 0 2500 ∧ inB b 0 2500 then (if b < a then 8 else if inB sex 1 2 ∧ inB eggs 1 3 ∧ inB notch 1 3 then (if sex = 1 ∧ (¬ eggs = 2 ∨ ¬ notch = 2) then 9 else if inB shell 1 3 then 0 else 3) else 3) else 1
noncomputable def capAt (L : Rows) (k : Nat) : Int := capErr (cell L k 0) (cell L k 1) (cell L k 2) (cell L k 3) (cell L k 4) (cell L k 5)
noncomputable def capTo (L : Rows) : Nat → Int
  | 0 => 0
  | k + 1 => if capTo L k = 0 then capAt L k else capTo L k
theorem cap_stop {L : Rows} {k : Nat} (h1 : ¬ capAt L k = 0) (h0 : capTo L k = 0) : ∀ n, k < n → capTo L n = capAt L k
  | n + 1, h => by
    by_cases e : k = n
    · subst e
      simp [capTo, h0]
    · have h2 := cap_stop h1 h0 n (by omega)
      simp [capTo, h2, h1]
noncomputable def manyErr (L : Rows) : Int := if 600 < L.length then 5 else capTo L L.length
def insV (a b lo hi : Int) : Int := if b < lo ∨ hi < a then 2 else if lo ≤ a ∧ b ≤ hi then 1 else 3
open Classical in
noncomputable def edgAt (E : Rows) (i : Nat) : Int := if inB (cell E i 0) 0 2501 then (if 0 < i ∧ cell E i 0 ≤ cell E (i - 1) 0 then 8 else 0) else 1
noncomputable def edgTo (E : Rows) : Nat → Int
  | 0 => 0
  | k + 1 => if edgTo E k = 0 then edgAt E k else edgTo E k
theorem edg_stop {E : Rows} {k : Nat} (h1 : ¬ edgAt E k = 0) (h0 : edgTo E k = 0) : ∀ n, k < n → edgTo E n = edgAt E k
  | n + 1, h => by
    by_cases e : k = n
    · subst e
      simp [edgTo, h0]
    · have h2 := edg_stop h1 h0 n (by omega)
      simp [edgTo, h2, h1]
noncomputable def edgErr (E : Rows) : Int := if E.length < 2 then 4 else if 21 < E.length then 5 else edgTo E E.length

noncomputable def F_gwithin : Fn0 := ⟨86, [i64, i64, i64], fun _ => True, fun l => match l with | [.z n, .z lo, .z hi] => .p (inB n lo hi) | _ => .v undef⟩
noncomputable def A_gwithin : List SV → List Dat → Nat → List SV → Ann := fun _ _ _ _ => noAnn

def V_gwithin : Prop :=
  ∀ (B : RW) (n n_1 n_2 : Int), True → (n_1 ≤ n → Ob (n ≤ n_2 ↔ inB n n_1 n_2) ∧ True) ∧ (¬n_1 ≤ n → Ob (false = true ↔ inB n n_1 n_2) ∧ True)

set_option linter.unusedSimpArgs false in
set_option maxRecDepth 4000 in
set_option maxHeartbeats 400000 in
theorem v_gwithin : V_gwithin := by
  unfold V_gwithin
  intros
  simp only [Ob_iff, and_true, true_and, inB] at *
  all_goals grind

theorem e_gwithin : V_gwithin = needF P [] A_gwithin F_gwithin := by kernel_rfl

theorem n_gwithin : Ob (needF P [] A_gwithin F_gwithin) := by
  rw [← e_gwithin]
  exact ⟨v_gwithin⟩

theorem b_gwithin : ((P.funcs[86]?).any fun fn => fn.body.isSome) = true := by kernel_rfl

theorem gwithin_ok : Fn0.Ok P F_gwithin := Fn0.ok named (l := []) (A := A_gwithin) (by rfl) (by
  intro F h; simp at h) b_gwithin (by
  intro ds N
  simp only [F_gwithin]
  split <;> rfl) n_gwithin

noncomputable def F_cwithin : Fn0 := ⟨55, [i64, i64, i64], fun _ => True, fun l => match l with | [.z n, .z lo, .z hi] => .p (inB n lo hi) | _ => .v undef⟩
noncomputable def A_cwithin : List SV → List Dat → Nat → List SV → Ann := fun _ _ _ _ => noAnn

def V_cwithin : Prop :=
  ∀ (B : RW) (n n_1 n_2 : Int), True → (n_1 ≤ n → Ob (n ≤ n_2 ↔ inB n n_1 n_2) ∧ True) ∧ (¬n_1 ≤ n → Ob (false = true ↔ inB n n_1 n_2) ∧ True)

set_option linter.unusedSimpArgs false in
set_option maxRecDepth 4000 in
set_option maxHeartbeats 400000 in
theorem v_cwithin : V_cwithin := by
  unfold V_cwithin
  intros
  simp only [Ob_iff, and_true, true_and, inB] at *
  all_goals grind

theorem e_cwithin : V_cwithin = needF P [] A_cwithin F_cwithin := by kernel_rfl

theorem n_cwithin : Ob (needF P [] A_cwithin F_cwithin) := by
  rw [← e_cwithin]
  exact ⟨v_cwithin⟩

theorem b_cwithin : ((P.funcs[55]?).any fun fn => fn.body.isSome) = true := by kernel_rfl

theorem cwithin_ok : Fn0.Ok P F_cwithin := Fn0.ok named (l := []) (A := A_cwithin) (by rfl) (by
  intro F h; simp at h) b_cwithin (by
  intro ds N
  simp only [F_cwithin]
  split <;> rfl) n_cwithin

noncomputable def F_r4within : Fn0 := ⟨54, [i64, i64, i64], fun _ => True, fun l => match l with | [.z n, .z lo, .z hi] => .p (inB n lo hi) | _ => .v undef⟩
noncomputable def A_r4within : List SV → List Dat → Nat → List SV → Ann := fun _ _ _ _ => noAnn

def V_r4within : Prop :=
  ∀ (B : RW) (n n_1 n_2 : Int), True → (n_1 ≤ n → Ob (n ≤ n_2 ↔ inB n n_1 n_2) ∧ True) ∧ (¬n_1 ≤ n → Ob (false = true ↔ inB n n_1 n_2) ∧ True)

set_option linter.unusedSimpArgs false in
set_option maxRecDepth 4000 in
set_option maxHeartbeats 400000 in
theorem v_r4within : V_r4within := by
  unfold V_r4within
  intros
  simp only [Ob_iff, and_true, true_and, inB] at *
  all_goals grind

theorem e_r4within : V_r4within = needF P [] A_r4within F_r4within := by kernel_rfl

theorem n_r4within : Ob (needF P [] A_r4within F_r4within) := by
  rw [← e_r4within]
  exact ⟨v_r4within⟩

theorem b_r4within : ((P.funcs[54]?).any fun fn => fn.body.isSome) = true := by kernel_rfl

theorem r4within_ok : Fn0.Ok P F_r4within := Fn0.ok named (l := []) (A := A_r4within) (by rfl) (by
  intro F h; simp at h) b_r4within (by
  intro ds N
  simp only [F_r4within]
  split <;> rfl) n_r4within

noncomputable def F_r1within : Fn0 := ⟨108, [i64, i64, i64], fun _ => True, fun l => match l with | [.z n, .z lo, .z hi] => .p (inB n lo hi) | _ => .v undef⟩
noncomputable def A_r1within : List SV → List Dat → Nat → List SV → Ann := fun _ _ _ _ => noAnn

def V_r1within : Prop :=
  ∀ (B : RW) (n n_1 n_2 : Int), True → (n_1 ≤ n → Ob (n ≤ n_2 ↔ inB n n_1 n_2) ∧ True) ∧ (¬n_1 ≤ n → Ob (false = true ↔ inB n n_1 n_2) ∧ True)

set_option linter.unusedSimpArgs false in
set_option maxRecDepth 4000 in
set_option maxHeartbeats 400000 in
theorem v_r1within : V_r1within := by
  unfold V_r1within
  intros
  simp only [Ob_iff, and_true, true_and, inB] at *
  all_goals grind

theorem e_r1within : V_r1within = needF P [] A_r1within F_r1within := by kernel_rfl

theorem n_r1within : Ob (needF P [] A_r1within F_r1within) := by
  rw [← e_r1within]
  exact ⟨v_r1within⟩

theorem b_r1within : ((P.funcs[108]?).any fun fn => fn.body.isSome) = true := by kernel_rfl

theorem r1within_ok : Fn0.Ok P F_r1within := Fn0.ok named (l := []) (A := A_r1within) (by rfl) (by
  intro F h; simp at h) b_r1within (by
  intro ds N
  simp only [F_r1within]
  split <;> rfl) n_r1within

noncomputable def F_gisSize : Fn0 := ⟨85, [i64], fun _ => True, fun l => match l with | [.z n] => .p (inB n 0 2500) | _ => .v undef⟩
noncomputable def A_gisSize : List SV → List Dat → Nat → List SV → Ann := fun _ _ _ _ => noAnn

def V_gisSize : Prop :=
  ∀ (B : RW) (n : Int), True → Ob True ∧ Ob (inB n (0 : Int) (2500 : Int) ↔ inB n (0 : Int) (2500 : Int)) ∧ True

set_option linter.unusedSimpArgs false in
set_option maxRecDepth 4000 in
set_option maxHeartbeats 400000 in
theorem v_gisSize : V_gisSize := by
  unfold V_gisSize
  intros
  simp only [Ob_iff, and_true, true_and, inB] at *
  all_goals grind

theorem e_gisSize : V_gisSize = needF P [F_gwithin] A_gisSize F_gisSize := by kernel_rfl

theorem n_gisSize : Ob (needF P [F_gwithin] A_gisSize F_gisSize) := by
  rw [← e_gisSize]
  exact ⟨v_gisSize⟩

theorem b_gisSize : ((P.funcs[85]?).any fun fn => fn.body.isSome) = true := by kernel_rfl

theorem gisSize_ok : Fn0.Ok P F_gisSize := Fn0.ok named (l := [F_gwithin]) (A := A_gisSize) (by rfl) (by
  intro F h
  simp only [List.mem_cons, List.not_mem_nil, or_false] at h
  rcases h with rfl
  · exact gwithin_ok
) b_gisSize (by
  intro ds N
  simp only [F_gisSize]
  split <;> rfl) n_gisSize

noncomputable def F_cisSize : Fn0 := ⟨77, [i64], fun _ => True, fun l => match l with | [.z n] => .p (inB n 0 2500) | _ => .v undef⟩
noncomputable def A_cisSize : List SV → List Dat → Nat → List SV → Ann := fun _ _ _ _ => noAnn

def V_cisSize : Prop :=
  ∀ (B : RW) (n : Int), True → Ob True ∧ Ob (inB n (0 : Int) (2500 : Int) ↔ inB n (0 : Int) (2500 : Int)) ∧ True

set_option linter.unusedSimpArgs false in
set_option maxRecDepth 4000 in
set_option maxHeartbeats 400000 in
theorem v_cisSize : V_cisSize := by
  unfold V_cisSize
  intros
  simp only [Ob_iff, and_true, true_and, inB] at *
  all_goals grind

theorem e_cisSize : V_cisSize = needF P [F_cwithin] A_cisSize F_cisSize := by kernel_rfl

theorem n_cisSize : Ob (needF P [F_cwithin] A_cisSize F_cisSize) := by
  rw [← e_cisSize]
  exact ⟨v_cisSize⟩

theorem b_cisSize : ((P.funcs[77]?).any fun fn => fn.body.isSome) = true := by kernel_rfl

theorem cisSize_ok : Fn0.Ok P F_cisSize := Fn0.ok named (l := [F_cwithin]) (A := A_cisSize) (by rfl) (by
  intro F h
  simp only [List.mem_cons, List.not_mem_nil, or_false] at h
  rcases h with rfl
  · exact cwithin_ok
) b_cisSize (by
  intro ds N
  simp only [F_cisSize]
  split <;> rfl) n_cisSize

noncomputable def F_isVerdict : Fn0 := ⟨56, [i64], fun _ => True, fun l => match l with | [.z n] => .p (inB n 1 3) | _ => .v undef⟩
noncomputable def A_isVerdict : List SV → List Dat → Nat → List SV → Ann := fun _ _ _ _ => noAnn

def V_isVerdict : Prop :=
  ∀ (B : RW) (n : Int), True → Ob True ∧ Ob (inB n (1 : Int) (3 : Int) ↔ inB n (1 : Int) (3 : Int)) ∧ True

set_option linter.unusedSimpArgs false in
set_option maxRecDepth 4000 in
set_option maxHeartbeats 400000 in
theorem v_isVerdict : V_isVerdict := by
  unfold V_isVerdict
  intros
  simp only [Ob_iff, and_true, true_and, inB] at *
  all_goals grind

theorem e_isVerdict : V_isVerdict = needF P [F_cwithin] A_isVerdict F_isVerdict := by kernel_rfl

theorem n_isVerdict : Ob (needF P [F_cwithin] A_isVerdict F_isVerdict) := by
  rw [← e_isVerdict]
  exact ⟨v_isVerdict⟩

theorem b_isVerdict : ((P.funcs[56]?).any fun fn => fn.body.isSome) = true := by kernel_rfl

theorem isVerdict_ok : Fn0.Ok P F_isVerdict := Fn0.ok named (l := [F_cwithin]) (A := A_isVerdict) (by rfl) (by
  intro F h
  simp only [List.mem_cons, List.not_mem_nil, or_false] at h
  rcases h with rfl
  · exact cwithin_ok
) b_isVerdict (by
  intro ds N
  simp only [F_isVerdict]
  split <;> rfl) n_isVerdict

noncomputable def F_rverdict : Fn0 := ⟨57, [i64], fun _ => True, fun l => match l with | [.z n] => .p (inB n 1 3) | _ => .v undef⟩
noncomputable def A_rverdict : List SV → List Dat → Nat → List SV → Ann := fun _ _ _ _ => noAnn

def V_rverdict : Prop :=
  ∀ (B : RW) (n : Int), True → Ob True ∧ Ob (inB n (1 : Int) (3 : Int) ↔ inB n (1 : Int) (3 : Int)) ∧ True

set_option linter.unusedSimpArgs false in
set_option maxRecDepth 4000 in
set_option maxHeartbeats 400000 in
theorem v_rverdict : V_rverdict := by
  unfold V_rverdict
  intros
  simp only [Ob_iff, and_true, true_and, inB] at *
  all_goals grind

theorem e_rverdict : V_rverdict = needF P [F_r4within] A_rverdict F_rverdict := by kernel_rfl

theorem n_rverdict : Ob (needF P [F_r4within] A_rverdict F_rverdict) := by
  rw [← e_rverdict]
  exact ⟨v_rverdict⟩

theorem b_rverdict : ((P.funcs[57]?).any fun fn => fn.body.isSome) = true := by kernel_rfl

theorem rverdict_ok : Fn0.Ok P F_rverdict := Fn0.ok named (l := [F_r4within]) (A := A_rverdict) (by rfl) (by
  intro F h
  simp only [List.mem_cons, List.not_mem_nil, or_false] at h
  rcases h with rfl
  · exact r4within_ok
) b_rverdict (by
  intro ds N
  simp only [F_rverdict]
  split <;> rfl) n_rverdict

noncomputable def F_checkSizes : Fn0 := ⟨53, [.agg [.i .i64, .i .i64]], fun _ => True, fun l => match l with | [.z a, .z b] => .i .i64 (spanErr a b 0 2500) | _ => .v undef⟩
noncomputable def A_checkSizes : List SV → List Dat → Nat → List SV → Ann := fun _ _ _ _ => noAnn

def V_checkSizes : Prop :=
  ∀ (B : RW) (n n_1 : Int), True → Ob True ∧ (¬¬inB n (0 : Int) (2500 : Int) → Ob True ∧ (¬inB n_1 (0 : Int) (2500 : Int) → Ob ((1 : Int) = spanErr n n_1 (0 : Int) (2500 : Int)) ∧ True) ∧ (¬¬inB n_1 (0 : Int) (2500 : Int)
  → (n_1 < n → Ob ((8 : Int) = spanErr n n_1 (0 : Int) (2500 : Int)) ∧ True) ∧ (¬n_1 < n → Ob ((0 : Int) = spanErr n n_1 (0 : Int) (2500 : Int)) ∧ True))) ∧ (¬inB n (0 : Int) (2500 : Int) → Ob ((1 : Int) = spanErr n n_1 (0
  : Int) (2500 : Int)) ∧ True)

set_option linter.unusedSimpArgs false in
set_option maxRecDepth 4000 in
set_option maxHeartbeats 400000 in
theorem v_checkSizes : V_checkSizes := by
  unfold V_checkSizes
  intros
  simp only [Ob_iff, and_true, true_and, spanErr, inB] at *
  all_goals grind

theorem e_checkSizes : V_checkSizes = needF P [F_cisSize] A_checkSizes F_checkSizes := by kernel_rfl

theorem n_checkSizes : Ob (needF P [F_cisSize] A_checkSizes F_checkSizes) := by
  rw [← e_checkSizes]
  exact ⟨v_checkSizes⟩

theorem b_checkSizes : ((P.funcs[53]?).any fun fn => fn.body.isSome) = true := by kernel_rfl

theorem checkSizes_ok : Fn0.Ok P F_checkSizes := Fn0.ok named (l := [F_cisSize]) (A := A_checkSizes) (by rfl) (by
  intro F h
  simp only [List.mem_cons, List.not_mem_nil, or_false] at h
  rcases h with rfl
  · exact cisSize_ok
) b_checkSizes (by
  intro ds N
  simp only [F_checkSizes]
  split <;> rfl) n_checkSizes

noncomputable def F_CheckCaught : Fn0 := ⟨17, [.agg [.i .i64, .i .i64, .i .i64, .i .i64, .i .i64, .i .i64]], fun _ => True, fun l => match l with | [.z a, .z b, .z sex, .z eggs, .z notch, .z shell] => .i .i64 (capErr a b sex eggs notch shell) | _ => .v undef⟩
noncomputable def A_CheckCaught : List SV → List Dat → Nat → List SV → Ann := fun _ _ _ _ => noAnn

def V_CheckCaught : Prop :=
  ∀ (B : RW) (n n_1 n_2 n_3 n_4 n_5 : Int), True → Ob True ∧ (¬spanErr n n_1 (0 : Int) (2500 : Int) = (0 : Int) → Ob (spanErr n n_1 (0 : Int) (2500 : Int) = capErr n n_1 n_2 n_3 n_4 n_5) ∧ True) ∧ (¬¬spanErr n n_1 (0 :
  Int) (2500 : Int) = (0 : Int) → Ob True ∧ (¬¬inB n_2 (1 : Int) (2 : Int) → Ob True ∧ (¬¬inB n_3 (1 : Int) (3 : Int) → Ob True ∧ (¬inB n_4 (1 : Int) (3 : Int) → Ob ((3 : Int) = capErr n n_1 n_2 n_3 n_4 n_5) ∧ True) ∧
  (¬¬inB n_4 (1 : Int) (3 : Int) → (n_2 = (1 : Int) → (¬¬n_3 = (2 : Int) → (¬n_4 = (2 : Int) → Ob ((9 : Int) = capErr n n_1 n_2 n_3 n_4 n_5) ∧ True) ∧ (¬¬n_4 = (2 : Int) → Ob True ∧ (¬inB n_5 (1 : Int) (3 : Int) → Ob ((3 :
  Int) = capErr n n_1 n_2 n_3 n_4 n_5) ∧ True) ∧ (¬¬inB n_5 (1 : Int) (3 : Int) → Ob ((0 : Int) = capErr n n_1 n_2 n_3 n_4 n_5) ∧ True))) ∧ (¬n_3 = (2 : Int) → Ob ((9 : Int) = capErr n n_1 n_2 n_3 n_4 n_5) ∧ True)) ∧ (¬n_2
  = (1 : Int) → Ob True ∧ (¬inB n_5 (1 : Int) (3 : Int) → Ob ((3 : Int) = capErr n n_1 n_2 n_3 n_4 n_5) ∧ True) ∧ (¬¬inB n_5 (1 : Int) (3 : Int) → Ob ((0 : Int) = capErr n n_1 n_2 n_3 n_4 n_5) ∧ True)))) ∧ (¬inB n_3 (1 :
  Int) (3 : Int) → Ob ((3 : Int) = capErr n n_1 n_2 n_3 n_4 n_5) ∧ True)) ∧ (¬inB n_2 (1 : Int) (2 : Int) → Ob ((3 : Int) = capErr n n_1 n_2 n_3 n_4 n_5) ∧ True))

set_option linter.unusedSimpArgs false in
set_option maxRecDepth 4000 in
set_option maxHeartbeats 400000 in
theorem v_CheckCaught : V_CheckCaught := by
  unfold V_CheckCaught
  intro B a b sex eggs notch shell
  intros
  simp only [Ob_iff, and_true, true_and]
  have hc : capErr a b sex eggs notch shell = capErr a b sex eggs notch shell := rfl
  generalize hv : capErr a b sex eggs notch shell = v at *
  unfold capErr at hv
  unfold spanErr
  generalize inB a 0 2500 = p1 at *
  generalize inB b 0 2500 = p2 at *
  generalize inB sex 1 2 = p3 at *
  generalize inB eggs 1 3 = p4 at *
  generalize inB notch 1 3 = p5 at *
  generalize inB shell 1 3 = p6 at *
  clear hc
  repeat' (first | apply And.intro | intro _)
  all_goals first | trivial | grind

theorem e_CheckCaught : V_CheckCaught = needF P [F_checkSizes, F_cwithin, F_isVerdict] A_CheckCaught F_CheckCaught := by kernel_rfl

theorem n_CheckCaught : Ob (needF P [F_checkSizes, F_cwithin, F_isVerdict] A_CheckCaught F_CheckCaught) := by
  rw [← e_CheckCaught]
  exact ⟨v_CheckCaught⟩

theorem b_CheckCaught : ((P.funcs[17]?).any fun fn => fn.body.isSome) = true := by kernel_rfl

theorem CheckCaught_ok : Fn0.Ok P F_CheckCaught := Fn0.ok named (l := [F_checkSizes, F_cwithin, F_isVerdict]) (A := A_CheckCaught) (by rfl) (by
  intro F h
  simp only [List.mem_cons, List.not_mem_nil, or_false] at h
  rcases h with rfl | rfl | rfl
  · exact checkSizes_ok
  · exact cwithin_ok
  · exact isVerdict_ok
) b_CheckCaught (by
  intro ds N
  simp only [F_CheckCaught]
  split <;> rfl) n_CheckCaught

noncomputable def F_rCheckCaught : Fn0 := ⟨18, [.agg [.i .i64, .i .i64, .i .i64, .i .i64, .i .i64, .i .i64]], fun _ => True, fun l => match l with | [.z a, .z b, .z sex, .z eggs, .z notch, .z shell] => .i .i64 (capErr a b sex eggs notch shell) | _ => .v undef⟩
noncomputable def A_rCheckCaught : List SV → List Dat → Nat → List SV → Ann := fun _ _ _ _ => noAnn

def V_rCheckCaught : Prop :=
  ∀ (B : RW) (n n_1 n_2 n_3 n_4 n_5 : Int), True → Ob True ∧ (¬¬inB n (0 : Int) (2500 : Int) → Ob True ∧ (¬inB n_1 (0 : Int) (2500 : Int) → Ob ((1 : Int) = capErr n n_1 n_2 n_3 n_4 n_5) ∧ True) ∧ (¬¬inB n_1 (0 : Int) (2500
  : Int) → (n_1 < n → Ob ((8 : Int) = capErr n n_1 n_2 n_3 n_4 n_5) ∧ True) ∧ (¬n_1 < n → Ob True ∧ (¬¬inB n_2 (1 : Int) (2 : Int) → Ob True ∧ (¬¬inB n_3 (1 : Int) (3 : Int) → Ob True ∧ (¬inB n_4 (1 : Int) (3 : Int) → Ob
  ((3 : Int) = capErr n n_1 n_2 n_3 n_4 n_5) ∧ True) ∧ (¬¬inB n_4 (1 : Int) (3 : Int) → (n_2 = (1 : Int) → (¬¬n_3 = (2 : Int) → (¬n_4 = (2 : Int) → Ob ((9 : Int) = capErr n n_1 n_2 n_3 n_4 n_5) ∧ True) ∧ (¬¬n_4 = (2 : Int)
  → Ob True ∧ (¬inB n_5 (1 : Int) (3 : Int) → Ob ((3 : Int) = capErr n n_1 n_2 n_3 n_4 n_5) ∧ True) ∧ (¬¬inB n_5 (1 : Int) (3 : Int) → Ob ((0 : Int) = capErr n n_1 n_2 n_3 n_4 n_5) ∧ True))) ∧ (¬n_3 = (2 : Int) → Ob ((9 :
  Int) = capErr n n_1 n_2 n_3 n_4 n_5) ∧ True)) ∧ (¬n_2 = (1 : Int) → Ob True ∧ (¬inB n_5 (1 : Int) (3 : Int) → Ob ((3 : Int) = capErr n n_1 n_2 n_3 n_4 n_5) ∧ True) ∧ (¬¬inB n_5 (1 : Int) (3 : Int) → Ob ((0 : Int) =
  capErr n n_1 n_2 n_3 n_4 n_5) ∧ True)))) ∧ (¬inB n_3 (1 : Int) (3 : Int) → Ob ((3 : Int) = capErr n n_1 n_2 n_3 n_4 n_5) ∧ True)) ∧ (¬inB n_2 (1 : Int) (2 : Int) → Ob ((3 : Int) = capErr n n_1 n_2 n_3 n_4 n_5) ∧ True))))
  ∧ (¬inB n (0 : Int) (2500 : Int) → Ob ((1 : Int) = capErr n n_1 n_2 n_3 n_4 n_5) ∧ True)

set_option linter.unusedSimpArgs false in
set_option maxRecDepth 4000 in
set_option maxHeartbeats 400000 in
theorem v_rCheckCaught : V_rCheckCaught := by
  unfold V_rCheckCaught
  intro B a b sex eggs notch shell
  intros
  simp only [Ob_iff, and_true, true_and]
  have hc : capErr a b sex eggs notch shell = capErr a b sex eggs notch shell := rfl
  generalize hv : capErr a b sex eggs notch shell = v at *
  unfold capErr at hv
  generalize inB a 0 2500 = p1 at *
  generalize inB b 0 2500 = p2 at *
  generalize inB sex 1 2 = p3 at *
  generalize inB eggs 1 3 = p4 at *
  generalize inB notch 1 3 = p5 at *
  generalize inB shell 1 3 = p6 at *
  clear hc
  repeat' (first | apply And.intro | intro _)
  all_goals first | trivial | grind

theorem e_rCheckCaught : V_rCheckCaught = needF P [F_r4within, F_rverdict] A_rCheckCaught F_rCheckCaught := by kernel_rfl

theorem n_rCheckCaught : Ob (needF P [F_r4within, F_rverdict] A_rCheckCaught F_rCheckCaught) := by
  rw [← e_rCheckCaught]
  exact ⟨v_rCheckCaught⟩

theorem b_rCheckCaught : ((P.funcs[18]?).any fun fn => fn.body.isSome) = true := by kernel_rfl

theorem rCheckCaught_ok : Fn0.Ok P F_rCheckCaught := Fn0.ok named (l := [F_r4within, F_rverdict]) (A := A_rCheckCaught) (by rfl) (by
  intro F h
  simp only [List.mem_cons, List.not_mem_nil, or_false] at h
  rcases h with rfl | rfl
  · exact r4within_ok
  · exact rverdict_ok
) b_rCheckCaught (by
  intro ds N
  simp only [F_rCheckCaught]
  split <;> rfl) n_rCheckCaught

noncomputable def F_inside : Fn0 := ⟨63, [.agg [.i .i64, .i .i64], i64, i64], fun _ => True, fun l => match l with | [.z a, .z b, .z lo, .z hi] => .i .i64 (insV a b lo hi) | _ => .v undef⟩
noncomputable def A_inside : List SV → List Dat → Nat → List SV → Ann := fun _ _ _ _ => noAnn

def V_inside : Prop :=
  ∀ (B : RW) (n n_1 n_2 n_3 : Int), True → (¬n_1 < n_2 → (n_3 < n → Ob ((2 : Int) = insV n n_1 n_2 n_3) ∧ True) ∧ (¬n_3 < n → (n_2 ≤ n → (n_1 ≤ n_3 → Ob ((1 : Int) = insV n n_1 n_2 n_3) ∧ True) ∧ (¬n_1 ≤ n_3 → Ob ((3 :
  Int) = insV n n_1 n_2 n_3) ∧ True)) ∧ (¬n_2 ≤ n → Ob ((3 : Int) = insV n n_1 n_2 n_3) ∧ True))) ∧ (n_1 < n_2 → Ob ((2 : Int) = insV n n_1 n_2 n_3) ∧ True)

set_option linter.unusedSimpArgs false in
set_option maxRecDepth 4000 in
set_option maxHeartbeats 400000 in
theorem v_inside : V_inside := by
  unfold V_inside
  intros
  simp only [Ob_iff, and_true, true_and, insV] at *
  all_goals grind

theorem e_inside : V_inside = needF P [] A_inside F_inside := by kernel_rfl

theorem n_inside : Ob (needF P [] A_inside F_inside) := by
  rw [← e_inside]
  exact ⟨v_inside⟩

theorem b_inside : ((P.funcs[63]?).any fun fn => fn.body.isSome) = true := by kernel_rfl

theorem inside_ok : Fn0.Ok P F_inside := Fn0.ok named (l := []) (A := A_inside) (by rfl) (by
  intro F h; simp at h) b_inside (by
  intro ds N
  simp only [F_inside]
  split <;> rfl) n_inside

noncomputable def F_checkEach : Fn0 := ⟨80, [.one (.l [.i64, .i64, .i64, .i64, .i64, .i64])], fun l => match l with | [.l L] => L.length ≤ 1000 | _ => False, fun l => match l with | [.l L] => .i .i64 (capTo L L.length) | _ => .v undef⟩
noncomputable def A_checkEach : List SV → List Dat → Nat → List SV → Ann := fun xs ds n ts => match xs with
  | [.lst x _ _ _] => match ds with
    | [.l L] => match n with
      | 2 => ⟨Nat, fun k => [none, none, none, none, none, none, some (SV.lst x L.length ((6 : Nat)) (Rv.elemOf [IntKind.i64, IntKind.i64, IntKind.i64, IntKind.i64, IntKind.i64, IntKind.i64] L)), some (SV.i IntKind.i64 (↑L.length : Int)), some (.i .i64 k), none, none, none, none, none, none, none, none, none], fun k => [], fun k => k ≤ L.length ∧ capTo L k = 0, fun k => L.length - k, 0⟩
      | _ => noAnn
    | _ => noAnn
  | _ => noAnn

def V_checkEach : Prop :=
  ∀ (B : RW) (x : RV) (rows : List (List Int)), IsLst B x rows.length ((6 : Nat)) (Rv.elemOf [IntKind.i64, IntKind.i64, IntKind.i64, IntKind.i64, IntKind.i64, IntKind.i64] rows) → oneB x = true → (∀ (row : List Int), row ∈
  rows → row.length = (6 : Nat)) → rows.length ≤ (1000 : Nat) → Ob (IsLst B x rows.length ((6 : Nat)) (Rv.elemOf [IntKind.i64, IntKind.i64, IntKind.i64, IntKind.i64, IntKind.i64, IntKind.i64] rows)) ∧ (∃ (a : Nat), Ob (a ≤
  rows.length ∧ capTo rows a = (0 : Int)) ∧ Ob (SV.lst x rows.length ((6 : Nat)) (Rv.elemOf [IntKind.i64, IntKind.i64, IntKind.i64, IntKind.i64, IntKind.i64, IntKind.i64] rows) = SV.lst x rows.length ((6 : Nat)) (Rv.elemOf
  [IntKind.i64, IntKind.i64, IntKind.i64, IntKind.i64, IntKind.i64, IntKind.i64] rows)) ∧ Ob ((↑rows.length : Int) = (↑rows.length : Int)) ∧ Ob ((0 : Int) = (↑a : Int)) ∧ Ob (IsLst B x rows.length ((6 : Nat)) (Rv.elemOf
  [IntKind.i64, IntKind.i64, IntKind.i64, IntKind.i64, IntKind.i64, IntKind.i64] rows)) ∧ True) ∧ ∀ (a : Nat), a ≤ rows.length ∧ capTo rows a = (0 : Int) → ∀ (z z_1 z_2 z_3 z_4 z_5 z_6 z_7 z_8 z_9 z_10 z_11 z_12 z_13 z_14
  : Value), ((↑a : Int) < (↑rows.length : Int) → Ob ((0 : Int) ≤ (↑a : Int) ∧ a < rows.length ∧ IsLst B x rows.length ((6 : Nat)) (Rv.elemOf [IntKind.i64, IntKind.i64, IntKind.i64, IntKind.i64, IntKind.i64, IntKind.i64]
  rows)) ∧ Ob (IsLst B x rows.length ((6 : Nat)) (Rv.elemOf [IntKind.i64, IntKind.i64, IntKind.i64, IntKind.i64, IntKind.i64, IntKind.i64] rows) ∧ a < rows.length) ∧ Ob True ∧ (¬capErr (cell rows a ((0 : Nat))) (cell rows
  a ((1 : Nat))) (cell rows a ((2 : Nat))) (cell rows a ((3 : Nat))) (cell rows a ((4 : Nat))) (cell rows a ((5 : Nat))) = (0 : Int) → Ob (capErr (cell rows a ((0 : Nat))) (cell rows a ((1 : Nat))) (cell rows a ((2 :
  Nat))) (cell rows a ((3 : Nat))) (cell rows a ((4 : Nat))) (cell rows a ((5 : Nat))) = capTo rows rows.length) ∧ True) ∧ (¬¬capErr (cell rows a ((0 : Nat))) (cell rows a ((1 : Nat))) (cell rows a ((2 : Nat))) (cell rows
  a ((3 : Nat))) (cell rows a ((4 : Nat))) (cell rows a ((5 : Nat))) = (0 : Int) → Ob (InR IntKind.i64 ((↑a : Int) + (1 : Int))) ∧ ∃ (a' : Nat), Ob ((a' ≤ rows.length ∧ capTo rows a' = (0 : Int)) ∧ rows.length - a' <
  rows.length - a) ∧ Ob (SV.lst x rows.length ((6 : Nat)) (Rv.elemOf [IntKind.i64, IntKind.i64, IntKind.i64, IntKind.i64, IntKind.i64, IntKind.i64] rows) = SV.lst x rows.length ((6 : Nat)) (Rv.elemOf [IntKind.i64,
  IntKind.i64, IntKind.i64, IntKind.i64, IntKind.i64, IntKind.i64] rows)) ∧ Ob ((↑rows.length : Int) = (↑rows.length : Int)) ∧ Ob ((↑a : Int) + (1 : Int) = (↑a' : Int)) ∧ Ob (IsLst B x rows.length ((6 : Nat)) (Rv.elemOf
  [IntKind.i64, IntKind.i64, IntKind.i64, IntKind.i64, IntKind.i64, IntKind.i64] rows)) ∧ True)) ∧ (¬(↑a : Int) < (↑rows.length : Int) → Ob ((0 : Int) = capTo rows rows.length) ∧ True)

set_option linter.unusedSimpArgs false in
set_option maxRecDepth 4000 in
set_option maxHeartbeats 400000 in
theorem v_checkEach : V_checkEach := by
  unfold V_checkEach
  intro B x L hx hox hrx hL
  simp only [Ob_iff, and_true, true_and, InR]
  refine ⟨hx, ⟨0, ⟨by omega, rfl⟩, by omega, hx⟩, ?_⟩
  intro k ⟨hk, hc⟩
  intros
  have key : (¬ capAt L k = 0 → k < L.length → capTo L L.length = capAt L k) := fun h h2 => cap_stop h hc _ h2
  have next : capAt L k = 0 → capTo L (k + 1) = 0 := fun h => by
    show (if capTo L k = 0 then capAt L k else capTo L k) = 0
    rw [if_pos hc, h]
  refine ⟨fun h5 => ⟨⟨by omega, by omega, hx⟩, ⟨hx, by omega⟩, fun h6 => ?_, fun h6 => ⟨by omega, k + 1, ⟨⟨by omega, next (Classical.not_not.1 h6)⟩, by omega⟩, by omega, hx⟩⟩, fun h5 => ?_⟩
  · exact (key h6 (by omega)).symm
  · have e : k = L.length := by omega
    subst e
    exact hc.symm

theorem e_checkEach : V_checkEach = needF P [F_CheckCaught] A_checkEach F_checkEach := by kernel_rfl

theorem n_checkEach : Ob (needF P [F_CheckCaught] A_checkEach F_checkEach) := by
  rw [← e_checkEach]
  exact ⟨v_checkEach⟩

theorem b_checkEach : ((P.funcs[80]?).any fun fn => fn.body.isSome) = true := by kernel_rfl

theorem checkEach_ok : Fn0.Ok P F_checkEach := Fn0.ok named (l := [F_CheckCaught]) (A := A_checkEach) (by rfl) (by
  intro F h
  simp only [List.mem_cons, List.not_mem_nil, or_false] at h
  rcases h with rfl
  · exact CheckCaught_ok
) b_checkEach (by
  intro ds N
  simp only [F_checkEach]
  split <;> rfl) n_checkEach

noncomputable def F_checkMany : Fn0 := ⟨62, [.one (.l [.i64, .i64, .i64, .i64, .i64, .i64])], fun _ => True, fun l => match l with | [.l L] => .i .i64 (manyErr L) | _ => .v undef⟩
noncomputable def A_checkMany : List SV → List Dat → Nat → List SV → Ann := fun _ _ _ _ => noAnn

def V_checkMany : Prop :=
  ∀ (B : RW) (x : RV) (rows : List (List Int)), IsLst B x rows.length ((6 : Nat)) (Rv.elemOf [IntKind.i64, IntKind.i64, IntKind.i64, IntKind.i64, IntKind.i64, IntKind.i64] rows) → oneB x = true → (∀ (row : List Int), row ∈
  rows → row.length = (6 : Nat)) → True → Ob (IsLst B x rows.length ((6 : Nat)) (Rv.elemOf [IntKind.i64, IntKind.i64, IntKind.i64, IntKind.i64, IntKind.i64, IntKind.i64] rows)) ∧ ((600 : Int) < (↑rows.length : Int) → Ob
  ((5 : Int) = manyErr rows) ∧ True) ∧ (¬(600 : Int) < (↑rows.length : Int) → ∃ (rows_1 : List (List Int)), Ob (IsLst B x rows.length ((6 : Nat)) (Rv.elemOf [IntKind.i64, IntKind.i64, IntKind.i64, IntKind.i64, IntKind.i64,
  IntKind.i64] rows) ∧ rows_1.length = rows.length ∧ (∀ (r : List Int), r ∈ rows_1 → r.length = (6 : Nat)) ∧ ∀ (i : Nat), i < rows.length → Rv.elemOf [IntKind.i64, IntKind.i64, IntKind.i64, IntKind.i64, IntKind.i64,
  IntKind.i64] rows i = Rv.elemOf [IntKind.i64, IntKind.i64, IntKind.i64, IntKind.i64, IntKind.i64, IntKind.i64] rows_1 i) ∧ Ob (rows_1.length ≤ (1000 : Nat)) ∧ Ob (capTo rows_1 rows_1.length = manyErr rows) ∧ True)

set_option linter.unusedSimpArgs false in
set_option maxRecDepth 4000 in
set_option maxHeartbeats 400000 in
theorem v_checkMany : V_checkMany := by
  unfold V_checkMany
  intro B x L hx hox hrx _
  simp only [Ob_iff, and_true, true_and, InR]
  refine ⟨hx, fun h => ?_, fun h => ⟨L, ⟨hx, rfl, hrx, fun _ _ => rfl⟩, by omega, ?_⟩⟩
  · have h' : 600 < L.length := by omega
    simp [manyErr, h']
  · have h' : ¬ 600 < L.length := by omega
    simp [manyErr, h']

theorem e_checkMany : V_checkMany = needF P [F_checkEach] A_checkMany F_checkMany := by kernel_rfl

theorem n_checkMany : Ob (needF P [F_checkEach] A_checkMany F_checkMany) := by
  rw [← e_checkMany]
  exact ⟨v_checkMany⟩

theorem b_checkMany : ((P.funcs[62]?).any fun fn => fn.body.isSome) = true := by kernel_rfl

theorem checkMany_ok : Fn0.Ok P F_checkMany := Fn0.ok named (l := [F_checkEach]) (A := A_checkMany) (by rfl) (by
  intro F h
  simp only [List.mem_cons, List.not_mem_nil, or_false] at h
  rcases h with rfl
  · exact checkEach_ok
) b_checkMany (by
  intro ds N
  simp only [F_checkMany]
  split <;> rfl) n_checkMany

noncomputable def F_rcheckAll : Fn0 := ⟨88, [.one (.l [.i64, .i64, .i64, .i64, .i64, .i64])], fun l => match l with | [.l L] => L.length ≤ 1000 | _ => False, fun l => match l with | [.l L] => .i .i64 (capTo L L.length) | _ => .v undef⟩
noncomputable def A_rcheckAll : List SV → List Dat → Nat → List SV → Ann := fun xs ds n ts => match xs with
  | [.lst x _ _ _] => match ds with
    | [.l L] => match n with
      | 2 => ⟨Nat, fun k => [some (SV.lst x L.length ((6 : Nat)) (Rv.elemOf [IntKind.i64, IntKind.i64, IntKind.i64, IntKind.i64, IntKind.i64, IntKind.i64] L)), none, none, some (.i .i64 k), none, none, none, none, none, none, none, none, none, none, none, none, none, none, none], fun k => [], fun k => k ≤ L.length ∧ capTo L k = 0, fun k => L.length - k, 0⟩
      | _ => noAnn
    | _ => noAnn
  | _ => noAnn

def V_rcheckAll : Prop :=
  ∀ (B : RW) (x : RV) (rows : List (List Int)), IsLst B x rows.length ((6 : Nat)) (Rv.elemOf [IntKind.i64, IntKind.i64, IntKind.i64, IntKind.i64, IntKind.i64, IntKind.i64] rows) → oneB x = true → (∀ (row : List Int), row ∈
  rows → row.length = (6 : Nat)) → rows.length ≤ (1000 : Nat) → (∃ (a : Nat), Ob (a ≤ rows.length ∧ capTo rows a = (0 : Int)) ∧ Ob (SV.lst x rows.length ((6 : Nat)) (Rv.elemOf [IntKind.i64, IntKind.i64, IntKind.i64,
  IntKind.i64, IntKind.i64, IntKind.i64] rows) = SV.lst x rows.length ((6 : Nat)) (Rv.elemOf [IntKind.i64, IntKind.i64, IntKind.i64, IntKind.i64, IntKind.i64, IntKind.i64] rows)) ∧ Ob ((0 : Int) = (↑a : Int)) ∧ Ob (IsLst B
  x rows.length ((6 : Nat)) (Rv.elemOf [IntKind.i64, IntKind.i64, IntKind.i64, IntKind.i64, IntKind.i64, IntKind.i64] rows)) ∧ True) ∧ ∀ (a : Nat), a ≤ rows.length ∧ capTo rows a = (0 : Int) → ∀ (z z_1 z_2 z_3 z_4 z_5 z_6
  z_7 z_8 z_9 z_10 z_11 z_12 z_13 z_14 z_15 z_16 : Value), Ob (IsLst B x rows.length ((6 : Nat)) (Rv.elemOf [IntKind.i64, IntKind.i64, IntKind.i64, IntKind.i64, IntKind.i64, IntKind.i64] rows)) ∧ ((↑a : Int) <
  (↑rows.length : Int) → Ob ((0 : Int) ≤ (↑a : Int) ∧ a < rows.length ∧ IsLst B x rows.length ((6 : Nat)) (Rv.elemOf [IntKind.i64, IntKind.i64, IntKind.i64, IntKind.i64, IntKind.i64, IntKind.i64] rows)) ∧ Ob (IsLst B x
  rows.length ((6 : Nat)) (Rv.elemOf [IntKind.i64, IntKind.i64, IntKind.i64, IntKind.i64, IntKind.i64, IntKind.i64] rows) ∧ a < rows.length) ∧ Ob True ∧ (¬capErr (cell rows a ((0 : Nat))) (cell rows a ((1 : Nat))) (cell
  rows a ((2 : Nat))) (cell rows a ((3 : Nat))) (cell rows a ((4 : Nat))) (cell rows a ((5 : Nat))) = (0 : Int) → Ob (capErr (cell rows a ((0 : Nat))) (cell rows a ((1 : Nat))) (cell rows a ((2 : Nat))) (cell rows a ((3 :
  Nat))) (cell rows a ((4 : Nat))) (cell rows a ((5 : Nat))) = capTo rows rows.length) ∧ True) ∧ (¬¬capErr (cell rows a ((0 : Nat))) (cell rows a ((1 : Nat))) (cell rows a ((2 : Nat))) (cell rows a ((3 : Nat))) (cell rows
  a ((4 : Nat))) (cell rows a ((5 : Nat))) = (0 : Int) → Ob (InR IntKind.i64 ((↑a : Int) + (1 : Int))) ∧ ∃ (a' : Nat), Ob ((a' ≤ rows.length ∧ capTo rows a' = (0 : Int)) ∧ rows.length - a' < rows.length - a) ∧ Ob (SV.lst x
  rows.length ((6 : Nat)) (Rv.elemOf [IntKind.i64, IntKind.i64, IntKind.i64, IntKind.i64, IntKind.i64, IntKind.i64] rows) = SV.lst x rows.length ((6 : Nat)) (Rv.elemOf [IntKind.i64, IntKind.i64, IntKind.i64, IntKind.i64,
  IntKind.i64, IntKind.i64] rows)) ∧ Ob ((↑a : Int) + (1 : Int) = (↑a' : Int)) ∧ Ob (IsLst B x rows.length ((6 : Nat)) (Rv.elemOf [IntKind.i64, IntKind.i64, IntKind.i64, IntKind.i64, IntKind.i64, IntKind.i64] rows)) ∧
  True)) ∧ (¬(↑a : Int) < (↑rows.length : Int) → Ob ((0 : Int) = capTo rows rows.length) ∧ True)

set_option linter.unusedSimpArgs false in
set_option maxRecDepth 4000 in
set_option maxHeartbeats 400000 in
theorem v_rcheckAll : V_rcheckAll := by
  unfold V_rcheckAll
  intro B x L hx hox hrx hL
  simp only [Ob_iff, and_true, true_and, InR]
  refine ⟨⟨0, ⟨by omega, rfl⟩, by omega, hx⟩, ?_⟩
  intro k ⟨hk, hc⟩
  intros
  have key : (¬ capAt L k = 0 → k < L.length → capTo L L.length = capAt L k) := fun h h2 => cap_stop h hc _ h2
  have next : capAt L k = 0 → capTo L (k + 1) = 0 := fun h => by
    show (if capTo L k = 0 then capAt L k else capTo L k) = 0
    rw [if_pos hc, h]
  refine ⟨hx, fun h5 => ⟨⟨by omega, by omega, hx⟩, ⟨hx, by omega⟩, fun h6 => ?_, fun h6 => ⟨by omega, k + 1, ⟨⟨by omega, next (Classical.not_not.1 h6)⟩, by omega⟩, by omega, hx⟩⟩, fun h5 => ?_⟩
  · exact (key h6 (by omega)).symm
  · have e : k = L.length := by omega
    subst e
    exact hc.symm

theorem e_rcheckAll : V_rcheckAll = needF P [F_rCheckCaught] A_rcheckAll F_rcheckAll := by kernel_rfl

theorem n_rcheckAll : Ob (needF P [F_rCheckCaught] A_rcheckAll F_rcheckAll) := by
  rw [← e_rcheckAll]
  exact ⟨v_rcheckAll⟩

theorem b_rcheckAll : ((P.funcs[88]?).any fun fn => fn.body.isSome) = true := by kernel_rfl

theorem rcheckAll_ok : Fn0.Ok P F_rcheckAll := Fn0.ok named (l := [F_rCheckCaught]) (A := A_rcheckAll) (by rfl) (by
  intro F h
  simp only [List.mem_cons, List.not_mem_nil, or_false] at h
  rcases h with rfl
  · exact rCheckCaught_ok
) b_rcheckAll (by
  intro ds N
  simp only [F_rcheckAll]
  split <;> rfl) n_rcheckAll

noncomputable def F_rcheckMany : Fn0 := ⟨65, [.one (.l [.i64, .i64, .i64, .i64, .i64, .i64])], fun _ => True, fun l => match l with | [.l L] => .i .i64 (manyErr L) | _ => .v undef⟩
noncomputable def A_rcheckMany : List SV → List Dat → Nat → List SV → Ann := fun _ _ _ _ => noAnn

def V_rcheckMany : Prop :=
  ∀ (B : RW) (x : RV) (rows : List (List Int)), IsLst B x rows.length ((6 : Nat)) (Rv.elemOf [IntKind.i64, IntKind.i64, IntKind.i64, IntKind.i64, IntKind.i64, IntKind.i64] rows) → oneB x = true → (∀ (row : List Int), row ∈
  rows → row.length = (6 : Nat)) → True → Ob (IsLst B x rows.length ((6 : Nat)) (Rv.elemOf [IntKind.i64, IntKind.i64, IntKind.i64, IntKind.i64, IntKind.i64, IntKind.i64] rows)) ∧ ((600 : Int) < (↑rows.length : Int) → Ob
  ((5 : Int) = manyErr rows) ∧ True) ∧ (¬(600 : Int) < (↑rows.length : Int) → ∃ (rows_1 : List (List Int)), Ob (IsLst B x rows.length ((6 : Nat)) (Rv.elemOf [IntKind.i64, IntKind.i64, IntKind.i64, IntKind.i64, IntKind.i64,
  IntKind.i64] rows) ∧ rows_1.length = rows.length ∧ (∀ (r : List Int), r ∈ rows_1 → r.length = (6 : Nat)) ∧ ∀ (i : Nat), i < rows.length → Rv.elemOf [IntKind.i64, IntKind.i64, IntKind.i64, IntKind.i64, IntKind.i64,
  IntKind.i64] rows i = Rv.elemOf [IntKind.i64, IntKind.i64, IntKind.i64, IntKind.i64, IntKind.i64, IntKind.i64] rows_1 i) ∧ Ob (rows_1.length ≤ (1000 : Nat)) ∧ Ob (capTo rows_1 rows_1.length = manyErr rows) ∧ True)

set_option linter.unusedSimpArgs false in
set_option maxRecDepth 4000 in
set_option maxHeartbeats 400000 in
theorem v_rcheckMany : V_rcheckMany := by
  unfold V_rcheckMany
  intro B x L hx hox hrx _
  simp only [Ob_iff, and_true, true_and, InR]
  refine ⟨hx, fun h => ?_, fun h => ⟨L, ⟨hx, rfl, hrx, fun _ _ => rfl⟩, by omega, ?_⟩⟩
  · have h' : 600 < L.length := by omega
    simp [manyErr, h']
  · have h' : ¬ 600 < L.length := by omega
    simp [manyErr, h']

theorem e_rcheckMany : V_rcheckMany = needF P [F_rcheckAll] A_rcheckMany F_rcheckMany := by kernel_rfl

theorem n_rcheckMany : Ob (needF P [F_rcheckAll] A_rcheckMany F_rcheckMany) := by
  rw [← e_rcheckMany]
  exact ⟨v_rcheckMany⟩

theorem b_rcheckMany : ((P.funcs[65]?).any fun fn => fn.body.isSome) = true := by kernel_rfl

theorem rcheckMany_ok : Fn0.Ok P F_rcheckMany := Fn0.ok named (l := [F_rcheckAll]) (A := A_rcheckMany) (by rfl) (by
  intro F h
  simp only [List.mem_cons, List.not_mem_nil, or_false] at h
  rcases h with rfl
  · exact rcheckAll_ok
) b_rcheckMany (by
  intro ds N
  simp only [F_rcheckMany]
  split <;> rfl) n_rcheckMany

noncomputable def F_checkEdges : Fn0 := ⟨84, [.one (.l [.i64])], fun _ => True, fun l => match l with | [.l E] => .i .i64 (edgErr E) | _ => .v undef⟩
noncomputable def A_checkEdges : List SV → List Dat → Nat → List SV → Ann := fun xs ds n ts => match xs with
  | [.lst x _ _ _] => match ds with
    | [.l E] => match n with
      | 6 => ⟨Nat, fun k => [some (SV.lst x E.length ((1 : Nat)) (Rv.elemOf [IntKind.i64] E)), none, none, none, none, none, none, none, none, none, none, some (SV.lst x E.length ((1 : Nat)) (Rv.elemOf [IntKind.i64] E)), some (SV.i IntKind.i64 (↑E.length : Int)), some (.i .i64 k), none, none, none, none, none, none, none, none, none, none, none, none, none, none, none, none, none, none, none], fun k => [], fun k => k ≤ E.length ∧ edgTo E k = 0, fun k => E.length - k, 0⟩
      | _ => noAnn
    | _ => noAnn
  | _ => noAnn

def V_checkEdges : Prop :=
  ∀ (B : RW) (x : RV) (rows : List (List Int)), IsLst B x rows.length ((1 : Nat)) (Rv.elemOf [IntKind.i64] rows) → oneB x = true → (∀ (row : List Int), row ∈ rows → row.length = (1 : Nat)) → True → Ob (IsLst B x
  rows.length ((1 : Nat)) (Rv.elemOf [IntKind.i64] rows)) ∧ ((↑rows.length : Int) < (2 : Int) → Ob ((4 : Int) = edgErr rows) ∧ True) ∧ (¬(↑rows.length : Int) < (2 : Int) → Ob (IsLst B x rows.length ((1 : Nat)) (Rv.elemOf
  [IntKind.i64] rows)) ∧ ((21 : Int) < (↑rows.length : Int) → Ob ((5 : Int) = edgErr rows) ∧ True) ∧ (¬(21 : Int) < (↑rows.length : Int) → Ob (IsLst B x rows.length ((1 : Nat)) (Rv.elemOf [IntKind.i64] rows)) ∧ (∃ (a :
  Nat), Ob (a ≤ rows.length ∧ edgTo rows a = (0 : Int)) ∧ Ob (SV.lst x rows.length ((1 : Nat)) (Rv.elemOf [IntKind.i64] rows) = SV.lst x rows.length ((1 : Nat)) (Rv.elemOf [IntKind.i64] rows)) ∧ Ob (SV.lst x rows.length
  ((1 : Nat)) (Rv.elemOf [IntKind.i64] rows) = SV.lst x rows.length ((1 : Nat)) (Rv.elemOf [IntKind.i64] rows)) ∧ Ob ((↑rows.length : Int) = (↑rows.length : Int)) ∧ Ob ((0 : Int) = (↑a : Int)) ∧ Ob (IsLst B x rows.length
  ((1 : Nat)) (Rv.elemOf [IntKind.i64] rows)) ∧ Ob (IsLst B x rows.length ((1 : Nat)) (Rv.elemOf [IntKind.i64] rows)) ∧ True) ∧ ∀ (a : Nat), a ≤ rows.length ∧ edgTo rows a = (0 : Int) → ∀ (z z_1 z_2 z_3 z_4 z_5 z_6 z_7 z_8
  z_9 z_10 z_11 z_12 z_13 z_14 z_15 z_16 z_17 z_18 z_19 z_20 z_21 z_22 z_23 z_24 z_25 z_26 z_27 z_28 : Value), ((↑a : Int) < (↑rows.length : Int) → Ob ((0 : Int) ≤ (↑a : Int) ∧ a < rows.length ∧ IsLst B x rows.length ((1 :
  Nat)) (Rv.elemOf [IntKind.i64] rows)) ∧ Ob (IsLst B x rows.length ((1 : Nat)) (Rv.elemOf [IntKind.i64] rows) ∧ a < rows.length) ∧ Ob True ∧ (¬inB (cell rows a ((0 : Nat))) (0 : Int) (2501 : Int) → Ob ((1 : Int) = edgErr
  rows) ∧ True) ∧ (¬¬inB (cell rows a ((0 : Nat))) (0 : Int) (2501 : Int) → ((0 : Int) < (↑a : Int) → Ob (InR IntKind.i64 ((↑a : Int) - (1 : Int))) ∧ Ob ((0 : Int) ≤ (↑a : Int) - (1 : Int) ∧ ((↑a : Int) - (1 : Int)).toNat
  < rows.length ∧ IsLst B x rows.length ((1 : Nat)) (Rv.elemOf [IntKind.i64] rows)) ∧ Ob (IsLst B x rows.length ((1 : Nat)) (Rv.elemOf [IntKind.i64] rows) ∧ ((↑a : Int) - (1 : Int)).toNat < rows.length) ∧ (cell rows a ((0
  : Nat)) ≤ cell rows ((↑a : Int) - (1 : Int)).toNat ((0 : Nat)) → Ob ((8 : Int) = edgErr rows) ∧ True) ∧ (¬cell rows a ((0 : Nat)) ≤ cell rows ((↑a : Int) - (1 : Int)).toNat ((0 : Nat)) → Ob (InR IntKind.i64 ((↑a : Int) +
  (1 : Int))) ∧ ∃ (a' : Nat), Ob ((a' ≤ rows.length ∧ edgTo rows a' = (0 : Int)) ∧ rows.length - a' < rows.length - a) ∧ Ob (SV.lst x rows.length ((1 : Nat)) (Rv.elemOf [IntKind.i64] rows) = SV.lst x rows.length ((1 :
  Nat)) (Rv.elemOf [IntKind.i64] rows)) ∧ Ob (SV.lst x rows.length ((1 : Nat)) (Rv.elemOf [IntKind.i64] rows) = SV.lst x rows.length ((1 : Nat)) (Rv.elemOf [IntKind.i64] rows)) ∧ Ob ((↑rows.length : Int) = (↑rows.length :
  Int)) ∧ Ob ((↑a : Int) + (1 : Int) = (↑a' : Int)) ∧ Ob (IsLst B x rows.length ((1 : Nat)) (Rv.elemOf [IntKind.i64] rows)) ∧ Ob (IsLst B x rows.length ((1 : Nat)) (Rv.elemOf [IntKind.i64] rows)) ∧ True)) ∧ (¬(0 : Int) <
  (↑a : Int) → Ob (InR IntKind.i64 ((↑a : Int) + (1 : Int))) ∧ ∃ (a' : Nat), Ob ((a' ≤ rows.length ∧ edgTo rows a' = (0 : Int)) ∧ rows.length - a' < rows.length - a) ∧ Ob (SV.lst x rows.length ((1 : Nat)) (Rv.elemOf
  [IntKind.i64] rows) = SV.lst x rows.length ((1 : Nat)) (Rv.elemOf [IntKind.i64] rows)) ∧ Ob (SV.lst x rows.length ((1 : Nat)) (Rv.elemOf [IntKind.i64] rows) = SV.lst x rows.length ((1 : Nat)) (Rv.elemOf [IntKind.i64]
  rows)) ∧ Ob ((↑rows.length : Int) = (↑rows.length : Int)) ∧ Ob ((↑a : Int) + (1 : Int) = (↑a' : Int)) ∧ Ob (IsLst B x rows.length ((1 : Nat)) (Rv.elemOf [IntKind.i64] rows)) ∧ Ob (IsLst B x rows.length ((1 : Nat))
  (Rv.elemOf [IntKind.i64] rows)) ∧ True))) ∧ (¬(↑a : Int) < (↑rows.length : Int) → Ob ((0 : Int) = edgErr rows) ∧ True)))

set_option linter.unusedSimpArgs false in
set_option maxRecDepth 4000 in
set_option maxHeartbeats 400000 in
theorem v_checkEdges : V_checkEdges := by
  unfold V_checkEdges
  intro B x E hx hox hrx _
  simp only [Ob_iff, and_true, true_and, InR]
  refine ⟨hx, fun h1 => ?_, fun h1 => ⟨hx, fun h2 => ?_, fun h2 => ⟨hx, ⟨0, ⟨by omega, rfl⟩, by omega, hx, hx⟩, ?_⟩⟩⟩
  · have h1' : E.length < 2 := by omega
    simp [edgErr, h1']
  · have h1' : ¬ E.length < 2 := by omega
    have h2' : 21 < E.length := by omega
    simp [edgErr, h1', h2']
  have h1' : ¬ E.length < 2 := by omega
  have h2' : ¬ 21 < E.length := by omega
  have hg : edgErr E = edgTo E E.length := by simp [edgErr, h1', h2']
  rw [hg]
  intro k ⟨hk, hc⟩
  intros
  have hk1 : ((k : Int) - 1).toNat = k - 1 := by omega
  have hstop : k < E.length → ¬ edgAt E k = 0 → edgTo E E.length = edgAt E k := fun h h2 => edg_stop h2 hc _ h
  have hnext : edgAt E k = 0 → edgTo E (k + 1) = 0 := fun h => by
    show (if edgTo E k = 0 then edgAt E k else edgTo E k) = 0
    rw [if_pos hc, h]
  have hend : k = E.length → edgTo E E.length = 0 := fun h => by rw [← h]; exact hc
  simp only [hk1]
  clear hg
  generalize edgTo E E.length = c at *
  generalize he : edgAt E k = e at *
  unfold edgAt at he
  generalize inB (cell E k 0) 0 2501 = p at *
  generalize cell E k 0 = a at *
  generalize cell E (k - 1) 0 = b at *
  repeat' (first | apply And.intro | intro _)
  all_goals first | exact hx | omega | exact ⟨k + 1, ⟨⟨by omega, hnext (by grind)⟩, by omega⟩, by omega, hx, hx⟩ | grind

theorem e_checkEdges : V_checkEdges = needF P [F_gwithin] A_checkEdges F_checkEdges := by kernel_rfl

theorem n_checkEdges : Ob (needF P [F_gwithin] A_checkEdges F_checkEdges) := by
  rw [← e_checkEdges]
  exact ⟨v_checkEdges⟩

theorem b_checkEdges : ((P.funcs[84]?).any fun fn => fn.body.isSome) = true := by kernel_rfl

theorem checkEdges_ok : Fn0.Ok P F_checkEdges := Fn0.ok named (l := [F_gwithin]) (A := A_checkEdges) (by rfl) (by
  intro F h
  simp only [List.mem_cons, List.not_mem_nil, or_false] at h
  rcases h with rfl
  · exact gwithin_ok
) b_checkEdges (by
  intro ds N
  simp only [F_checkEdges]
  split <;> rfl) n_checkEdges

end Go.Proofs.YthlodlileecmdaaDoor.Sy
