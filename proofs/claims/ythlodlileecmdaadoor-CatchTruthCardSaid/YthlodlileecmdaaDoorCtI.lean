/- Reasons for which an animal goes back, and whether it may be kept. -/
import Derived.Test.YthlodlileecmdaaDoorSyP2
import Derived.Test.YthlodlileecmdaaDoorGrM
import Derived.Test.YthlodlileecmdaaDoorCtT
import Derived.Test.YthlodlileecmdaaDoorCtA
import Derived.Test.YthlodlileecmdaaDoorCtU
import Derived.Test.YthlodlileecmdaaDoorSyP2
import Derived.KernelRfl
import Derived.Test.YthlodlileecmdaaDoorProg
namespace Go.Proofs.YthlodlileecmdaaDoor.Sy
open Go Go.Rv
set_option linter.unusedVariables false

noncomputable def gErr (low high : Int) : Int := spanErr low high 0 2500
noncomputable def reaErr (low high a b sex eggs notch shell : Int) : Int := if gErr low high = 0 then capErr a b sex eggs notch shell else gErr low high
open Classical in
noncomputable def ifV (c : Prop) (v : Int) : Int := if c then v else 2
noncomputable def reaR (low high : Int) (eg no so : Prop) (a b eggs notch shell : Int) : Rows := [[insV a b 0 (low - 1)], [insV a b (high + 1) 2500], [ifV eg eggs], [ifV no notch], [ifV (so ∧ shell = 2) 1]]
noncomputable def reaN (low high a b sex eggs notch shell : Int) : Nat := if reaErr low high a b sex eggs notch shell = 0 then 5 else 0
/-- what is kept after some reasons, none of which is sure -/
def kpTo (R : Rows) : Nat → Int
  | 0 => 1
  | k + 1 => if cell R k 0 = 3 then 3 else kpTo R k
open Classical in
noncomputable def kpV (R : Rows) (n : Nat) : Int := if ∃ j, j < n ∧ cell R j 0 = 1 then 2 else kpTo R n
noncomputable def keepV (low high : Int) (eg no so : Prop) (a b sex eggs notch shell : Int) : Int := if reaErr low high a b sex eggs notch shell = 0 then kpV (reaR low high eg no so a b eggs notch shell) 5 else 0
open Classical in
noncomputable def toldV (c d : Prop) : Int := if c then 1 else if d then 2 else 3
theorem kp_is (R : Rows) : ∀ k, (kpTo R k = 3 ∧ ∃ j, j < k ∧ cell R j 0 = 3) ∨ (kpTo R k = 1 ∧ ¬ ∃ j, j < k ∧ cell R j 0 = 3)
  | 0 => .inr ⟨rfl, fun ⟨j, h, _⟩ => absurd h (Nat.not_lt_zero j)⟩
  | k + 1 => by
    simp only [kpTo]
    by_cases h3 : cell R k 0 = 3
    · rw [if_pos h3]
      exact .inl ⟨rfl, k, by omega, h3⟩
    · rw [if_neg h3]
      rcases kp_is R k with ⟨h, j, hj, hc⟩ | ⟨h, hn⟩
      · exact .inl ⟨h, j, by omega, hc⟩
      · refine .inr ⟨h, fun ⟨j, hj, hc⟩ => ?_⟩
        by_cases e : j = k
        · subst e; exact h3 hc
        · exact hn ⟨j, by omega, hc⟩
theorem op_next (R : Rows) (k : Nat) : (∃ j, j < k + 1 ∧ cell R j 0 = 3) ↔ (∃ j, j < k ∧ cell R j 0 = 3) ∨ cell R k 0 = 3 := by
  constructor
  · intro ⟨j, hj, hc⟩
    by_cases e : j = k
    · subst e; exact .inr hc
    · exact .inl ⟨j, by omega, hc⟩
  · rintro (⟨j, hj, hc⟩ | h)
    · exact ⟨j, by omega, hc⟩
    · exact ⟨k, by omega, h⟩
theorem kpV_one {R : Rows} {n j : Nat} (hj : j < n) (h : cell R j 0 = 1) : kpV R n = 2 := by
  unfold kpV
  rw [if_pos ⟨j, hj, h⟩]
theorem kpV_none {R : Rows} {n : Nat} (h : ∀ j, j < n → ¬ cell R j 0 = 1) : kpV R n = kpTo R n := by
  unfold kpV
  rw [if_neg fun ⟨j, hj, hc⟩ => h j hj hc]
def gaLow (a : Int) : Int := 800 + belowV a (850 - 800 + 1)
def gaA1 (a : Int) : Int := belowA a (850 - 800 + 1)
def gaC (a : Int) : Int := ofV (gaA1 a) [[gaLow a + 30], [1300]]
def gaA2 (a : Int) : Int := ofA (gaA1 a) [[gaLow a + 30], [1300]]
def gaHi (a : Int) : Int := gaLow a + belowV (gaA2 a) (gaC a - gaLow a + 1)
def gaA3 (a : Int) : Int := belowA (gaA2 a) (gaC a - gaLow a + 1)
def gaEg (a : Int) : Prop := belowV (gaA3 a) 2 = 0
def gaA4 (a : Int) : Int := belowA (gaA3 a) 2
def gaNo (a : Int) : Prop := belowV (gaA4 a) 2 = 0
def gaA5 (a : Int) : Int := belowA (gaA4 a) 2
def gaSo (a : Int) : Prop := belowV (gaA5 a) 3 = 0
def gaQ (a : Int) : Int := belowA (gaA5 a) 3
theorem gaLow_in (a : Int) : 800 ≤ gaLow a ∧ gaLow a ≤ 850 := by
  have h := belowV_in a (850 - 800 + 1)
  unfold gaLow
  omega
theorem gaC_is (a : Int) : gaC a = gaLow a + 30 ∨ gaC a = 1300 := ofV_two _ _ _
theorem rea_ok {low high a b sex eggs notch shell : Int} (h : reaErr low high a b sex eggs notch shell = 0) : 0 ≤ low ∧ low ≤ high ∧ high ≤ 2500 ∧ 0 ≤ a ∧ a ≤ b ∧ b ≤ 2500 ∧ gErr low high = 0 ∧ capErr a b sex eggs notch shell = 0 := by
  unfold reaErr at h
  split at h
  · rename_i hg
    have h1 := span_ok hg
    have h2 : 0 ≤ a ∧ a ≤ b ∧ b ≤ 2500 := by
      have h3 := h
      unfold capErr inB at h3
      split at h3
      · split at h3 <;> omega
      · omega
    exact ⟨h1.1, h1.2.1, h1.2.2, h2.1, h2.2.1, h2.2.2, hg, h⟩
  · exact absurd h (by assumption)

noncomputable def F_ifSet : Fn0 := ⟨72, [.one .b, i64], fun _ => True, fun l => match l with | [.p c, .z v] => .i .i64 (ifV c v) | _ => .v undef⟩
noncomputable def A_ifSet : List SV → List Dat → Nat → List SV → Ann := fun _ _ _ _ => noAnn

def V_ifSet : Prop :=
  ∀ (B : RW) (c : Prop) (n : Int), True → (c → Ob (n = ifV c n) ∧ True) ∧ (¬c → Ob ((2 : Int) = ifV c n) ∧ True)

set_option linter.unusedSimpArgs false in
set_option maxRecDepth 4000 in
set_option maxHeartbeats 400000 in
theorem v_ifSet : V_ifSet := by
  unfold V_ifSet
  intros
  simp only [Ob_iff, and_true, true_and, ifV] at *
  grind

theorem e_ifSet : V_ifSet = needF P [] A_ifSet F_ifSet := by kernel_rfl

theorem n_ifSet : Ob (needF P [] A_ifSet F_ifSet) := by
  rw [← e_ifSet]
  exact ⟨v_ifSet⟩

theorem b_ifSet : ((P.funcs[72]?).any fun fn => fn.body.isSome) = true := by kernel_rfl

theorem ifSet_ok : Fn0.Ok P F_ifSet := Fn0.ok named (l := []) (A := A_ifSet) (by rfl) (by
  intro F h; simp at h) b_ifSet (by
  intro ds N
  simp only [F_ifSet]
  split <;> rfl) n_ifSet

noncomputable def F_clo1 : Fn0 := ⟨69, [.agg [.i .i64, .i .i64, .i .i64, .i .i64, .i .i64, .i .i64], .ptr [.i .i64, .i .i64, .b, .b, .b]], fun l => match l with | [.z a, .z b, .z sex, .z eggs, .z notch, .z shell, .z low, .z high, .p eg, .p no, .p so] => 0 ≤ low ∧ low ≤ 2500 ∧ 0 ≤ high ∧ high ≤ 2500 | _ => False, fun l => match l with | [.z a, .z b, .z sex, .z eggs, .z notch, .z shell, .z low, .z high, .p eg, .p no, .p so] => .i .i64 (insV a b 0 (low - 1)) | _ => .v undef⟩
noncomputable def A_clo1 : List SV → List Dat → Nat → List SV → Ann := fun _ _ _ _ => noAnn

def V_clo1 : Prop :=
  ∀ (B : RW) (n n_1 n_2 n_3 n_4 n_5 : Int) (x : RV) (n_6 n_7 : Int) (c c_1 c_2 : Prop), (IsLst B x ((1 : Nat)) ((5 : Nat)) fun (x : Nat) ↦ [SV.i IntKind.i64 n_6, SV.i IntKind.i64 n_7, SV.p c, SV.p c_1, SV.p c_2]) → (0 :
  Int) ≤ n_6 ∧ n_6 ≤ (2500 : Int) ∧ (0 : Int) ≤ n_7 ∧ n_7 ≤ (2500 : Int) → Ob ((IsLst B x ((1 : Nat)) ((5 : Nat)) fun (x : Nat) ↦ [SV.i IntKind.i64 n_6, SV.i IntKind.i64 n_7, SV.p c, SV.p c_1, SV.p c_2]) ∧ (0 : Nat) < (1 :
  Nat)) ∧ Ob (InR IntKind.i64 (n_6 - (1 : Int))) ∧ Ob True ∧ Ob (insV n n_1 (0 : Int) (n_6 - (1 : Int)) = insV n n_1 (0 : Int) (n_6 - (1 : Int))) ∧ True

set_option linter.unusedSimpArgs false in
set_option maxRecDepth 4000 in
set_option maxHeartbeats 400000 in
theorem v_clo1 : V_clo1 := by
  unfold V_clo1
  intros
  simp only [Ob_iff, and_true, true_and, InR] at *
  all_goals grind

theorem e_clo1 : V_clo1 = needF P [F_inside] A_clo1 F_clo1 := by kernel_rfl

theorem n_clo1 : Ob (needF P [F_inside] A_clo1 F_clo1) := by
  rw [← e_clo1]
  exact ⟨v_clo1⟩

theorem b_clo1 : ((P.funcs[69]?).any fun fn => fn.body.isSome) = true := by kernel_rfl

theorem clo1_ok : Fn0.Ok P F_clo1 := Fn0.ok named (l := [F_inside]) (A := A_clo1) (by rfl) (by
  intro F h
  simp only [List.mem_cons, List.not_mem_nil, or_false] at h
  rcases h with rfl
  · exact inside_ok
) b_clo1 (by
  intro ds N
  simp only [F_clo1]
  split <;> rfl) n_clo1

noncomputable def F_clo2 : Fn0 := ⟨70, [.agg [.i .i64, .i .i64, .i .i64, .i .i64, .i .i64, .i .i64], .ptr [.i .i64, .i .i64, .b, .b, .b]], fun l => match l with | [.z a, .z b, .z sex, .z eggs, .z notch, .z shell, .z low, .z high, .p eg, .p no, .p so] => 0 ≤ low ∧ low ≤ 2500 ∧ 0 ≤ high ∧ high ≤ 2500 | _ => False, fun l => match l with | [.z a, .z b, .z sex, .z eggs, .z notch, .z shell, .z low, .z high, .p eg, .p no, .p so] => .i .i64 (insV a b (high + 1) 2500) | _ => .v undef⟩
noncomputable def A_clo2 : List SV → List Dat → Nat → List SV → Ann := fun _ _ _ _ => noAnn

def V_clo2 : Prop :=
  ∀ (B : RW) (n n_1 n_2 n_3 n_4 n_5 : Int) (x : RV) (n_6 n_7 : Int) (c c_1 c_2 : Prop), (IsLst B x ((1 : Nat)) ((5 : Nat)) fun (x : Nat) ↦ [SV.i IntKind.i64 n_6, SV.i IntKind.i64 n_7, SV.p c, SV.p c_1, SV.p c_2]) → (0 :
  Int) ≤ n_6 ∧ n_6 ≤ (2500 : Int) ∧ (0 : Int) ≤ n_7 ∧ n_7 ≤ (2500 : Int) → Ob ((IsLst B x ((1 : Nat)) ((5 : Nat)) fun (x : Nat) ↦ [SV.i IntKind.i64 n_6, SV.i IntKind.i64 n_7, SV.p c, SV.p c_1, SV.p c_2]) ∧ (0 : Nat) < (1 :
  Nat)) ∧ Ob (InR IntKind.i64 (n_7 + (1 : Int))) ∧ Ob True ∧ Ob (insV n n_1 (n_7 + (1 : Int)) (2500 : Int) = insV n n_1 (n_7 + (1 : Int)) (2500 : Int)) ∧ True

set_option linter.unusedSimpArgs false in
set_option maxRecDepth 4000 in
set_option maxHeartbeats 400000 in
theorem v_clo2 : V_clo2 := by
  unfold V_clo2
  intros
  simp only [Ob_iff, and_true, true_and, InR] at *
  all_goals grind

theorem e_clo2 : V_clo2 = needF P [F_inside] A_clo2 F_clo2 := by kernel_rfl

theorem n_clo2 : Ob (needF P [F_inside] A_clo2 F_clo2) := by
  rw [← e_clo2]
  exact ⟨v_clo2⟩

theorem b_clo2 : ((P.funcs[70]?).any fun fn => fn.body.isSome) = true := by kernel_rfl

theorem clo2_ok : Fn0.Ok P F_clo2 := Fn0.ok named (l := [F_inside]) (A := A_clo2) (by rfl) (by
  intro F h
  simp only [List.mem_cons, List.not_mem_nil, or_false] at h
  rcases h with rfl
  · exact inside_ok
) b_clo2 (by
  intro ds N
  simp only [F_clo2]
  split <;> rfl) n_clo2

noncomputable def F_clo3 : Fn0 := ⟨71, [.agg [.i .i64, .i .i64, .i .i64, .i .i64, .i .i64, .i .i64], .ptr [.i .i64, .i .i64, .b, .b, .b]], fun l => match l with | [.z a, .z b, .z sex, .z eggs, .z notch, .z shell, .z low, .z high, .p eg, .p no, .p so] => 0 ≤ low ∧ low ≤ 2500 ∧ 0 ≤ high ∧ high ≤ 2500 | _ => False, fun l => match l with | [.z a, .z b, .z sex, .z eggs, .z notch, .z shell, .z low, .z high, .p eg, .p no, .p so] => .i .i64 (ifV eg eggs) | _ => .v undef⟩
noncomputable def A_clo3 : List SV → List Dat → Nat → List SV → Ann := fun _ _ _ _ => noAnn

def V_clo3 : Prop :=
  ∀ (B : RW) (n n_1 n_2 n_3 n_4 n_5 : Int) (x : RV) (n_6 n_7 : Int) (c c_1 c_2 : Prop), (IsLst B x ((1 : Nat)) ((5 : Nat)) fun (x : Nat) ↦ [SV.i IntKind.i64 n_6, SV.i IntKind.i64 n_7, SV.p c, SV.p c_1, SV.p c_2]) → (0 :
  Int) ≤ n_6 ∧ n_6 ≤ (2500 : Int) ∧ (0 : Int) ≤ n_7 ∧ n_7 ≤ (2500 : Int) → Ob ((IsLst B x ((1 : Nat)) ((5 : Nat)) fun (x : Nat) ↦ [SV.i IntKind.i64 n_6, SV.i IntKind.i64 n_7, SV.p c, SV.p c_1, SV.p c_2]) ∧ (0 : Nat) < (1 :
  Nat)) ∧ Ob True ∧ Ob (ifV c n_3 = ifV c n_3) ∧ True

set_option linter.unusedSimpArgs false in
set_option maxRecDepth 4000 in
set_option maxHeartbeats 400000 in
theorem v_clo3 : V_clo3 := by
  unfold V_clo3
  intros
  simp only [Ob_iff, and_true, true_and, InR] at *
  all_goals grind

theorem e_clo3 : V_clo3 = needF P [F_ifSet] A_clo3 F_clo3 := by kernel_rfl

theorem n_clo3 : Ob (needF P [F_ifSet] A_clo3 F_clo3) := by
  rw [← e_clo3]
  exact ⟨v_clo3⟩

theorem b_clo3 : ((P.funcs[71]?).any fun fn => fn.body.isSome) = true := by kernel_rfl

theorem clo3_ok : Fn0.Ok P F_clo3 := Fn0.ok named (l := [F_ifSet]) (A := A_clo3) (by rfl) (by
  intro F h
  simp only [List.mem_cons, List.not_mem_nil, or_false] at h
  rcases h with rfl
  · exact ifSet_ok
) b_clo3 (by
  intro ds N
  simp only [F_clo3]
  split <;> rfl) n_clo3

noncomputable def F_clo4 : Fn0 := ⟨73, [.agg [.i .i64, .i .i64, .i .i64, .i .i64, .i .i64, .i .i64], .ptr [.i .i64, .i .i64, .b, .b, .b]], fun l => match l with | [.z a, .z b, .z sex, .z eggs, .z notch, .z shell, .z low, .z high, .p eg, .p no, .p so] => 0 ≤ low ∧ low ≤ 2500 ∧ 0 ≤ high ∧ high ≤ 2500 | _ => False, fun l => match l with | [.z a, .z b, .z sex, .z eggs, .z notch, .z shell, .z low, .z high, .p eg, .p no, .p so] => .i .i64 (ifV no notch) | _ => .v undef⟩
noncomputable def A_clo4 : List SV → List Dat → Nat → List SV → Ann := fun _ _ _ _ => noAnn

def V_clo4 : Prop :=
  ∀ (B : RW) (n n_1 n_2 n_3 n_4 n_5 : Int) (x : RV) (n_6 n_7 : Int) (c c_1 c_2 : Prop), (IsLst B x ((1 : Nat)) ((5 : Nat)) fun (x : Nat) ↦ [SV.i IntKind.i64 n_6, SV.i IntKind.i64 n_7, SV.p c, SV.p c_1, SV.p c_2]) → (0 :
  Int) ≤ n_6 ∧ n_6 ≤ (2500 : Int) ∧ (0 : Int) ≤ n_7 ∧ n_7 ≤ (2500 : Int) → Ob ((IsLst B x ((1 : Nat)) ((5 : Nat)) fun (x : Nat) ↦ [SV.i IntKind.i64 n_6, SV.i IntKind.i64 n_7, SV.p c, SV.p c_1, SV.p c_2]) ∧ (0 : Nat) < (1 :
  Nat)) ∧ Ob True ∧ Ob (ifV c_1 n_4 = ifV c_1 n_4) ∧ True

set_option linter.unusedSimpArgs false in
set_option maxRecDepth 4000 in
set_option maxHeartbeats 400000 in
theorem v_clo4 : V_clo4 := by
  unfold V_clo4
  intros
  simp only [Ob_iff, and_true, true_and, InR] at *
  all_goals grind

theorem e_clo4 : V_clo4 = needF P [F_ifSet] A_clo4 F_clo4 := by kernel_rfl

theorem n_clo4 : Ob (needF P [F_ifSet] A_clo4 F_clo4) := by
  rw [← e_clo4]
  exact ⟨v_clo4⟩

theorem b_clo4 : ((P.funcs[73]?).any fun fn => fn.body.isSome) = true := by kernel_rfl

theorem clo4_ok : Fn0.Ok P F_clo4 := Fn0.ok named (l := [F_ifSet]) (A := A_clo4) (by rfl) (by
  intro F h
  simp only [List.mem_cons, List.not_mem_nil, or_false] at h
  rcases h with rfl
  · exact ifSet_ok
) b_clo4 (by
  intro ds N
  simp only [F_clo4]
  split <;> rfl) n_clo4

noncomputable def F_clo5 : Fn0 := ⟨74, [.agg [.i .i64, .i .i64, .i .i64, .i .i64, .i .i64, .i .i64], .ptr [.i .i64, .i .i64, .b, .b, .b]], fun l => match l with | [.z a, .z b, .z sex, .z eggs, .z notch, .z shell, .z low, .z high, .p eg, .p no, .p so] => 0 ≤ low ∧ low ≤ 2500 ∧ 0 ≤ high ∧ high ≤ 2500 | _ => False, fun l => match l with | [.z a, .z b, .z sex, .z eggs, .z notch, .z shell, .z low, .z high, .p eg, .p no, .p so] => .i .i64 (ifV (so ∧ shell = 2) 1) | _ => .v undef⟩
noncomputable def A_clo5 : List SV → List Dat → Nat → List SV → Ann := fun _ _ _ _ => noAnn

def V_clo5 : Prop :=
  ∀ (B : RW) (n n_1 n_2 n_3 n_4 n_5 : Int) (x : RV) (n_6 n_7 : Int) (c c_1 c_2 : Prop), (IsLst B x ((1 : Nat)) ((5 : Nat)) fun (x : Nat) ↦ [SV.i IntKind.i64 n_6, SV.i IntKind.i64 n_7, SV.p c, SV.p c_1, SV.p c_2]) → (0 :
  Int) ≤ n_6 ∧ n_6 ≤ (2500 : Int) ∧ (0 : Int) ≤ n_7 ∧ n_7 ≤ (2500 : Int) → Ob ((IsLst B x ((1 : Nat)) ((5 : Nat)) fun (x : Nat) ↦ [SV.i IntKind.i64 n_6, SV.i IntKind.i64 n_7, SV.p c, SV.p c_1, SV.p c_2]) ∧ (0 : Nat) < (1 :
  Nat)) ∧ (c_2 → Ob True ∧ Ob (ifV (n_5 = (2 : Int)) (1 : Int) = ifV (c_2 ∧ n_5 = (2 : Int)) (1 : Int)) ∧ True) ∧ (¬c_2 → Ob True ∧ Ob (ifV (false = true) (1 : Int) = ifV (c_2 ∧ n_5 = (2 : Int)) (1 : Int)) ∧ True)

set_option linter.unusedSimpArgs false in
set_option maxRecDepth 4000 in
set_option maxHeartbeats 400000 in
theorem v_clo5 : V_clo5 := by
  unfold V_clo5
  intros
  simp only [Ob_iff, and_true, true_and, InR] at *
  all_goals grind

theorem e_clo5 : V_clo5 = needF P [F_ifSet] A_clo5 F_clo5 := by kernel_rfl

theorem n_clo5 : Ob (needF P [F_ifSet] A_clo5 F_clo5) := by
  rw [← e_clo5]
  exact ⟨v_clo5⟩

theorem b_clo5 : ((P.funcs[74]?).any fun fn => fn.body.isSome) = true := by kernel_rfl

theorem clo5_ok : Fn0.Ok P F_clo5 := Fn0.ok named (l := [F_ifSet]) (A := A_clo5) (by rfl) (by
  intro F h
  simp only [List.mem_cons, List.not_mem_nil, or_false] at h
  rcases h with rfl
  · exact ifSet_ok
) b_clo5 (by
  intro ds N
  simp only [F_clo5]
  split <;> rfl) n_clo5

noncomputable def F_reasonsOf : FnE := ⟨50, none, [.agg [.i .i64, .i .i64, .b, .b, .b]], fun _ => True, fun l => match l with | [.z low, .z high, .p eg, .p no, .p so] => [.agg [.fv 69 [0], .fv 70 [0], .fv 71 [0], .fv 73 [0], .fv 74 [0]]] | _ => [], fun l => match l with | [.z low, .z high, .p eg, .p no, .p so] => [.cells [.i .i64 low, .i .i64 high, .p eg, .p no, .p so] .ex] | _ => [], fun l => match l with | [.z low, .z high, .p eg, .p no, .p so] => [] | _ => [], false⟩
noncomputable def A_reasonsOf : List SV → List Dat → Nat → List SV → Ann := fun _ _ _ _ => noAnn

def V_reasonsOf : Prop :=
  ∀ (B : RW) (n n_1 : Int) (c c_1 c_2 : Prop), F_reasonsOf.pre ([Dat.z n, Dat.z n_1, Dat.p c, Dat.p c_1, Dat.p c_2] ++ []) → Ob (n = n) ∧ Ob (n_1 = n_1) ∧ Ob (c ↔ c) ∧ Ob (c_1 ↔ c_1) ∧ Ob (c_2 ↔ c_2) ∧ True

set_option linter.unusedSimpArgs false in
set_option maxRecDepth 4000 in
set_option maxHeartbeats 400000 in
theorem v_reasonsOf : V_reasonsOf := by
  unfold V_reasonsOf
  intros
  simp only [Ob_iff, and_true, true_and, iff_self] at *

theorem e_reasonsOf : V_reasonsOf = needE P [] [] A_reasonsOf F_reasonsOf := by kernel_rfl

theorem n_reasonsOf : Ob (needE P [] [] A_reasonsOf F_reasonsOf) := by
  rw [← e_reasonsOf]
  exact ⟨v_reasonsOf⟩

theorem b_reasonsOf : ((P.funcs[50]?).any fun fn => fn.body.isSome) = true := by kernel_rfl

theorem reasonsOf_ok : FnE.Ok P F_reasonsOf := FnE.ok named (l := []) (es := []) (A := A_reasonsOf) (by rfl) (by rfl) (by rfl) (by
  intro F h; simp at h) (by
  intro F h; simp at h) b_reasonsOf (by
  rintro ds h o ho n sz e k z rfl
  simp only [F_reasonsOf] at ho
  split at ho <;> simp at ho) n_reasonsOf

noncomputable def F_cCheck : Fn0 := ⟨15, [.agg [.i .i64, .i .i64, .b, .b, .b]], fun _ => True, fun l => match l with | [.z low, .z high, .p eg, .p no, .p so] => .i .i64 (gErr low high) | _ => .v undef⟩
noncomputable def A_cCheck : List SV → List Dat → Nat → List SV → Ann := fun _ _ _ _ => noAnn

def V_cCheck : Prop :=
  ∀ (B : RW) (n n_1 : Int) (c c_1 c_2 : Prop), True → Ob True ∧ Ob (spanErr n n_1 (0 : Int) (2500 : Int) = gErr n n_1) ∧ True

set_option linter.unusedSimpArgs false in
set_option maxRecDepth 4000 in
set_option maxHeartbeats 400000 in
theorem v_cCheck : V_cCheck := by
  unfold V_cCheck
  intros
  simp only [Ob_iff, and_true, true_and, gErr]

theorem e_cCheck : V_cCheck = needF P [F_checkSizes] A_cCheck F_cCheck := by kernel_rfl

theorem n_cCheck : Ob (needF P [F_checkSizes] A_cCheck F_cCheck) := by
  rw [← e_cCheck]
  exact ⟨v_cCheck⟩

theorem b_cCheck : ((P.funcs[15]?).any fun fn => fn.body.isSome) = true := by kernel_rfl

theorem cCheck_ok : Fn0.Ok P F_cCheck := Fn0.ok named (l := [F_checkSizes]) (A := A_cCheck) (by rfl) (by
  intro F h
  simp only [List.mem_cons, List.not_mem_nil, or_false] at h
  rcases h with rfl
  · exact checkSizes_ok
) b_cCheck (by
  intro ds N
  simp only [F_cCheck]
  split <;> rfl) n_cCheck

noncomputable def F_r4Check : Fn0 := ⟨16, [.agg [.i .i64, .i .i64, .b, .b, .b]], fun _ => True, fun l => match l with | [.z low, .z high, .p eg, .p no, .p so] => .i .i64 (gErr low high) | _ => .v undef⟩
noncomputable def A_r4Check : List SV → List Dat → Nat → List SV → Ann := fun _ _ _ _ => noAnn

def V_r4Check : Prop :=
  ∀ (B : RW) (n n_1 : Int) (c c_1 c_2 : Prop), True → Ob True ∧ (¬¬inB n (0 : Int) (2500 : Int) → Ob True ∧ (¬inB n_1 (0 : Int) (2500 : Int) → Ob ((1 : Int) = gErr n n_1) ∧ True) ∧ (¬¬inB n_1 (0 : Int) (2500 : Int) → (n_1
  < n → Ob ((8 : Int) = gErr n n_1) ∧ True) ∧ (¬n_1 < n → Ob ((0 : Int) = gErr n n_1) ∧ True))) ∧ (¬inB n (0 : Int) (2500 : Int) → Ob ((1 : Int) = gErr n n_1) ∧ True)

set_option linter.unusedSimpArgs false in
set_option maxRecDepth 4000 in
set_option maxHeartbeats 400000 in
theorem v_r4Check : V_r4Check := by
  unfold V_r4Check
  intros
  simp only [Ob_iff, and_true, true_and, gErr, spanErr, inB] at *
  grind

theorem e_r4Check : V_r4Check = needF P [F_r4within] A_r4Check F_r4Check := by kernel_rfl

theorem n_r4Check : Ob (needF P [F_r4within] A_r4Check F_r4Check) := by
  rw [← e_r4Check]
  exact ⟨v_r4Check⟩

theorem b_r4Check : ((P.funcs[16]?).any fun fn => fn.body.isSome) = true := by kernel_rfl

theorem r4Check_ok : Fn0.Ok P F_r4Check := Fn0.ok named (l := [F_r4within]) (A := A_r4Check) (by rfl) (by
  intro F h
  simp only [List.mem_cons, List.not_mem_nil, or_false] at h
  rcases h with rfl
  · exact r4within_ok
) b_r4Check (by
  intro ds N
  simp only [F_r4Check]
  split <;> rfl) n_r4Check

noncomputable def F_Reasons : FnE := ⟨11, none, [.agg [.i .i64, .i .i64, .b, .b, .b], .agg [.i .i64, .i .i64, .i .i64, .i .i64, .i .i64, .i .i64]], fun _ => True, fun l => match l with | [.z low, .z high, .p eg, .p no, .p so, .z a, .z b, .z sex, .z eggs, .z notch, .z shell] => [.gsl 0 (reaN low high a b sex eggs notch shell) 1 true, .i .i64 (reaErr low high a b sex eggs notch shell)] | _ => [], fun l => match l with | [.z low, .z high, .p eg, .p no, .p so, .z a, .z b, .z sex, .z eggs, .z notch, .z shell] => [.gr (reaN low high a b sex eggs notch shell) 1 (.fn (Rv.elemOf [.i64] (reaR low high eg no so a b eggs notch shell))) .gr true] | _ => [], fun l => match l with | [.z low, .z high, .p eg, .p no, .p so, .z a, .z b, .z sex, .z eggs, .z notch, .z shell] => [] | _ => [], false⟩
noncomputable def A_Reasons : List SV → List Dat → Nat → List SV → Ann := fun xs ds n ts => match xs with
  | [.agg _, .agg _] => match ds with
    | [.z low, .z high, .p eg, .p no, .p so, .z a, .z b, .z sex, .z eggs, .z notch, .z shell] => match n with
      | 9 => ⟨Unit, fun _ => [], fun _ => [], fun _ => True, fun _ => 0, 6⟩
      | _ => noAnn
    | _ => noAnn
  | _ => noAnn

def V_Reasons : Prop :=
  ∀ (B : RW) (n n_1 : Int) (c c_1 c_2 : Prop) (n_2 n_3 n_4 n_5 n_6 n_7 : Int), F_Reasons.pre ([Dat.z n, Dat.z n_1, Dat.p c, Dat.p c_1, Dat.p c_2] ++ ([Dat.z n_2, Dat.z n_3, Dat.z n_4, Dat.z n_5, Dat.z n_6, Dat.z n_7] ++
  [])) → Ob True ∧ (¬gErr n n_1 = (0 : Int) → Ob (reaN n n_1 n_2 n_3 n_4 n_5 n_6 n_7 = (0 : Nat)) ∧ Ob (gErr n n_1 = reaErr n n_1 n_2 n_3 n_4 n_5 n_6 n_7) ∧ Ob (reaN n n_1 n_2 n_3 n_4 n_5 n_6 n_7 = (0 : Nat)) ∧ Ob (PlainE
  (reaN n n_1 n_2 n_3 n_4 n_5 n_6 n_7) (El.fn (Rv.elemOf [IntKind.i64] (reaR n n_1 c c_1 c_2 n_2 n_3 n_5 n_6 n_7)))) ∧ True) ∧ (¬¬gErr n n_1 = (0 : Int) → Ob True ∧ (¬capErr n_2 n_3 n_4 n_5 n_6 n_7 = (0 : Int) → Ob (reaN n
  n_1 n_2 n_3 n_4 n_5 n_6 n_7 = (0 : Nat)) ∧ Ob (capErr n_2 n_3 n_4 n_5 n_6 n_7 = reaErr n n_1 n_2 n_3 n_4 n_5 n_6 n_7) ∧ Ob (reaN n n_1 n_2 n_3 n_4 n_5 n_6 n_7 = (0 : Nat)) ∧ Ob (PlainE (reaN n n_1 n_2 n_3 n_4 n_5 n_6
  n_7) (El.fn (Rv.elemOf [IntKind.i64] (reaR n n_1 c c_1 c_2 n_2 n_3 n_5 n_6 n_7)))) ∧ True) ∧ (¬¬capErr n_2 n_3 n_4 n_5 n_6 n_7 = (0 : Int) → Ob (F_reasonsOf.pre ([Dat.z n, Dat.z n_1, Dat.p c, Dat.p c_1, Dat.p c_2] ++
  [])) ∧ Ob ((0 : Int) ≤ n ∧ n ≤ (2500 : Int) ∧ (0 : Int) ≤ n_1 ∧ n_1 ≤ (2500 : Int)) ∧ Ob ((18 : Nat) ≤ (1099511627776 : Nat)) ∧ Ob ((0 : Int) ≤ n ∧ n ≤ (2500 : Int) ∧ (0 : Int) ≤ n_1 ∧ n_1 ≤ (2500 : Int)) ∧ Ob ((1 : Nat)
  = (1 : Nat) ∧ ∀ (i : Nat), i < (1 : Nat) → ((behind ((0 : Nat)) (El.fn fun (x : Nat) ↦ []) ((1 : Nat)) (litEl [SV.i IntKind.i64 (insV n_2 n_3 (0 : Int) (n - (1 : Int)))] ((1 : Nat)) ((1 : Nat)))).at i).length = (1 :
  Nat)) ∧ Ob ((36 : Nat) ≤ (1099511627776 : Nat)) ∧ Ob ((1 : Nat) = (1 : Nat)) ∧ Ob ((0 : Int) ≤ n ∧ n ≤ (2500 : Int) ∧ (0 : Int) ≤ n_1 ∧ n_1 ≤ (2500 : Int)) ∧ Ob ((2 : Nat) = (2 : Nat) ∧ ∀ (i : Nat), i < (2 : Nat) →
  ((behind ((1 : Nat)) (behind ((0 : Nat)) (El.fn fun (x : Nat) ↦ []) ((1 : Nat)) (litEl [SV.i IntKind.i64 (insV n_2 n_3 (0 : Int) (n - (1 : Int)))] ((1 : Nat)) ((1 : Nat)))) ((1 : Nat)) (litEl [SV.i IntKind.i64 (insV n_2
  n_3 (n_1 + (1 : Int)) (2500 : Int))] ((1 : Nat)) ((1 : Nat)))).at i).length = (1 : Nat)) ∧ Ob ((54 : Nat) ≤ (1099511627776 : Nat)) ∧ Ob ((2 : Nat) = (2 : Nat)) ∧ Ob ((0 : Int) ≤ n ∧ n ≤ (2500 : Int) ∧ (0 : Int) ≤ n_1 ∧
  n_1 ≤ (2500 : Int)) ∧ Ob ((3 : Nat) = (3 : Nat) ∧ ∀ (i : Nat), i < (3 : Nat) → ((behind ((2 : Nat)) (behind ((1 : Nat)) (behind ((0 : Nat)) (El.fn fun (x : Nat) ↦ []) ((1 : Nat)) (litEl [SV.i IntKind.i64 (insV n_2 n_3 (0
  : Int) (n - (1 : Int)))] ((1 : Nat)) ((1 : Nat)))) ((1 : Nat)) (litEl [SV.i IntKind.i64 (insV n_2 n_3 (n_1 + (1 : Int)) (2500 : Int))] ((1 : Nat)) ((1 : Nat)))) ((1 : Nat)) (litEl [SV.i IntKind.i64 (ifV c n_5)] ((1 :
  Nat)) ((1 : Nat)))).at i).length = (1 : Nat)) ∧ Ob ((72 : Nat) ≤ (1099511627776 : Nat)) ∧ Ob ((3 : Nat) = (3 : Nat)) ∧ Ob ((0 : Int) ≤ n ∧ n ≤ (2500 : Int) ∧ (0 : Int) ≤ n_1 ∧ n_1 ≤ (2500 : Int)) ∧ Ob ((4 : Nat) = (4 :
  Nat) ∧ ∀ (i : Nat), i < (4 : Nat) → ((behind ((3 : Nat)) (behind ((2 : Nat)) (behind ((1 : Nat)) (behind ((0 : Nat)) (El.fn fun (x : Nat) ↦ []) ((1 : Nat)) (litEl [SV.i IntKind.i64 (insV n_2 n_3 (0 : Int) (n - (1 :
  Int)))] ((1 : Nat)) ((1 : Nat)))) ((1 : Nat)) (litEl [SV.i IntKind.i64 (insV n_2 n_3 (n_1 + (1 : Int)) (2500 : Int))] ((1 : Nat)) ((1 : Nat)))) ((1 : Nat)) (litEl [SV.i IntKind.i64 (ifV c n_5)] ((1 : Nat)) ((1 : Nat))))
  ((1 : Nat)) (litEl [SV.i IntKind.i64 (ifV c_1 n_6)] ((1 : Nat)) ((1 : Nat)))).at i).length = (1 : Nat)) ∧ Ob ((90 : Nat) ≤ (1099511627776 : Nat)) ∧ Ob ((4 : Nat) = (4 : Nat)) ∧ Ob ((5 : Nat) = reaN n n_1 n_2 n_3 n_4 n_5
  n_6 n_7) ∧ Ob ((0 : Int) = reaErr n n_1 n_2 n_3 n_4 n_5 n_6 n_7) ∧ Ob ((5 : Nat) = reaN n n_1 n_2 n_3 n_4 n_5 n_6 n_7 ∧ ∀ (i : Nat), i < reaN n n_1 n_2 n_3 n_4 n_5 n_6 n_7 → (behind ((4 : Nat)) (behind ((3 : Nat))
  (behind ((2 : Nat)) (behind ((1 : Nat)) (behind ((0 : Nat)) (El.fn fun (x : Nat) ↦ []) ((1 : Nat)) (litEl [SV.i IntKind.i64 (insV n_2 n_3 (0 : Int) (n - (1 : Int)))] ((1 : Nat)) ((1 : Nat)))) ((1 : Nat)) (litEl [SV.i
  IntKind.i64 (insV n_2 n_3 (n_1 + (1 : Int)) (2500 : Int))] ((1 : Nat)) ((1 : Nat)))) ((1 : Nat)) (litEl [SV.i IntKind.i64 (ifV c n_5)] ((1 : Nat)) ((1 : Nat)))) ((1 : Nat)) (litEl [SV.i IntKind.i64 (ifV c_1 n_6)] ((1 :
  Nat)) ((1 : Nat)))) ((1 : Nat)) (litEl [SV.i IntKind.i64 (ifV (c_2 ∧ n_7 = (2 : Int)) (1 : Int))] ((1 : Nat)) ((1 : Nat)))).at i = (El.fn (Rv.elemOf [IntKind.i64] (reaR n n_1 c c_1 c_2 n_2 n_3 n_5 n_6 n_7))).at i) ∧ Ob
  (PlainE (reaN n n_1 n_2 n_3 n_4 n_5 n_6 n_7) (El.fn (Rv.elemOf [IntKind.i64] (reaR n n_1 c c_1 c_2 n_2 n_3 n_5 n_6 n_7)))) ∧ True))

set_option linter.unusedSimpArgs false in
set_option maxRecDepth 4000 in
set_option maxHeartbeats 400000 in
theorem v_Reasons : V_Reasons := by
  unfold V_Reasons
  intro B low high eg no so a b sex eggs notch shell _
  simp only [Ob_iff, and_true, true_and, F_reasonsOf]
  have pz : ∀ n, PlainE n (El.fn (Rv.elemOf [.i64] (reaR low high eg no so a b eggs notch shell))) := fun n => plain_elemOf _ _ _
  have z : ¬ reaErr low high a b sex eggs notch shell = 0 → reaN low high a b sex eggs notch shell = 0 := fun h => by unfold reaN; rw [if_neg h]
  refine ⟨fun h1 => ?_, fun h1 => ⟨fun h2 => ?_, fun h2 => ?_⟩⟩
  · have e : reaErr low high a b sex eggs notch shell = gErr low high := by unfold reaErr; rw [if_neg h1]
    have n0 := z (by rw [e]; exact h1)
    exact ⟨n0, e.symm, n0, pz _⟩
  · have e : reaErr low high a b sex eggs notch shell = capErr a b sex eggs notch shell := by unfold reaErr; rw [if_pos (Classical.not_not.1 h1)]
    have n0 := z (by rw [e]; exact h2)
    exact ⟨n0, e.symm, n0, pz _⟩
  have e : reaErr low high a b sex eggs notch shell = 0 := by unfold reaErr; rw [if_pos (Classical.not_not.1 h1)]; exact Classical.not_not.1 h2
  have hk := rea_ok e
  have hN : reaN low high a b sex eggs notch shell = 5 := by unfold reaN; rw [if_pos e]
  rw [hN, e]
  clear z h1 h2 e hN
  repeat' (with_reducible apply And.intro)
  all_goals first
    | omega
    | exact pz _
    | trivial
    | rfl
    | (intro i hi
       rcases (show i = 0 ∨ i = 1 ∨ i = 2 ∨ i = 3 ∨ i = 4 by omega) with rfl | rfl | rfl | rfl | rfl <;> first | rfl | omega)

theorem e_Reasons : V_Reasons = needE P [F_cCheck, F_CheckCaught, F_clo1, F_clo2, F_clo3, F_clo4, F_clo5] [F_reasonsOf] A_Reasons F_Reasons := by kernel_rfl

theorem n_Reasons : Ob (needE P [F_cCheck, F_CheckCaught, F_clo1, F_clo2, F_clo3, F_clo4, F_clo5] [F_reasonsOf] A_Reasons F_Reasons) := by
  rw [← e_Reasons]
  exact ⟨v_Reasons⟩

theorem b_Reasons : ((P.funcs[11]?).any fun fn => fn.body.isSome) = true := by kernel_rfl

theorem Reasons_ok : FnE.Ok P F_Reasons := FnE.ok named (l := [F_cCheck, F_CheckCaught, F_clo1, F_clo2, F_clo3, F_clo4, F_clo5]) (es := [F_reasonsOf]) (A := A_Reasons) (by rfl) (by rfl) (by rfl) (by
  intro F h
  simp only [List.mem_cons, List.not_mem_nil, or_false] at h
  rcases h with rfl | rfl | rfl | rfl | rfl | rfl | rfl
  · exact cCheck_ok
  · exact CheckCaught_ok
  · exact clo1_ok
  · exact clo2_ok
  · exact clo3_ok
  · exact clo4_ok
  · exact clo5_ok
) (by
  intro F h
  simp only [List.mem_cons, List.not_mem_nil, or_false] at h
  rcases h with rfl
  · exact reasonsOf_ok
) b_Reasons (by
  intro ds h o ho n sz e k z he
  subst he
  simp only [F_Reasons] at ho
  split at ho
  · simp only [List.mem_cons, List.not_mem_nil, or_false, SObj.gr.injEq] at ho
    obtain ⟨rfl, rfl, rfl, rfl, rfl⟩ := ho
    exact plain_elemOf _ _ _
  · simp at ho) n_Reasons

noncomputable def F_told : Fn0 := ⟨75, [.one .b, .one .b], fun _ => True, fun l => match l with | [.p c, .p d] => .i .i64 (toldV c d) | _ => .v undef⟩
noncomputable def A_told : List SV → List Dat → Nat → List SV → Ann := fun _ _ _ _ => noAnn

def V_told : Prop :=
  ∀ (B : RW) (c c_1 : Prop), True → (c → Ob ((1 : Int) = toldV c c_1) ∧ True) ∧ (¬c → (c_1 → Ob ((2 : Int) = toldV c c_1) ∧ True) ∧ (¬c_1 → Ob ((3 : Int) = toldV c c_1) ∧ True))

set_option linter.unusedSimpArgs false in
set_option maxRecDepth 4000 in
set_option maxHeartbeats 400000 in
theorem v_told : V_told := by
  unfold V_told
  intros
  simp only [Ob_iff, and_true, true_and, toldV] at *
  grind

theorem e_told : V_told = needF P [] A_told F_told := by kernel_rfl

theorem n_told : Ob (needF P [] A_told F_told) := by
  rw [← e_told]
  exact ⟨v_told⟩

theorem b_told : ((P.funcs[75]?).any fun fn => fn.body.isSome) = true := by kernel_rfl

theorem told_ok : Fn0.Ok P F_told := Fn0.ok named (l := []) (A := A_told) (by rfl) (by
  intro F h; simp at h) b_told (by
  intro ds N
  simp only [F_told]
  split <;> rfl) n_told

noncomputable def F_counted : Fn0 := ⟨76, [.one .b, i64], fun _ => True, fun l => match l with | [.p c, .z v] => .i .i64 (ifV c v) | _ => .v undef⟩
noncomputable def A_counted : List SV → List Dat → Nat → List SV → Ann := fun _ _ _ _ => noAnn

def V_counted : Prop :=
  ∀ (B : RW) (c : Prop) (n : Int), True → (c → Ob (n = ifV c n) ∧ True) ∧ (¬c → Ob ((2 : Int) = ifV c n) ∧ True)

set_option linter.unusedSimpArgs false in
set_option maxRecDepth 4000 in
set_option maxHeartbeats 400000 in
theorem v_counted : V_counted := by
  unfold V_counted
  intros
  simp only [Ob_iff, and_true, true_and, ifV] at *
  grind

theorem e_counted : V_counted = needF P [] A_counted F_counted := by kernel_rfl

theorem n_counted : Ob (needF P [] A_counted F_counted) := by
  rw [← e_counted]
  exact ⟨v_counted⟩

theorem b_counted : ((P.funcs[76]?).any fun fn => fn.body.isSome) = true := by kernel_rfl

theorem counted_ok : Fn0.Ok P F_counted := Fn0.ok named (l := []) (A := A_counted) (by rfl) (by
  intro F h; simp at h) b_counted (by
  intro ds N
  simp only [F_counted]
  split <;> rfl) n_counted

noncomputable def F_rreasons : FnE := ⟨51, none, [.agg [.i .i64, .i .i64, .b, .b, .b], .agg [.i .i64, .i .i64, .i .i64, .i .i64, .i .i64, .i .i64]], fun l => match l with | [.z low, .z high, .p eg, .p no, .p so, .z a, .z b, .z sex, .z eggs, .z notch, .z shell] => 0 ≤ a ∧ a ≤ b ∧ b ≤ 2500 | _ => False, fun l => match l with | [.z low, .z high, .p eg, .p no, .p so, .z a, .z b, .z sex, .z eggs, .z notch, .z shell] => [.gsl 0 5 1 false] | _ => [], fun l => match l with | [.z low, .z high, .p eg, .p no, .p so, .z a, .z b, .z sex, .z eggs, .z notch, .z shell] => [.gr 5 1 (.fn (Rv.elemOf [.i64] (reaR low high eg no so a b eggs notch shell))) .gr false] | _ => [], fun l => match l with | [.z low, .z high, .p eg, .p no, .p so, .z a, .z b, .z sex, .z eggs, .z notch, .z shell] => [] | _ => [], false⟩
noncomputable def A_rreasons : List SV → List Dat → Nat → List SV → Ann := fun _ _ _ _ => noAnn

def V_rreasons : Prop :=
  ∀ (B : RW) (n n_1 : Int) (c c_1 c_2 : Prop) (n_2 n_3 n_4 n_5 n_6 n_7 : Int), F_rreasons.pre ([Dat.z n, Dat.z n_1, Dat.p c, Dat.p c_1, Dat.p c_2] ++ ([Dat.z n_2, Dat.z n_3, Dat.z n_4, Dat.z n_5, Dat.z n_6, Dat.z n_7] ++
  [])) → Ob True ∧ Ob True ∧ Ob True ∧ Ob True ∧ Ob True ∧ Ob True ∧ Ob ((5 : Nat) = (5 : Nat)) ∧ Ob ((5 : Nat) = (5 : Nat) ∧ ∀ (i : Nat), i < (5 : Nat) → (litEl (symL [SV.i IntKind.i64 (toldV (n_3 < n) (n ≤ n_2)), SV.i
  IntKind.i64 (toldV (n_1 < n_2) (n_3 ≤ n_1)), SV.i IntKind.i64 (ifV c n_5), SV.i IntKind.i64 (ifV c_1 n_6), SV.i IntKind.i64 (ifV c_2 (toldV (n_7 = (2 : Int)) ¬n_7 = (2 : Int)))]) ((1 : Nat)) ((5 : Nat))).at i = (El.fn
  (Rv.elemOf [IntKind.i64] (reaR n n_1 c c_1 c_2 n_2 n_3 n_5 n_6 n_7))).at i) ∧ Ob (PlainE ((5 : Nat)) (El.fn (Rv.elemOf [IntKind.i64] (reaR n n_1 c c_1 c_2 n_2 n_3 n_5 n_6 n_7)))) ∧ True

set_option linter.unusedSimpArgs false in
set_option maxRecDepth 4000 in
set_option maxHeartbeats 400000 in
theorem v_rreasons : V_rreasons := by
  unfold V_rreasons
  intro B low high eg no so a b sex eggs notch shell h
  obtain ⟨h0, h1, h2⟩ : 0 ≤ a ∧ a ≤ b ∧ b ≤ 2500 := h
  simp only [Ob_iff, and_true, true_and]
  have t0 : toldV (b < low) (low ≤ a) = insV a b 0 (low - 1) := by
    unfold toldV insV
    grind
  have t1 : toldV (high < a) (b ≤ high) = insV a b (high + 1) 2500 := by
    unfold toldV insV
    grind
  have t4 : ifV so (toldV (shell = 2) (¬ shell = 2)) = ifV (so ∧ shell = 2) 1 := by
    unfold toldV ifV
    grind
  rw [t0, t1, t4]
  refine ⟨fun i hi => ?_, plain_elemOf _ _ _⟩
  rcases (show i = 0 ∨ i = 1 ∨ i = 2 ∨ i = 3 ∨ i = 4 by omega) with rfl | rfl | rfl | rfl | rfl <;> rfl

theorem e_rreasons : V_rreasons = needE P [F_told, F_counted] [] A_rreasons F_rreasons := by kernel_rfl

theorem n_rreasons : Ob (needE P [F_told, F_counted] [] A_rreasons F_rreasons) := by
  rw [← e_rreasons]
  exact ⟨v_rreasons⟩

theorem b_rreasons : ((P.funcs[51]?).any fun fn => fn.body.isSome) = true := by kernel_rfl

theorem rreasons_ok : FnE.Ok P F_rreasons := FnE.ok named (l := [F_told, F_counted]) (es := []) (A := A_rreasons) (by rfl) (by rfl) (by rfl) (by
  intro F h
  simp only [List.mem_cons, List.not_mem_nil, or_false] at h
  rcases h with rfl | rfl
  · exact told_ok
  · exact counted_ok
) (by
  intro F h; simp at h) b_rreasons (by
  intro ds h o ho n sz e k z he
  subst he
  simp only [F_rreasons] at ho
  split at ho
  · simp only [List.mem_cons, List.not_mem_nil, or_false, SObj.gr.injEq] at ho
    obtain ⟨rfl, rfl, rfl, rfl, rfl⟩ := ho
    exact plain_elemOf _ _ _
  · simp at ho) n_rreasons

noncomputable def F_rReasons : FnE := ⟨12, none, [.agg [.i .i64, .i .i64, .b, .b, .b], .agg [.i .i64, .i .i64, .i .i64, .i .i64, .i .i64, .i .i64]], fun _ => True, fun l => match l with | [.z low, .z high, .p eg, .p no, .p so, .z a, .z b, .z sex, .z eggs, .z notch, .z shell] => [.gsl 0 (reaN low high a b sex eggs notch shell) 1 true, .i .i64 (reaErr low high a b sex eggs notch shell)] | _ => [], fun l => match l with | [.z low, .z high, .p eg, .p no, .p so, .z a, .z b, .z sex, .z eggs, .z notch, .z shell] => [.gr (reaN low high a b sex eggs notch shell) 1 (.fn (Rv.elemOf [.i64] (reaR low high eg no so a b eggs notch shell))) .gr true] | _ => [], fun l => match l with | [.z low, .z high, .p eg, .p no, .p so, .z a, .z b, .z sex, .z eggs, .z notch, .z shell] => [] | _ => [], false⟩
noncomputable def A_rReasons : List SV → List Dat → Nat → List SV → Ann := fun _ _ _ _ => noAnn

def V_rReasons : Prop :=
  ∀ (B : RW) (n n_1 : Int) (c c_1 c_2 : Prop) (n_2 n_3 n_4 n_5 n_6 n_7 : Int), F_rReasons.pre ([Dat.z n, Dat.z n_1, Dat.p c, Dat.p c_1, Dat.p c_2] ++ ([Dat.z n_2, Dat.z n_3, Dat.z n_4, Dat.z n_5, Dat.z n_6, Dat.z n_7] ++
  [])) → Ob True ∧ (¬gErr n n_1 = (0 : Int) → Ob (reaN n n_1 n_2 n_3 n_4 n_5 n_6 n_7 = (0 : Nat)) ∧ Ob (gErr n n_1 = reaErr n n_1 n_2 n_3 n_4 n_5 n_6 n_7) ∧ Ob (reaN n n_1 n_2 n_3 n_4 n_5 n_6 n_7 = (0 : Nat)) ∧ Ob (PlainE
  (reaN n n_1 n_2 n_3 n_4 n_5 n_6 n_7) (El.fn (Rv.elemOf [IntKind.i64] (reaR n n_1 c c_1 c_2 n_2 n_3 n_5 n_6 n_7)))) ∧ True) ∧ (¬¬gErr n n_1 = (0 : Int) → Ob True ∧ (¬capErr n_2 n_3 n_4 n_5 n_6 n_7 = (0 : Int) → Ob (reaN n
  n_1 n_2 n_3 n_4 n_5 n_6 n_7 = (0 : Nat)) ∧ Ob (capErr n_2 n_3 n_4 n_5 n_6 n_7 = reaErr n n_1 n_2 n_3 n_4 n_5 n_6 n_7) ∧ Ob (reaN n n_1 n_2 n_3 n_4 n_5 n_6 n_7 = (0 : Nat)) ∧ Ob (PlainE (reaN n n_1 n_2 n_3 n_4 n_5 n_6
  n_7) (El.fn (Rv.elemOf [IntKind.i64] (reaR n n_1 c c_1 c_2 n_2 n_3 n_5 n_6 n_7)))) ∧ True) ∧ (¬¬capErr n_2 n_3 n_4 n_5 n_6 n_7 = (0 : Int) → Ob (F_rreasons.pre ([Dat.z n, Dat.z n_1, Dat.p c, Dat.p c_1, Dat.p c_2] ++
  ([Dat.z n_2, Dat.z n_3, Dat.z n_4, Dat.z n_5, Dat.z n_6, Dat.z n_7] ++ []))) ∧ Ob ((5 : Nat) = reaN n n_1 n_2 n_3 n_4 n_5 n_6 n_7 ∧ (0 : Nat) < reaN n n_1 n_2 n_3 n_4 n_5 n_6 n_7) ∧ Ob ((0 : Int) = reaErr n n_1 n_2 n_3
  n_4 n_5 n_6 n_7) ∧ Ob ((5 : Nat) = reaN n n_1 n_2 n_3 n_4 n_5 n_6 n_7 ∧ ∀ (i : Nat), i < reaN n n_1 n_2 n_3 n_4 n_5 n_6 n_7 → (El.fn (Rv.elemOf [IntKind.i64] (reaR n n_1 c c_1 c_2 n_2 n_3 n_5 n_6 n_7))).at i = (El.fn
  (Rv.elemOf [IntKind.i64] (reaR n n_1 c c_1 c_2 n_2 n_3 n_5 n_6 n_7))).at i) ∧ Ob (PlainE (reaN n n_1 n_2 n_3 n_4 n_5 n_6 n_7) (El.fn (Rv.elemOf [IntKind.i64] (reaR n n_1 c c_1 c_2 n_2 n_3 n_5 n_6 n_7)))) ∧ True))

set_option linter.unusedSimpArgs false in
set_option maxRecDepth 4000 in
set_option maxHeartbeats 400000 in
theorem v_rReasons : V_rReasons := by
  unfold V_rReasons
  intro B low high eg no so a b sex eggs notch shell _
  simp only [Ob_iff, and_true, true_and]
  have pz : ∀ n, PlainE n (El.fn (Rv.elemOf [.i64] (reaR low high eg no so a b eggs notch shell))) := fun n => plain_elemOf _ _ _
  have z : ¬ reaErr low high a b sex eggs notch shell = 0 → reaN low high a b sex eggs notch shell = 0 := fun h => by unfold reaN; rw [if_neg h]
  refine ⟨fun h1 => ?_, fun h1 => ⟨fun h2 => ?_, fun h2 => ?_⟩⟩
  · have e : reaErr low high a b sex eggs notch shell = gErr low high := by unfold reaErr; rw [if_neg h1]
    have n0 := z (by rw [e]; exact h1)
    exact ⟨n0, e.symm, n0, pz _⟩
  · have e : reaErr low high a b sex eggs notch shell = capErr a b sex eggs notch shell := by unfold reaErr; rw [if_pos (Classical.not_not.1 h1)]
    have n0 := z (by rw [e]; exact h2)
    exact ⟨n0, e.symm, n0, pz _⟩
  have e : reaErr low high a b sex eggs notch shell = 0 := by unfold reaErr; rw [if_pos (Classical.not_not.1 h1)]; exact Classical.not_not.1 h2
  have hk := rea_ok e
  have hN : reaN low high a b sex eggs notch shell = 5 := by unfold reaN; rw [if_pos e]
  rw [hN, e]
  refine ⟨⟨hk.2.2.2.1, hk.2.2.2.2.1, hk.2.2.2.2.2.1⟩, ?_⟩
  repeat' (with_reducible apply And.intro)
  all_goals first | omega | trivial | exact fun _ _ => trivial | exact fun _ _ => rfl | exact pz _ | rfl

theorem e_rReasons : V_rReasons = needE P [F_r4Check, F_rCheckCaught] [F_rreasons] A_rReasons F_rReasons := by kernel_rfl

theorem n_rReasons : Ob (needE P [F_r4Check, F_rCheckCaught] [F_rreasons] A_rReasons F_rReasons) := by
  rw [← e_rReasons]
  exact ⟨v_rReasons⟩

theorem b_rReasons : ((P.funcs[12]?).any fun fn => fn.body.isSome) = true := by kernel_rfl

theorem rReasons_ok : FnE.Ok P F_rReasons := FnE.ok named (l := [F_r4Check, F_rCheckCaught]) (es := [F_rreasons]) (A := A_rReasons) (by rfl) (by rfl) (by rfl) (by
  intro F h
  simp only [List.mem_cons, List.not_mem_nil, or_false] at h
  rcases h with rfl | rfl
  · exact r4Check_ok
  · exact rCheckCaught_ok
) (by
  intro F h
  simp only [List.mem_cons, List.not_mem_nil, or_false] at h
  rcases h with rfl
  · exact rreasons_ok
) b_rReasons (by
  intro ds h o ho n sz e k z he
  subst he
  simp only [F_rReasons] at ho
  split at ho
  · simp only [List.mem_cons, List.not_mem_nil, or_false, SObj.gr.injEq] at ho
    obtain ⟨rfl, rfl, rfl, rfl, rfl⟩ := ho
    exact plain_elemOf _ _ _
  · simp at ho) n_rReasons

noncomputable def F_Keep : FnE := ⟨13, none, [.agg [.i .i64, .i .i64, .b, .b, .b], .agg [.i .i64, .i .i64, .i .i64, .i .i64, .i .i64, .i .i64]], fun _ => True, fun l => match l with | [.z low, .z high, .p eg, .p no, .p so, .z a, .z b, .z sex, .z eggs, .z notch, .z shell] => [.i .i64 (keepV low high eg no so a b sex eggs notch shell), .i .i64 (reaErr low high a b sex eggs notch shell)] | _ => [], fun l => match l with | [.z low, .z high, .p eg, .p no, .p so, .z a, .z b, .z sex, .z eggs, .z notch, .z shell] => [] | _ => [], fun l => match l with | [.z low, .z high, .p eg, .p no, .p so, .z a, .z b, .z sex, .z eggs, .z notch, .z shell] => [] | _ => [], false⟩
noncomputable def A_Keep : List SV → List Dat → Nat → List SV → Ann := fun xs ds n ts => match xs with
  | [.agg _, .agg _] => match ds with
    | [.z low, .z high, .p eg, .p no, .p so, .z a, .z b, .z sex, .z eggs, .z notch, .z shell] => match n with
      | 6 => ⟨Nat, fun k => [none, none, none, none, none, none, none, none, some (.i .i64 (kpTo (reaR low high eg no so a b eggs notch shell) k)), none, none, none, none, none, none, none, none, none, none, none, some (SV.gsl ((2 : Nat)) (reaN low high a b sex eggs notch shell) ((1 : Nat)) true), some (SV.i IntKind.i64 (↑(reaN low high a b sex eggs notch shell) : Int)), some (.i .i64 k), none, none, none, none, none, none, none, none, none, none], fun k => [SObj.gr (reaN low high a b sex eggs notch shell) ((1 : Nat)) (El.fn (Rv.elemOf [IntKind.i64] (reaR low high eg no so a b eggs notch shell))) Kd.gr true, SObj.cells [SV.i IntKind.i64 a, SV.i IntKind.i64 b, SV.i IntKind.i64 sex, SV.i IntKind.i64 eggs, SV.i IntKind.i64 notch, SV.i IntKind.i64 shell] Kd.ex, SObj.cells [SV.i IntKind.i64 low, SV.i IntKind.i64 high, SV.p eg, SV.p no, SV.p so] Kd.ex], fun k => k ≤ reaN low high a b sex eggs notch shell ∧ ∀ j, j < k → ¬ cell (reaR low high eg no so a b eggs notch shell) j 0 = 1, fun k => reaN low high a b sex eggs notch shell - k, 0⟩
      | _ => noAnn
    | _ => noAnn
  | _ => noAnn

def V_Keep : Prop :=
  ∀ (B : RW) (n n_1 : Int) (c c_1 c_2 : Prop) (n_2 n_3 n_4 n_5 n_6 n_7 : Int), F_Keep.pre ([Dat.z n, Dat.z n_1, Dat.p c, Dat.p c_1, Dat.p c_2] ++ ([Dat.z n_2, Dat.z n_3, Dat.z n_4, Dat.z n_5, Dat.z n_6, Dat.z n_7] ++ []))
  → Ob (F_Reasons.pre ([Dat.z n, Dat.z n_1, Dat.p c, Dat.p c_1, Dat.p c_2] ++ ([Dat.z n_2, Dat.z n_3, Dat.z n_4, Dat.z n_5, Dat.z n_6, Dat.z n_7] ++ []))) ∧ (¬reaErr n n_1 n_2 n_3 n_4 n_5 n_6 n_7 = (0 : Int) → Ob ((0 :
  Int) = keepV n n_1 c c_1 c_2 n_2 n_3 n_4 n_5 n_6 n_7) ∧ Ob (reaErr n n_1 n_2 n_3 n_4 n_5 n_6 n_7 = reaErr n n_1 n_2 n_3 n_4 n_5 n_6 n_7) ∧ True) ∧ (¬¬reaErr n n_1 n_2 n_3 n_4 n_5 n_6 n_7 = (0 : Int) → (∃ (a : Nat), Ob (a
  ≤ reaN n n_1 n_2 n_3 n_4 n_5 n_6 n_7 ∧ ∀ (j : Nat), j < a → ¬cell (reaR n n_1 c c_1 c_2 n_2 n_3 n_5 n_6 n_7) j ((0 : Nat)) = (1 : Int)) ∧ Ob ((1 : Int) = kpTo (reaR n n_1 c c_1 c_2 n_2 n_3 n_5 n_6 n_7) a) ∧ Ob (reaN n
  n_1 n_2 n_3 n_4 n_5 n_6 n_7 = reaN n n_1 n_2 n_3 n_4 n_5 n_6 n_7) ∧ Ob ((↑(reaN n n_1 n_2 n_3 n_4 n_5 n_6 n_7) : Int) = (↑(reaN n n_1 n_2 n_3 n_4 n_5 n_6 n_7) : Int)) ∧ Ob ((0 : Int) = (↑a : Int)) ∧ Ob (reaN n n_1 n_2
  n_3 n_4 n_5 n_6 n_7 = reaN n n_1 n_2 n_3 n_4 n_5 n_6 n_7 ∧ ∀ (i : Nat), i < reaN n n_1 n_2 n_3 n_4 n_5 n_6 n_7 → (El.fn (Rv.elemOf [IntKind.i64] (reaR n n_1 c c_1 c_2 n_2 n_3 n_5 n_6 n_7))).at i = (El.fn (Rv.elemOf
  [IntKind.i64] (reaR n n_1 c c_1 c_2 n_2 n_3 n_5 n_6 n_7))).at i) ∧ Ob (n_2 = n_2) ∧ Ob (n_3 = n_3) ∧ Ob (n_4 = n_4) ∧ Ob (n_5 = n_5) ∧ Ob (n_6 = n_6) ∧ Ob (n_7 = n_7) ∧ Ob (n = n) ∧ Ob (n_1 = n_1) ∧ Ob (c ↔ c) ∧ Ob (c_1
  ↔ c_1) ∧ Ob (c_2 ↔ c_2) ∧ Ob (PlainE (reaN n n_1 n_2 n_3 n_4 n_5 n_6 n_7) (El.fn (Rv.elemOf [IntKind.i64] (reaR n n_1 c c_1 c_2 n_2 n_3 n_5 n_6 n_7)))) ∧ True) ∧ ∀ (a : Nat), (a ≤ reaN n n_1 n_2 n_3 n_4 n_5 n_6 n_7 ∧ ∀
  (j : Nat), j < a → ¬cell (reaR n n_1 c c_1 c_2 n_2 n_3 n_5 n_6 n_7) j ((0 : Nat)) = (1 : Int)) → ∀ (z z_1 z_2 z_3 z_4 z_5 z_6 z_7 z_8 z_9 z_10 z_11 z_12 z_13 z_14 z_15 z_16 z_17 z_18 z_19 z_20 z_21 z_22 z_23 z_24 z_25
  z_26 z_27 z_28 : Value), ((↑a : Int) < (↑(reaN n n_1 n_2 n_3 n_4 n_5 n_6 n_7) : Int) → Ob ((0 : Int) ≤ (↑a : Int) ∧ a < reaN n n_1 n_2 n_3 n_4 n_5 n_6 n_7) ∧ Ob (a < reaN n n_1 n_2 n_3 n_4 n_5 n_6 n_7) ∧ (cell (reaR n
  n_1 c c_1 c_2 n_2 n_3 n_5 n_6 n_7) a ((0 : Nat)) = (1 : Int) → Ob ((2 : Int) = keepV n n_1 c c_1 c_2 n_2 n_3 n_4 n_5 n_6 n_7) ∧ Ob ((0 : Int) = reaErr n n_1 n_2 n_3 n_4 n_5 n_6 n_7) ∧ True) ∧ (¬cell (reaR n n_1 c c_1 c_2
  n_2 n_3 n_5 n_6 n_7) a ((0 : Nat)) = (1 : Int) → (cell (reaR n n_1 c c_1 c_2 n_2 n_3 n_5 n_6 n_7) a ((0 : Nat)) = (3 : Int) → Ob (InR IntKind.i64 ((↑a : Int) + (1 : Int))) ∧ ∃ (a' : Nat), Ob ((a' ≤ reaN n n_1 n_2 n_3 n_4
  n_5 n_6 n_7 ∧ ∀ (j : Nat), j < a' → ¬cell (reaR n n_1 c c_1 c_2 n_2 n_3 n_5 n_6 n_7) j ((0 : Nat)) = (1 : Int)) ∧ reaN n n_1 n_2 n_3 n_4 n_5 n_6 n_7 - a' < reaN n n_1 n_2 n_3 n_4 n_5 n_6 n_7 - a) ∧ Ob ((3 : Int) = kpTo
  (reaR n n_1 c c_1 c_2 n_2 n_3 n_5 n_6 n_7) a') ∧ Ob (reaN n n_1 n_2 n_3 n_4 n_5 n_6 n_7 = reaN n n_1 n_2 n_3 n_4 n_5 n_6 n_7) ∧ Ob ((↑(reaN n n_1 n_2 n_3 n_4 n_5 n_6 n_7) : Int) = (↑(reaN n n_1 n_2 n_3 n_4 n_5 n_6 n_7) :
  Int)) ∧ Ob ((↑a : Int) + (1 : Int) = (↑a' : Int)) ∧ Ob (reaN n n_1 n_2 n_3 n_4 n_5 n_6 n_7 = reaN n n_1 n_2 n_3 n_4 n_5 n_6 n_7 ∧ ∀ (i : Nat), i < reaN n n_1 n_2 n_3 n_4 n_5 n_6 n_7 → (El.fn (Rv.elemOf [IntKind.i64]
  (reaR n n_1 c c_1 c_2 n_2 n_3 n_5 n_6 n_7))).at i = (El.fn (Rv.elemOf [IntKind.i64] (reaR n n_1 c c_1 c_2 n_2 n_3 n_5 n_6 n_7))).at i) ∧ Ob (n_2 = n_2) ∧ Ob (n_3 = n_3) ∧ Ob (n_4 = n_4) ∧ Ob (n_5 = n_5) ∧ Ob (n_6 = n_6)
  ∧ Ob (n_7 = n_7) ∧ Ob (n = n) ∧ Ob (n_1 = n_1) ∧ Ob (c ↔ c) ∧ Ob (c_1 ↔ c_1) ∧ Ob (c_2 ↔ c_2) ∧ Ob (PlainE (reaN n n_1 n_2 n_3 n_4 n_5 n_6 n_7) (El.fn (Rv.elemOf [IntKind.i64] (reaR n n_1 c c_1 c_2 n_2 n_3 n_5 n_6
  n_7)))) ∧ True) ∧ (¬cell (reaR n n_1 c c_1 c_2 n_2 n_3 n_5 n_6 n_7) a ((0 : Nat)) = (3 : Int) → Ob (InR IntKind.i64 ((↑a : Int) + (1 : Int))) ∧ ∃ (a' : Nat), Ob ((a' ≤ reaN n n_1 n_2 n_3 n_4 n_5 n_6 n_7 ∧ ∀ (j : Nat), j
  < a' → ¬cell (reaR n n_1 c c_1 c_2 n_2 n_3 n_5 n_6 n_7) j ((0 : Nat)) = (1 : Int)) ∧ reaN n n_1 n_2 n_3 n_4 n_5 n_6 n_7 - a' < reaN n n_1 n_2 n_3 n_4 n_5 n_6 n_7 - a) ∧ Ob (kpTo (reaR n n_1 c c_1 c_2 n_2 n_3 n_5 n_6 n_7)
  a = kpTo (reaR n n_1 c c_1 c_2 n_2 n_3 n_5 n_6 n_7) a') ∧ Ob (reaN n n_1 n_2 n_3 n_4 n_5 n_6 n_7 = reaN n n_1 n_2 n_3 n_4 n_5 n_6 n_7) ∧ Ob ((↑(reaN n n_1 n_2 n_3 n_4 n_5 n_6 n_7) : Int) = (↑(reaN n n_1 n_2 n_3 n_4 n_5
  n_6 n_7) : Int)) ∧ Ob ((↑a : Int) + (1 : Int) = (↑a' : Int)) ∧ Ob (reaN n n_1 n_2 n_3 n_4 n_5 n_6 n_7 = reaN n n_1 n_2 n_3 n_4 n_5 n_6 n_7 ∧ ∀ (i : Nat), i < reaN n n_1 n_2 n_3 n_4 n_5 n_6 n_7 → (El.fn (Rv.elemOf
  [IntKind.i64] (reaR n n_1 c c_1 c_2 n_2 n_3 n_5 n_6 n_7))).at i = (El.fn (Rv.elemOf [IntKind.i64] (reaR n n_1 c c_1 c_2 n_2 n_3 n_5 n_6 n_7))).at i) ∧ Ob (n_2 = n_2) ∧ Ob (n_3 = n_3) ∧ Ob (n_4 = n_4) ∧ Ob (n_5 = n_5) ∧
  Ob (n_6 = n_6) ∧ Ob (n_7 = n_7) ∧ Ob (n = n) ∧ Ob (n_1 = n_1) ∧ Ob (c ↔ c) ∧ Ob (c_1 ↔ c_1) ∧ Ob (c_2 ↔ c_2) ∧ Ob (PlainE (reaN n n_1 n_2 n_3 n_4 n_5 n_6 n_7) (El.fn (Rv.elemOf [IntKind.i64] (reaR n n_1 c c_1 c_2 n_2 n_3
  n_5 n_6 n_7)))) ∧ True))) ∧ (¬(↑a : Int) < (↑(reaN n n_1 n_2 n_3 n_4 n_5 n_6 n_7) : Int) → Ob (kpTo (reaR n n_1 c c_1 c_2 n_2 n_3 n_5 n_6 n_7) a = keepV n n_1 c c_1 c_2 n_2 n_3 n_4 n_5 n_6 n_7) ∧ Ob ((0 : Int) = reaErr n
  n_1 n_2 n_3 n_4 n_5 n_6 n_7) ∧ True))

set_option linter.unusedSimpArgs false in
set_option maxRecDepth 4000 in
set_option maxHeartbeats 400000 in
theorem v_Keep : V_Keep := by
  unfold V_Keep
  intro B low high eg no so a b sex eggs notch shell _
  simp only [Ob_iff]
  have pz : ∀ n, PlainE n (El.fn (Rv.elemOf [.i64] (reaR low high eg no so a b eggs notch shell))) := fun n => plain_elemOf _ _ _
  refine ⟨trivial, fun h1 => ⟨?_, trivial, trivial⟩, fun h1 => ?_⟩
  · unfold keepV
    rw [if_neg h1]
  have e := Classical.not_not.1 h1
  have hN : reaN low high a b sex eggs notch shell = 5 := by unfold reaN; rw [if_pos e]
  have hK : keepV low high eg no so a b sex eggs notch shell = kpV (reaR low high eg no so a b eggs notch shell) 5 := by unfold keepV; rw [if_pos e]
  rw [hN, e, hK]
  clear h1 hN hK
  obtain ⟨R, hR⟩ : ∃ R, reaR low high eg no so a b eggs notch shell = R := ⟨_, rfl⟩
  rw [hR] at pz
  rw [hR]
  clear hR
  refine ⟨⟨0, ?_⟩, ?_⟩
  · repeat' (with_reducible apply And.intro)
    all_goals first | omega | exact pz _ | trivial | exact Iff.rfl | rfl | exact fun _ _ => trivial | exact fun _ _ => rfl | exact fun j hj => absurd hj (Nat.not_lt_zero j)
  intro k ⟨hk, hn⟩
  intros
  have nx : ¬ cell R k 0 = 1 → ∀ j, j < k + 1 → ¬ cell R j 0 = 1 := fun h j hj => by
    by_cases ej : j = k
    · subst ej; exact h
    · exact hn j (by omega)
  have kp : kpTo R (k + 1) = if cell R k 0 = 3 then 3 else kpTo R k := rfl
  have five : ((5 : Nat) : Int) = 5 := rfl
  refine ⟨fun h2 => ⟨⟨by omega, by omega⟩, by omega, fun h3 => ⟨?_, rfl, trivial⟩, fun h3 => ⟨fun h4 => ⟨by simp only [InR]; omega, k + 1, ?_⟩, fun h4 => ⟨by simp only [InR]; omega, k + 1, ?_⟩⟩⟩, fun h2 => ⟨?_, rfl, trivial⟩⟩
  · exact (kpV_one (show k < 5 by omega) h3).symm
  · rw [kp, if_pos h4]
    repeat' (with_reducible apply And.intro)
    all_goals first | omega | exact nx h3 | exact pz _ | trivial | exact Iff.rfl | rfl | exact fun _ _ => trivial | exact fun _ _ => rfl
  · rw [kp, if_neg h4]
    repeat' (with_reducible apply And.intro)
    all_goals first | omega | exact nx h3 | exact pz _ | trivial | exact Iff.rfl | rfl | exact fun _ _ => trivial | exact fun _ _ => rfl
  · have ek : k = 5 := by omega
    subst ek
    exact (kpV_none hn).symm

theorem e_Keep : V_Keep = needE P [] [F_Reasons] A_Keep F_Keep := by kernel_rfl

theorem n_Keep : Ob (needE P [] [F_Reasons] A_Keep F_Keep) := by
  rw [← e_Keep]
  exact ⟨v_Keep⟩

theorem b_Keep : ((P.funcs[13]?).any fun fn => fn.body.isSome) = true := by kernel_rfl

theorem Keep_ok : FnE.Ok P F_Keep := FnE.ok named (l := []) (es := [F_Reasons]) (A := A_Keep) (by rfl) (by rfl) (by rfl) (by
  intro F h; simp at h) (by
  intro F h
  simp only [List.mem_cons, List.not_mem_nil, or_false] at h
  rcases h with rfl
  · exact Reasons_ok
) b_Keep (by
  rintro ds h o ho n sz e k z rfl
  simp only [F_Keep] at ho
  split at ho <;> simp at ho) n_Keep

noncomputable def F_rkeep : FnE := ⟨52, none, [.agg [.i .i64, .i .i64, .b, .b, .b], .agg [.i .i64, .i .i64, .i .i64, .i .i64, .i .i64, .i .i64]], fun l => match l with | [.z low, .z high, .p eg, .p no, .p so, .z a, .z b, .z sex, .z eggs, .z notch, .z shell] => 0 ≤ a ∧ a ≤ b ∧ b ≤ 2500 | _ => False, fun l => match l with | [.z low, .z high, .p eg, .p no, .p so, .z a, .z b, .z sex, .z eggs, .z notch, .z shell] => [.i .i64 (kpV (reaR low high eg no so a b eggs notch shell) 5)] | _ => [], fun l => match l with | [.z low, .z high, .p eg, .p no, .p so, .z a, .z b, .z sex, .z eggs, .z notch, .z shell] => [] | _ => [], fun l => match l with | [.z low, .z high, .p eg, .p no, .p so, .z a, .z b, .z sex, .z eggs, .z notch, .z shell] => [] | _ => [], false⟩
noncomputable def A_rkeep : List SV → List Dat → Nat → List SV → Ann := fun xs ds n ts => match xs with
  | [.agg _, .agg _] => match ds with
    | [.z low, .z high, .p eg, .p no, .p so, .z a, .z b, .z sex, .z eggs, .z notch, .z shell] => match n with
      | 4 => ⟨Nat, fun k => [none, none, none, none, none, some (SV.gsl ((2 : Nat)) ((5 : Nat)) ((1 : Nat)) false), some (.p (∃ j, j < k ∧ cell (reaR low high eg no so a b eggs notch shell) j 0 = 3)), some (.i .i64 k), none, none, none, none, none, none, none, none, none, none, none, none, none, none, none, none, none, none, none, none, none, none, none], fun k => [SObj.gr ((5 : Nat)) ((1 : Nat)) (El.fn (Rv.elemOf [IntKind.i64] (reaR low high eg no so a b eggs notch shell))) Kd.gr false, SObj.cells [SV.i IntKind.i64 a, SV.i IntKind.i64 b, SV.i IntKind.i64 sex, SV.i IntKind.i64 eggs, SV.i IntKind.i64 notch, SV.i IntKind.i64 shell] Kd.ex, SObj.cells [SV.i IntKind.i64 low, SV.i IntKind.i64 high, SV.p eg, SV.p no, SV.p so] Kd.ex], fun k => k ≤ 5 ∧ ∀ j, j < k → ¬ cell (reaR low high eg no so a b eggs notch shell) j 0 = 1, fun k => 5 - k, 0⟩
      | _ => noAnn
    | _ => noAnn
  | _ => noAnn

def V_rkeep : Prop :=
  ∀ (B : RW) (n n_1 : Int) (c c_1 c_2 : Prop) (n_2 n_3 n_4 n_5 n_6 n_7 : Int), F_rkeep.pre ([Dat.z n, Dat.z n_1, Dat.p c, Dat.p c_1, Dat.p c_2] ++ ([Dat.z n_2, Dat.z n_3, Dat.z n_4, Dat.z n_5, Dat.z n_6, Dat.z n_7] ++ []))
  → Ob (F_rreasons.pre ([Dat.z n, Dat.z n_1, Dat.p c, Dat.p c_1, Dat.p c_2] ++ ([Dat.z n_2, Dat.z n_3, Dat.z n_4, Dat.z n_5, Dat.z n_6, Dat.z n_7] ++ []))) ∧ (∃ (a : Nat), Ob (a ≤ (5 : Nat) ∧ ∀ (j : Nat), j < a → ¬cell
  (reaR n n_1 c c_1 c_2 n_2 n_3 n_5 n_6 n_7) j ((0 : Nat)) = (1 : Int)) ∧ Ob ((5 : Nat) = (5 : Nat)) ∧ Ob (false = true ↔ ∃ (j : Nat), j < a ∧ cell (reaR n n_1 c c_1 c_2 n_2 n_3 n_5 n_6 n_7) j ((0 : Nat)) = (3 : Int)) ∧ Ob
  ((0 : Int) = (↑a : Int)) ∧ Ob ((5 : Nat) = (5 : Nat) ∧ ∀ (i : Nat), i < (5 : Nat) → (El.fn (Rv.elemOf [IntKind.i64] (reaR n n_1 c c_1 c_2 n_2 n_3 n_5 n_6 n_7))).at i = (El.fn (Rv.elemOf [IntKind.i64] (reaR n n_1 c c_1
  c_2 n_2 n_3 n_5 n_6 n_7))).at i) ∧ Ob (n_2 = n_2) ∧ Ob (n_3 = n_3) ∧ Ob (n_4 = n_4) ∧ Ob (n_5 = n_5) ∧ Ob (n_6 = n_6) ∧ Ob (n_7 = n_7) ∧ Ob (n = n) ∧ Ob (n_1 = n_1) ∧ Ob (c ↔ c) ∧ Ob (c_1 ↔ c_1) ∧ Ob (c_2 ↔ c_2) ∧ Ob
  (PlainE ((5 : Nat)) (El.fn (Rv.elemOf [IntKind.i64] (reaR n n_1 c c_1 c_2 n_2 n_3 n_5 n_6 n_7)))) ∧ True) ∧ ∀ (a : Nat), (a ≤ (5 : Nat) ∧ ∀ (j : Nat), j < a → ¬cell (reaR n n_1 c c_1 c_2 n_2 n_3 n_5 n_6 n_7) j ((0 :
  Nat)) = (1 : Int)) → ∀ (z z_1 z_2 z_3 z_4 z_5 z_6 z_7 z_8 z_9 z_10 z_11 z_12 z_13 z_14 z_15 z_16 z_17 z_18 z_19 z_20 z_21 z_22 z_23 z_24 z_25 z_26 z_27 : Value), ((↑a : Int) < (↑((5 : Nat)) : Int) → Ob ((0 : Int) ≤ (↑a :
  Int) ∧ a < (5 : Nat)) ∧ Ob (a < (5 : Nat)) ∧ (cell (reaR n n_1 c c_1 c_2 n_2 n_3 n_5 n_6 n_7) a ((0 : Nat)) = (1 : Int) → Ob ((2 : Int) = kpV (reaR n n_1 c c_1 c_2 n_2 n_3 n_5 n_6 n_7) ((5 : Nat))) ∧ True) ∧ (¬cell (reaR
  n n_1 c c_1 c_2 n_2 n_3 n_5 n_6 n_7) a ((0 : Nat)) = (1 : Int) → ((¬∃ (j : Nat), j < a ∧ cell (reaR n n_1 c c_1 c_2 n_2 n_3 n_5 n_6 n_7) j ((0 : Nat)) = (3 : Int)) → Ob ((0 : Int) ≤ (↑a : Int) ∧ a < (5 : Nat)) ∧ Ob (a <
  (5 : Nat)) ∧ Ob (InR IntKind.i64 ((↑a : Int) + (1 : Int))) ∧ ∃ (a' : Nat), Ob ((a' ≤ (5 : Nat) ∧ ∀ (j : Nat), j < a' → ¬cell (reaR n n_1 c c_1 c_2 n_2 n_3 n_5 n_6 n_7) j ((0 : Nat)) = (1 : Int)) ∧ (5 : Nat) - a' < (5 :
  Nat) - a) ∧ Ob ((5 : Nat) = (5 : Nat)) ∧ Ob (cell (reaR n n_1 c c_1 c_2 n_2 n_3 n_5 n_6 n_7) a ((0 : Nat)) = (3 : Int) ↔ ∃ (j : Nat), j < a' ∧ cell (reaR n n_1 c c_1 c_2 n_2 n_3 n_5 n_6 n_7) j ((0 : Nat)) = (3 : Int)) ∧
  Ob ((↑a : Int) + (1 : Int) = (↑a' : Int)) ∧ Ob ((5 : Nat) = (5 : Nat) ∧ ∀ (i : Nat), i < (5 : Nat) → (El.fn (Rv.elemOf [IntKind.i64] (reaR n n_1 c c_1 c_2 n_2 n_3 n_5 n_6 n_7))).at i = (El.fn (Rv.elemOf [IntKind.i64]
  (reaR n n_1 c c_1 c_2 n_2 n_3 n_5 n_6 n_7))).at i) ∧ Ob (n_2 = n_2) ∧ Ob (n_3 = n_3) ∧ Ob (n_4 = n_4) ∧ Ob (n_5 = n_5) ∧ Ob (n_6 = n_6) ∧ Ob (n_7 = n_7) ∧ Ob (n = n) ∧ Ob (n_1 = n_1) ∧ Ob (c ↔ c) ∧ Ob (c_1 ↔ c_1) ∧ Ob
  (c_2 ↔ c_2) ∧ Ob (PlainE ((5 : Nat)) (El.fn (Rv.elemOf [IntKind.i64] (reaR n n_1 c c_1 c_2 n_2 n_3 n_5 n_6 n_7)))) ∧ True) ∧ ((∃ (j : Nat), j < a ∧ cell (reaR n n_1 c c_1 c_2 n_2 n_3 n_5 n_6 n_7) j ((0 : Nat)) = (3 :
  Int)) → Ob (InR IntKind.i64 ((↑a : Int) + (1 : Int))) ∧ ∃ (a' : Nat), Ob ((a' ≤ (5 : Nat) ∧ ∀ (j : Nat), j < a' → ¬cell (reaR n n_1 c c_1 c_2 n_2 n_3 n_5 n_6 n_7) j ((0 : Nat)) = (1 : Int)) ∧ (5 : Nat) - a' < (5 : Nat) -
  a) ∧ Ob ((5 : Nat) = (5 : Nat)) ∧ Ob (true = true ↔ ∃ (j : Nat), j < a' ∧ cell (reaR n n_1 c c_1 c_2 n_2 n_3 n_5 n_6 n_7) j ((0 : Nat)) = (3 : Int)) ∧ Ob ((↑a : Int) + (1 : Int) = (↑a' : Int)) ∧ Ob ((5 : Nat) = (5 : Nat)
  ∧ ∀ (i : Nat), i < (5 : Nat) → (El.fn (Rv.elemOf [IntKind.i64] (reaR n n_1 c c_1 c_2 n_2 n_3 n_5 n_6 n_7))).at i = (El.fn (Rv.elemOf [IntKind.i64] (reaR n n_1 c c_1 c_2 n_2 n_3 n_5 n_6 n_7))).at i) ∧ Ob (n_2 = n_2) ∧ Ob
  (n_3 = n_3) ∧ Ob (n_4 = n_4) ∧ Ob (n_5 = n_5) ∧ Ob (n_6 = n_6) ∧ Ob (n_7 = n_7) ∧ Ob (n = n) ∧ Ob (n_1 = n_1) ∧ Ob (c ↔ c) ∧ Ob (c_1 ↔ c_1) ∧ Ob (c_2 ↔ c_2) ∧ Ob (PlainE ((5 : Nat)) (El.fn (Rv.elemOf [IntKind.i64] (reaR
  n n_1 c c_1 c_2 n_2 n_3 n_5 n_6 n_7)))) ∧ True))) ∧ (¬(↑a : Int) < (↑((5 : Nat)) : Int) → ((∃ (j : Nat), j < a ∧ cell (reaR n n_1 c c_1 c_2 n_2 n_3 n_5 n_6 n_7) j ((0 : Nat)) = (3 : Int)) → Ob ((3 : Int) = kpV (reaR n
  n_1 c c_1 c_2 n_2 n_3 n_5 n_6 n_7) ((5 : Nat))) ∧ True) ∧ ((¬∃ (j : Nat), j < a ∧ cell (reaR n n_1 c c_1 c_2 n_2 n_3 n_5 n_6 n_7) j ((0 : Nat)) = (3 : Int)) → Ob ((1 : Int) = kpV (reaR n n_1 c c_1 c_2 n_2 n_3 n_5 n_6
  n_7) ((5 : Nat))) ∧ True))

set_option linter.unusedSimpArgs false in
set_option maxRecDepth 4000 in
set_option maxHeartbeats 400000 in
theorem v_rkeep : V_rkeep := by
  unfold V_rkeep
  intro B low high eg no so a b sex eggs notch shell hp
  simp only [Ob_iff]
  have pz : ∀ n, PlainE n (El.fn (Rv.elemOf [.i64] (reaR low high eg no so a b eggs notch shell))) := fun n => plain_elemOf _ _ _
  obtain ⟨R, hR⟩ : ∃ R, reaR low high eg no so a b eggs notch shell = R := ⟨_, rfl⟩
  rw [hR] at pz
  rw [hR]
  clear hR
  refine ⟨hp, ⟨0, ?_⟩, ?_⟩
  · repeat' (with_reducible apply And.intro)
    all_goals first | omega | exact pz _ | trivial | exact Iff.rfl | rfl | exact fun _ _ => trivial | exact fun _ _ => rfl | exact fun j hj => absurd hj (Nat.not_lt_zero j) | exact ⟨fun h => by simp at h, fun ⟨j, hj, _⟩ => absurd hj (Nat.not_lt_zero j)⟩
  intro k ⟨hk, hn⟩
  intros
  have nx : ¬ cell R k 0 = 1 → ∀ j, j < k + 1 → ¬ cell R j 0 = 1 := fun h j hj => by
    by_cases ej : j = k
    · subst ej; exact h
    · exact hn j (by omega)
  have op := op_next R k
  have kp := kp_is R k
  have five : ((5 : Nat) : Int) = 5 := rfl
  refine ⟨fun h2 => ⟨⟨by omega, by omega⟩, by omega, fun h3 => ⟨?_, trivial⟩, fun h3 => ⟨fun h4 => ⟨⟨by omega, by omega⟩, by omega, by simp only [InR]; omega, k + 1, ?_⟩, fun h4 => ⟨by simp only [InR]; omega, k + 1, ?_⟩⟩⟩, fun h2 => ?_⟩
  · exact (kpV_one (show k < 5 by omega) h3).symm
  · repeat' (with_reducible apply And.intro)
    all_goals first | omega | exact nx h3 | exact pz _ | trivial | exact Iff.rfl | rfl | exact fun _ _ => trivial | exact fun _ _ => rfl | exact ⟨fun h => op.2 (.inr h), fun h => (op.1 h).resolve_left h4⟩
  · repeat' (with_reducible apply And.intro)
    all_goals first | omega | exact nx h3 | exact pz _ | trivial | exact Iff.rfl | rfl | exact fun _ _ => trivial | exact fun _ _ => rfl | exact ⟨fun _ => op.2 (.inl h4), fun _ => trivial⟩ | exact ⟨fun _ => op.2 (.inl h4), fun _ => rfl⟩
  · have ek : k = 5 := by omega
    subst ek
    rw [kpV_none hn]
    rcases kp with ⟨h, hx⟩ | ⟨h, hx⟩ <;> rw [h] <;> repeat' (first | with_reducible apply And.intro | intro _)
    all_goals first | trivial | rfl | exact absurd hx (by assumption) | exact absurd (by assumption) hx | omega

theorem e_rkeep : V_rkeep = needE P [] [F_rreasons] A_rkeep F_rkeep := by kernel_rfl

theorem n_rkeep : Ob (needE P [] [F_rreasons] A_rkeep F_rkeep) := by
  rw [← e_rkeep]
  exact ⟨v_rkeep⟩

theorem b_rkeep : ((P.funcs[52]?).any fun fn => fn.body.isSome) = true := by kernel_rfl

theorem rkeep_ok : FnE.Ok P F_rkeep := FnE.ok named (l := []) (es := [F_rreasons]) (A := A_rkeep) (by rfl) (by rfl) (by rfl) (by
  intro F h; simp at h) (by
  intro F h
  simp only [List.mem_cons, List.not_mem_nil, or_false] at h
  rcases h with rfl
  · exact rreasons_ok
) b_rkeep (by
  rintro ds h o ho n sz e k z rfl
  simp only [F_rkeep] at ho
  split at ho <;> simp at ho) n_rkeep

noncomputable def F_rKeep : FnE := ⟨14, none, [.agg [.i .i64, .i .i64, .b, .b, .b], .agg [.i .i64, .i .i64, .i .i64, .i .i64, .i .i64, .i .i64]], fun _ => True, fun l => match l with | [.z low, .z high, .p eg, .p no, .p so, .z a, .z b, .z sex, .z eggs, .z notch, .z shell] => [.i .i64 (keepV low high eg no so a b sex eggs notch shell), .i .i64 (reaErr low high a b sex eggs notch shell)] | _ => [], fun l => match l with | [.z low, .z high, .p eg, .p no, .p so, .z a, .z b, .z sex, .z eggs, .z notch, .z shell] => [] | _ => [], fun l => match l with | [.z low, .z high, .p eg, .p no, .p so, .z a, .z b, .z sex, .z eggs, .z notch, .z shell] => [] | _ => [], false⟩
noncomputable def A_rKeep : List SV → List Dat → Nat → List SV → Ann := fun _ _ _ _ => noAnn

def V_rKeep : Prop :=
  ∀ (B : RW) (n n_1 : Int) (c c_1 c_2 : Prop) (n_2 n_3 n_4 n_5 n_6 n_7 : Int), F_rKeep.pre ([Dat.z n, Dat.z n_1, Dat.p c, Dat.p c_1, Dat.p c_2] ++ ([Dat.z n_2, Dat.z n_3, Dat.z n_4, Dat.z n_5, Dat.z n_6, Dat.z n_7] ++ []))
  → Ob (F_rReasons.pre ([Dat.z n, Dat.z n_1, Dat.p c, Dat.p c_1, Dat.p c_2] ++ ([Dat.z n_2, Dat.z n_3, Dat.z n_4, Dat.z n_5, Dat.z n_6, Dat.z n_7] ++ []))) ∧ (¬reaErr n n_1 n_2 n_3 n_4 n_5 n_6 n_7 = (0 : Int) → Ob ((0 :
  Int) = keepV n n_1 c c_1 c_2 n_2 n_3 n_4 n_5 n_6 n_7) ∧ Ob (reaErr n n_1 n_2 n_3 n_4 n_5 n_6 n_7 = reaErr n n_1 n_2 n_3 n_4 n_5 n_6 n_7) ∧ True) ∧ (¬¬reaErr n n_1 n_2 n_3 n_4 n_5 n_6 n_7 = (0 : Int) → Ob (F_rkeep.pre
  ([Dat.z n, Dat.z n_1, Dat.p c, Dat.p c_1, Dat.p c_2] ++ ([Dat.z n_2, Dat.z n_3, Dat.z n_4, Dat.z n_5, Dat.z n_6, Dat.z n_7] ++ []))) ∧ Ob (kpV (reaR n n_1 c c_1 c_2 n_2 n_3 n_5 n_6 n_7) ((5 : Nat)) = keepV n n_1 c c_1
  c_2 n_2 n_3 n_4 n_5 n_6 n_7) ∧ Ob ((0 : Int) = reaErr n n_1 n_2 n_3 n_4 n_5 n_6 n_7) ∧ True)

set_option linter.unusedSimpArgs false in
set_option maxRecDepth 4000 in
set_option maxHeartbeats 400000 in
theorem v_rKeep : V_rKeep := by
  unfold V_rKeep
  intro B low high eg no so a b sex eggs notch shell _
  simp only [Ob_iff]
  refine ⟨trivial, fun h1 => ⟨?_, trivial, trivial⟩, fun h1 => ?_⟩
  · unfold keepV
    rw [if_neg h1]
  have e := Classical.not_not.1 h1
  have hk := rea_ok e
  refine ⟨⟨hk.2.2.2.1, hk.2.2.2.2.1, hk.2.2.2.2.2.1⟩, ?_, e.symm, trivial⟩
  unfold keepV
  rw [if_pos e]

theorem e_rKeep : V_rKeep = needE P [] [F_rReasons, F_rkeep] A_rKeep F_rKeep := by kernel_rfl

theorem n_rKeep : Ob (needE P [] [F_rReasons, F_rkeep] A_rKeep F_rKeep) := by
  rw [← e_rKeep]
  exact ⟨v_rKeep⟩

theorem b_rKeep : ((P.funcs[14]?).any fun fn => fn.body.isSome) = true := by kernel_rfl

theorem rKeep_ok : FnE.Ok P F_rKeep := FnE.ok named (l := []) (es := [F_rReasons, F_rkeep]) (A := A_rKeep) (by rfl) (by rfl) (by rfl) (by
  intro F h; simp at h) (by
  intro F h
  simp only [List.mem_cons, List.not_mem_nil, or_false] at h
  rcases h with rfl | rfl
  · exact rReasons_ok
  · exact rkeep_ok
) b_rKeep (by
  rintro ds h o ho n sz e k z rfl
  simp only [F_rKeep] at ho
  split at ho <;> simp at ho) n_rKeep

noncomputable def F_GaugeOf : FnE := ⟨9, (some [.i .u64]), [], fun _ => True, fun l => match l with | [.z a] => [.agg [.i .i64 (gaLow a), .i .i64 (gaHi a), .p (gaEg a), .p (gaNo a), .p (gaSo a)]] | _ => [], fun l => match l with | [.z a] => [] | _ => [], fun l => match l with | [.z a] => [.i .u64 (gaQ a)] | _ => [], false⟩
noncomputable def A_GaugeOf : List SV → List Dat → Nat → List SV → Ann := fun _ _ _ _ => noAnn

def V_GaugeOf : Prop :=
  ∀ (B : RW) (n : Int), F_GaugeOf.pre ([Dat.z n] ++ []) → Ob (F_From.named.pre ([Dat.z n] ++ [Dat.z (800 : Int), Dat.z (850 : Int)])) ∧ ∀ (v : Int), v = belowA n ((850 : Int) - (800 : Int) + (1 : Int)) → ∀ (v_1 : Int), v_1
  = (800 : Int) + belowV n ((850 : Int) - (800 : Int) + (1 : Int)) → Ob (InR IntKind.i64 (v_1 + (30 : Int))) ∧ Ob (F_Of.named.pre ([Dat.z v] ++ [Dat.l [[v_1 + (30 : Int)], [(1300 : Int)]]])) ∧ ∀ (v_2 : Int), v_2 = ofA v
  [[v_1 + (30 : Int)], [(1300 : Int)]] → ∀ (v_3 : Int), v_3 = ofV v [[v_1 + (30 : Int)], [(1300 : Int)]] → Ob (F_From.named.pre ([Dat.z v_2] ++ [Dat.z v_1, Dat.z v_3])) ∧ ∀ (v_4 : Int), v_4 = belowA v_2 (v_3 - v_1 + (1 :
  Int)) → ∀ (v_5 : Int), v_5 = v_1 + belowV v_2 (v_3 - v_1 + (1 : Int)) → Ob (F_Once.named.pre ([Dat.z v_4] ++ [Dat.z (2 : Int)])) ∧ ∀ (v_6 : Int), v_6 = belowA v_4 (2 : Int) → Ob (F_Once.named.pre ([Dat.z v_6] ++ [Dat.z
  (2 : Int)])) ∧ ∀ (v_7 : Int), v_7 = belowA v_6 (2 : Int) → Ob (F_Once.named.pre ([Dat.z v_7] ++ [Dat.z (3 : Int)])) ∧ ∀ (v_8 : Int), v_8 = belowA v_7 (3 : Int) → Ob (v_1 = gaLow n) ∧ Ob (v_5 = gaHi n) ∧ Ob (belowV v_4 (2
  : Int) = (0 : Int) ↔ gaEg n) ∧ Ob (belowV v_6 (2 : Int) = (0 : Int) ↔ gaNo n) ∧ Ob (belowV v_7 (3 : Int) = (0 : Int) ↔ gaSo n) ∧ Ob (v_8 = gaQ n) ∧ True

set_option linter.unusedSimpArgs false in
set_option maxRecDepth 4000 in
set_option maxHeartbeats 400000 in
theorem v_GaugeOf : V_GaugeOf := by
  unfold V_GaugeOf
  intro B a _
  simp only [Ob_iff]
  have hl := gaLow_in a
  have hc := gaC_is a
  have hcb : 800 ≤ gaC a ∧ gaC a ≤ 1300 := by
    generalize gaC a = x at *
    generalize gaLow a = y at *
    omega
  clear hc
  refine ⟨by show (-1000000000000 : Int) ≤ 800 ∧ (800 : Int) ≤ 1000000000000 ∧ (-1000000000000 : Int) ≤ 850 ∧ (850 : Int) ≤ 1000000000000; omega, ?_⟩
  intro v hv; obtain rfl : v = gaA1 a := hv
  intro v1 hv1; obtain rfl : v1 = gaLow a := hv1
  have i1 : InR .i64 (gaLow a + 30) := by
    simp only [InR]
    generalize gaLow a = y at *
    omega
  have p1 : -1000000000000 ≤ gaLow a ∧ gaLow a ≤ 1000000000000 ∧ -1000000000000 ≤ gaC a ∧ gaC a ≤ 1000000000000 := by
    generalize gaC a = x at *
    generalize gaLow a = y at *
    omega
  clear hl hcb
  refine ⟨i1, by show (2 : Nat) ≤ 1000; omega, ?_⟩
  intro v2 hv2; obtain rfl : v2 = gaA2 a := hv2
  intro v3 hv3; obtain rfl : v3 = gaC a := hv3
  refine ⟨p1, ?_⟩
  intro v4 hv4; obtain rfl : v4 = gaA3 a := hv4
  intro v5 hv5
  refine ⟨by show (2 : Int) ≤ 9223372036854775807; omega, ?_⟩
  intro v6 hv6; obtain rfl : v6 = gaA4 a := hv6
  refine ⟨by show (2 : Int) ≤ 9223372036854775807; omega, ?_⟩
  intro v7 hv7; obtain rfl : v7 = gaA5 a := hv7
  refine ⟨by show (3 : Int) ≤ 9223372036854775807; omega, ?_⟩
  intro v8 hv8
  exact ⟨rfl, hv5, Iff.rfl, Iff.rfl, Iff.rfl, hv8, trivial⟩

theorem e_GaugeOf : V_GaugeOf = needE P [] [F_From.named, F_Of.named, F_Once.named] A_GaugeOf F_GaugeOf := by kernel_rfl

theorem n_GaugeOf : Ob (needE P [] [F_From.named, F_Of.named, F_Once.named] A_GaugeOf F_GaugeOf) := by
  rw [← e_GaugeOf]
  exact ⟨v_GaugeOf⟩

theorem b_GaugeOf : ((P.funcs[9]?).any fun fn => fn.body.isSome) = true := by kernel_rfl

theorem GaugeOf_ok : FnE.Ok P F_GaugeOf := FnE.ok named (l := []) (es := [F_From.named, F_Of.named, F_Once.named]) (A := A_GaugeOf) (by rfl) (by rfl) (by rfl) (by
  intro F h; simp at h) (by
  intro F h
  simp only [List.mem_cons, List.not_mem_nil, or_false] at h
  rcases h with rfl | rfl | rfl
  · exact From_ok.named
  · exact Of_ok.named
  · exact Once_ok.named
) b_GaugeOf (by
  rintro ds h o ho n sz e k z rfl
  simp only [F_GaugeOf] at ho
  split at ho <;> simp at ho) n_GaugeOf

end Go.Proofs.YthlodlileecmdaaDoor.Sy
