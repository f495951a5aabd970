/- All truths of an animal. -/
import Derived.Test.YthlodlileecmdaaDoorSyP2
import Derived.Test.YthlodlileecmdaaDoorGrM
import Derived.Test.YthlodlileecmdaaDoorCtT
import Derived.Test.YthlodlileecmdaaDoorCtA
import Derived.Test.YthlodlileecmdaaDoorCtD
import Derived.Test.YthlodlileecmdaaDoorCtU
import Derived.Test.YthlodlileecmdaaDoorCtW
import Derived.Test.YthlodlileecmdaaDoorCtI
import Derived.KernelRfl
import Derived.Test.YthlodlileecmdaaDoorProg
namespace Go.Proofs.YthlodlileecmdaaDoor.Sy
open Go Go.Rv
set_option linter.unusedVariables false

/-- whether an animal that truly is so has to go back for a reason -/
def fbP (low high : Int) (eg no so : Prop) (size shell : Int) (e n : Prop) (i : Nat) : Prop := match i with
  | 0 => size < low
  | 1 => high < size
  | 2 => eg ∧ e
  | 3 => no ∧ n
  | _ => so ∧ shell = 2
theorem lit5 {p0 p1 p2 p3 p4 : Prop} {f : Nat → Prop} (h0 : p0 = f 0) (h1 : p1 = f 1) (h2 : p2 = f 2) (h3 : p3 = f 3) (h4 : p4 = f 4) : ∀ i, i < 5 → (litEl [SV.p p0, SV.p p1, SV.p p2, SV.p p3, SV.p p4] 1 5).at i = (El.fn fun i => [SV.p (f i)]).at i := by
  intro i hi
  subst h0 h1 h2 h3 h4
  rcases (show i = 0 ∨ i = 1 ∨ i = 2 ∨ i = 3 ∨ i = 4 by omega) with rfl | rfl | rfl | rfl | rfl <;> rfl

noncomputable def F_forbidden : FnE := ⟨39, none, [.agg [.i .i64, .i .i64, .b, .b, .b], .agg [.i .i64, .i .i64, .i .i64, .b, .b]], fun _ => True, fun l => match l with | [.z low, .z high, .p eg, .p no, .p so, .z size, .z sex, .z shell, .p e, .p n] => [.gsl 0 5 1 false] | _ => [], fun l => match l with | [.z low, .z high, .p eg, .p no, .p so, .z size, .z sex, .z shell, .p e, .p n] => [.gr 5 1 (.fn fun i => [.p (fbP low high eg no so size shell e n i)]) .gr false] | _ => [], fun l => match l with | [.z low, .z high, .p eg, .p no, .p so, .z size, .z sex, .z shell, .p e, .p n] => [] | _ => [], false⟩
noncomputable def A_forbidden : List SV → List Dat → Nat → List SV → Ann := fun _ _ _ _ => noAnn

def V_forbidden : Prop :=
  ∀ (B : RW) (n n_1 : Int) (c c_1 c_2 : Prop) (n_2 n_3 n_4 : Int) (c_3 c_4 : Prop), F_forbidden.pre ([Dat.z n, Dat.z n_1, Dat.p c, Dat.p c_1, Dat.p c_2] ++ ([Dat.z n_2, Dat.z n_3, Dat.z n_4, Dat.p c_3, Dat.p c_4] ++ [])) →
  (c → (c_1 → (c_2 → Ob ((5 : Nat) = (5 : Nat)) ∧ Ob ((5 : Nat) = (5 : Nat) ∧ ∀ (i : Nat), i < (5 : Nat) → (litEl (symL [SV.p (n_2 < n), SV.p (n_1 < n_2), SV.p c_3, SV.p c_4, SV.p (n_4 = (2 : Int))]) ((1 : Nat)) ((5 :
  Nat))).at i = (El.fn fun (i : Nat) ↦ [SV.p (fbP n n_1 c c_1 c_2 n_2 n_4 c_3 c_4 i)]).at i) ∧ Ob (PlainE ((5 : Nat)) (El.fn fun (i : Nat) ↦ [SV.p (fbP n n_1 c c_1 c_2 n_2 n_4 c_3 c_4 i)])) ∧ True) ∧ (¬c_2 → Ob ((5 : Nat)
  = (5 : Nat)) ∧ Ob ((5 : Nat) = (5 : Nat) ∧ ∀ (i : Nat), i < (5 : Nat) → (litEl (symL [SV.p (n_2 < n), SV.p (n_1 < n_2), SV.p c_3, SV.p c_4, SV.v (Value.bool false)]) ((1 : Nat)) ((5 : Nat))).at i = (El.fn fun (i : Nat) ↦
  [SV.p (fbP n n_1 c c_1 c_2 n_2 n_4 c_3 c_4 i)]).at i) ∧ Ob (PlainE ((5 : Nat)) (El.fn fun (i : Nat) ↦ [SV.p (fbP n n_1 c c_1 c_2 n_2 n_4 c_3 c_4 i)])) ∧ True)) ∧ (¬c_1 → (c_2 → Ob ((5 : Nat) = (5 : Nat)) ∧ Ob ((5 : Nat)
  = (5 : Nat) ∧ ∀ (i : Nat), i < (5 : Nat) → (litEl (symL [SV.p (n_2 < n), SV.p (n_1 < n_2), SV.p c_3, SV.v (Value.bool false), SV.p (n_4 = (2 : Int))]) ((1 : Nat)) ((5 : Nat))).at i = (El.fn fun (i : Nat) ↦ [SV.p (fbP n
  n_1 c c_1 c_2 n_2 n_4 c_3 c_4 i)]).at i) ∧ Ob (PlainE ((5 : Nat)) (El.fn fun (i : Nat) ↦ [SV.p (fbP n n_1 c c_1 c_2 n_2 n_4 c_3 c_4 i)])) ∧ True) ∧ (¬c_2 → Ob ((5 : Nat) = (5 : Nat)) ∧ Ob ((5 : Nat) = (5 : Nat) ∧ ∀ (i :
  Nat), i < (5 : Nat) → (litEl (symL [SV.p (n_2 < n), SV.p (n_1 < n_2), SV.p c_3, SV.v (Value.bool false), SV.v (Value.bool false)]) ((1 : Nat)) ((5 : Nat))).at i = (El.fn fun (i : Nat) ↦ [SV.p (fbP n n_1 c c_1 c_2 n_2 n_4
  c_3 c_4 i)]).at i) ∧ Ob (PlainE ((5 : Nat)) (El.fn fun (i : Nat) ↦ [SV.p (fbP n n_1 c c_1 c_2 n_2 n_4 c_3 c_4 i)])) ∧ True))) ∧ (¬c → (c_1 → (c_2 → Ob ((5 : Nat) = (5 : Nat)) ∧ Ob ((5 : Nat) = (5 : Nat) ∧ ∀ (i : Nat), i
  < (5 : Nat) → (litEl (symL [SV.p (n_2 < n), SV.p (n_1 < n_2), SV.v (Value.bool false), SV.p c_4, SV.p (n_4 = (2 : Int))]) ((1 : Nat)) ((5 : Nat))).at i = (El.fn fun (i : Nat) ↦ [SV.p (fbP n n_1 c c_1 c_2 n_2 n_4 c_3 c_4
  i)]).at i) ∧ Ob (PlainE ((5 : Nat)) (El.fn fun (i : Nat) ↦ [SV.p (fbP n n_1 c c_1 c_2 n_2 n_4 c_3 c_4 i)])) ∧ True) ∧ (¬c_2 → Ob ((5 : Nat) = (5 : Nat)) ∧ Ob ((5 : Nat) = (5 : Nat) ∧ ∀ (i : Nat), i < (5 : Nat) → (litEl
  (symL [SV.p (n_2 < n), SV.p (n_1 < n_2), SV.v (Value.bool false), SV.p c_4, SV.v (Value.bool false)]) ((1 : Nat)) ((5 : Nat))).at i = (El.fn fun (i : Nat) ↦ [SV.p (fbP n n_1 c c_1 c_2 n_2 n_4 c_3 c_4 i)]).at i) ∧ Ob
  (PlainE ((5 : Nat)) (El.fn fun (i : Nat) ↦ [SV.p (fbP n n_1 c c_1 c_2 n_2 n_4 c_3 c_4 i)])) ∧ True)) ∧ (¬c_1 → (c_2 → Ob ((5 : Nat) = (5 : Nat)) ∧ Ob ((5 : Nat) = (5 : Nat) ∧ ∀ (i : Nat), i < (5 : Nat) → (litEl (symL
  [SV.p (n_2 < n), SV.p (n_1 < n_2), SV.v (Value.bool false), SV.v (Value.bool false), SV.p (n_4 = (2 : Int))]) ((1 : Nat)) ((5 : Nat))).at i = (El.fn fun (i : Nat) ↦ [SV.p (fbP n n_1 c c_1 c_2 n_2 n_4 c_3 c_4 i)]).at i) ∧
  Ob (PlainE ((5 : Nat)) (El.fn fun (i : Nat) ↦ [SV.p (fbP n n_1 c c_1 c_2 n_2 n_4 c_3 c_4 i)])) ∧ True) ∧ (¬c_2 → Ob ((5 : Nat) = (5 : Nat)) ∧ Ob ((5 : Nat) = (5 : Nat) ∧ ∀ (i : Nat), i < (5 : Nat) → (litEl (symL [SV.p
  (n_2 < n), SV.p (n_1 < n_2), SV.v (Value.bool false), SV.v (Value.bool false), SV.v (Value.bool false)]) ((1 : Nat)) ((5 : Nat))).at i = (El.fn fun (i : Nat) ↦ [SV.p (fbP n n_1 c c_1 c_2 n_2 n_4 c_3 c_4 i)]).at i) ∧ Ob
  (PlainE ((5 : Nat)) (El.fn fun (i : Nat) ↦ [SV.p (fbP n n_1 c c_1 c_2 n_2 n_4 c_3 c_4 i)])) ∧ True)))

set_option linter.unusedSimpArgs false in
set_option maxRecDepth 4000 in
set_option maxHeartbeats 400000 in
theorem v_forbidden : V_forbidden := by
  unfold V_forbidden
  intro B low high eg no so size sex shell e n _
  simp only [Ob_iff, and_true, true_and]
  have pz : PlainE 5 (El.fn fun i => [SV.p (fbP low high eg no so size shell e n i)]) := fun i hi y hy => by
    simp only [El.at, List.mem_singleton] at hy
    subst hy
    trivial
  refine ⟨fun h1 => ⟨fun h2 => ⟨fun h3 => ⟨?_, pz⟩, fun h3 => ⟨?_, pz⟩⟩, fun h2 => ⟨fun h3 => ⟨?_, pz⟩, fun h3 => ⟨?_, pz⟩⟩⟩, fun h1 => ⟨fun h2 => ⟨fun h3 => ⟨?_, pz⟩, fun h3 => ⟨?_, pz⟩⟩, fun h2 => ⟨fun h3 => ⟨?_, pz⟩, fun h3 => ⟨?_, pz⟩⟩⟩⟩
  all_goals
    refine lit5 ?_ ?_ ?_ ?_ ?_
    all_goals simp [fbP, *]

theorem e_forbidden : V_forbidden = needE P [] [] A_forbidden F_forbidden := by kernel_rfl

theorem n_forbidden : Ob (needE P [] [] A_forbidden F_forbidden) := by
  rw [← e_forbidden]
  exact ⟨v_forbidden⟩

theorem b_forbidden : ((P.funcs[39]?).any fun fn => fn.body.isSome) = true := by kernel_rfl

theorem forbidden_ok : FnE.Ok P F_forbidden := FnE.ok named (l := []) (es := []) (A := A_forbidden) (by rfl) (by rfl) (by rfl) (by
  intro F h; simp at h) (by
  intro F h; simp at h) b_forbidden (by
  intro ds h o ho n sz e k z he
  subst he
  simp only [F_forbidden] at ho
  split at ho
  · simp only [List.mem_cons, List.not_mem_nil, or_false, SObj.gr.injEq] at ho
    obtain ⟨rfl, rfl, rfl, rfl, rfl⟩ := ho
    intro i hi y hy
    simp only [El.at, List.mem_singleton] at hy
    subst hy
    trivial
  · simp at ho) n_forbidden

end Go.Proofs.YthlodlileecmdaaDoor.Sy
