/- Animals of a tide. -/
import Derived.Test.YthlodlileecmdaaDoorSyP2
import Derived.Test.YthlodlileecmdaaDoorGrM
import Derived.Test.YthlodlileecmdaaDoorCtT
import Derived.Test.YthlodlileecmdaaDoorCtA
import Derived.Test.YthlodlileecmdaaDoorSyP2
import Derived.KernelRfl
import Derived.Test.YthlodlileecmdaaDoorProg
namespace Go.Proofs.YthlodlileecmdaaDoor.Sy
open Go Go.Rv
set_option linter.unusedVariables false

open Classical in
noncomputable def saidV (a : Int) (is : Prop) : Int := if belowV a 3 = 0 then 3 else if is then 1 else 2
def trA1 (a : Int) : Int := ofA a [[860], [1320]]
def trC (a : Int) : Int := ofV a [[860], [1320]]
theorem trC_is (a : Int) : trC a = 860 ∨ trC a = 1320 := ofV_two _ _ _
def trSz (a : Int) : Int := 790 + belowV (trA1 a) (trC a - 790 + 1)
def trA2 (a : Int) : Int := belowA (trA1 a) (trC a - 790 + 1)
def trSex (a : Int) : Int := 1 + belowV (trA2 a) 2
def trA3 (a : Int) : Int := belowA (trA2 a) 2
def trSh (a : Int) : Int := 1 + belowV (trA3 a) 3
def trA4 (a : Int) : Int := belowA (trA3 a) 3
def trEg (a : Int) : Prop := trSex a = 2 ∧ belowV (trA4 a) 3 = 0
def trA5 (a : Int) : Int := belowA (trA4 a) 3
def trNo (a : Int) : Prop := trSex a = 2 ∧ belowV (trA5 a) 3 = 0
def trQ (a : Int) : Int := if trSex a = 2 then belowA (trA5 a) 3 else trA4 a
theorem ofV_three (a x y z : Int) : ofV a [[x], [y], [z]] = x ∨ ofV a [[x], [y], [z]] = y ∨ ofV a [[x], [y], [z]] = z := by
  have h := belowV_in a 3
  have e : ofV a [[x], [y], [z]] = cell [[x], [y], [z]] (belowV a 3).toNat 0 := by simp [ofV]
  rw [e]
  have : (belowV a 3).toNat = 0 ∨ (belowV a 3).toNat = 1 ∨ (belowV a 3).toNat = 2 := by
    generalize belowV a 3 = q at *
    omega
  rcases this with h0 | h0 | h0 <;> rw [h0]
  · exact .inl rfl
  · exact .inr (.inl rfl)
  · exact .inr (.inr rfl)
def msW (a : Int) : Int := ofV a [[0], [3], [15]]
def msA1 (a : Int) : Int := ofA a [[0], [3], [15]]
theorem msW_in (a : Int) : 0 ≤ msW a ∧ msW a ≤ 15 := by
  have h := ofV_three a 0 3 15
  have e : msW a = ofV a [[0], [3], [15]] := rfl
  rw [← e] at h
  clear e
  omega
def msB1 (a : Int) : Int := belowV (msA1 a) (msW a + 1)
def msA2 (a : Int) : Int := belowA (msA1 a) (msW a + 1)
def msB2 (a : Int) : Int := belowV (msA2 a) (msW a + 1)
def msA3 (a : Int) : Int := belowA (msA2 a) (msW a + 1)
theorem msB_in (a : Int) : 0 ≤ msB1 a ∧ msB1 a ≤ 15 ∧ 0 ≤ msB2 a ∧ msB2 a ≤ 15 := by
  have h0 := msW_in a
  have h1 : 0 ≤ msB1 a ∧ (msB1 a < msW a + 1 ∨ msB1 a = 0) := belowV_in (msA1 a) (msW a + 1)
  have h2 : 0 ≤ msB2 a ∧ (msB2 a < msW a + 1 ∨ msB2 a = 0) := belowV_in (msA2 a) (msW a + 1)
  generalize msB1 a = x at *
  generalize msB2 a = y at *
  generalize msW a = w at *
  omega
noncomputable def msEg (a sex : Int) (eg : Prop) : Int := if sex = 2 then saidV (msA3 a) eg else 2
def msA4 (a : Int) : Int := belowA (msA3 a) 3
noncomputable def msNo (a sex : Int) (no : Prop) : Int := if sex = 2 then saidV (msA4 a) no else 2
def msQ (a sex : Int) : Int := if sex = 2 then belowA (msA4 a) 3 else msA3 a
theorem trSz_in (a : Int) : 790 ≤ trSz a ∧ trSz a ≤ 1320 := by
  have h := belowV_in (trA1 a) (trC a - 790 + 1)
  have hc := trC_is a
  unfold trSz
  generalize belowV (trA1 a) (trC a - 790 + 1) = x at *
  generalize trC a = c at *
  omega
noncomputable def cgEg (a : Int) : Int := msEg (trQ a) (trSex a) (trEg a)
noncomputable def cgNo (a : Int) : Int := msNo (trQ a) (trSex a) (trNo a)
def cgLo (a : Int) : Int := trSz a - msB1 (trQ a)
def cgHi (a : Int) : Int := trSz a + msB2 (trQ a)
def cgQ (a : Int) : Int := msQ (trQ a) (trSex a)

noncomputable def F_said : FnE := ⟨68, (some [.i .u64]), [.one .b], fun _ => True, fun l => match l with | [.z a, .p c] => [.i .i64 (saidV a c)] | _ => [], fun l => match l with | [.z a, .p c] => [] | _ => [], fun l => match l with | [.z a, .p c] => [.i .u64 (belowA a 3)] | _ => [], false⟩
noncomputable def A_said : List SV → List Dat → Nat → List SV → Ann := fun _ _ _ _ => noAnn

def V_said : Prop :=
  ∀ (B : RW) (n : Int) (c : Prop), F_said.pre ([Dat.z n] ++ ([Dat.p c] ++ [])) → Ob (F_Once.pre ([Dat.z n] ++ [Dat.z (3 : Int)])) ∧ (belowV n (3 : Int) = (0 : Int) → Ob ((3 : Int) = saidV n c) ∧ Ob (belowA n (3 : Int) =
  belowA n (3 : Int)) ∧ True) ∧ (¬belowV n (3 : Int) = (0 : Int) → (c → Ob ((1 : Int) = saidV n c) ∧ Ob (belowA n (3 : Int) = belowA n (3 : Int)) ∧ True) ∧ (¬c → Ob ((2 : Int) = saidV n c) ∧ Ob (belowA n (3 : Int) = belowA
  n (3 : Int)) ∧ True))

set_option linter.unusedSimpArgs false in
set_option maxRecDepth 4000 in
set_option maxHeartbeats 400000 in
theorem v_said : V_said := by
  unfold V_said
  intro B a c h
  simp only [F_said, F_Once, List.cons_append, List.nil_append, Ob_iff, and_true, true_and] at h ⊢
  unfold saidV
  refine ⟨by simp, fun h1 => ?_, fun h1 => ⟨fun h2 => ?_, fun h2 => ?_⟩⟩
  · rw [if_pos h1]
  · rw [if_neg h1, if_pos h2]
  · rw [if_neg h1, if_neg h2]

theorem e_said : V_said = needE P [] [F_Once] A_said F_said := by kernel_rfl

theorem n_said : Ob (needE P [] [F_Once] A_said F_said) := by
  rw [← e_said]
  exact ⟨v_said⟩

theorem b_said : ((P.funcs[68]?).any fun fn => fn.body.isSome) = true := by kernel_rfl

theorem said_ok : FnE.Ok P F_said := FnE.ok named (l := []) (es := [F_Once]) (A := A_said) (by rfl) (by rfl) (by rfl) (by
  intro F h; simp at h) (by
  intro F h
  simp only [List.mem_cons, List.not_mem_nil, or_false] at h
  rcases h with rfl
  · exact Once_ok
) b_said (by
  rintro ds h o ho n sz e k z rfl
  simp only [F_said] at ho
  split at ho <;> simp at ho) n_said

noncomputable def F_TruthOf : FnE := ⟨49, (some [.i .u64]), [], fun _ => True, fun l => match l with | [.z a] => [.agg [.i .i64 (trSz a), .i .i64 (trSex a), .i .i64 (trSh a), .p (trEg a), .p (trNo a)]] | _ => [], fun l => match l with | [.z a] => [] | _ => [], fun l => match l with | [.z a] => [.i .u64 (trQ a)] | _ => [], false⟩
noncomputable def A_TruthOf : List SV → List Dat → Nat → List SV → Ann := fun _ _ _ _ => noAnn

def V_TruthOf : Prop :=
  ∀ (B : RW) (n : Int), F_TruthOf.pre ([Dat.z n] ++ []) → Ob (F_Of.named.pre ([Dat.z n] ++ [Dat.l [[(860 : Int)], [(1320 : Int)]]])) ∧ ∀ (v : Int), v = ofA n [[(860 : Int)], [(1320 : Int)]] → ∀ (v_1 : Int), v_1 = ofV n
  [[(860 : Int)], [(1320 : Int)]] → Ob (F_From.named.pre ([Dat.z v] ++ [Dat.z (790 : Int), Dat.z v_1])) ∧ ∀ (v_2 : Int), v_2 = belowA v (v_1 - (790 : Int) + (1 : Int)) → ∀ (v_3 : Int), v_3 = (790 : Int) + belowV v (v_1 -
  (790 : Int) + (1 : Int)) → Ob (F_From.named.pre ([Dat.z v_2] ++ [Dat.z (1 : Int), Dat.z (2 : Int)])) ∧ ∀ (v_4 : Int), v_4 = belowA v_2 ((2 : Int) - (1 : Int) + (1 : Int)) → ∀ (v_5 : Int), v_5 = (1 : Int) + belowV v_2 ((2
  : Int) - (1 : Int) + (1 : Int)) → Ob (F_From.named.pre ([Dat.z v_4] ++ [Dat.z (1 : Int), Dat.z (3 : Int)])) ∧ ∀ (v_6 : Int), v_6 = belowA v_4 ((3 : Int) - (1 : Int) + (1 : Int)) → ∀ (v_7 : Int), v_7 = (1 : Int) + belowV
  v_4 ((3 : Int) - (1 : Int) + (1 : Int)) → (v_5 = (2 : Int) → Ob (F_Once.named.pre ([Dat.z v_6] ++ [Dat.z (3 : Int)])) ∧ ∀ (v_8 : Int), v_8 = belowA v_6 (3 : Int) → Ob (F_Once.named.pre ([Dat.z v_8] ++ [Dat.z (3 : Int)]))
  ∧ ∀ (v_9 : Int), v_9 = belowA v_8 (3 : Int) → Ob (v_3 = trSz n) ∧ Ob (v_5 = trSex n) ∧ Ob (v_7 = trSh n) ∧ Ob (belowV v_6 (3 : Int) = (0 : Int) ↔ trEg n) ∧ Ob (belowV v_8 (3 : Int) = (0 : Int) ↔ trNo n) ∧ Ob (v_9 = trQ
  n) ∧ True) ∧ (¬v_5 = (2 : Int) → Ob (v_3 = trSz n) ∧ Ob (v_5 = trSex n) ∧ Ob (v_7 = trSh n) ∧ Ob (false = true ↔ trEg n) ∧ Ob (false = true ↔ trNo n) ∧ Ob (v_6 = trQ n) ∧ True)

set_option linter.unusedSimpArgs false in
set_option maxRecDepth 4000 in
set_option maxHeartbeats 400000 in
theorem v_TruthOf : V_TruthOf := by
  unfold V_TruthOf
  intro B a _
  simp only [F_From, F_Of, F_Once, FnE.named, List.cons_append, List.nil_append, Ob_iff, and_true] at ⊢
  refine ⟨by simp, ?_⟩
  intro v hv; obtain rfl : v = trA1 a := hv
  intro v hv; obtain rfl : v = trC a := hv
  refine ⟨⟨by decide, by decide, by rcases trC_is a with h | h <;> rw [h] <;> decide, by rcases trC_is a with h | h <;> rw [h] <;> decide⟩, ?_⟩
  intro v hv; obtain rfl : v = trA2 a := hv
  intro v hv; obtain rfl : v = trSz a := hv
  refine ⟨⟨by decide, by decide, by decide, by decide⟩, ?_⟩
  intro v hv; obtain rfl : v = trA3 a := hv
  intro v hv; obtain rfl : v = trSex a := hv
  refine ⟨⟨by decide, by decide, by decide, by decide⟩, ?_⟩
  intro v hv; obtain rfl : v = trA4 a := hv
  intro v hv; obtain rfl : v = trSh a := hv
  refine ⟨fun h => ⟨by decide, ?_⟩, fun h => ?_⟩
  · intro v hv; obtain rfl : v = trA5 a := hv
    refine ⟨by decide, ?_⟩
    intro v hv
    have e : trQ a = v := by rw [hv]; unfold trQ; rw [if_pos h]
    refine ⟨rfl, rfl, rfl, ⟨fun x => ⟨h, x⟩, fun x => x.2⟩, ⟨fun x => ⟨h, x⟩, fun x => x.2⟩, e.symm⟩
  · have e : trQ a = trA4 a := by unfold trQ; rw [if_neg h]
    refine ⟨rfl, rfl, rfl, ⟨fun x => (by simp at x), fun x => absurd x.1 h⟩, ⟨fun x => (by simp at x), fun x => absurd x.1 h⟩, e.symm⟩

theorem e_TruthOf : V_TruthOf = needE P [] [F_Below.named, F_From.named, F_Of.named, F_Once.named] A_TruthOf F_TruthOf := by kernel_rfl

theorem n_TruthOf : Ob (needE P [] [F_Below.named, F_From.named, F_Of.named, F_Once.named] A_TruthOf F_TruthOf) := by
  rw [← e_TruthOf]
  exact ⟨v_TruthOf⟩

theorem b_TruthOf : ((P.funcs[49]?).any fun fn => fn.body.isSome) = true := by kernel_rfl

theorem TruthOf_ok : FnE.Ok P F_TruthOf := FnE.ok named (l := []) (es := [F_Below.named, F_From.named, F_Of.named, F_Once.named]) (A := A_TruthOf) (by rfl) (by rfl) (by rfl) (by
  intro F h; simp at h) (by
  intro F h
  simp only [List.mem_cons, List.not_mem_nil, or_false] at h
  rcases h with rfl | rfl | rfl | rfl
  · exact Below_ok.named
  · exact From_ok.named
  · exact Of_ok.named
  · exact Once_ok.named
) b_TruthOf (by
  rintro ds h o ho n sz e k z rfl
  simp only [F_TruthOf] at ho
  split at ho <;> simp at ho) n_TruthOf

noncomputable def F_Measured : FnE := ⟨48, (some [.i .u64]), [.agg [.i .i64, .i .i64, .i .i64, .b, .b]], fun l => match l with | [.z a, .z s, .z sex, .z sh, .p eg, .p no] => 0 ≤ s ∧ s ≤ 10000 | _ => False, fun l => match l with | [.z a, .z s, .z sex, .z sh, .p eg, .p no] => [.agg [.i .i64 (s - msB1 a), .i .i64 (s + msB2 a), .i .i64 sex, .i .i64 (msEg a sex eg), .i .i64 (msNo a sex no), .i .i64 sh]] | _ => [], fun l => match l with | [.z a, .z s, .z sex, .z sh, .p eg, .p no] => [] | _ => [], fun l => match l with | [.z a, .z s, .z sex, .z sh, .p eg, .p no] => [.i .u64 (msQ a sex)] | _ => [], false⟩
noncomputable def A_Measured : List SV → List Dat → Nat → List SV → Ann := fun _ _ _ _ => noAnn

def V_Measured : Prop :=
  ∀ (B : RW) (n n_1 n_2 n_3 : Int) (c c_1 : Prop), F_Measured.pre ([Dat.z n] ++ ([Dat.z n_1, Dat.z n_2, Dat.z n_3, Dat.p c, Dat.p c_1] ++ [])) → Ob (F_Of.named.pre ([Dat.z n] ++ [Dat.l [[(0 : Int)], [(3 : Int)], [(15 :
  Int)]]])) ∧ ∀ (v : Int), v = ofA n [[(0 : Int)], [(3 : Int)], [(15 : Int)]] → ∀ (v_1 : Int), v_1 = ofV n [[(0 : Int)], [(3 : Int)], [(15 : Int)]] → Ob (InR IntKind.i64 (v_1 + (1 : Int))) ∧ Ob (F_Below.named.pre ([Dat.z
  v] ++ [Dat.z (v_1 + (1 : Int))])) ∧ ∀ (v_2 : Int), v_2 = belowA v (v_1 + (1 : Int)) → ∀ (v_3 : Int), v_3 = belowV v (v_1 + (1 : Int)) → Ob (InR IntKind.i64 (n_1 - v_3)) ∧ Ob (InR IntKind.i64 (v_1 + (1 : Int))) ∧ Ob
  (F_Below.named.pre ([Dat.z v_2] ++ [Dat.z (v_1 + (1 : Int))])) ∧ ∀ (v_4 : Int), v_4 = belowA v_2 (v_1 + (1 : Int)) → ∀ (v_5 : Int), v_5 = belowV v_2 (v_1 + (1 : Int)) → Ob (InR IntKind.i64 (n_1 + v_5)) ∧ (n_2 = (2 : Int)
  → Ob (F_said.named.pre ([Dat.z v_4] ++ [Dat.p c])) ∧ ∀ (v_6 : Int), v_6 = belowA v_4 (3 : Int) → ∀ (v_7 : Int), v_7 = saidV v_4 c → Ob (F_said.named.pre ([Dat.z v_6] ++ [Dat.p c_1])) ∧ ∀ (v_8 : Int), v_8 = belowA v_6 (3
  : Int) → ∀ (v_9 : Int), v_9 = saidV v_6 c_1 → Ob (n_1 - v_3 = n_1 - msB1 n) ∧ Ob (n_1 + v_5 = n_1 + msB2 n) ∧ Ob (n_2 = n_2) ∧ Ob (v_7 = msEg n n_2 c) ∧ Ob (v_9 = msNo n n_2 c_1) ∧ Ob (n_3 = n_3) ∧ Ob (v_8 = msQ n n_2) ∧
  True) ∧ (¬n_2 = (2 : Int) → Ob (n_1 - v_3 = n_1 - msB1 n) ∧ Ob (n_1 + v_5 = n_1 + msB2 n) ∧ Ob (n_2 = n_2) ∧ Ob ((2 : Int) = msEg n n_2 c) ∧ Ob ((2 : Int) = msNo n n_2 c_1) ∧ Ob (n_3 = n_3) ∧ Ob (v_4 = msQ n n_2) ∧ True)

set_option linter.unusedSimpArgs false in
set_option maxRecDepth 4000 in
set_option maxHeartbeats 400000 in
theorem v_Measured : V_Measured := by
  unfold V_Measured
  intro B a s sex sh eg no hs
  have hs : 0 ≤ s ∧ s ≤ 10000 := hs
  simp only [F_Below, F_Of, F_said, FnE.named, List.cons_append, List.nil_append, Ob_iff, and_true] at ⊢
  have hw := msW_in a
  have hb := msB_in a
  refine ⟨by simp, ?_⟩
  intro v hv; obtain rfl : v = msA1 a := hv
  intro v hv; obtain rfl : v = msW a := hv
  have in1 : InR .i64 (msW a + 1) := by
    simp only [InR]
    generalize msW a = w at *
    omega
  have pre1 : msW a + 1 ≤ 9223372036854775807 := by
    generalize msW a = w at *
    omega
  have in2 : InR .i64 (s - msB1 a) ∧ InR .i64 (s + msB2 a) := by
    simp only [InR]
    generalize msB1 a = x at *
    generalize msB2 a = y at *
    omega
  clear hw hb
  refine ⟨in1, pre1, ?_⟩
  intro v hv; obtain rfl : v = msA2 a := hv
  intro v hv; obtain rfl : v = msB1 a := hv
  refine ⟨in2.1, in1, pre1, ?_⟩
  intro v hv; obtain rfl : v = msA3 a := hv
  intro v hv; obtain rfl : v = msB2 a := hv
  refine ⟨in2.2, fun h => ⟨trivial, ?_⟩, fun h => ?_⟩
  · intro v hv; obtain rfl : v = msA4 a := hv
    intro v7 hv7
    refine ⟨trivial, ?_⟩
    intro v8 hv8 v9 hv9
    refine ⟨rfl, rfl, trivial, ?_, ?_, trivial, ?_⟩
    · unfold msEg; rw [if_pos h]; exact hv7
    · unfold msNo; rw [if_pos h]; exact hv9
    · unfold msQ; rw [if_pos h]; exact hv8
  · refine ⟨rfl, rfl, trivial, ?_, ?_, trivial, ?_⟩
    · unfold msEg; rw [if_neg h]
    · unfold msNo; rw [if_neg h]
    · unfold msQ; rw [if_neg h]

theorem e_Measured : V_Measured = needE P [] [F_Below.named, F_Of.named, F_said.named] A_Measured F_Measured := by kernel_rfl

theorem n_Measured : Ob (needE P [] [F_Below.named, F_Of.named, F_said.named] A_Measured F_Measured) := by
  rw [← e_Measured]
  exact ⟨v_Measured⟩

theorem b_Measured : ((P.funcs[48]?).any fun fn => fn.body.isSome) = true := by kernel_rfl

theorem Measured_ok : FnE.Ok P F_Measured := FnE.ok named (l := []) (es := [F_Below.named, F_Of.named, F_said.named]) (A := A_Measured) (by rfl) (by rfl) (by rfl) (by
  intro F h; simp at h) (by
  intro F h
  simp only [List.mem_cons, List.not_mem_nil, or_false] at h
  rcases h with rfl | rfl | rfl
  · exact Below_ok.named
  · exact Of_ok.named
  · exact said_ok.named
) b_Measured (by
  rintro ds h o ho n sz e k z rfl
  simp only [F_Measured] at ho
  split at ho <;> simp at ho) n_Measured

noncomputable def F_CaughtOf : FnE := ⟨10, (some [.i .u64]), [], fun _ => True, fun l => match l with | [.z a] => [.agg [.i .i64 (cgLo a), .i .i64 (cgHi a), .i .i64 (trSex a), .i .i64 (cgEg a), .i .i64 (cgNo a), .i .i64 (trSh a)]] | _ => [], fun l => match l with | [.z a] => [] | _ => [], fun l => match l with | [.z a] => [.i .u64 (cgQ a)] | _ => [], false⟩
noncomputable def A_CaughtOf : List SV → List Dat → Nat → List SV → Ann := fun _ _ _ _ => noAnn

def V_CaughtOf : Prop :=
  ∀ (B : RW) (n : Int), F_CaughtOf.pre ([Dat.z n] ++ []) → Ob (F_TruthOf.named.pre ([Dat.z n] ++ [])) ∧ ∀ (v : Int), v = trQ n → ∀ (v_1 : Int), v_1 = trSz n → ∀ (v_2 : Int), v_2 = trSex n → ∀ (v_3 : Int), v_3 = trSh n → Ob
  (F_Measured.named.pre ([Dat.z v] ++ ([Dat.z v_1, Dat.z v_2, Dat.z v_3, Dat.p (trEg n), Dat.p (trNo n)] ++ []))) ∧ ∀ (v_4 : Int), v_4 = msQ v v_2 → ∀ (v_5 : Int), v_5 = v_1 - msB1 v → ∀ (v_6 : Int), v_6 = v_1 + msB2 v → ∀
  (v_7 : Int), v_7 = v_2 → ∀ (v_8 : Int), v_8 = msEg v v_2 (trEg n) → ∀ (v_9 : Int), v_9 = msNo v v_2 (trNo n) → ∀ (v_10 : Int), v_10 = v_3 → Ob (v_5 = cgLo n) ∧ Ob (v_6 = cgHi n) ∧ Ob (v_7 = trSex n) ∧ Ob (v_8 = cgEg n) ∧
  Ob (v_9 = cgNo n) ∧ Ob (v_10 = trSh n) ∧ Ob (v_4 = cgQ n) ∧ True

set_option linter.unusedSimpArgs false in
set_option maxRecDepth 4000 in
set_option maxHeartbeats 400000 in
theorem v_CaughtOf : V_CaughtOf := by
  unfold V_CaughtOf
  intro B a _
  simp only [F_TruthOf, F_Measured, FnE.named, List.cons_append, List.nil_append, Ob_iff, and_true, true_and] at ⊢
  have h0 := trSz_in a
  have pre : 0 ≤ trSz a ∧ trSz a ≤ 10000 := by
    generalize trSz a = x at *
    omega
  clear h0
  intro v hv; obtain rfl : v = trQ a := hv
  intro v hv; obtain rfl : v = trSz a := hv
  intro v hv; obtain rfl : v = trSex a := hv
  intro v hv; obtain rfl : v = trSh a := hv
  refine ⟨pre, ?_⟩
  intro v1 h1 v2 h2 v3 h3 v4 h4 v5 h5 v6 h6 v7 h7
  exact ⟨h2, h3, h4, h5, h6, h7, h1⟩

theorem e_CaughtOf : V_CaughtOf = needE P [] [F_TruthOf.named, F_Measured.named] A_CaughtOf F_CaughtOf := by kernel_rfl

theorem n_CaughtOf : Ob (needE P [] [F_TruthOf.named, F_Measured.named] A_CaughtOf F_CaughtOf) := by
  rw [← e_CaughtOf]
  exact ⟨v_CaughtOf⟩

theorem b_CaughtOf : ((P.funcs[10]?).any fun fn => fn.body.isSome) = true := by kernel_rfl

theorem CaughtOf_ok : FnE.Ok P F_CaughtOf := FnE.ok named (l := []) (es := [F_TruthOf.named, F_Measured.named]) (A := A_CaughtOf) (by rfl) (by rfl) (by rfl) (by
  intro F h; simp at h) (by
  intro F h
  simp only [List.mem_cons, List.not_mem_nil, or_false] at h
  rcases h with rfl | rfl
  · exact TruthOf_ok.named
  · exact Measured_ok.named
) b_CaughtOf (by
  rintro ds h o ho n sz e k z rfl
  simp only [F_CaughtOf] at ho
  split at ho <;> simp at ho) n_CaughtOf

end Go.Proofs.YthlodlileecmdaaDoor.Sy
