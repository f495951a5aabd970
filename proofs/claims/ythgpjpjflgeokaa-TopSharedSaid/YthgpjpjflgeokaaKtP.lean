/- A number that is shared among some (the program): sums, keys, comparisons. -/
import Derived.Test.YthgpjpjflgeokaaSyP2
import Derived.Test.YthgpjpjflgeokaaGrM
import Derived.Test.YthgpjpjflgeokaaStM
import Derived.Test.YthgpjpjflgeokaaLrM
import Derived.Test.YthgpjpjflgeokaaDhM
import Derived.Test.YthgpjpjflgeokaaKtT
import Derived.Test.YthgpjpjflgeokaaKtA
import Derived.Test.YthgpjpjflgeokaaKtB
import Derived.Test.YthgpjpjflgeokaaKtD
import Derived.Test.YthgpjpjflgeokaaKtW
import Derived.Test.YthgpjpjflgeokaaKtY
import Derived.Test.YthgpjpjflgeokaaKtX
import Derived.Test.YthgpjpjflgeokaaSyP2
import Derived.KernelRfl
import Derived.Test.YthgpjpjflgeokaaProg
namespace Go.Proofs.Ythgpjpjflgeokaa.Sy
open Go Go.Rv
set_option linter.unusedVariables false

structure KeyOk (i d : Int) (L : Rows) (N : Int) : Prop where
  o : PrtOk d L
  n : N = pN L
  z : pN L ≠ 0
  i : 0 ≤ i ∧ i.toNat < L.length

noncomputable def F_withinT : Fn0 := ⟨23, [i64, i64, i64], fun _ => True, fun l => match l with | [.z n, .z lo, .z hi] => .p (lo ≤ n ∧ n ≤ hi) | _ => .v undef⟩
noncomputable def A_withinT : List SV → List Dat → Nat → List SV → Ann := fun _ _ _ _ => noAnn

def V_withinT : Prop :=
  ∀ (B : RW) (n n_1 n_2 : Int), True → (n_1 ≤ n → Ob (n ≤ n_2 ↔ n_1 ≤ n ∧ n ≤ n_2) ∧ True) ∧ (¬n_1 ≤ n → Ob (false = true ↔ n_1 ≤ n ∧ n ≤ n_2) ∧ True)

set_option linter.unusedSimpArgs false in
set_option maxRecDepth 4000 in
set_option maxHeartbeats 400000 in
theorem v_withinT : V_withinT := by
  unfold V_withinT
  intros
  simp only [Ob_iff, and_true, true_and, InR] at *
  all_goals grind

theorem e_withinT : V_withinT = needF P [] A_withinT F_withinT := by kernel_rfl

theorem n_withinT : Ob (needF P [] A_withinT F_withinT) := by
  rw [← e_withinT]
  exact ⟨v_withinT⟩

theorem b_withinT : ((P.funcs[23]?).any fun fn => fn.body.isSome) = true := by kernel_rfl

theorem withinT_ok : Fn0.Ok P F_withinT := Fn0.ok named (l := []) (A := A_withinT) (by rfl) (by
  intro F h; simp at h) b_withinT (by
  intro ds N
  simp only [F_withinT]
  split <;> rfl) n_withinT

noncomputable def F_sumT : Fn0 := ⟨14, [.one (.l [.i64])], fun l => match l with | [.l L] => L.length ≤ 1000 ∧ ∀ i, i < L.length → 0 ≤ cell L i 0 ∧ cell L i 0 ≤ 2000000000 | _ => False, fun l => match l with | [.l L] => .i .i64 (totTo L L.length) | _ => .v undef⟩
noncomputable def A_sumT : List SV → List Dat → Nat → List SV → Ann := fun xs ds n ts => match xs with
  | [.lst x _ _ _] => match ds with
    | [.l L] => match n with
      | 3 => ⟨Nat, fun k => [none, none, some (SV.v (Value.int IntKind.i64 (0 : Int))), some (.i .i64 (totTo L k)), none, none, some (SV.lst x L.length ((1 : Nat)) (Rv.elemOf [IntKind.i64] L)), some (SV.i IntKind.i64 (↑L.length : Int)), some (.i .i64 k), none, none, none, none, none, none, none, none], fun k => [], fun k => k ≤ L.length, fun k => L.length - k, 0⟩
      | _ => noAnn
    | _ => noAnn
  | _ => noAnn

def V_sumT : Prop :=
  ∀ (B : RW) (x : RV) (rows : List (List Int)), IsLst B x rows.length 1 (Rv.elemOf [.i64] rows) → oneB x = true → (∀ (row : List Int), row ∈ rows → row.length = (1 : Nat)) → (rows.length ≤ (1000 : Nat) ∧ ∀ (i : Nat), i <
  rows.length → (0 : Int) ≤ cell rows i 0 ∧ cell rows i 0 ≤ (2000000000 : Int)) → Ob (IsLst B x rows.length 1 (Rv.elemOf [.i64] rows)) ∧ (∃ (a : Nat), Ob (a ≤ rows.length) ∧ Ob (Value.int .i64 (0 : Int) = Value.int .i64 (0
  : Int)) ∧ Ob ((0 : Int) = totTo rows a) ∧ Ob (SV.lst x rows.length 1 (Rv.elemOf [.i64] rows) = SV.lst x rows.length 1 (Rv.elemOf [.i64] rows)) ∧ Ob ((↑rows.length : Int) = (↑rows.length : Int)) ∧ Ob ((0 : Int) = (↑a :
  Int)) ∧ Ob (IsLst B x rows.length 1 (Rv.elemOf [.i64] rows)) ∧ True) ∧ ∀ (a : Nat), a ≤ rows.length → ∀ (z z_1 z_2 z_3 z_4 z_5 z_6 z_7 z_8 z_9 z_10 z_11 : Value), ((↑a : Int) < (↑rows.length : Int) → Ob ((0 : Int) ≤ (↑a
  : Int) ∧ a < rows.length ∧ IsLst B x rows.length 1 (Rv.elemOf [.i64] rows)) ∧ Ob (IsLst B x rows.length 1 (Rv.elemOf [.i64] rows) ∧ a < rows.length) ∧ Ob (InR .i64 (totTo rows a + cell rows a 0)) ∧ Ob (InR .i64 ((↑a :
  Int) + (1 : Int))) ∧ ∃ (a' : Nat), Ob (a' ≤ rows.length ∧ rows.length - a' < rows.length - a) ∧ Ob (Value.int .i64 (0 : Int) = Value.int .i64 (0 : Int)) ∧ Ob (totTo rows a + cell rows a 0 = totTo rows a') ∧ Ob (SV.lst x
  rows.length 1 (Rv.elemOf [.i64] rows) = SV.lst x rows.length 1 (Rv.elemOf [.i64] rows)) ∧ Ob ((↑rows.length : Int) = (↑rows.length : Int)) ∧ Ob ((↑a : Int) + (1 : Int) = (↑a' : Int)) ∧ Ob (IsLst B x rows.length 1
  (Rv.elemOf [.i64] rows)) ∧ True) ∧ (¬(↑a : Int) < (↑rows.length : Int) → Ob (totTo rows a = totTo rows rows.length) ∧ True)

set_option linter.unusedSimpArgs false in
set_option maxRecDepth 4000 in
set_option maxHeartbeats 400000 in
theorem v_sumT : V_sumT := by
  unfold V_sumT
  intro B x L hx hox hrx ⟨h1, h2⟩
  simp only [Ob_iff, and_true, true_and]
  refine ⟨hx, ⟨0, by omega, rfl, rfl, hx⟩, ?_⟩
  intro k hk
  intros
  refine ⟨fun h3 => ?_, fun h3 => ?_⟩
  · have hk' : k < L.length := by omega
    have hb := tot_bd (L := L) (M := 2000000000) (k := k) fun i hi => h2 i (by omega)
    have hc := h2 k hk'
    have hm : (k : Int) * 2000000000 ≤ 1000 * 2000000000 := Int.mul_le_mul_of_nonneg_right (by omega) (by omega)
    exact ⟨⟨by omega, hk', hx⟩, ⟨hx, hk'⟩, by simp only [InR]; omega, by simp only [InR]; omega, k + 1, ⟨hk', by omega⟩, rfl, by omega, hx⟩
  have e : k = L.length := by omega
  rw [e]

theorem e_sumT : V_sumT = needF P [] A_sumT F_sumT := by kernel_rfl

theorem n_sumT : Ob (needF P [] A_sumT F_sumT) := by
  rw [← e_sumT]
  exact ⟨v_sumT⟩

theorem b_sumT : ((P.funcs[14]?).any fun fn => fn.body.isSome) = true := by kernel_rfl

theorem sumT_ok : Fn0.Ok P F_sumT := Fn0.ok named (l := []) (A := A_sumT) (by rfl) (by
  intro F h; simp at h) b_sumT (by
  intro ds N
  simp only [F_sumT]
  split <;> rfl) n_sumT

noncomputable def F_isNaN : Fn0 := ⟨32, [i64], fun _ => True, fun l => match l with | [.z a] => .p False | _ => .v undef⟩
noncomputable def A_isNaN : List SV → List Dat → Nat → List SV → Ann := fun _ _ _ _ => noAnn

def V_isNaN : Prop :=
  ∀ (B : RW) (n : Int), True → Ob (¬n = n ↔ False) ∧ True

set_option linter.unusedSimpArgs false in
set_option maxRecDepth 4000 in
set_option maxHeartbeats 400000 in
theorem v_isNaN : V_isNaN := by
  unfold V_isNaN
  intros
  simp only [Ob_iff, and_true, not_true_eq_false]

theorem e_isNaN : V_isNaN = needF P [] A_isNaN F_isNaN := by kernel_rfl

theorem n_isNaN : Ob (needF P [] A_isNaN F_isNaN) := by
  rw [← e_isNaN]
  exact ⟨v_isNaN⟩

theorem b_isNaN : ((P.funcs[32]?).any fun fn => fn.body.isSome) = true := by kernel_rfl

theorem isNaN_ok : Fn0.Ok P F_isNaN := Fn0.ok named (l := []) (A := A_isNaN) (by rfl) (by
  intro F h; simp at h) b_isNaN (by
  intro ds N
  simp only [F_isNaN]
  split <;> rfl) n_isNaN

noncomputable def F_key : Fn0 := ⟨25, [i64, .ptr [.i .i64], .ptr [.l [.i64]], .ptr [.i .i64]], fun l => match l with | [.z i, .z d, .l L, .z N] => KeyOk i d L N | _ => False, fun l => match l with | [.z i, .z d, .l L, .z N] => .i .i64 (pR d L i.toNat) | _ => .v undef⟩
noncomputable def A_key : List SV → List Dat → Nat → List SV → Ann := fun _ _ _ _ => noAnn

def V_key : Prop :=
  ∀ (B : RW) (n : Int) (x : RV) (n_1 : Int), (IsLst B x 1 1 fun (x : Nat) ↦ [SV.i .i64 n_1]) → ∀ (x_1 x_2 : RV) (rows : List (List Int)), IsLst B x_2 rows.length 1 (Rv.elemOf [.i64] rows) → oneB x_2 = true → (∀ (row : List
  Int), row ∈ rows → row.length = (1 : Nat)) → (IsLst B x_1 1 1 fun (x : Nat) ↦ [SV.lst x_2 rows.length 1 (Rv.elemOf [.i64] rows)]) → ∀ (x_3 : RV) (n_2 : Int), (IsLst B x_3 1 1 fun (x : Nat) ↦ [SV.i .i64 n_2]) → KeyOk n
  n_1 rows n_2 → Ob ((IsLst B x 1 1 fun (x : Nat) ↦ [SV.i .i64 n_1]) ∧ (0 : Nat) < (1 : Nat)) ∧ Ob ((IsLst B x_1 1 1 fun (x : Nat) ↦ [SV.lst x_2 rows.length 1 (Rv.elemOf [.i64] rows)]) ∧ (0 : Nat) < (1 : Nat)) ∧ Ob (IsLst
  B x_2 rows.length 1 (Rv.elemOf [.i64] rows)) ∧ Ob ((0 : Int) ≤ n ∧ n.toNat < rows.length ∧ IsLst B x_2 rows.length 1 (Rv.elemOf [.i64] rows)) ∧ Ob (IsLst B x_2 rows.length 1 (Rv.elemOf [.i64] rows) ∧ n.toNat <
  rows.length) ∧ Ob (IsLst B x_2 rows.length 1 (Rv.elemOf [.i64] rows) ∧ n.toNat < rows.length) ∧ Ob (InR .i64 (n_1 * cell rows n.toNat 0)) ∧ Ob ((IsLst B x_3 1 1 fun (x : Nat) ↦ [SV.i .i64 n_2]) ∧ (0 : Nat) < (1 : Nat)) ∧
  Ob ((0 : Int) < n_2 ∧ InR .i64 ((n_1 * cell rows n.toNat 0).tmod n_2)) ∧ Ob ((n_1 * cell rows n.toNat 0).tmod n_2 = pR n_1 rows n.toNat) ∧ True

set_option linter.unusedSimpArgs false in
set_option maxRecDepth 4000 in
set_option maxHeartbeats 400000 in
theorem v_key : V_key := by
  unfold V_key
  intro B i x d hx1 x1 x2 L hx2 ho hr hx3 x4 N hx4 hok
  have hok : KeyOk i d L N := hok
  have c := pFl_bd hok.o hok.z hok.i.2
  have hN := (hok.o.sh hok.z).p
  have r := (hok.o.sh hok.z).rstB i.toNat
  have r : 0 ≤ pR d L i.toNat ∧ pR d L i.toNat ≤ pN L - 1 := r
  have tb := tot_bd (L := L) (M := 10000) (k := L.length) hok.o.c
  have hl := hok.o.l
  have nb : pN L ≤ 200000 := by unfold pN; omega
  have hn := hok.n
  have hi := hok.i
  have e : (d * cell L i.toNat 0).tmod N = pR d L i.toNat := by
    rw [Int.tmod_eq_emod_of_nonneg c.2.2.1, hn]
    rfl
  rw [e]
  simp only [Ob_iff, and_true, true_and]
  refine ⟨⟨hx1, Nat.lt_succ_self 0⟩, ⟨hx3, Nat.lt_succ_self 0⟩, hx2, ⟨hi.1, hi.2, hx2⟩, ⟨hx2, hi.2⟩, ⟨hx2, hi.2⟩, ?_, ⟨hx4, Nat.lt_succ_self 0⟩, by omega, ?_⟩
  · simp only [InR]; omega
  · simp only [InR]; omega

theorem e_key : V_key = needF P [] A_key F_key := by kernel_rfl

theorem n_key : Ob (needF P [] A_key F_key) := by
  rw [← e_key]
  exact ⟨v_key⟩

theorem b_key : ((P.funcs[25]?).any fun fn => fn.body.isSome) = true := by kernel_rfl

theorem key_ok : Fn0.Ok P F_key := Fn0.ok named (l := []) (A := A_key) (by rfl) (by
  intro F h; simp at h) b_key (by
  intro ds N
  simp only [F_key]
  split <;> rfl) n_key

noncomputable def F_cmp : Fn0 := ⟨30, [i64, i64], fun _ => True, fun l => match l with | [.z a, .z b] => .i .i64 (if a < b then -1 else if b < a then 1 else 0) | _ => .v undef⟩
noncomputable def A_cmp : List SV → List Dat → Nat → List SV → Ann := fun _ _ _ _ => noAnn

def V_cmp : Prop :=
  ∀ (B : RW) (n n_1 : Int), True → Ob True ∧ Ob True ∧ (False → (False → Ob ((0 : Int) = if n < n_1 then (-1 : Int) else if n_1 < n then (1 : Int) else (0 : Int)) ∧ True) ∧ (¬False → Ob ((-1 : Int) = if n < n_1 then (-1 :
  Int) else if n_1 < n then (1 : Int) else (0 : Int)) ∧ True)) ∧ (¬False → (False → Ob ((1 : Int) = if n < n_1 then (-1 : Int) else if n_1 < n then (1 : Int) else (0 : Int)) ∧ True) ∧ (¬False → (n < n_1 → Ob ((-1 : Int) =
  if n < n_1 then (-1 : Int) else if n_1 < n then (1 : Int) else (0 : Int)) ∧ True) ∧ (¬n < n_1 → (n_1 < n → Ob ((1 : Int) = if n < n_1 then (-1 : Int) else if n_1 < n then (1 : Int) else (0 : Int)) ∧ True) ∧ (¬n_1 < n →
  Ob ((0 : Int) = if n < n_1 then (-1 : Int) else if n_1 < n then (1 : Int) else (0 : Int)) ∧ True))))

set_option linter.unusedSimpArgs false in
set_option maxRecDepth 4000 in
set_option maxHeartbeats 400000 in
theorem v_cmp : V_cmp := by
  unfold V_cmp
  intro B a b _
  simp only [Ob_iff, and_true, true_and, not_false_eq_true, true_implies, false_implies]
  refine ⟨fun h => ?_, fun h => ⟨fun h2 => ?_, fun h2 => ?_⟩⟩
  · rw [if_pos h]
  · rw [if_neg h, if_pos h2]
  · rw [if_neg h, if_neg h2]

theorem e_cmp : V_cmp = needF P [F_isNaN] A_cmp F_cmp := by kernel_rfl

theorem n_cmp : Ob (needF P [F_isNaN] A_cmp F_cmp) := by
  rw [← e_cmp]
  exact ⟨v_cmp⟩

theorem b_cmp : ((P.funcs[30]?).any fun fn => fn.body.isSome) = true := by kernel_rfl

theorem cmp_ok : Fn0.Ok P F_cmp := Fn0.ok named (l := [F_isNaN]) (A := A_cmp) (by rfl) (by
  intro F h
  simp only [List.mem_cons, List.not_mem_nil, or_false] at h
  rcases h with rfl
  · exact isNaN_ok
) b_cmp (by
  intro ds N
  simp only [F_cmp]
  split <;> rfl) n_cmp

end Go.Proofs.Ythgpjpjflgeokaa.Sy
