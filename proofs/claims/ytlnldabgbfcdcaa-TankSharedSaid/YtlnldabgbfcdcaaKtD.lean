/- Boxes that are given away one by one. -/
import Derived.Test.YtlnldabgbfcdcaaSyP2
import Derived.Test.YtlnldabgbfcdcaaGrM
import Derived.Test.YtlnldabgbfcdcaaStM
import Derived.Test.YtlnldabgbfcdcaaVtM
import Derived.Test.YtlnldabgbfcdcaaDhM
import Derived.Test.YtlnldabgbfcdcaaKtT
import Derived.Test.YtlnldabgbfcdcaaKtA
import Derived.Test.YtlnldabgbfcdcaaKtB
import Derived.Test.YtlnldabgbfcdcaaSyP2
import Derived.KernelRfl
import Derived.Test.YtlnldabgbfcdcaaProg
namespace Go.Proofs.Ytlnldabgbfcdcaa.Sy
open Go Go.Rv
set_option linter.unusedVariables false

theorem tot_bd {L : Rows} {M : Int} : ∀ {k : Nat}, (∀ i, i < k → 0 ≤ cell L i 0 ∧ cell L i 0 ≤ M) → 0 ≤ totTo L k ∧ totTo L k ≤ k * M
  | 0, _ => by simp [totTo]
  | k + 1, h => by
    have ih := tot_bd (L := L) (M := M) (k := k) fun i hi => h i (by omega)
    have h0 := h k (by omega)
    have e : ((k + 1 : Nat) : Int) * M = k * M + M := by rw [Int.natCast_add, Int.add_mul]; simp
    rw [e]
    simp only [totTo]
    generalize (k : Int) * M = x at *
    omega

noncomputable def F_Total : Fn0 := ⟨15, [.one (.l [.i64])], fun l => match l with | [.l L] => L.length ≤ 1000 ∧ ∀ i, i < L.length → 0 ≤ cell L i 0 ∧ cell L i 0 ≤ 1000000000 | _ => False, fun l => match l with | [.l L] => .i .i64 (totTo L L.length) | _ => .v undef⟩
noncomputable def A_Total : List SV → List Dat → Nat → List SV → Ann := fun xs ds n ts => match xs with
  | [.lst x _ _ _] => match ds with
    | [.l L] => match n with
      | 3 => ⟨Nat, fun k => [some (SV.lst x L.length ((1 : Nat)) (Rv.elemOf [IntKind.i64] L)), none, some (SV.v (Value.int IntKind.i64 (0 : Int))), some (.i .i64 (totTo L k)), some (.i .i64 k), none, none, none, none, none, none, none, none, none, none, none, none, none], fun k => [], fun k => k ≤ L.length, fun k => L.length - k, 0⟩
      | _ => noAnn
    | _ => noAnn
  | _ => noAnn

def V_Total : Prop :=
  ∀ (B : RW) (x : RV) (rows : List (List Int)), IsLst B x rows.length ((1 : Nat)) (Rv.elemOf [IntKind.i64] rows) → oneB x = true → (∀ (row : List Int), row ∈ rows → row.length = (1 : Nat)) → (rows.length ≤ (1000 : Nat) ∧ ∀
  (i : Nat), i < rows.length → (0 : Int) ≤ cell rows i ((0 : Nat)) ∧ cell rows i ((0 : Nat)) ≤ (1000000000 : Int)) → (∃ (a : Nat), Ob (a ≤ rows.length) ∧ Ob (SV.lst x rows.length ((1 : Nat)) (Rv.elemOf [IntKind.i64] rows)
  = SV.lst x rows.length ((1 : Nat)) (Rv.elemOf [IntKind.i64] rows)) ∧ Ob (Value.int IntKind.i64 (0 : Int) = Value.int IntKind.i64 (0 : Int)) ∧ Ob ((0 : Int) = totTo rows a) ∧ Ob ((0 : Int) = (↑a : Int)) ∧ Ob (IsLst B x
  rows.length ((1 : Nat)) (Rv.elemOf [IntKind.i64] rows)) ∧ True) ∧ ∀ (a : Nat), a ≤ rows.length → ∀ (z z_1 z_2 z_3 z_4 z_5 z_6 z_7 z_8 z_9 z_10 z_11 z_12 z_13 : Value), Ob (IsLst B x rows.length ((1 : Nat)) (Rv.elemOf
  [IntKind.i64] rows)) ∧ ((↑a : Int) < (↑rows.length : Int) → Ob ((0 : Int) ≤ (↑a : Int) ∧ a < rows.length ∧ IsLst B x rows.length ((1 : Nat)) (Rv.elemOf [IntKind.i64] rows)) ∧ Ob (IsLst B x rows.length ((1 : Nat))
  (Rv.elemOf [IntKind.i64] rows) ∧ a < rows.length) ∧ Ob (InR IntKind.i64 (totTo rows a + cell rows a ((0 : Nat)))) ∧ Ob (InR IntKind.i64 ((↑a : Int) + (1 : Int))) ∧ ∃ (a' : Nat), Ob (a' ≤ rows.length ∧ rows.length - a' <
  rows.length - a) ∧ Ob (SV.lst x rows.length ((1 : Nat)) (Rv.elemOf [IntKind.i64] rows) = SV.lst x rows.length ((1 : Nat)) (Rv.elemOf [IntKind.i64] rows)) ∧ Ob (Value.int IntKind.i64 (0 : Int) = Value.int IntKind.i64 (0 :
  Int)) ∧ Ob (totTo rows a + cell rows a ((0 : Nat)) = totTo rows a') ∧ Ob ((↑a : Int) + (1 : Int) = (↑a' : Int)) ∧ Ob (IsLst B x rows.length ((1 : Nat)) (Rv.elemOf [IntKind.i64] rows)) ∧ True) ∧ (¬(↑a : Int) <
  (↑rows.length : Int) → Ob (totTo rows a = totTo rows rows.length) ∧ True)

set_option linter.unusedSimpArgs false in
set_option maxRecDepth 4000 in
set_option maxHeartbeats 400000 in
theorem v_Total : V_Total := by
  unfold V_Total
  intro B x L hx hox hrx ⟨h1, h2⟩
  simp only [Ob_iff, and_true, true_and]
  refine ⟨⟨0, by omega, rfl, rfl, hx⟩, ?_⟩
  intro k hk
  intros
  refine ⟨hx, fun h3 => ?_, fun h3 => ?_⟩
  · have hk' : k < L.length := by omega
    have hb := tot_bd (L := L) (M := 1000000000) (k := k) fun i hi => h2 i (by omega)
    have hc := h2 k hk'
    have hm : (k : Int) * 1000000000 ≤ 1000 * 1000000000 := Int.mul_le_mul_of_nonneg_right (by omega) (by omega)
    exact ⟨⟨by omega, hk', hx⟩, ⟨hx, hk'⟩, by simp only [InR]; omega, by simp only [InR]; omega, k + 1, ⟨hk', by omega⟩, rfl, by omega, hx⟩
  have e : k = L.length := by omega
  rw [e]

theorem e_Total : V_Total = needF P [] A_Total F_Total := by kernel_rfl

theorem n_Total : Ob (needF P [] A_Total F_Total) := by
  rw [← e_Total]
  exact ⟨v_Total⟩

theorem b_Total : ((P.funcs[15]?).any fun fn => fn.body.isSome) = true := by kernel_rfl

theorem Total_ok : Fn0.Ok P F_Total := Fn0.ok named (l := []) (A := A_Total) (by rfl) (by
  intro F h; simp at h) b_Total (by
  intro ds N
  simp only [F_Total]
  split <;> rfl) n_Total

end Go.Proofs.Ytlnldabgbfcdcaa.Sy
