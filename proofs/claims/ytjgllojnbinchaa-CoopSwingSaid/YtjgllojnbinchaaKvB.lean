/- Motions: what the program makes of them. -/
import Derived.Test.YtjgllojnbinchaaSyP2
import Derived.Test.YtjgllojnbinchaaGrM
import Derived.Test.YtjgllojnbinchaaStM
import Derived.Test.YtjgllojnbinchaaVtM
import Derived.Test.YtjgllojnbinchaaKvM
import Derived.Test.YtjgllojnbinchaaKtT
import Derived.Test.YtjgllojnbinchaaKtA
import Derived.Test.YtjgllojnbinchaaKtB
import Derived.Test.YtjgllojnbinchaaKtS
import Derived.Test.YtjgllojnbinchaaKtM
import Derived.Test.YtjgllojnbinchaaKtN
import Derived.Test.YtjgllojnbinchaaSyP2
import Derived.KernelRfl
import Derived.Test.YtjgllojnbinchaaProg
namespace Go.Proofs.Ytjgllojnbinchaa.Sy
open Go Go.Rv
set_option linter.unusedVariables false

theorem all_tot (W : Rows) : ∀ k, allS W k = totTo W k
  | 0 => rfl
  | k + 1 => by simp only [allS, totTo, all_tot W k]

noncomputable def F_isPart : Fn0 := ⟨54, [i64], fun _ => True, fun l => match l with | [.z n] => .p (0 ≤ n ∧ n ≤ 1000000) | _ => .v undef⟩
noncomputable def A_isPart : List SV → List Dat → Nat → List SV → Ann := fun _ _ _ _ => noAnn

def V_isPart : Prop :=
  ∀ (B : RW) (n : Int), True → Ob True ∧ Ob ((0 : Int) ≤ n ∧ n ≤ (1000000 : Int) ↔ (0 : Int) ≤ n ∧ n ≤ (1000000 : Int)) ∧ True

set_option linter.unusedSimpArgs false in
set_option maxRecDepth 4000 in
set_option maxHeartbeats 400000 in
theorem v_isPart : V_isPart := by
  unfold V_isPart
  intros
  exact ⟨⟨trivial⟩, ⟨Iff.rfl⟩, trivial⟩

theorem e_isPart : V_isPart = needF P [F_within] A_isPart F_isPart := by kernel_rfl

theorem n_isPart : Ob (needF P [F_within] A_isPart F_isPart) := by
  rw [← e_isPart]
  exact ⟨v_isPart⟩

theorem b_isPart : ((P.funcs[54]?).any fun fn => fn.body.isSome) = true := by kernel_rfl

theorem isPart_ok : Fn0.Ok P F_isPart := Fn0.ok named (l := [F_within]) (A := A_isPart) (by rfl) (by
  intro F h
  simp only [List.mem_cons, List.not_mem_nil, or_false] at h
  rcases h with rfl
  · exact within_ok
) b_isPart (by
  intro ds N
  simp only [F_isPart]
  split <;> rfl) n_isPart

noncomputable def F_sum : Fn0 := ⟨57, [.one (.l [.i64])], fun l => match l with | [.l L] => L.length ≤ 100 ∧ ∀ i, i < L.length → -1000000000000 ≤ cell L i 0 ∧ cell L i 0 ≤ 1000000000000 | _ => False, fun l => match l with | [.l L] => .i .i64 (totTo L L.length) | _ => .v undef⟩
noncomputable def A_sum : List SV → List Dat → Nat → List SV → Ann := fun xs ds n ts => match xs with
  | [.lst x _ _ _] => match ds with
    | [.l L] => match n with
      | 3 => ⟨Nat, fun k => [none, none, some (SV.v (Value.int IntKind.i64 (0 : Int))), some (.i .i64 (totTo L k)), none, none, some (SV.lst x L.length ((1 : Nat)) (Rv.elemOf [IntKind.i64] L)), some (SV.i IntKind.i64 (↑L.length : Int)), some (.i .i64 k), none, none, none, none, none, none, none, none], fun k => [], fun k => k ≤ L.length, fun k => L.length - k, 0⟩
      | _ => noAnn
    | _ => noAnn
  | _ => noAnn

def V_sum : Prop :=
  ∀ (B : RW) (x : RV) (rows : List (List Int)), IsLst B x rows.length 1 (Rv.elemOf [.i64] rows) → oneB x = true → (∀ (row : List Int), row ∈ rows → row.length = (1 : Nat)) → (rows.length ≤ (100 : Nat) ∧ ∀ (i : Nat), i <
  rows.length → (-1000000000000 : Int) ≤ cell rows i 0 ∧ cell rows i 0 ≤ (1000000000000 : Int)) → Ob (IsLst B x rows.length 1 (Rv.elemOf [.i64] rows)) ∧ (∃ (a : Nat), Ob (a ≤ rows.length) ∧ Ob (Value.int .i64 (0 : Int) =
  Value.int .i64 (0 : Int)) ∧ Ob ((0 : Int) = totTo rows a) ∧ Ob (SV.lst x rows.length 1 (Rv.elemOf [.i64] rows) = SV.lst x rows.length 1 (Rv.elemOf [.i64] rows)) ∧ Ob ((↑rows.length : Int) = (↑rows.length : Int)) ∧ Ob ((0
  : Int) = (↑a : Int)) ∧ Ob (IsLst B x rows.length 1 (Rv.elemOf [.i64] rows)) ∧ True) ∧ ∀ (a : Nat), a ≤ rows.length → ∀ (z z_1 z_2 z_3 z_4 z_5 z_6 z_7 z_8 z_9 z_10 z_11 : Value), ((↑a : Int) < (↑rows.length : Int) → Ob
  ((0 : Int) ≤ (↑a : Int) ∧ a < rows.length ∧ IsLst B x rows.length 1 (Rv.elemOf [.i64] rows)) ∧ Ob (IsLst B x rows.length 1 (Rv.elemOf [.i64] rows) ∧ a < rows.length) ∧ Ob (InR .i64 (totTo rows a + cell rows a 0)) ∧ Ob
  (InR .i64 ((↑a : Int) + (1 : Int))) ∧ ∃ (a' : Nat), Ob (a' ≤ rows.length ∧ rows.length - a' < rows.length - a) ∧ Ob (Value.int .i64 (0 : Int) = Value.int .i64 (0 : Int)) ∧ Ob (totTo rows a + cell rows a 0 = totTo rows
  a') ∧ Ob (SV.lst x rows.length 1 (Rv.elemOf [.i64] rows) = SV.lst x rows.length 1 (Rv.elemOf [.i64] rows)) ∧ Ob ((↑rows.length : Int) = (↑rows.length : Int)) ∧ Ob ((↑a : Int) + (1 : Int) = (↑a' : Int)) ∧ Ob (IsLst B x
  rows.length 1 (Rv.elemOf [.i64] rows)) ∧ True) ∧ (¬(↑a : Int) < (↑rows.length : Int) → Ob (totTo rows a = totTo rows rows.length) ∧ True)

set_option linter.unusedSimpArgs false in
set_option maxRecDepth 4000 in
set_option maxHeartbeats 400000 in
theorem v_sum : V_sum := by
  unfold V_sum
  intro B x L hx hox hrx ⟨h1, h2⟩
  simp only [Ob_iff, and_true, true_and]
  refine ⟨hx, ⟨0, by omega, rfl, rfl, hx⟩, ?_⟩
  intro k hk
  intros
  have hb : ∀ j, j ≤ L.length → -(j * 1000000000000 : Int) ≤ totTo L j ∧ totTo L j ≤ j * 1000000000000 := fun j => by
    induction j with
    | zero => intro _; simp [totTo]
    | succ j ih =>
      intro hj
      have h3 := ih (by omega)
      have h4 := h2 j (by omega)
      have e : ((j + 1 : Nat) : Int) * 1000000000000 = j * 1000000000000 + 1000000000000 := by omega
      simp only [totTo, e]
      omega
  refine ⟨fun h3 => ?_, fun h3 => ?_⟩
  · have hk' : k < L.length := by omega
    have h4 := hb k hk
    have h5 := h2 k hk'
    exact ⟨⟨by omega, hk', hx⟩, ⟨hx, hk'⟩, by simp only [InR]; omega, by simp only [InR]; omega, k + 1, ⟨hk', by omega⟩, rfl, by omega, hx⟩
  · have e : k = L.length := by omega
    rw [e]

theorem e_sum : V_sum = needF P [] A_sum F_sum := by kernel_rfl

theorem n_sum : Ob (needF P [] A_sum F_sum) := by
  rw [← e_sum]
  exact ⟨v_sum⟩

theorem b_sum : ((P.funcs[57]?).any fun fn => fn.body.isSome) = true := by kernel_rfl

theorem sum_ok : Fn0.Ok P F_sum := Fn0.ok named (l := []) (A := A_sum) (by rfl) (by
  intro F h; simp at h) b_sum (by
  intro ds N
  simp only [F_sum]
  split <;> rfl) n_sum

noncomputable def F_check : Fn0 := ⟨37, [.agg [.l [.i64], .l [.i64], .i .i64]], fun l => match l with | [.l W, .l V, .z need] => W.length ≤ 4000000 ∧ V.length ≤ 4000000 | _ => False, fun l => match l with | [.l W, .l V, .z need] => .i .i64 (motErr W V need) | _ => .v undef⟩
noncomputable def A_check : List SV → List Dat → Nat → List SV → Ann := fun xs ds n ts => match xs with
  | [.agg [.lst xw _ _ _, .lst xv _ _ _, .i _ _]] => match ds with
    | [.l W, .l V, .z need] => match n with
      | 6 => ⟨Nat, fun k => [none, some (SV.ptr ((0 : Nat)) ((0 : Nat))), none, none, none, none, none, none, none, none, none, none, none, none, none, none, none, none, some (SV.lst xw W.length ((1 : Nat)) (Rv.elemOf [IntKind.i64] W)), some (SV.i IntKind.i64 (↑W.length : Int)), some (.i .i64 k), none, none, none, none, none, none, none, none, none, none, none, none, none, none, none, none, none, none, none, none, none, none, none, none, none, none, none, none, none], fun k => [SObj.cells [SV.lst xw W.length ((1 : Nat)) (Rv.elemOf [IntKind.i64] W), SV.lst xv V.length ((1 : Nat)) (Rv.elemOf [IntKind.i64] V), SV.i IntKind.i64 need] Kd.ex], fun k => k ≤ W.length ∧ ∀ i, i < k → wtAt W i, fun k => W.length - k, 0⟩
      | 14 => ⟨Nat, fun k => [none, some (SV.ptr ((0 : Nat)) ((0 : Nat))), none, none, none, none, none, none, none, none, none, none, none, none, none, none, none, none, none, none, none, none, none, none, none, none, none, none, none, none, none, none, none, none, none, none, some (SV.lst xv V.length ((1 : Nat)) (Rv.elemOf [IntKind.i64] V)), some (SV.i IntKind.i64 (↑V.length : Int)), some (.i .i64 k), none, none, none, none, none, none, none, none, none, none, none], fun k => [SObj.cells [SV.lst xw W.length ((1 : Nat)) (Rv.elemOf [IntKind.i64] W), SV.lst xv V.length ((1 : Nat)) (Rv.elemOf [IntKind.i64] V), SV.i IntKind.i64 need] Kd.ex], fun k => k ≤ V.length ∧ ∀ i, i < k → vtAt V i, fun k => V.length - k, 0⟩
      | _ => noAnn
    | _ => noAnn
  | _ => noAnn

def V_check : Prop :=
  ∀ (B : RW) (x : RV) (rows : List (List Int)), IsLst B x rows.length 1 (Rv.elemOf [.i64] rows) → oneB x = true → (∀ (row : List Int), row ∈ rows → row.length = (1 : Nat)) → ∀ (x_1 : RV) (rows_1 : List (List Int)), IsLst B
  x_1 rows_1.length 1 (Rv.elemOf [.i64] rows_1) → oneB x_1 = true → (∀ (row : List Int), row ∈ rows_1 → row.length = (1 : Nat)) → ∀ (n : Int), rows.length ≤ (4000000 : Nat) ∧ rows_1.length ≤ (4000000 : Nat) → Ob (IsLst B x
  rows.length 1 (Rv.elemOf [.i64] rows)) ∧ ((↑rows.length : Int) = (0 : Int) → Ob ((4 : Int) = motErr rows rows_1 n) ∧ True) ∧ (¬(↑rows.length : Int) = (0 : Int) → Ob (IsLst B x rows.length 1 (Rv.elemOf [.i64] rows)) ∧
  ((12 : Int) < (↑rows.length : Int) → Ob ((5 : Int) = motErr rows rows_1 n) ∧ True) ∧ (¬(12 : Int) < (↑rows.length : Int) → Ob (IsLst B x rows.length 1 (Rv.elemOf [.i64] rows)) ∧ (∃ (a : Nat), Ob (a ≤ rows.length ∧ ∀ (i :
  Nat), i < a → wtAt rows i) ∧ Ob (SV.lst x rows.length 1 (Rv.elemOf [.i64] rows) = SV.lst x rows.length 1 (Rv.elemOf [.i64] rows)) ∧ Ob ((↑rows.length : Int) = (↑rows.length : Int)) ∧ Ob ((0 : Int) = (↑a : Int)) ∧ Ob
  (SV.lst x rows.length 1 (Rv.elemOf [.i64] rows) = SV.lst x rows.length 1 (Rv.elemOf [.i64] rows)) ∧ Ob (SV.lst x_1 rows_1.length 1 (Rv.elemOf [.i64] rows_1) = SV.lst x_1 rows_1.length 1 (Rv.elemOf [.i64] rows_1)) ∧ Ob (n
  = n) ∧ Ob (IsLst B x rows.length 1 (Rv.elemOf [.i64] rows)) ∧ Ob (IsLst B x rows.length 1 (Rv.elemOf [.i64] rows)) ∧ Ob (IsLst B x_1 rows_1.length 1 (Rv.elemOf [.i64] rows_1)) ∧ True) ∧ ∀ (a : Nat), (a ≤ rows.length ∧ ∀
  (i : Nat), i < a → wtAt rows i) → ∀ (z z_1 z_2 z_3 z_4 z_5 z_6 z_7 z_8 z_9 z_10 z_11 z_12 z_13 z_14 z_15 z_16 z_17 z_18 z_19 z_20 z_21 z_22 z_23 z_24 z_25 z_26 z_27 z_28 z_29 z_30 z_31 z_32 z_33 z_34 z_35 z_36 z_37 z_38
  z_39 z_40 z_41 z_42 z_43 z_44 z_45 : Value), ((↑a : Int) < (↑rows.length : Int) → Ob ((0 : Int) ≤ (↑a : Int) ∧ a < rows.length ∧ IsLst B x rows.length 1 (Rv.elemOf [.i64] rows)) ∧ Ob (IsLst B x rows.length 1 (Rv.elemOf
  [.i64] rows) ∧ a < rows.length) ∧ Ob True ∧ (¬((0 : Int) ≤ cell rows a 0 ∧ cell rows a 0 ≤ (1000000 : Int)) → Ob ((1 : Int) = motErr rows rows_1 n) ∧ True) ∧ (¬¬((0 : Int) ≤ cell rows a 0 ∧ cell rows a 0 ≤ (1000000 :
  Int)) → Ob (InR .i64 ((↑a : Int) + (1 : Int))) ∧ ∃ (a' : Nat), Ob ((a' ≤ rows.length ∧ ∀ (i : Nat), i < a' → wtAt rows i) ∧ rows.length - a' < rows.length - a) ∧ Ob (SV.lst x rows.length 1 (Rv.elemOf [.i64] rows) =
  SV.lst x rows.length 1 (Rv.elemOf [.i64] rows)) ∧ Ob ((↑rows.length : Int) = (↑rows.length : Int)) ∧ Ob ((↑a : Int) + (1 : Int) = (↑a' : Int)) ∧ Ob (SV.lst x rows.length 1 (Rv.elemOf [.i64] rows) = SV.lst x rows.length 1
  (Rv.elemOf [.i64] rows)) ∧ Ob (SV.lst x_1 rows_1.length 1 (Rv.elemOf [.i64] rows_1) = SV.lst x_1 rows_1.length 1 (Rv.elemOf [.i64] rows_1)) ∧ Ob (n = n) ∧ Ob (IsLst B x rows.length 1 (Rv.elemOf [.i64] rows)) ∧ Ob (IsLst
  B x rows.length 1 (Rv.elemOf [.i64] rows)) ∧ Ob (IsLst B x_1 rows_1.length 1 (Rv.elemOf [.i64] rows_1)) ∧ True)) ∧ (¬(↑a : Int) < (↑rows.length : Int) → Ob (IsLst B x_1 rows_1.length 1 (Rv.elemOf [.i64] rows_1)) ∧ Ob
  (IsLst B x rows.length 1 (Rv.elemOf [.i64] rows)) ∧ (¬(↑rows_1.length : Int) = (↑rows.length : Int) → Ob ((2 : Int) = motErr rows rows_1 n) ∧ True) ∧ (¬¬(↑rows_1.length : Int) = (↑rows.length : Int) → Ob (IsLst B x_1
  rows_1.length 1 (Rv.elemOf [.i64] rows_1)) ∧ (∃ (a_1 : Nat), Ob (a_1 ≤ rows_1.length ∧ ∀ (i : Nat), i < a_1 → vtAt rows_1 i) ∧ Ob (SV.lst x_1 rows_1.length 1 (Rv.elemOf [.i64] rows_1) = SV.lst x_1 rows_1.length 1
  (Rv.elemOf [.i64] rows_1)) ∧ Ob ((↑rows_1.length : Int) = (↑rows_1.length : Int)) ∧ Ob ((0 : Int) = (↑a_1 : Int)) ∧ Ob (SV.lst x rows.length 1 (Rv.elemOf [.i64] rows) = SV.lst x rows.length 1 (Rv.elemOf [.i64] rows)) ∧
  Ob (SV.lst x_1 rows_1.length 1 (Rv.elemOf [.i64] rows_1) = SV.lst x_1 rows_1.length 1 (Rv.elemOf [.i64] rows_1)) ∧ Ob (n = n) ∧ Ob (IsLst B x_1 rows_1.length 1 (Rv.elemOf [.i64] rows_1)) ∧ Ob (IsLst B x rows.length 1
  (Rv.elemOf [.i64] rows)) ∧ Ob (IsLst B x_1 rows_1.length 1 (Rv.elemOf [.i64] rows_1)) ∧ True) ∧ ∀ (a_1 : Nat), (a_1 ≤ rows_1.length ∧ ∀ (i : Nat), i < a_1 → vtAt rows_1 i) → ∀ (z_46 z_47 z_48 z_49 z_50 z_51 z_52 z_53
  z_54 z_55 z_56 z_57 z_58 z_59 z_60 z_61 z_62 z_63 z_64 z_65 z_66 z_67 z_68 z_69 z_70 z_71 z_72 z_73 z_74 z_75 z_76 z_77 z_78 z_79 z_80 z_81 z_82 z_83 z_84 z_85 z_86 z_87 z_88 z_89 z_90 z_91 : Value), ((↑a_1 : Int) <
  (↑rows_1.length : Int) → Ob ((0 : Int) ≤ (↑a_1 : Int) ∧ a_1 < rows_1.length ∧ IsLst B x_1 rows_1.length 1 (Rv.elemOf [.i64] rows_1)) ∧ Ob (IsLst B x_1 rows_1.length 1 (Rv.elemOf [.i64] rows_1) ∧ a_1 < rows_1.length) ∧ Ob
  True ∧ (¬((0 : Int) ≤ cell rows_1 a_1 0 ∧ cell rows_1 a_1 0 ≤ (2 : Int)) → Ob ((3 : Int) = motErr rows rows_1 n) ∧ True) ∧ (¬¬((0 : Int) ≤ cell rows_1 a_1 0 ∧ cell rows_1 a_1 0 ≤ (2 : Int)) → Ob (InR .i64 ((↑a_1 : Int) +
  (1 : Int))) ∧ ∃ (a' : Nat), Ob ((a' ≤ rows_1.length ∧ ∀ (i : Nat), i < a' → vtAt rows_1 i) ∧ rows_1.length - a' < rows_1.length - a_1) ∧ Ob (SV.lst x_1 rows_1.length 1 (Rv.elemOf [.i64] rows_1) = SV.lst x_1 rows_1.length
  1 (Rv.elemOf [.i64] rows_1)) ∧ Ob ((↑rows_1.length : Int) = (↑rows_1.length : Int)) ∧ Ob ((↑a_1 : Int) + (1 : Int) = (↑a' : Int)) ∧ Ob (SV.lst x rows.length 1 (Rv.elemOf [.i64] rows) = SV.lst x rows.length 1 (Rv.elemOf
  [.i64] rows)) ∧ Ob (SV.lst x_1 rows_1.length 1 (Rv.elemOf [.i64] rows_1) = SV.lst x_1 rows_1.length 1 (Rv.elemOf [.i64] rows_1)) ∧ Ob (n = n) ∧ Ob (IsLst B x_1 rows_1.length 1 (Rv.elemOf [.i64] rows_1)) ∧ Ob (IsLst B x
  rows.length 1 (Rv.elemOf [.i64] rows)) ∧ Ob (IsLst B x_1 rows_1.length 1 (Rv.elemOf [.i64] rows_1)) ∧ True)) ∧ (¬(↑a_1 : Int) < (↑rows_1.length : Int) → Ob True ∧ (¬((0 : Int) ≤ n ∧ n ≤ (1000000 : Int)) → Ob ((1 : Int) =
  motErr rows rows_1 n) ∧ True) ∧ (¬¬((0 : Int) ≤ n ∧ n ≤ (1000000 : Int)) → Ob ((0 : Int) = motErr rows rows_1 n) ∧ True))))))

set_option linter.unusedSimpArgs false in
set_option maxRecDepth 4000 in
set_option maxHeartbeats 400000 in
theorem v_check : V_check := by
  unfold V_check
  intro B xw W hw how hrw xv V hv hov hrv need ⟨hW, hV⟩
  simp only [Ob_iff, and_true, true_and]
  refine ⟨hw, fun h1 => ?_, fun h1 => ⟨hw, fun h2 => ?_, fun h2 => ⟨hw, ⟨0, ⟨by omega, fun i hi => by omega⟩, rfl, hw, hw, hv⟩, ?_⟩⟩⟩
  · unfold motErr; rw [if_pos (by omega)]
  · unfold motErr; rw [if_neg (by omega), if_pos (by omega)]
  intro k ⟨hk, hk2⟩
  intros
  refine ⟨fun h3 => ?_, fun h3 => ?_⟩
  · have hk' : k < W.length := by omega
    refine ⟨⟨by omega, hk', hw⟩, ⟨hw, hk'⟩, fun h4 => ?_, fun h4 => ?_⟩
    · unfold motErr
      rw [if_neg (by omega), if_neg (by omega), if_neg fun h => h4 (h k hk')]
    · have h4 : wtAt W k := Classical.not_not.1 h4
      refine ⟨by simp only [InR]; omega, k + 1, ⟨⟨hk', fun i hi => ?_⟩, by omega⟩, by omega, hw, hw, hv⟩
      by_cases e : i = k
      · subst e; exact h4
      · exact hk2 i (by omega)
  have ek : k = W.length := by omega
  subst ek
  refine ⟨hv, hw, fun h4 => ?_, fun h4 => ?_⟩
  · unfold motErr
    rw [if_neg (by omega), if_neg (by omega), if_pos hk2, if_neg fun h => h4 (by omega)]
  have h4 : V.length = W.length := by
    have := Classical.not_not.1 h4
    omega
  refine ⟨hv, ⟨0, ⟨by omega, fun i hi => by omega⟩, rfl, hv, hw, hv⟩, ?_⟩
  intro k ⟨hk, hk3⟩
  intros
  refine ⟨fun h5 => ?_, fun h5 => ?_⟩
  · have hk' : k < V.length := by omega
    refine ⟨⟨by omega, hk', hv⟩, ⟨hv, hk'⟩, fun h6 => ?_, fun h6 => ?_⟩
    · unfold motErr
      rw [if_neg (by omega), if_neg (by omega), if_pos hk2, if_pos h4, if_neg fun h => h6 (h k hk')]
    · have h6 : vtAt V k := Classical.not_not.1 h6
      refine ⟨by simp only [InR]; omega, k + 1, ⟨⟨hk', fun i hi => ?_⟩, by omega⟩, by omega, hv, hw, hv⟩
      by_cases e : i = k
      · subst e; exact h6
      · exact hk3 i (by omega)
  have ek : k = V.length := by omega
  subst ek
  refine ⟨fun h6 => ?_, fun h6 => ?_⟩
  · unfold motErr
    rw [if_neg (by omega), if_neg (by omega), if_pos hk2, if_pos h4, if_pos hk3, if_neg h6]
  · unfold motErr
    rw [if_neg (by omega), if_neg (by omega), if_pos hk2, if_pos h4, if_pos hk3, if_pos (Classical.not_not.1 h6)]

theorem e_check : V_check = needF P [F_within, F_isPart] A_check F_check := by kernel_rfl

theorem n_check : Ob (needF P [F_within, F_isPart] A_check F_check) := by
  rw [← e_check]
  exact ⟨v_check⟩

theorem b_check : ((P.funcs[37]?).any fun fn => fn.body.isSome) = true := by kernel_rfl

theorem check_ok : Fn0.Ok P F_check := Fn0.ok named (l := [F_within, F_isPart]) (A := A_check) (by rfl) (by
  intro F h
  simp only [List.mem_cons, List.not_mem_nil, or_false] at h
  rcases h with rfl | rfl
  · exact within_ok
  · exact isPart_ok
) b_check (by
  intro ds N
  simp only [F_check]
  split <;> rfl) n_check

noncomputable def F_passes : Fn0 := ⟨39, [.agg [.l [.i64], .l [.i64], .i .i64], .one (.l [.i64])], fun l => match l with | [.l W, .l V, .z need, .l X] => WtOk W ∧ X.length = W.length ∧ W.length ≤ 100 ∧ 0 ≤ need ∧ need ≤ 1000000 | _ => False, fun l => match l with | [.l W, .l V, .z need, .l X] => .p (passN W need (yesS W X W.length)) | _ => .v undef⟩
noncomputable def A_passes : List SV → List Dat → Nat → List SV → Ann := fun xs ds n ts => match xs with
  | [.agg [.lst xw _ _ _, .lst xv _ _ _, .i _ _], .lst xx _ _ _] => match ds with
    | [.l W, .l V, .z need, .l X] => match n with
      | 3 => ⟨Nat, fun k => [none, none, some (SV.ptr ((0 : Nat)) ((0 : Nat))), none, some (SV.v (Value.bool false)), some (.i .i64 (yesS W X k)), none, none, some (SV.lst xx X.length ((1 : Nat)) (Rv.elemOf [IntKind.i64] X)), some (SV.i IntKind.i64 (↑X.length : Int)), some (.i .i64 k), none, none, none, none, none, none, none, none, none, none, none, none, none, none, none, none, none, none, none, none, none, none, none], fun k => [SObj.cells [SV.lst xw W.length ((1 : Nat)) (Rv.elemOf [IntKind.i64] W), SV.lst xv V.length ((1 : Nat)) (Rv.elemOf [IntKind.i64] V), SV.i IntKind.i64 need] Kd.ex], fun k => k ≤ W.length, fun k => W.length - k, 0⟩
      | _ => noAnn
    | _ => noAnn
  | _ => noAnn

def V_passes : Prop :=
  ∀ (B : RW) (x : RV) (rows : List (List Int)), IsLst B x rows.length 1 (Rv.elemOf [.i64] rows) → oneB x = true → (∀ (row : List Int), row ∈ rows → row.length = (1 : Nat)) → ∀ (x_1 : RV) (rows_1 : List (List Int)), IsLst B
  x_1 rows_1.length 1 (Rv.elemOf [.i64] rows_1) → oneB x_1 = true → (∀ (row : List Int), row ∈ rows_1 → row.length = (1 : Nat)) → ∀ (n : Int) (x_2 : RV) (rows_2 : List (List Int)), IsLst B x_2 rows_2.length 1 (Rv.elemOf
  [.i64] rows_2) → oneB x_2 = true → (∀ (row : List Int), row ∈ rows_2 → row.length = (1 : Nat)) → WtOk rows ∧ rows_2.length = rows.length ∧ rows.length ≤ (100 : Nat) ∧ (0 : Int) ≤ n ∧ n ≤ (1000000 : Int) → Ob (IsLst B x_2
  rows_2.length 1 (Rv.elemOf [.i64] rows_2)) ∧ (∃ (a : Nat), Ob (a ≤ rows.length) ∧ Ob (SV.v (Value.bool false) = SV.v (Value.bool false)) ∧ Ob ((0 : Int) = yesS rows rows_2 a) ∧ Ob (SV.lst x_2 rows_2.length 1 (Rv.elemOf
  [.i64] rows_2) = SV.lst x_2 rows_2.length 1 (Rv.elemOf [.i64] rows_2)) ∧ Ob ((↑rows_2.length : Int) = (↑rows_2.length : Int)) ∧ Ob ((0 : Int) = (↑a : Int)) ∧ Ob (SV.lst x rows.length 1 (Rv.elemOf [.i64] rows) = SV.lst x
  rows.length 1 (Rv.elemOf [.i64] rows)) ∧ Ob (SV.lst x_1 rows_1.length 1 (Rv.elemOf [.i64] rows_1) = SV.lst x_1 rows_1.length 1 (Rv.elemOf [.i64] rows_1)) ∧ Ob (n = n) ∧ Ob (IsLst B x_2 rows_2.length 1 (Rv.elemOf [.i64]
  rows_2)) ∧ Ob (IsLst B x rows.length 1 (Rv.elemOf [.i64] rows)) ∧ Ob (IsLst B x_1 rows_1.length 1 (Rv.elemOf [.i64] rows_1)) ∧ True) ∧ ∀ (a : Nat), a ≤ rows.length → ∀ (z z_1 z_2 z_3 z_4 z_5 z_6 z_7 z_8 z_9 z_10 z_11
  z_12 z_13 z_14 z_15 z_16 z_17 z_18 z_19 z_20 z_21 z_22 z_23 z_24 z_25 z_26 z_27 : Value), ((↑a : Int) < (↑rows_2.length : Int) → Ob ((0 : Int) ≤ (↑a : Int) ∧ a < rows_2.length ∧ IsLst B x_2 rows_2.length 1 (Rv.elemOf
  [.i64] rows_2)) ∧ Ob (IsLst B x_2 rows_2.length 1 (Rv.elemOf [.i64] rows_2) ∧ a < rows_2.length) ∧ (cell rows_2 a 0 = (1 : Int) → Ob ((0 : Int) ≤ (↑a : Int) ∧ a < rows.length ∧ IsLst B x rows.length 1 (Rv.elemOf [.i64]
  rows)) ∧ Ob (IsLst B x rows.length 1 (Rv.elemOf [.i64] rows) ∧ a < rows.length) ∧ Ob (InR .i64 (yesS rows rows_2 a + cell rows a 0)) ∧ Ob (InR .i64 ((↑a : Int) + (1 : Int))) ∧ ∃ (a' : Nat), Ob (a' ≤ rows.length ∧
  rows.length - a' < rows.length - a) ∧ Ob (SV.v (Value.bool false) = SV.v (Value.bool false)) ∧ Ob (yesS rows rows_2 a + cell rows a 0 = yesS rows rows_2 a') ∧ Ob (SV.lst x_2 rows_2.length 1 (Rv.elemOf [.i64] rows_2) =
  SV.lst x_2 rows_2.length 1 (Rv.elemOf [.i64] rows_2)) ∧ Ob ((↑rows_2.length : Int) = (↑rows_2.length : Int)) ∧ Ob ((↑a : Int) + (1 : Int) = (↑a' : Int)) ∧ Ob (SV.lst x rows.length 1 (Rv.elemOf [.i64] rows) = SV.lst x
  rows.length 1 (Rv.elemOf [.i64] rows)) ∧ Ob (SV.lst x_1 rows_1.length 1 (Rv.elemOf [.i64] rows_1) = SV.lst x_1 rows_1.length 1 (Rv.elemOf [.i64] rows_1)) ∧ Ob (n = n) ∧ Ob (IsLst B x_2 rows_2.length 1 (Rv.elemOf [.i64]
  rows_2)) ∧ Ob (IsLst B x rows.length 1 (Rv.elemOf [.i64] rows)) ∧ Ob (IsLst B x_1 rows_1.length 1 (Rv.elemOf [.i64] rows_1)) ∧ True) ∧ (¬cell rows_2 a 0 = (1 : Int) → Ob (InR .i64 ((↑a : Int) + (1 : Int))) ∧ ∃ (a' :
  Nat), Ob (a' ≤ rows.length ∧ rows.length - a' < rows.length - a) ∧ Ob (SV.v (Value.bool false) = SV.v (Value.bool false)) ∧ Ob (yesS rows rows_2 a = yesS rows rows_2 a') ∧ Ob (SV.lst x_2 rows_2.length 1 (Rv.elemOf [.i64]
  rows_2) = SV.lst x_2 rows_2.length 1 (Rv.elemOf [.i64] rows_2)) ∧ Ob ((↑rows_2.length : Int) = (↑rows_2.length : Int)) ∧ Ob ((↑a : Int) + (1 : Int) = (↑a' : Int)) ∧ Ob (SV.lst x rows.length 1 (Rv.elemOf [.i64] rows) =
  SV.lst x rows.length 1 (Rv.elemOf [.i64] rows)) ∧ Ob (SV.lst x_1 rows_1.length 1 (Rv.elemOf [.i64] rows_1) = SV.lst x_1 rows_1.length 1 (Rv.elemOf [.i64] rows_1)) ∧ Ob (n = n) ∧ Ob (IsLst B x_2 rows_2.length 1 (Rv.elemOf
  [.i64] rows_2)) ∧ Ob (IsLst B x rows.length 1 (Rv.elemOf [.i64] rows)) ∧ Ob (IsLst B x_1 rows_1.length 1 (Rv.elemOf [.i64] rows_1)) ∧ True)) ∧ (¬(↑a : Int) < (↑rows_2.length : Int) → Ob (InR .i64 (yesS rows rows_2 a *
  (1000000 : Int))) ∧ Ob (IsLst B x rows.length 1 (Rv.elemOf [.i64] rows)) ∧ ∃ (rows_3 : List (List Int)), Ob (IsLst B x rows.length 1 (Rv.elemOf [.i64] rows) ∧ rows_3.length = rows.length ∧ (∀ (r : List Int), r ∈ rows_3 →
  r.length = (1 : Nat)) ∧ ∀ (i : Nat), i < rows.length → Rv.elemOf [.i64] rows i = Rv.elemOf [.i64] rows_3 i) ∧ Ob (rows_3.length ≤ (100 : Nat) ∧ ∀ (i : Nat), i < rows_3.length → (-1000000000000 : Int) ≤ cell rows_3 i 0 ∧
  cell rows_3 i 0 ≤ (1000000000000 : Int)) ∧ Ob (InR .i64 (n * totTo rows_3 rows_3.length)) ∧ Ob (n * totTo rows_3 rows_3.length < yesS rows rows_2 a * (1000000 : Int) ↔ passN rows n (yesS rows rows_2 rows.length)) ∧ True)

set_option linter.unusedSimpArgs false in
set_option maxRecDepth 4000 in
set_option maxHeartbeats 400000 in
theorem v_passes : V_passes := by
  unfold V_passes
  intro B xw W hw how hrw xv V hv hov hrv need xx X hx hox hrx ⟨h1, h2, h3, h4⟩
  simp only [Ob_iff, and_true, true_and]
  refine ⟨hx, ⟨0, by omega, rfl, rfl, hx, hw, hv⟩, ?_⟩
  intro k hk
  intros
  have b := all_bd (V := X) h1 hk
  refine ⟨fun h5 => ?_, fun h5 => ?_⟩
  · have hkX : k < X.length := by omega
    have hk' : k < W.length := by omega
    have c := h1 k hk'
    have rk : InR .i64 ((k : Int) + 1) := by simp only [InR]; omega
    have r2 : InR .i64 (yesS W X k + cell W k 0) := by simp only [InR]; omega
    have ey : ∀ x, (if cell X k 0 = 1 then cell W k 0 else 0) = x → yesS W X (k + 1) = yesS W X k + x := fun x hx => by simp only [yesS, hx]
    refine ⟨⟨by omega, hkX, hx⟩, ⟨hx, hkX⟩, fun h6 => ?_, fun h6 => ?_⟩
    · exact ⟨⟨by omega, hk', hw⟩, ⟨hw, hk'⟩, r2, rk, k + 1, ⟨hk', by omega⟩, (ey _ (if_pos h6)).symm, by omega, hx, hw, hv⟩
    · exact ⟨rk, k + 1, ⟨hk', by omega⟩, by rw [ey _ (if_neg h6)]; omega, by omega, hx, hw, hv⟩
  have e : k = W.length := by omega
  subst e
  have m1 : 0 ≤ need * allS W W.length := Int.mul_nonneg h4.1 (by omega)
  have m2 : need * allS W W.length ≤ 1000000 * 100000000 := Int.mul_le_mul h4.2 (by omega) (by omega) (by omega)
  refine ⟨by simp only [InR]; omega, hw, W, ⟨hw, rfl, hrw, fun _ _ => rfl⟩, ⟨h3, fun i hi => by have := h1 i hi; omega⟩, ?_⟩
  rw [← all_tot]
  exact ⟨by simp only [InR]; omega, Iff.rfl⟩

theorem e_passes : V_passes = needF P [F_sum] A_passes F_passes := by kernel_rfl

theorem n_passes : Ob (needF P [F_sum] A_passes F_passes) := by
  rw [← e_passes]
  exact ⟨v_passes⟩

theorem b_passes : ((P.funcs[39]?).any fun fn => fn.body.isSome) = true := by kernel_rfl

theorem passes_ok : Fn0.Ok P F_passes := Fn0.ok named (l := [F_sum]) (A := A_passes) (by rfl) (by
  intro F h
  simp only [List.mem_cons, List.not_mem_nil, or_false] at h
  rcases h with rfl
  · exact sum_ok
) b_passes (by
  intro ds N
  simp only [F_passes]
  split <;> rfl) n_passes

end Go.Proofs.Ytjgllojnbinchaa.Sy
