/- Motions of a tide, and what they come to. -/
import Derived.Test.YtjgllojnbinchaaSyP2
import Derived.Test.YtjgllojnbinchaaGrM
import Derived.Test.YtjgllojnbinchaaStM
import Derived.Test.YtjgllojnbinchaaVtM
import Derived.Test.YtjgllojnbinchaaKtT
import Derived.Test.YtjgllojnbinchaaKtA
import Derived.Test.YtjgllojnbinchaaKtB
import Derived.Test.YtjgllojnbinchaaKtS
import Derived.Test.YtjgllojnbinchaaKtM
import Derived.Test.YtjgllojnbinchaaSyP2
import Derived.KernelRfl
import Derived.Test.YtjgllojnbinchaaProg
namespace Go.Proofs.Ytjgllojnbinchaa.Sy
open Go Go.Rv
set_option linter.unusedVariables false

theorem moRow_ok (b : Int) : 0 ≤ belowV b 6 ∧ belowV b 6 ≤ 5 := by
  have h := belowV_in b 6
  obtain ⟨x, hx⟩ : ∃ x, x = belowV b 6 := ⟨_, rfl⟩
  rw [← hx] at h ⊢
  clear hx
  omega
theorem moVot_ok (b : Int) : 0 ≤ 0 + belowV (belowA b 6) (2 - 0 + 1) ∧ 0 + belowV (belowA b 6) (2 - 0 + 1) ≤ 2 := by
  have h := belowV_in (belowA b 6) (2 - 0 + 1)
  obtain ⟨x, hx⟩ : ∃ x, x = belowV (belowA b 6) (2 - 0 + 1) := ⟨_, rfl⟩
  rw [← hx] at h ⊢
  clear hx
  omega
theorem moD_in (a most : Int) : 0 ≤ moD a most ∧ moD a most ≤ 1000000 := by
  have h := belowV_in (moE a most) 1000001
  obtain ⟨x, hx⟩ : ∃ x, x = belowV (moE a most) 1000001 := ⟨_, rfl⟩
  obtain ⟨y, hy⟩ : ∃ y, y = belowA (moE a most) 1000001 := ⟨_, rfl⟩
  have e : moD a most = ofV y [[500000], [666666], [x]] := by rw [hx, hy]; rfl
  rw [← hx] at h
  rw [e]
  clear e hx hy
  have h2 : ofV y [[500000], [666666], [x]] = 500000 ∨ ofV y [[500000], [666666], [x]] = 666666 ∨ ofV y [[500000], [666666], [x]] = x := by
    have h := belowV_in y 3
    have e : ofV y [[500000], [666666], [x]] = cell [[500000], [666666], [x]] (belowV y 3).toNat 0 := by simp [ofV]
    rw [e]
    have : (belowV y 3).toNat = 0 ∨ (belowV y 3).toNat = 1 ∨ (belowV y 3).toNat = 2 := by
      generalize belowV y 3 = q at *
      omega
    rcases this with h0 | h0 | h0 <;> rw [h0]
    · exact .inl rfl
    · exact .inr (.inl rfl)
    · exact .inr (.inr rfl)
  generalize ofV y [[500000], [666666], [x]] = z at *
  omega
theorem moN_in (a : Int) {most : Int} (h : 1 ≤ most) : 1 ≤ moN a most ∧ (moN a most : Int) ≤ most := by
  have h1 := belowV_in a (most - 1 + 1)
  obtain ⟨x, hx⟩ : ∃ x, x = belowV a (most - 1 + 1) := ⟨_, rfl⟩
  have e : moN a most = (1 + x).toNat := by rw [hx]; rfl
  rw [← hx] at h1
  rw [e]
  clear e hx
  omega
theorem l1_0 {x : Int} : [x].getD 0 0 = x := rfl
theorem mo_cell (a : Int) (k : Nat) {i : Nat} (h : i < k) : cell (itR moQ moW a k) i 0 = belowV (itQ moQ a i) 6 ∧ cell (itR moQ moV a k) i 0 = 0 + belowV (belowA (itQ moQ a i) 6) (2 - 0 + 1) :=
  ⟨(it_cell _ _ _ h 0).trans l1_0, (it_cell _ _ _ h 0).trans l1_0⟩
theorem moW_eq (b : Int) : moW b = [belowV b 6] := rfl
theorem moV_eq (b : Int) : moV b = [0 + belowV (belowA b 6) (2 - 0 + 1)] := rfl

noncomputable def F_checkR : Fn0 := ⟨40, [.one (.l [.i64]), .one (.l [.i64]), i64], fun l => match l with | [.l W, .l V, .z need] => W.length ≤ 4000000 ∧ V.length ≤ 4000000 | _ => False, fun l => match l with | [.l W, .l V, .z need] => .i .i64 (motErr W V need) | _ => .v undef⟩
noncomputable def A_checkR : List SV → List Dat → Nat → List SV → Ann := fun xs ds n ts => match xs with
  | [.lst xw _ _ _, .lst xv _ _ _, .i _ _] => match ds with
    | [.l W, .l V, .z need] => match n with
      | 6 => ⟨Nat, fun k => [some (SV.lst xw W.length ((1 : Nat)) (Rv.elemOf [IntKind.i64] W)), some (SV.lst xv V.length ((1 : Nat)) (Rv.elemOf [IntKind.i64] V)), some (SV.i IntKind.i64 need), none, none, none, none, some (.i .i64 k), none, none, none, none, none, none, none, none, none, none, none, none, none, none, none, none, none, none, none, none, none, none, none, none, none, none, none, none, none, none, none, none, none, none, none, none, none, none, none], fun k => [], fun k => k ≤ W.length ∧ ∀ i, i < k → wtAt W i, fun k => W.length - k, 0⟩
      | 13 => ⟨Nat, fun k => [none, some (SV.lst xv V.length ((1 : Nat)) (Rv.elemOf [IntKind.i64] V)), some (SV.i IntKind.i64 need), none, none, none, none, none, some (.i .i64 k), none, none, none, none, none, none, none, none, none, none, none, none, none, none, none, none, none, none, none, none, none, none, none, none, none, none, none, none, none, none, none, none, none, none, none, none, none, none], fun k => [], fun k => k ≤ V.length ∧ ∀ i, i < k → vtAt V i, fun k => V.length - k, 0⟩
      | _ => noAnn
    | _ => noAnn
  | _ => noAnn

def V_checkR : Prop :=
  ∀ (B : RW) (x : RV) (rows : List (List Int)), IsLst B x rows.length 1 (Rv.elemOf [.i64] rows) → oneB x = true → (∀ (row : List Int), row ∈ rows → row.length = (1 : Nat)) → ∀ (x_1 : RV) (rows_1 : List (List Int)), IsLst B
  x_1 rows_1.length 1 (Rv.elemOf [.i64] rows_1) → oneB x_1 = true → (∀ (row : List Int), row ∈ rows_1 → row.length = (1 : Nat)) → ∀ (n : Int), rows.length ≤ (4000000 : Nat) ∧ rows_1.length ≤ (4000000 : Nat) → Ob (IsLst B x
  rows.length 1 (Rv.elemOf [.i64] rows)) ∧ ((↑rows.length : Int) = (0 : Int) → Ob ((4 : Int) = motErr rows rows_1 n) ∧ True) ∧ (¬(↑rows.length : Int) = (0 : Int) → Ob (IsLst B x rows.length 1 (Rv.elemOf [.i64] rows)) ∧
  ((12 : Int) < (↑rows.length : Int) → Ob ((5 : Int) = motErr rows rows_1 n) ∧ True) ∧ (¬(12 : Int) < (↑rows.length : Int) → (∃ (a : Nat), Ob (a ≤ rows.length ∧ ∀ (i : Nat), i < a → wtAt rows i) ∧ Ob (SV.lst x rows.length
  1 (Rv.elemOf [.i64] rows) = SV.lst x rows.length 1 (Rv.elemOf [.i64] rows)) ∧ Ob (SV.lst x_1 rows_1.length 1 (Rv.elemOf [.i64] rows_1) = SV.lst x_1 rows_1.length 1 (Rv.elemOf [.i64] rows_1)) ∧ Ob (n = n) ∧ Ob ((0 : Int)
  = (↑a : Int)) ∧ Ob (IsLst B x rows.length 1 (Rv.elemOf [.i64] rows)) ∧ Ob (IsLst B x_1 rows_1.length 1 (Rv.elemOf [.i64] rows_1)) ∧ True) ∧ ∀ (a : Nat), (a ≤ rows.length ∧ ∀ (i : Nat), i < a → wtAt rows i) → ∀ (z z_1 z_2
  z_3 z_4 z_5 z_6 z_7 z_8 z_9 z_10 z_11 z_12 z_13 z_14 z_15 z_16 z_17 z_18 z_19 z_20 z_21 z_22 z_23 z_24 z_25 z_26 z_27 z_28 z_29 z_30 z_31 z_32 z_33 z_34 z_35 z_36 z_37 z_38 z_39 z_40 z_41 z_42 : Value), Ob (IsLst B x
  rows.length 1 (Rv.elemOf [.i64] rows)) ∧ ((↑a : Int) < (↑rows.length : Int) → Ob ((0 : Int) ≤ (↑a : Int) ∧ a < rows.length ∧ IsLst B x rows.length 1 (Rv.elemOf [.i64] rows)) ∧ Ob (IsLst B x rows.length 1 (Rv.elemOf
  [.i64] rows) ∧ a < rows.length) ∧ Ob True ∧ (¬((0 : Int) ≤ cell rows a 0 ∧ cell rows a 0 ≤ (1000000 : Int)) → Ob ((1 : Int) = motErr rows rows_1 n) ∧ True) ∧ (¬¬((0 : Int) ≤ cell rows a 0 ∧ cell rows a 0 ≤ (1000000 :
  Int)) → Ob (InR .i64 ((↑a : Int) + (1 : Int))) ∧ ∃ (a' : Nat), Ob ((a' ≤ rows.length ∧ ∀ (i : Nat), i < a' → wtAt rows i) ∧ rows.length - a' < rows.length - a) ∧ Ob (SV.lst x rows.length 1 (Rv.elemOf [.i64] rows) =
  SV.lst x rows.length 1 (Rv.elemOf [.i64] rows)) ∧ Ob (SV.lst x_1 rows_1.length 1 (Rv.elemOf [.i64] rows_1) = SV.lst x_1 rows_1.length 1 (Rv.elemOf [.i64] rows_1)) ∧ Ob (n = n) ∧ Ob ((↑a : Int) + (1 : Int) = (↑a' : Int))
  ∧ Ob (IsLst B x rows.length 1 (Rv.elemOf [.i64] rows)) ∧ Ob (IsLst B x_1 rows_1.length 1 (Rv.elemOf [.i64] rows_1)) ∧ True)) ∧ (¬(↑a : Int) < (↑rows.length : Int) → Ob (IsLst B x_1 rows_1.length 1 (Rv.elemOf [.i64]
  rows_1)) ∧ Ob (IsLst B x rows.length 1 (Rv.elemOf [.i64] rows)) ∧ (¬(↑rows_1.length : Int) = (↑rows.length : Int) → Ob ((2 : Int) = motErr rows rows_1 n) ∧ True) ∧ (¬¬(↑rows_1.length : Int) = (↑rows.length : Int) → (∃
  (a_1 : Nat), Ob (a_1 ≤ rows_1.length ∧ ∀ (i : Nat), i < a_1 → vtAt rows_1 i) ∧ Ob (SV.lst x_1 rows_1.length 1 (Rv.elemOf [.i64] rows_1) = SV.lst x_1 rows_1.length 1 (Rv.elemOf [.i64] rows_1)) ∧ Ob (n = n) ∧ Ob ((0 : Int)
  = (↑a_1 : Int)) ∧ Ob (IsLst B x_1 rows_1.length 1 (Rv.elemOf [.i64] rows_1)) ∧ True) ∧ ∀ (a_1 : Nat), (a_1 ≤ rows_1.length ∧ ∀ (i : Nat), i < a_1 → vtAt rows_1 i) → ∀ (z_43 z_44 z_45 z_46 z_47 z_48 z_49 z_50 z_51 z_52
  z_53 z_54 z_55 z_56 z_57 z_58 z_59 z_60 z_61 z_62 z_63 z_64 z_65 z_66 z_67 z_68 z_69 z_70 z_71 z_72 z_73 z_74 z_75 z_76 z_77 z_78 z_79 z_80 z_81 z_82 z_83 z_84 z_85 z_86 : Value), Ob (IsLst B x_1 rows_1.length 1
  (Rv.elemOf [.i64] rows_1)) ∧ ((↑a_1 : Int) < (↑rows_1.length : Int) → Ob ((0 : Int) ≤ (↑a_1 : Int) ∧ a_1 < rows_1.length ∧ IsLst B x_1 rows_1.length 1 (Rv.elemOf [.i64] rows_1)) ∧ Ob (IsLst B x_1 rows_1.length 1
  (Rv.elemOf [.i64] rows_1) ∧ a_1 < rows_1.length) ∧ Ob True ∧ (¬((0 : Int) ≤ cell rows_1 a_1 0 ∧ cell rows_1 a_1 0 ≤ (2 : Int)) → Ob ((3 : Int) = motErr rows rows_1 n) ∧ True) ∧ (¬¬((0 : Int) ≤ cell rows_1 a_1 0 ∧ cell
  rows_1 a_1 0 ≤ (2 : Int)) → Ob (InR .i64 ((↑a_1 : Int) + (1 : Int))) ∧ ∃ (a' : Nat), Ob ((a' ≤ rows_1.length ∧ ∀ (i : Nat), i < a' → vtAt rows_1 i) ∧ rows_1.length - a' < rows_1.length - a_1) ∧ Ob (SV.lst x_1
  rows_1.length 1 (Rv.elemOf [.i64] rows_1) = SV.lst x_1 rows_1.length 1 (Rv.elemOf [.i64] rows_1)) ∧ Ob (n = n) ∧ Ob ((↑a_1 : Int) + (1 : Int) = (↑a' : Int)) ∧ Ob (IsLst B x_1 rows_1.length 1 (Rv.elemOf [.i64] rows_1)) ∧
  True)) ∧ (¬(↑a_1 : Int) < (↑rows_1.length : Int) → Ob True ∧ (¬((0 : Int) ≤ n ∧ n ≤ (1000000 : Int)) → Ob ((1 : Int) = motErr rows rows_1 n) ∧ True) ∧ (¬¬((0 : Int) ≤ n ∧ n ≤ (1000000 : Int)) → Ob ((0 : Int) = motErr
  rows rows_1 n) ∧ True))))))

set_option linter.unusedSimpArgs false in
set_option maxRecDepth 4000 in
set_option maxHeartbeats 400000 in
theorem v_checkR : V_checkR := by
  unfold V_checkR
  intro B xw W hw how hrw xv V hv hov hrv need ⟨hW, hV⟩
  simp only [Ob_iff, and_true, true_and]
  refine ⟨hw, fun h1 => ?_, fun h1 => ⟨hw, fun h2 => ?_, fun h2 => ⟨⟨0, ⟨by omega, fun i hi => by omega⟩, rfl, hw, hv⟩, ?_⟩⟩⟩
  · unfold motErr; rw [if_pos (by omega)]
  · unfold motErr; rw [if_neg (by omega), if_pos (by omega)]
  intro k ⟨hk, hk2⟩
  intros
  refine ⟨hw, fun h3 => ?_, fun h3 => ?_⟩
  · have hk' : k < W.length := by omega
    refine ⟨⟨by omega, hk', hw⟩, ⟨hw, hk'⟩, fun h4 => ?_, fun h4 => ?_⟩
    · unfold motErr
      rw [if_neg (by omega), if_neg (by omega), if_neg fun h => h4 (h k hk')]
    · have h4 : wtAt W k := Classical.not_not.1 h4
      refine ⟨by simp only [InR]; omega, k + 1, ⟨⟨hk', fun i hi => ?_⟩, by omega⟩, by omega, hw, hv⟩
      by_cases e : i = k
      · subst e; exact h4
      · exact hk2 i (by omega)
  have ek : k = W.length := by omega
  subst ek
  refine ⟨hv, hw, fun h4 => ?_, fun h4 => ?_⟩
  · unfold motErr
    rw [if_neg (by omega), if_neg (by omega), if_pos hk2, if_neg fun h => h4 (by omega)]
  have h4 : V.length = W.length := by
    have := Classical.not_not.1 h4
    omega
  refine ⟨⟨0, ⟨by omega, fun i hi => by omega⟩, rfl, hv⟩, ?_⟩
  intro k ⟨hk, hk3⟩
  intros
  refine ⟨hv, fun h5 => ?_, fun h5 => ?_⟩
  · have hk' : k < V.length := by omega
    refine ⟨⟨by omega, hk', hv⟩, ⟨hv, hk'⟩, fun h6 => ?_, fun h6 => ?_⟩
    · unfold motErr
      rw [if_neg (by omega), if_neg (by omega), if_pos hk2, if_pos h4, if_neg fun h => h6 (h k hk')]
    · have h6 : vtAt V k := Classical.not_not.1 h6
      refine ⟨by simp only [InR]; omega, k + 1, ⟨⟨hk', fun i hi => ?_⟩, by omega⟩, by omega, hv⟩
      by_cases e : i = k
      · subst e; exact h6
      · exact hk3 i (by omega)
  have ek : k = V.length := by omega
  subst ek
  refine ⟨fun h6 => ?_, fun h6 => ?_⟩
  · unfold motErr
    rw [if_neg (by omega), if_neg (by omega), if_pos hk2, if_pos h4, if_pos hk3, if_neg h6]
  · unfold motErr
    rw [if_neg (by omega), if_neg (by omega), if_pos hk2, if_pos h4, if_pos hk3, if_pos (Classical.not_not.1 h6)]

theorem e_checkR : V_checkR = needF P [F_withinR] A_checkR F_checkR := by kernel_rfl

theorem n_checkR : Ob (needF P [F_withinR] A_checkR F_checkR) := by
  rw [← e_checkR]
  exact ⟨v_checkR⟩

theorem b_checkR : ((P.funcs[40]?).any fun fn => fn.body.isSome) = true := by kernel_rfl

theorem checkR_ok : Fn0.Ok P F_checkR := Fn0.ok named (l := [F_withinR]) (A := A_checkR) (by rfl) (by
  intro F h
  simp only [List.mem_cons, List.not_mem_nil, or_false] at h
  rcases h with rfl
  · exact withinR_ok
) b_checkR (by
  intro ds N
  simp only [F_checkR]
  split <;> rfl) n_checkR

noncomputable def F_MotionOf : FnE := ⟨11, (some [.i .u64]), [i64], fun l => match l with | [.z a, .z most] => 1 ≤ most ∧ most ≤ 100 | _ => False, fun l => match l with | [.z a, .z most] => [.gsl 0 (moN a most) 1 true, .gsl 1 (moN a most) 1 true, .i .i64 (moD a most)] | _ => [], fun l => match l with | [.z a, .z most] => [.gr (moN a most) 1 (.fn (Rv.elemOf [.i64] (itR moQ moV (moA a most) (moN a most)))) .gr true, .gr (moN a most) 1 (.fn (Rv.elemOf [.i64] (itR moQ moW (moA a most) (moN a most)))) .gr true] | _ => [], fun l => match l with | [.z a, .z most] => [.i .u64 (moZ a most)] | _ => [], false, none⟩
noncomputable def A_MotionOf : List SV → List Dat → Nat → List SV → Ann := fun xs ds n ts => match xs with
  | [.agg _, .i _ _] => match ds with
    | [.z a, .z most] => match n with
      | 3 => ⟨Nat, fun k => [some (SV.ptr ((0 : Nat)) ((0 : Nat))), none, none, none, some (SV.v (Value.slice none ((0 : Nat)) ((0 : Nat)))), some (SV.v (Value.slice none ((0 : Nat)) ((0 : Nat)))), some (SV.v (Value.int IntKind.i64 (0 : Int))), some (.gsl 1 k 1 true), some (.gsl 2 k 1 true), some (.i .i64 ((moN a most : Int) - k)), none, none, none, none, none, none, none, none, none, none, none, none, none, none, none, none, none, none, none, none, none, none, none, none], fun k => [.gr k 1 (.fn (Rv.elemOf [.i64] (itR moQ moV (moA a most) k))) .gr true, .gr k 1 (.fn (Rv.elemOf [.i64] (itR moQ moW (moA a most) k))) .gr true, .cells [.i .u64 (itQ moQ (moA a most) k)] .ex], fun k => k ≤ moN a most, fun k => moN a most - k, 0⟩
      | _ => noAnn
    | _ => noAnn
  | _ => noAnn

def V_MotionOf : Prop :=
  ∀ (B : RW) (n n_1 : Int), F_MotionOf.pre ([Dat.z n] ++ ([Dat.z n_1] ++ [])) → Ob (F_From.named.pre ([Dat.z n] ++ [Dat.z (1 : Int), Dat.z n_1])) ∧ ∀ (v : Int), v = belowA n (n_1 - (1 : Int) + (1 : Int)) → ∀ (v_1 : Int),
  v_1 = (1 : Int) + belowV n (n_1 - (1 : Int) + (1 : Int)) → (∃ (a : Nat), Ob (a ≤ moN n n_1) ∧ Ob (SV.v (Value.slice none 0 0) = SV.v (Value.slice none 0 0)) ∧ Ob (SV.v (Value.slice none 0 0) = SV.v (Value.slice none 0
  0)) ∧ Ob (Value.int .i64 (0 : Int) = Value.int .i64 (0 : Int)) ∧ Ob (a = (0 : Nat)) ∧ Ob (a = (0 : Nat)) ∧ Ob (v_1 = (↑(moN n n_1) : Int) - (↑a : Int)) ∧ Ob (a = (0 : Nat)) ∧ Ob (a = (0 : Nat)) ∧ Ob (v = itQ moQ (moA n
  n_1) a) ∧ Ob (PlainE a (El.fn (Rv.elemOf [.i64] (itR moQ moV (moA n n_1) a)))) ∧ Ob (PlainE a (El.fn (Rv.elemOf [.i64] (itR moQ moW (moA n n_1) a)))) ∧ True) ∧ ∀ (a : Nat), a ≤ moN n n_1 → ∀ (z z_1 z_2 z_3 z_4 z_5 z_6
  z_7 z_8 z_9 z_10 z_11 z_12 z_13 z_14 z_15 z_16 z_17 z_18 z_19 z_20 z_21 z_22 z_23 z_24 z_25 z_26 : Value), ((0 : Int) < (↑(moN n n_1) : Int) - (↑a : Int) → Ob (F_Below.named.pre ([Dat.z (itQ moQ (moA n n_1) a)] ++ [Dat.z
  (6 : Int)])) ∧ ∀ (v_2 : Int), v_2 = belowA (itQ moQ (moA n n_1) a) (6 : Int) → ∀ (v_3 : Int), v_3 = belowV (itQ moQ (moA n n_1) a) (6 : Int) → Ob (a = a ∧ ∀ (i : Nat), i < a → ((El.fn (Rv.elemOf [.i64] (itR moQ moW (moA
  n n_1) a))).at i).length = (1 : Nat)) ∧ Ob ((a + (1 : Nat)) * (2 : Nat) * (9 : Nat) ≤ (1099511627776 : Nat)) ∧ Ob (a = a) ∧ Ob (F_From.named.pre ([Dat.z v_2] ++ [Dat.z (0 : Int), Dat.z (2 : Int)])) ∧ ∀ (v_4 : Int), v_4 =
  belowA v_2 ((2 : Int) - (0 : Int) + (1 : Int)) → ∀ (v_5 : Int), v_5 = (0 : Int) + belowV v_2 ((2 : Int) - (0 : Int) + (1 : Int)) → Ob (a = a ∧ ∀ (i : Nat), i < a → ((El.fn (Rv.elemOf [.i64] (itR moQ moV (moA n n_1)
  a))).at i).length = (1 : Nat)) ∧ Ob ((a + (1 : Nat)) * (2 : Nat) * (9 : Nat) ≤ (1099511627776 : Nat)) ∧ Ob (a = a) ∧ Ob (InR .i64 ((↑(moN n n_1) : Int) - (↑a : Int) - (1 : Int))) ∧ ∃ (a' : Nat), Ob (a' ≤ moN n n_1 ∧ moN
  n n_1 - a' < moN n n_1 - a) ∧ Ob (SV.v (Value.slice none 0 0) = SV.v (Value.slice none 0 0)) ∧ Ob (SV.v (Value.slice none 0 0) = SV.v (Value.slice none 0 0)) ∧ Ob (Value.int .i64 (0 : Int) = Value.int .i64 (0 : Int)) ∧
  Ob (a + (1 : Nat) = a') ∧ Ob (a + (1 : Nat) = a') ∧ Ob ((↑(moN n n_1) : Int) - (↑a : Int) - (1 : Int) = (↑(moN n n_1) : Int) - (↑a' : Int)) ∧ Ob (a + (1 : Nat) = a' ∧ ∀ (i : Nat), i < a' → (behind a (El.fn (Rv.elemOf
  [.i64] (itR moQ moV (moA n n_1) a))) 1 (litEl [SV.i .i64 v_5] 1 1)).at i = (El.fn (Rv.elemOf [.i64] (itR moQ moV (moA n n_1) a'))).at i) ∧ Ob (a + (1 : Nat) = a' ∧ ∀ (i : Nat), i < a' → (behind a (El.fn (Rv.elemOf [.i64]
  (itR moQ moW (moA n n_1) a))) 1 (litEl [SV.i .i64 v_3] 1 1)).at i = (El.fn (Rv.elemOf [.i64] (itR moQ moW (moA n n_1) a'))).at i) ∧ Ob (v_4 = itQ moQ (moA n n_1) a') ∧ Ob (PlainE a' (El.fn (Rv.elemOf [.i64] (itR moQ moV
  (moA n n_1) a')))) ∧ Ob (PlainE a' (El.fn (Rv.elemOf [.i64] (itR moQ moW (moA n n_1) a')))) ∧ True) ∧ (¬(0 : Int) < (↑(moN n n_1) : Int) - (↑a : Int) → Ob (F_Below.named.pre ([Dat.z (itQ moQ (moA n n_1) a)] ++ [Dat.z
  (1000001 : Int)])) ∧ ∀ (v_2 : Int), v_2 = belowA (itQ moQ (moA n n_1) a) (1000001 : Int) → ∀ (v_3 : Int), v_3 = belowV (itQ moQ (moA n n_1) a) (1000001 : Int) → Ob (F_Of.named.pre ([Dat.z v_2] ++ [Dat.l [[(500000 :
  Int)], [(666666 : Int)], [v_3]]])) ∧ ∀ (v_4 : Int), v_4 = ofA v_2 [[(500000 : Int)], [(666666 : Int)], [v_3]] → ∀ (v_5 : Int), v_5 = ofV v_2 [[(500000 : Int)], [(666666 : Int)], [v_3]] → Ob (a = moN n n_1) ∧ Ob (a = moN
  n n_1) ∧ Ob (v_5 = moD n n_1) ∧ Ob (a = moN n n_1 ∧ ∀ (i : Nat), i < moN n n_1 → (El.fn (Rv.elemOf [.i64] (itR moQ moV (moA n n_1) a))).at i = (El.fn (Rv.elemOf [.i64] (itR moQ moV (moA n n_1) (moN n n_1)))).at i) ∧ Ob
  (a = moN n n_1 ∧ ∀ (i : Nat), i < moN n n_1 → (El.fn (Rv.elemOf [.i64] (itR moQ moW (moA n n_1) a))).at i = (El.fn (Rv.elemOf [.i64] (itR moQ moW (moA n n_1) (moN n n_1)))).at i) ∧ Ob (v_4 = moZ n n_1) ∧ Ob (PlainE (moN
  n n_1) (El.fn (Rv.elemOf [.i64] (itR moQ moV (moA n n_1) (moN n n_1))))) ∧ Ob (PlainE (moN n n_1) (El.fn (Rv.elemOf [.i64] (itR moQ moW (moA n n_1) (moN n n_1))))) ∧ True)

set_option linter.unusedSimpArgs false in
set_option maxRecDepth 4000 in
set_option maxHeartbeats 400000 in
theorem v_MotionOf : V_MotionOf := by
  unfold V_MotionOf
  intro B a most h
  have h : 1 ≤ most ∧ most ≤ 100 := h
  simp only [F_Below, F_From, F_Of, FnE.named, List.cons_append, List.nil_append, Ob_iff, and_true, true_and] at ⊢
  have hN := moN_in a h.1
  refine ⟨by omega, ?_⟩
  intro v hv; obtain rfl : v = moA a most := hv
  intro v1 hv1
  have hv1 : v1 = (moN a most : Int) := by
    have h1 := belowV_in a (most - 1 + 1)
    obtain ⟨x, hx⟩ : ∃ x, x = belowV a (most - 1 + 1) := ⟨_, rfl⟩
    have e : moN a most = (1 + x).toNat := by rw [hx]; rfl
    rw [← hx] at h1 hv1
    rw [e, hv1]
    clear e hx hv1
    omega
  subst hv1
  have eE : itQ moQ (moA a most) (moN a most) = moE a most := rfl
  have eD : ofV (belowA (moE a most) 1000001) [[500000], [666666], [belowV (moE a most) 1000001]] = moD a most := rfl
  have eZ : ofA (belowA (moE a most) 1000001) [[500000], [666666], [belowV (moE a most) 1000001]] = moZ a most := rfl
  obtain ⟨N, hNe⟩ : ∃ N, moN a most = N := ⟨_, rfl⟩
  rw [hNe] at hN eE ⊢
  obtain ⟨E0, hE0⟩ : ∃ E0, moE a most = E0 := ⟨_, rfl⟩
  rw [hE0] at eE eD eZ
  obtain ⟨q, hq⟩ : ∃ q, moA a most = q := ⟨_, rfl⟩
  rw [hq] at eE ⊢
  rw [← eD, ← eZ]
  clear hq hNe hE0 eD eZ
  refine ⟨⟨0, by omega, ?_⟩, ?_⟩
  · repeat' (with_reducible apply And.intro)
    all_goals first | exact plain_elemOf _ _ _ | trivial | omega | rfl
  intro k hk
  intros
  obtain ⟨b, hb⟩ : ∃ b, itQ moQ q k = b := ⟨_, rfl⟩
  refine ⟨fun h1 => ?_, fun h1 => ?_⟩
  · rw [hb]
    refine ⟨by omega, ?_⟩
    intro v2 hv2 v3 hv3
    refine ⟨fun i hi => rfl, by omega, by omega, ?_⟩
    intro v4 hv4 v5 hv5
    have hlV := it_len moQ moV q k
    have hlW := it_len moQ moW q k
    have hsW := snoc1 (x := v3) hlW
    have hsV := snoc1 (x := v5) hlV
    have eW : itR moQ moW q (k + 1) = itR moQ moW q k ++ [[v3]] := by rw [itR_succ, hb, moW_eq, ← hv3]
    have eV : itR moQ moV q (k + 1) = itR moQ moV q k ++ [[v5]] := by rw [itR_succ, hb, moV_eq, ← hv2, ← hv5]
    rw [← eW] at hsW
    rw [← eV] at hsV
    have e2 : v4 = itQ moQ q (k + 1) := by
      rw [itQ_succ, hb, hv4, hv2]
      rfl
    clear hv2 hv3 hv4 hv5 eW eV
    have hk' : k < N := by omega
    exact ⟨fun i hi => rfl, by omega, by simp only [InR]; omega, k + 1, ⟨hk', by omega⟩, rfl, rfl, by omega, ⟨rfl, hsV⟩, ⟨rfl, hsW⟩, e2, plain_elemOf _ _ _, plain_elemOf _ _ _⟩
  have e : k = N := by omega
  subst e
  rw [eE] at hb ⊢
  clear hb
  refine ⟨by omega, ?_⟩
  intro v2 hv2 v3 hv3
  subst hv2 hv3
  refine ⟨by show 3 ≤ 1000; omega, ?_⟩
  intro v4 hv4 v5 hv5
  exact ⟨rfl, rfl, hv5, ⟨rfl, fun _ _ => rfl⟩, ⟨rfl, fun _ _ => rfl⟩, hv4, plain_elemOf _ _ _, plain_elemOf _ _ _⟩

theorem e_MotionOf : V_MotionOf = needE P [] [F_Below.named, F_From.named, F_Of.named] A_MotionOf F_MotionOf := by kernel_rfl

theorem n_MotionOf : Ob (needE P [] [F_Below.named, F_From.named, F_Of.named] A_MotionOf F_MotionOf) := by
  rw [← e_MotionOf]
  exact ⟨v_MotionOf⟩

theorem b_MotionOf : ((P.funcs[11]?).any fun fn => fn.body.isSome) = true := by kernel_rfl

theorem MotionOf_ok : FnE.Ok P F_MotionOf := FnE.ok named (l := []) (es := [F_Below.named, F_From.named, F_Of.named]) (A := A_MotionOf) (by rfl) (by rfl) (by rfl) (by
  intro F h; simp at h) (by
  intro F h
  simp only [List.mem_cons, List.not_mem_nil, or_false] at h
  rcases h with rfl | rfl | rfl
  · exact Below_ok.named
  · exact From_ok.named
  · exact Of_ok.named
) b_MotionOf (by
  intro ds h o ho n sz e k z he
  subst he
  simp only [F_MotionOf] at ho
  split at ho
  · simp only [List.mem_cons, List.not_mem_nil, or_false, SObj.gr.injEq] at ho
    rcases ho with ⟨rfl, rfl, rfl, rfl, rfl⟩ | ⟨rfl, rfl, rfl, rfl, rfl⟩
    · exact plain_elemOf _ _ _
    · exact plain_elemOf _ _ _
  · simp at ho) n_MotionOf

end Go.Proofs.Ytjgllojnbinchaa.Sy
