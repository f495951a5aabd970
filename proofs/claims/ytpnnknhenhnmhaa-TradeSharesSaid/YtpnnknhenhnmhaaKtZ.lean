/- Boxes that are given away one by one, or an error: two shapes. -/
import Derived.Test.YtpnnknhenhnmhaaSyP2
import Derived.Test.YtpnnknhenhnmhaaGrM
import Derived.Test.YtpnnknhenhnmhaaStM
import Derived.Test.YtpnnknhenhnmhaaVtM
import Derived.Test.YtpnnknhenhnmhaaDhM
import Derived.Test.YtpnnknhenhnmhaaKtT
import Derived.Test.YtpnnknhenhnmhaaKtA
import Derived.Test.YtpnnknhenhnmhaaKtB
import Derived.Test.YtpnnknhenhnmhaaKtD
import Derived.Test.YtpnnknhenhnmhaaSyP2
import Derived.KernelRfl
import Derived.Test.YtpnnknhenhnmhaaProg
namespace Go.Proofs.Ytpnnknhenhnmhaa.Sy
open Go Go.Rv
set_option linter.unusedVariables false

theorem shr_q {q : Int} {T : Rows} (h : ¬ (0 ≤ q ∧ q ≤ 5000)) : shrErr q T = 1 := by unfold shrErr; rw [if_neg h]
theorem shr_full {q : Int} {T : Rows} (h : 0 ≤ q ∧ q ≤ 5000) (hl : 12 < T.length) : shrErr q T = 5 := by unfold shrErr; rw [if_pos h, if_pos hl]
theorem shr_bad {q : Int} {T : Rows} (h : 0 ≤ q ∧ q ≤ 5000) (hl : ¬ 12 < T.length) {k : Nat} (hk : k < T.length) (hb : ¬ (0 ≤ cell T k 0 ∧ cell T k 0 ≤ 40)) : shrErr q T = 1 := by
  unfold shrErr; rw [if_pos h, if_neg hl, if_neg fun hh => hb (hh k hk)]
theorem shr_none {q : Int} {T : Rows} (h : 0 ≤ q ∧ q ≤ 5000) (hl : ¬ 12 < T.length) (ha : ∀ i, i < T.length → 0 ≤ cell T i 0 ∧ cell T i 0 ≤ 40) (hq : 0 < q) (hm : mxTo T T.length = 0) : shrErr q T = 6 := by
  unfold shrErr; rw [if_pos h, if_neg hl, if_pos ha, if_pos ⟨hq, hm⟩]
theorem shr_ok {q : Int} {T : Rows} (h : 0 ≤ q ∧ q ≤ 5000) (hl : ¬ 12 < T.length) (ha : ∀ i, i < T.length → 0 ≤ cell T i 0 ∧ cell T i 0 ≤ 40) (hn : ¬ (0 < q ∧ mxTo T T.length = 0)) : shrErr q T = 0 := by
  unfold shrErr; rw [if_pos h, if_neg hl, if_pos ha, if_neg hn]

noncomputable def F_withinA : Fn0 := ⟨22, [i64, i64, i64], fun _ => True, fun l => match l with | [.z n, .z lo, .z hi] => .p (lo ≤ n ∧ n ≤ hi) | _ => .v undef⟩
noncomputable def A_withinA : List SV → List Dat → Nat → List SV → Ann := fun _ _ _ _ => noAnn

def V_withinA : Prop :=
  ∀ (B : RW) (n n_1 n_2 : Int), True → (n_1 ≤ n → Ob (n ≤ n_2 ↔ n_1 ≤ n ∧ n ≤ n_2) ∧ True) ∧ (¬n_1 ≤ n → Ob (false = true ↔ n_1 ≤ n ∧ n ≤ n_2) ∧ True)

set_option linter.unusedSimpArgs false in
set_option maxRecDepth 4000 in
set_option maxHeartbeats 400000 in
theorem v_withinA : V_withinA := by
  unfold V_withinA
  intros
  simp only [Ob_iff, and_true, true_and, InR] at *
  all_goals grind

theorem e_withinA : V_withinA = needF P [] A_withinA F_withinA := by kernel_rfl

theorem n_withinA : Ob (needF P [] A_withinA F_withinA) := by
  rw [← e_withinA]
  exact ⟨v_withinA⟩

theorem b_withinA : ((P.funcs[22]?).any fun fn => fn.body.isSome) = true := by kernel_rfl

theorem withinA_ok : Fn0.Ok P F_withinA := Fn0.ok named (l := []) (A := A_withinA) (by rfl) (by
  intro F h; simp at h) b_withinA (by
  intro ds N
  simp only [F_withinA]
  split <;> rfl) n_withinA

noncomputable def C_ShareA : List Dat → Prop := fun l => match l with | [.z q, .l T] => shrErr q T ≠ 0 | _ => False
noncomputable def F_ShareA : FnE := ⟨10, none, [i64, .one (.l [.i64])], fun l => match l with | [.z q, .l T] => T.length ≤ 4000000 | _ => False, fun l => match l with | [.z q, .l T] => [.gsl 0 T.length 1 false, .i .i64 0] | _ => [], fun l => match l with | [.z q, .l T] => [.gr T.length 1 (.fn fun i => [.i .i64 (dh T q.toNat i)]) .ex false] | _ => [], fun l => match l with | [.z q, .l T] => [] | _ => [], false, some ⟨C_ShareA, isNil, fun l => match l with | [.z q, .l T] => [.v (.slice none 0 0), .i .i64 (shrErr q T)] | _ => [], fun l => match l with | [.z q, .l T] => [] | _ => [], fun l => match l with | [.z q, .l T] => [] | _ => []⟩⟩
noncomputable def A_ShareA : List SV → List Dat → Nat → List SV → Ann := fun xs ds n ts => match xs with
  | [.i _ _, .lst x _ _ _] => match ds with
    | [.z q, .l T] => match n with
      | 7 => ⟨Nat, fun k => [some (SV.i IntKind.i64 q), some (SV.lst x T.length ((1 : Nat)) (Rv.elemOf [IntKind.i64] T)), none, none, none, none, some (.i .i64 (totTo T k)), none, none, none, none, none, none, none, none, none, some (SV.lst x T.length ((1 : Nat)) (Rv.elemOf [IntKind.i64] T)), some (SV.i IntKind.i64 (↑T.length : Int)), some (.i .i64 k), none, none, none, none, none, none, none, none, none, none, none, none, none, none, none, none, none, none, none, none, none, none, none, none, none, none, none, none, none, none, none, none], fun k => [], fun k => k ≤ T.length ∧ ∀ i, i < k → 0 ≤ cell T i 0 ∧ cell T i 0 ≤ 40, fun k => T.length - k, 0⟩
      | 17 => ⟨Nat, fun k => [none, some (SV.lst x T.length ((1 : Nat)) (Rv.elemOf [IntKind.i64] T)), none, none, none, none, none, none, none, some (.gsl 0 T.length 1 false), none, none, none, none, none, none, none, none, none, none, none, none, none, none, none, none, none, none, none, none, none, none, none, none, none, none, none, none, some (SV.i IntKind.i64 q), some (.i .i64 k), none, none, none, none, none, none, none, none, none, none, none], fun k => [.gr T.length 1 (.fn fun i => [.i .i64 (dh T k i)]) .ex false], fun k => (k : Int) ≤ q, fun k => q.toNat - k, 0⟩
      | _ => noAnn
    | _ => noAnn
  | _ => noAnn

def V_ShareA : Prop :=
  ∀ (B : RW) (n : Int) (x : RV) (rows : List (List Int)), IsLst B x rows.length 1 (Rv.elemOf [.i64] rows) → oneB x = true → (∀ (row : List Int), row ∈ rows → row.length = (1 : Nat)) → F_ShareA.pre ([Dat.z n] ++ ([Dat.l
  rows] ++ [])) → Ob True ∧ (¬((0 : Int) ≤ n ∧ n ≤ (5000 : Int)) → Ob (C_ShareA ([Dat.z n] ++ ([Dat.l rows] ++ []))) ∧ Ob (SV.v (Value.slice none 0 0) = SV.v (Value.slice none 0 0)) ∧ Ob ((1 : Int) = shrErr n rows) ∧ True)
  ∧ (¬¬((0 : Int) ≤ n ∧ n ≤ (5000 : Int)) → Ob (IsLst B x rows.length 1 (Rv.elemOf [.i64] rows)) ∧ ((12 : Int) < (↑rows.length : Int) → Ob (C_ShareA ([Dat.z n] ++ ([Dat.l rows] ++ []))) ∧ Ob (SV.v (Value.slice none 0 0) =
  SV.v (Value.slice none 0 0)) ∧ Ob ((5 : Int) = shrErr n rows) ∧ True) ∧ (¬(12 : Int) < (↑rows.length : Int) → Ob (IsLst B x rows.length 1 (Rv.elemOf [.i64] rows)) ∧ (∃ (a : Nat), Ob (a ≤ rows.length ∧ ∀ (i : Nat), i < a
  → (0 : Int) ≤ cell rows i 0 ∧ cell rows i 0 ≤ (40 : Int)) ∧ Ob (n = n) ∧ Ob (SV.lst x rows.length 1 (Rv.elemOf [.i64] rows) = SV.lst x rows.length 1 (Rv.elemOf [.i64] rows)) ∧ Ob ((0 : Int) = totTo rows a) ∧ Ob (SV.lst x
  rows.length 1 (Rv.elemOf [.i64] rows) = SV.lst x rows.length 1 (Rv.elemOf [.i64] rows)) ∧ Ob ((↑rows.length : Int) = (↑rows.length : Int)) ∧ Ob ((0 : Int) = (↑a : Int)) ∧ Ob (IsLst B x rows.length 1 (Rv.elemOf [.i64]
  rows)) ∧ Ob (IsLst B x rows.length 1 (Rv.elemOf [.i64] rows)) ∧ True) ∧ ∀ (a : Nat), (a ≤ rows.length ∧ ∀ (i : Nat), i < a → (0 : Int) ≤ cell rows i 0 ∧ cell rows i 0 ≤ (40 : Int)) → ∀ (z z_1 z_2 z_3 z_4 z_5 z_6 z_7 z_8
  z_9 z_10 z_11 z_12 z_13 z_14 z_15 z_16 z_17 z_18 z_19 z_20 z_21 z_22 z_23 z_24 z_25 z_26 z_27 z_28 z_29 z_30 z_31 z_32 z_33 z_34 z_35 z_36 z_37 z_38 z_39 z_40 z_41 z_42 z_43 z_44 : Value), ((↑a : Int) < (↑rows.length :
  Int) → Ob ((0 : Int) ≤ (↑a : Int) ∧ a < rows.length ∧ IsLst B x rows.length 1 (Rv.elemOf [.i64] rows)) ∧ Ob (IsLst B x rows.length 1 (Rv.elemOf [.i64] rows) ∧ a < rows.length) ∧ Ob True ∧ (¬((0 : Int) ≤ cell rows a 0 ∧
  cell rows a 0 ≤ (40 : Int)) → Ob (C_ShareA ([Dat.z n] ++ ([Dat.l rows] ++ []))) ∧ Ob (SV.v (Value.slice none 0 0) = SV.v (Value.slice none 0 0)) ∧ Ob ((1 : Int) = shrErr n rows) ∧ True) ∧ (¬¬((0 : Int) ≤ cell rows a 0 ∧
  cell rows a 0 ≤ (40 : Int)) → Ob (InR .i64 (totTo rows a + cell rows a 0)) ∧ Ob (InR .i64 ((↑a : Int) + (1 : Int))) ∧ ∃ (a' : Nat), Ob ((a' ≤ rows.length ∧ ∀ (i : Nat), i < a' → (0 : Int) ≤ cell rows i 0 ∧ cell rows i 0
  ≤ (40 : Int)) ∧ rows.length - a' < rows.length - a) ∧ Ob (n = n) ∧ Ob (SV.lst x rows.length 1 (Rv.elemOf [.i64] rows) = SV.lst x rows.length 1 (Rv.elemOf [.i64] rows)) ∧ Ob (totTo rows a + cell rows a 0 = totTo rows a')
  ∧ Ob (SV.lst x rows.length 1 (Rv.elemOf [.i64] rows) = SV.lst x rows.length 1 (Rv.elemOf [.i64] rows)) ∧ Ob ((↑rows.length : Int) = (↑rows.length : Int)) ∧ Ob ((↑a : Int) + (1 : Int) = (↑a' : Int)) ∧ Ob (IsLst B x
  rows.length 1 (Rv.elemOf [.i64] rows)) ∧ Ob (IsLst B x rows.length 1 (Rv.elemOf [.i64] rows)) ∧ True)) ∧ (¬(↑a : Int) < (↑rows.length : Int) → ((0 : Int) < n → (totTo rows a = (0 : Int) → Ob (C_ShareA ([Dat.z n] ++
  ([Dat.l rows] ++ []))) ∧ Ob (SV.v (Value.slice none 0 0) = SV.v (Value.slice none 0 0)) ∧ Ob ((6 : Int) = shrErr n rows) ∧ True) ∧ (¬totTo rows a = (0 : Int) → Ob (IsLst B x rows.length 1 (Rv.elemOf [.i64] rows)) ∧ Ob
  ((↑rows.length : Int) = (↑rows.length : Int) ∧ (0 : Int) ≤ (↑rows.length : Int) ∧ rows.length * (9 : Nat) ≤ (1099511627776 : Nat)) ∧ (∃ (a_1 : Nat), Ob ((↑a_1 : Int) ≤ n) ∧ Ob (SV.lst x rows.length 1 (Rv.elemOf [.i64]
  rows) = SV.lst x rows.length 1 (Rv.elemOf [.i64] rows)) ∧ Ob (rows.length = rows.length) ∧ Ob (n = n) ∧ Ob ((0 : Int) = (↑a_1 : Int)) ∧ Ob (rows.length = rows.length ∧ ∀ (i : Nat), i < rows.length → (El.fn fun (x : Nat)
  ↦ symL (List.map SV.v (Value.int .i64 (0 : Int)).cells.toList)).at i = (El.fn fun (i : Nat) ↦ [SV.i .i64 (dh rows a_1 i)]).at i) ∧ Ob (IsLst B x rows.length 1 (Rv.elemOf [.i64] rows)) ∧ Ob (PlainE rows.length (El.fn fun
  (i : Nat) ↦ [SV.i .i64 (dh rows a_1 i)])) ∧ True) ∧ ∀ (a_1 : Nat), (↑a_1 : Int) ≤ n → ∀ (z_45 z_46 z_47 z_48 z_49 z_50 z_51 z_52 z_53 z_54 z_55 z_56 z_57 z_58 z_59 z_60 z_61 z_62 z_63 z_64 z_65 z_66 z_67 z_68 z_69 z_70
  z_71 z_72 z_73 z_74 z_75 z_76 z_77 z_78 z_79 z_80 z_81 z_82 z_83 z_84 z_85 z_86 z_87 z_88 z_89 z_90 z_91 : Value), ((↑a_1 : Int) < n → ∃ (rows_1 : List (List Int)), Ob (IsLst B x rows.length 1 (Rv.elemOf [.i64] rows) ∧
  rows_1.length = rows.length ∧ (∀ (r : List Int), r ∈ rows_1 → r.length = (1 : Nat)) ∧ ∀ (i : Nat), i < rows.length → Rv.elemOf [.i64] rows i = Rv.elemOf [.i64] rows_1 i) ∧ ∃ (rows_2 : List (List Int)), Ob (rows.length =
  rows.length ∧ rows_2.length = rows.length ∧ (∀ (r : List Int), r ∈ rows_2 → r.length = (1 : Nat)) ∧ ∀ (i : Nat), i < rows.length → (El.fn fun (i : Nat) ↦ [SV.i .i64 (dh rows a_1 i)]).at i = Rv.elemOf [.i64] rows_2 i) ∧
  Ob (NxtOk rows_1 rows_2) ∧ Ob ((0 : Int) ≤ (↑(bst rows_1 (fun (i : Nat) ↦ cell rows_2 i 0) rows_1.length) : Int) ∧ (↑(bst rows_1 (fun (i : Nat) ↦ cell rows_2 i 0) rows_1.length) : Int).toNat < rows.length) ∧ Ob ((↑(bst
  rows_1 (fun (i : Nat) ↦ cell rows_2 i 0) rows_1.length) : Int).toNat < rows.length) ∧ Ob (InR .i64 (dh rows a_1 (↑(bst rows_1 (fun (i : Nat) ↦ cell rows_2 i 0) rows_1.length) : Int).toNat + (1 : Int))) ∧ Ob ((0 : Int) ≤
  (↑(bst rows_1 (fun (i : Nat) ↦ cell rows_2 i 0) rows_1.length) : Int) ∧ (↑(bst rows_1 (fun (i : Nat) ↦ cell rows_2 i 0) rows_1.length) : Int).toNat < rows.length) ∧ Ob ((↑(bst rows_1 (fun (i : Nat) ↦ cell rows_2 i 0)
  rows_1.length) : Int).toNat < rows.length ∧ ((El.fn fun (i : Nat) ↦ [SV.i .i64 (dh rows a_1 i)]).at (↑(bst rows_1 (fun (i : Nat) ↦ cell rows_2 i 0) rows_1.length) : Int).toNat).length = (1 : Nat)) ∧ Ob (InR .i64 ((↑a_1 :
  Int) + (1 : Int))) ∧ ∃ (a' : Nat), Ob ((↑a' : Int) ≤ n ∧ n.toNat - a' < n.toNat - a_1) ∧ Ob (SV.lst x rows.length 1 (Rv.elemOf [.i64] rows) = SV.lst x rows.length 1 (Rv.elemOf [.i64] rows)) ∧ Ob (rows.length =
  rows.length) ∧ Ob (n = n) ∧ Ob ((↑a_1 : Int) + (1 : Int) = (↑a' : Int)) ∧ Ob (rows.length = rows.length ∧ ∀ (i : Nat), i < rows.length → (updL (El.fn fun (i : Nat) ↦ [SV.i .i64 (dh rows a_1 i)]) (↑(bst rows_1 (fun (i :
  Nat) ↦ cell rows_2 i 0) rows_1.length) : Int).toNat 0 [SV.i .i64 (dh rows a_1 (↑(bst rows_1 (fun (i : Nat) ↦ cell rows_2 i 0) rows_1.length) : Int).toNat + (1 : Int))]).at i = (El.fn fun (i : Nat) ↦ [SV.i .i64 (dh rows
  a' i)]).at i) ∧ Ob (IsLst B x rows.length 1 (Rv.elemOf [.i64] rows)) ∧ Ob (PlainE rows.length (El.fn fun (i : Nat) ↦ [SV.i .i64 (dh rows a' i)])) ∧ True) ∧ (¬(↑a_1 : Int) < n → Ob ¬C_ShareA ([Dat.z n] ++ ([Dat.l rows] ++
  [])) ∧ Ob (rows.length = rows.length) ∧ Ob ((0 : Int) = (0 : Int)) ∧ Ob (rows.length = rows.length ∧ ∀ (i : Nat), i < rows.length → (El.fn fun (i : Nat) ↦ [SV.i .i64 (dh rows a_1 i)]).at i = (El.fn fun (i : Nat) ↦ [SV.i
  .i64 (dh rows n.toNat i)]).at i) ∧ Ob (PlainE rows.length (El.fn fun (i : Nat) ↦ [SV.i .i64 (dh rows n.toNat i)])) ∧ True))) ∧ (¬(0 : Int) < n → Ob (IsLst B x rows.length 1 (Rv.elemOf [.i64] rows)) ∧ Ob ((↑rows.length :
  Int) = (↑rows.length : Int) ∧ (0 : Int) ≤ (↑rows.length : Int) ∧ rows.length * (9 : Nat) ≤ (1099511627776 : Nat)) ∧ (∃ (a_1 : Nat), Ob ((↑a_1 : Int) ≤ n) ∧ Ob (SV.lst x rows.length 1 (Rv.elemOf [.i64] rows) = SV.lst x
  rows.length 1 (Rv.elemOf [.i64] rows)) ∧ Ob (rows.length = rows.length) ∧ Ob (n = n) ∧ Ob ((0 : Int) = (↑a_1 : Int)) ∧ Ob (rows.length = rows.length ∧ ∀ (i : Nat), i < rows.length → (El.fn fun (x : Nat) ↦ symL (List.map
  SV.v (Value.int .i64 (0 : Int)).cells.toList)).at i = (El.fn fun (i : Nat) ↦ [SV.i .i64 (dh rows a_1 i)]).at i) ∧ Ob (IsLst B x rows.length 1 (Rv.elemOf [.i64] rows)) ∧ Ob (PlainE rows.length (El.fn fun (i : Nat) ↦ [SV.i
  .i64 (dh rows a_1 i)])) ∧ True) ∧ ∀ (a_1 : Nat), (↑a_1 : Int) ≤ n → ∀ (z_45 z_46 z_47 z_48 z_49 z_50 z_51 z_52 z_53 z_54 z_55 z_56 z_57 z_58 z_59 z_60 z_61 z_62 z_63 z_64 z_65 z_66 z_67 z_68 z_69 z_70 z_71 z_72 z_73 z_74
  z_75 z_76 z_77 z_78 z_79 z_80 z_81 z_82 z_83 z_84 z_85 z_86 z_87 z_88 z_89 z_90 z_91 : Value), ((↑a_1 : Int) < n → ∃ (rows_1 : List (List Int)), Ob (IsLst B x rows.length 1 (Rv.elemOf [.i64] rows) ∧ rows_1.length =
  rows.length ∧ (∀ (r : List Int), r ∈ rows_1 → r.length = (1 : Nat)) ∧ ∀ (i : Nat), i < rows.length → Rv.elemOf [.i64] rows i = Rv.elemOf [.i64] rows_1 i) ∧ ∃ (rows_2 : List (List Int)), Ob (rows.length = rows.length ∧
  rows_2.length = rows.length ∧ (∀ (r : List Int), r ∈ rows_2 → r.length = (1 : Nat)) ∧ ∀ (i : Nat), i < rows.length → (El.fn fun (i : Nat) ↦ [SV.i .i64 (dh rows a_1 i)]).at i = Rv.elemOf [.i64] rows_2 i) ∧ Ob (NxtOk
  rows_1 rows_2) ∧ Ob ((0 : Int) ≤ (↑(bst rows_1 (fun (i : Nat) ↦ cell rows_2 i 0) rows_1.length) : Int) ∧ (↑(bst rows_1 (fun (i : Nat) ↦ cell rows_2 i 0) rows_1.length) : Int).toNat < rows.length) ∧ Ob ((↑(bst rows_1 (fun
  (i : Nat) ↦ cell rows_2 i 0) rows_1.length) : Int).toNat < rows.length) ∧ Ob (InR .i64 (dh rows a_1 (↑(bst rows_1 (fun (i : Nat) ↦ cell rows_2 i 0) rows_1.length) : Int).toNat + (1 : Int))) ∧ Ob ((0 : Int) ≤ (↑(bst
  rows_1 (fun (i : Nat) ↦ cell rows_2 i 0) rows_1.length) : Int) ∧ (↑(bst rows_1 (fun (i : Nat) ↦ cell rows_2 i 0) rows_1.length) : Int).toNat < rows.length) ∧ Ob ((↑(bst rows_1 (fun (i : Nat) ↦ cell rows_2 i 0)
  rows_1.length) : Int).toNat < rows.length ∧ ((El.fn fun (i : Nat) ↦ [SV.i .i64 (dh rows a_1 i)]).at (↑(bst rows_1 (fun (i : Nat) ↦ cell rows_2 i 0) rows_1.length) : Int).toNat).length = (1 : Nat)) ∧ Ob (InR .i64 ((↑a_1 :
  Int) + (1 : Int))) ∧ ∃ (a' : Nat), Ob ((↑a' : Int) ≤ n ∧ n.toNat - a' < n.toNat - a_1) ∧ Ob (SV.lst x rows.length 1 (Rv.elemOf [.i64] rows) = SV.lst x rows.length 1 (Rv.elemOf [.i64] rows)) ∧ Ob (rows.length =
  rows.length) ∧ Ob (n = n) ∧ Ob ((↑a_1 : Int) + (1 : Int) = (↑a' : Int)) ∧ Ob (rows.length = rows.length ∧ ∀ (i : Nat), i < rows.length → (updL (El.fn fun (i : Nat) ↦ [SV.i .i64 (dh rows a_1 i)]) (↑(bst rows_1 (fun (i :
  Nat) ↦ cell rows_2 i 0) rows_1.length) : Int).toNat 0 [SV.i .i64 (dh rows a_1 (↑(bst rows_1 (fun (i : Nat) ↦ cell rows_2 i 0) rows_1.length) : Int).toNat + (1 : Int))]).at i = (El.fn fun (i : Nat) ↦ [SV.i .i64 (dh rows
  a' i)]).at i) ∧ Ob (IsLst B x rows.length 1 (Rv.elemOf [.i64] rows)) ∧ Ob (PlainE rows.length (El.fn fun (i : Nat) ↦ [SV.i .i64 (dh rows a' i)])) ∧ True) ∧ (¬(↑a_1 : Int) < n → Ob ¬C_ShareA ([Dat.z n] ++ ([Dat.l rows] ++
  [])) ∧ Ob (rows.length = rows.length) ∧ Ob ((0 : Int) = (0 : Int)) ∧ Ob (rows.length = rows.length ∧ ∀ (i : Nat), i < rows.length → (El.fn fun (i : Nat) ↦ [SV.i .i64 (dh rows a_1 i)]).at i = (El.fn fun (i : Nat) ↦ [SV.i
  .i64 (dh rows n.toNat i)]).at i) ∧ Ob (PlainE rows.length (El.fn fun (i : Nat) ↦ [SV.i .i64 (dh rows n.toNat i)])) ∧ True)))))

set_option linter.unusedSimpArgs false in
set_option maxRecDepth 4000 in
set_option maxHeartbeats 2000000 in
theorem v_ShareA : V_ShareA := by
  unfold V_ShareA
  intro B q x T hx hox hrx hok
  have hok : T.length ≤ 4000000 := hok
  simp only [Ob_iff, and_true, true_and, Int.toNat_natCast]
  refine ⟨fun h => ?_, fun h => ?_⟩
  · have e := shr_q (T := T) h
    exact ⟨show shrErr q T ≠ 0 by omega, e.symm⟩
  have hq : 0 ≤ q ∧ q ≤ 5000 := Classical.not_not.1 h
  clear h
  refine ⟨hx, fun h1 => ?_, fun h1 => ?_⟩
  · have e := shr_full (T := T) hq (by omega)
    exact ⟨show shrErr q T ≠ 0 by omega, e.symm⟩
  have h1 : ¬ 12 < T.length := by omega
  refine ⟨hx, ⟨0, ⟨by omega, fun i hi => by omega⟩, rfl, rfl, hx, hx⟩, ?_⟩
  intro k ⟨hk, hka⟩
  intros
  refine ⟨fun h2 => ?_, fun h2 => ?_⟩
  · have hk' : k < T.length := by omega
    have hb := tot_bd (L := T) (M := 40) (k := k) hka
    refine ⟨⟨by omega, hk', hx⟩, ⟨hx, hk'⟩, fun h3 => ?_, fun h3 => ?_⟩
    · have e := shr_bad hq h1 hk' h3
      exact ⟨show shrErr q T ≠ 0 by omega, e.symm⟩
    · have h3 := Classical.not_not.1 h3
      exact ⟨by simp only [InR]; omega, by simp only [InR]; omega, k + 1, ⟨⟨hk', fun i hi => by
        by_cases e : i = k
        · subst e; exact h3
        · exact hka i (by omega)⟩, by omega⟩, rfl, by omega, hx, hx⟩
  have ek : k = T.length := by omega
  subst ek
  clear h2 hk
  have htm := tot_mx (T := T) (k := T.length) fun i hi => (hka i hi).1
  refine ⟨fun h4 => ⟨fun h5 => ?_, fun h5 => ?_⟩, fun h4 => ?_⟩
  · have e := shr_none hq h1 hka h4 (htm.2.1 h5)
    exact ⟨show shrErr q T ≠ 0 by omega, e.symm⟩
  all_goals
    have hn : ¬ (0 < q ∧ mxTo T T.length = 0) := fun hh => by have := htm.2.2 hh.2; omega
    have e0 := shr_ok hq h1 hka hn
    have hmn := mx_nn T T.length
    refine ⟨hx, ⟨by omega, by omega⟩, ⟨0, by omega, rfl, fun i _ => rfl, hx, plain_fn1' _ _⟩, ?_⟩
    intro s hs
    intros
    have gn := dh_nn T s
    have gl := dh_le T s
    refine ⟨fun h6 => ?_, fun h6 => ?_⟩
    · obtain ⟨p, hp, hpp⟩ := mx_at T (k := T.length) (by omega)
      clear e0
      have hTl : 1 ≤ T.length := by omega
      have hb := bst_lt T (dh T s) T.length (by omega)
      have hnx : NxtOk T (listD (dh T s) T.length) := ⟨⟨hTl, by omega⟩, listD_len _ _, hka, fun i hi => by
        rw [listD_cell _ hi]
        have g1 := gn i
        have g2 := gl i
        omega⟩
      refine ⟨T, ⟨hx, rfl, hrx, fun _ _ => rfl⟩, listD (dh T s) T.length, ⟨listD_len _ _, listD_row _ _, fun i hi => listD_at _ hi⟩, hnx, ?_⟩
      rw [bst_listD]
      have hu := fun i => dh_upd T s i
      obtain ⟨b, eb⟩ : ∃ b, bst T (dh T s) T.length = b := ⟨_, rfl⟩
      rw [eb] at hb hu ⊢
      have gb := gl b
      have gb0 := gn b
      refine ⟨⟨by omega, hb⟩, hb, by simp only [InR]; omega, ⟨by omega, hb⟩, ⟨hb, rfl⟩, by simp only [InR]; omega, s + 1, ⟨by omega, by omega⟩, by omega, fun i _ => ?_, hx, plain_fn1' _ _⟩
      have := hu i
      simpa using this
    · have e : s = q.toNat := by omega
      subst e
      exact ⟨fun hc => absurd e0 (show shrErr q T ≠ 0 from hc), fun _ _ => rfl, plain_fn1' _ _⟩

theorem e_ShareA : V_ShareA = needE P [F_withinA, F_nextBoat] [] A_ShareA F_ShareA := by kernel_rfl

theorem n_ShareA : Ob (needE P [F_withinA, F_nextBoat] [] A_ShareA F_ShareA) := by
  rw [← e_ShareA]
  exact ⟨v_ShareA⟩

theorem b_ShareA : ((P.funcs[10]?).any fun fn => fn.body.isSome) = true := by kernel_rfl

theorem ShareA_ok : FnE.Ok P F_ShareA := FnE.ok named (l := [F_withinA, F_nextBoat]) (es := []) (A := A_ShareA) (by rfl) (by rfl) (by rfl) (by
  intro F h
  simp only [List.mem_cons, List.not_mem_nil, or_false] at h
  rcases h with rfl | rfl
  · exact withinA_ok
  · exact nextBoat_ok
) (by
  intro F h; simp at h) b_ShareA (by
  intro ds h o ho n sz e k z he
  subst he
  simp only [F_ShareA] at ho
  split at ho
  · simp only [List.mem_cons, List.not_mem_nil, or_false, SObj.gr.injEq] at ho
    obtain ⟨rfl, rfl, rfl, rfl, rfl⟩ := ho
    exact plain_fn1' _ _
  · simp at ho) n_ShareA (by
  intro a ha ds h hc o ho n sz e k z he
  have ha : some _ = some a := ha
  simp only [Option.some.injEq] at ha
  subst ha
  simp only at ho
  split at ho <;> simp at ho)

noncomputable def F_withinR : Fn0 := ⟨24, [i64, i64, i64], fun _ => True, fun l => match l with | [.z n, .z lo, .z hi] => .p (lo ≤ n ∧ n ≤ hi) | _ => .v undef⟩
noncomputable def A_withinR : List SV → List Dat → Nat → List SV → Ann := fun _ _ _ _ => noAnn

def V_withinR : Prop :=
  ∀ (B : RW) (n n_1 n_2 : Int), True → (n_1 ≤ n → Ob (n ≤ n_2 ↔ n_1 ≤ n ∧ n ≤ n_2) ∧ True) ∧ (¬n_1 ≤ n → Ob (false = true ↔ n_1 ≤ n ∧ n ≤ n_2) ∧ True)

set_option linter.unusedSimpArgs false in
set_option maxRecDepth 4000 in
set_option maxHeartbeats 400000 in
theorem v_withinR : V_withinR := by
  unfold V_withinR
  intros
  simp only [Ob_iff, and_true, true_and, InR] at *
  all_goals grind

theorem e_withinR : V_withinR = needF P [] A_withinR F_withinR := by kernel_rfl

theorem n_withinR : Ob (needF P [] A_withinR F_withinR) := by
  rw [← e_withinR]
  exact ⟨v_withinR⟩

theorem b_withinR : ((P.funcs[24]?).any fun fn => fn.body.isSome) = true := by kernel_rfl

theorem withinR_ok : Fn0.Ok P F_withinR := Fn0.ok named (l := []) (A := A_withinR) (by rfl) (by
  intro F h; simp at h) b_withinR (by
  intro ds N
  simp only [F_withinR]
  split <;> rfl) n_withinR

noncomputable def C_ShareR : List Dat → Prop := fun l => match l with | [.z q, .l T] => shrErr q T ≠ 0 | _ => False
noncomputable def F_ShareR : FnE := ⟨11, none, [i64, .one (.l [.i64])], fun l => match l with | [.z q, .l T] => T.length ≤ 4000000 | _ => False, fun l => match l with | [.z q, .l T] => [.gsl 0 T.length 1 false, .i .i64 0] | _ => [], fun l => match l with | [.z q, .l T] => [.gr T.length 1 (.fn fun i => [.i .i64 (dh T q.toNat i)]) .ex false] | _ => [], fun l => match l with | [.z q, .l T] => [] | _ => [], false, some ⟨C_ShareR, isNil, fun l => match l with | [.z q, .l T] => [.v (.slice none 0 0), .i .i64 (shrErr q T)] | _ => [], fun l => match l with | [.z q, .l T] => [] | _ => [], fun l => match l with | [.z q, .l T] => [] | _ => []⟩⟩
noncomputable def A_ShareR : List SV → List Dat → Nat → List SV → Ann := fun xs ds n ts => match xs with
  | [.i _ _, .lst x _ _ _] => match ds with
    | [.z q, .l T] => match n with
      | 7 => ⟨Nat, fun k => [some (SV.i IntKind.i64 q), some (SV.lst x T.length ((1 : Nat)) (Rv.elemOf [IntKind.i64] T)), none, none, none, none, some (.i .i64 (mxTo T k)), some (.i .i64 k), none, none, none, none, none, none, none, none, none, none, none, none, none, none, none, none, none, none, none, none, none, none, none, none, none, none, none, none, none, none, none, none, none, none, none, none, none, none, none, none, none, none, none, none, none, none, none, none, none, none, none, none, none, none, none, none, none, none, none, none, none, none, none, none, none, none, none, none, none, none, none, none, none, none, none, none, none], fun k => [], fun k => k ≤ T.length ∧ ∀ i, i < k → 0 ≤ cell T i 0 ∧ cell T i 0 ≤ 40, fun k => T.length - k, 0⟩
      | 16 => ⟨Nat, fun k => [some (SV.i IntKind.i64 q), some (SV.lst x T.length ((1 : Nat)) (Rv.elemOf [IntKind.i64] T)), none, none, none, none, none, none, some (.gsl 0 T.length 1 false), some (.i .i64 k), none, none, none, none, none, none, none, none, none, none, none, none, none, none, none, none, none, none, none, none, none, none, none, none, none, none, none, none, none, none, none, none, none, none, none, none, none, none, none, none, none, none, none, none, none, none, none, none, none, none, none, none, none, none, none, none, none, none, none, none, none, none, none, none, none, none, none, none, none, none, none, none, none, none, none], fun k => [.gr T.length 1 (.fn fun i => [.i .i64 (dh T k i)]) .ex false], fun k => (k : Int) ≤ q, fun k => q.toNat - k, 0⟩
      | 20 => (match lget ts 9 with | some (SV.i _ r9) => ⟨Nat, fun k => [some (SV.i IntKind.i64 q), some (SV.lst x T.length ((1 : Nat)) (Rv.elemOf [IntKind.i64] T)), none, none, none, none, none, none, some (.gsl 0 T.length 1 false), some (SV.i .i64 r9), some (.i .i64 (bst T (dh T r9.toNat) k : Nat)), some (.i .i64 k), none, none, none, none, none, none, none, none, none, none, none, none, none, none, none, none, none, none, none, none, none, none, none, none, none, none, none, none, none, none, none, none, none, none, none, none, none, none, none, none, none, none, none, none, none, none, none, none, none, none, none, none, none, none, none, none, none, none, none, none, none, none, none, none, none, none, none, none, none, none, none, none, none], fun k => [.gr T.length 1 (.fn fun i => [.i .i64 (dh T r9.toNat i)]) .ex false], fun k => 0 ≤ r9 ∧ 1 ≤ k ∧ k ≤ T.length, fun k => T.length - k, 0⟩ | _ => noAnn)
      | _ => noAnn
    | _ => noAnn
  | _ => noAnn

def V_ShareR : Prop :=
  ∀ (B : RW) (n : Int) (x : RV) (rows : List (List Int)), IsLst B x rows.length 1 (Rv.elemOf [.i64] rows) → oneB x = true → (∀ (row : List Int), row ∈ rows → row.length = (1 : Nat)) → F_ShareR.pre ([Dat.z n] ++ ([Dat.l
  rows] ++ [])) → Ob True ∧ (¬((0 : Int) ≤ n ∧ n ≤ (5000 : Int)) → Ob (C_ShareR ([Dat.z n] ++ ([Dat.l rows] ++ []))) ∧ Ob (SV.v (Value.slice none 0 0) = SV.v (Value.slice none 0 0)) ∧ Ob ((1 : Int) = shrErr n rows) ∧ True)
  ∧ (¬¬((0 : Int) ≤ n ∧ n ≤ (5000 : Int)) → Ob (IsLst B x rows.length 1 (Rv.elemOf [.i64] rows)) ∧ ((12 : Int) < (↑rows.length : Int) → Ob (C_ShareR ([Dat.z n] ++ ([Dat.l rows] ++ []))) ∧ Ob (SV.v (Value.slice none 0 0) =
  SV.v (Value.slice none 0 0)) ∧ Ob ((5 : Int) = shrErr n rows) ∧ True) ∧ (¬(12 : Int) < (↑rows.length : Int) → (∃ (a : Nat), Ob (a ≤ rows.length ∧ ∀ (i : Nat), i < a → (0 : Int) ≤ cell rows i 0 ∧ cell rows i 0 ≤ (40 :
  Int)) ∧ Ob (n = n) ∧ Ob (SV.lst x rows.length 1 (Rv.elemOf [.i64] rows) = SV.lst x rows.length 1 (Rv.elemOf [.i64] rows)) ∧ Ob ((0 : Int) = mxTo rows a) ∧ Ob ((0 : Int) = (↑a : Int)) ∧ Ob (IsLst B x rows.length 1
  (Rv.elemOf [.i64] rows)) ∧ True) ∧ ∀ (a : Nat), (a ≤ rows.length ∧ ∀ (i : Nat), i < a → (0 : Int) ≤ cell rows i 0 ∧ cell rows i 0 ≤ (40 : Int)) → ∀ (z z_1 z_2 z_3 z_4 z_5 z_6 z_7 z_8 z_9 z_10 z_11 z_12 z_13 z_14 z_15
  z_16 z_17 z_18 z_19 z_20 z_21 z_22 z_23 z_24 z_25 z_26 z_27 z_28 z_29 z_30 z_31 z_32 z_33 z_34 z_35 z_36 z_37 z_38 z_39 z_40 z_41 z_42 z_43 z_44 z_45 z_46 z_47 z_48 z_49 z_50 z_51 z_52 z_53 z_54 z_55 z_56 z_57 z_58 z_59
  z_60 z_61 z_62 z_63 z_64 z_65 z_66 z_67 z_68 z_69 z_70 z_71 z_72 z_73 z_74 z_75 z_76 z_77 z_78 z_79 z_80 : Value), Ob (IsLst B x rows.length 1 (Rv.elemOf [.i64] rows)) ∧ ((↑a : Int) < (↑rows.length : Int) → Ob ((0 : Int)
  ≤ (↑a : Int) ∧ a < rows.length ∧ IsLst B x rows.length 1 (Rv.elemOf [.i64] rows)) ∧ Ob (IsLst B x rows.length 1 (Rv.elemOf [.i64] rows) ∧ a < rows.length) ∧ Ob True ∧ (¬((0 : Int) ≤ cell rows a 0 ∧ cell rows a 0 ≤ (40 :
  Int)) → Ob (C_ShareR ([Dat.z n] ++ ([Dat.l rows] ++ []))) ∧ Ob (SV.v (Value.slice none 0 0) = SV.v (Value.slice none 0 0)) ∧ Ob ((1 : Int) = shrErr n rows) ∧ True) ∧ (¬¬((0 : Int) ≤ cell rows a 0 ∧ cell rows a 0 ≤ (40 :
  Int)) → Ob ((0 : Int) ≤ (↑a : Int) ∧ a < rows.length ∧ IsLst B x rows.length 1 (Rv.elemOf [.i64] rows)) ∧ Ob (IsLst B x rows.length 1 (Rv.elemOf [.i64] rows) ∧ a < rows.length) ∧ Ob (InR .i64 ((↑a : Int) + (1 : Int))) ∧
  ∃ (a' : Nat), Ob ((a' ≤ rows.length ∧ ∀ (i : Nat), i < a' → (0 : Int) ≤ cell rows i 0 ∧ cell rows i 0 ≤ (40 : Int)) ∧ rows.length - a' < rows.length - a) ∧ Ob (n = n) ∧ Ob (SV.lst x rows.length 1 (Rv.elemOf [.i64] rows)
  = SV.lst x rows.length 1 (Rv.elemOf [.i64] rows)) ∧ Ob (max (mxTo rows a) (cell rows a 0) = mxTo rows a') ∧ Ob ((↑a : Int) + (1 : Int) = (↑a' : Int)) ∧ Ob (IsLst B x rows.length 1 (Rv.elemOf [.i64] rows)) ∧ True)) ∧
  (¬(↑a : Int) < (↑rows.length : Int) → ((0 : Int) < n → (mxTo rows a = (0 : Int) → Ob (C_ShareR ([Dat.z n] ++ ([Dat.l rows] ++ []))) ∧ Ob (SV.v (Value.slice none 0 0) = SV.v (Value.slice none 0 0)) ∧ Ob ((6 : Int) =
  shrErr n rows) ∧ True) ∧ (¬mxTo rows a = (0 : Int) → Ob (IsLst B x rows.length 1 (Rv.elemOf [.i64] rows)) ∧ Ob ((↑rows.length : Int) = (↑rows.length : Int) ∧ (0 : Int) ≤ (↑rows.length : Int) ∧ rows.length * (9 : Nat) ≤
  (1099511627776 : Nat)) ∧ (∃ (a_1 : Nat), Ob ((↑a_1 : Int) ≤ n) ∧ Ob (n = n) ∧ Ob (SV.lst x rows.length 1 (Rv.elemOf [.i64] rows) = SV.lst x rows.length 1 (Rv.elemOf [.i64] rows)) ∧ Ob (rows.length = rows.length) ∧ Ob ((0
  : Int) = (↑a_1 : Int)) ∧ Ob (rows.length = rows.length ∧ ∀ (i : Nat), i < rows.length → (El.fn fun (x : Nat) ↦ symL (List.map SV.v (Value.int .i64 (0 : Int)).cells.toList)).at i = (El.fn fun (i : Nat) ↦ [SV.i .i64 (dh
  rows a_1 i)]).at i) ∧ Ob (IsLst B x rows.length 1 (Rv.elemOf [.i64] rows)) ∧ Ob (PlainE rows.length (El.fn fun (i : Nat) ↦ [SV.i .i64 (dh rows a_1 i)])) ∧ True) ∧ ∀ (a_1 : Nat), (↑a_1 : Int) ≤ n → ∀ (z_81 z_82 z_83 z_84
  z_85 z_86 z_87 z_88 z_89 z_90 z_91 z_92 z_93 z_94 z_95 z_96 z_97 z_98 z_99 z_100 z_101 z_102 z_103 z_104 z_105 z_106 z_107 z_108 z_109 z_110 z_111 z_112 z_113 z_114 z_115 z_116 z_117 z_118 z_119 z_120 z_121 z_122 z_123
  z_124 z_125 z_126 z_127 z_128 z_129 z_130 z_131 z_132 z_133 z_134 z_135 z_136 z_137 z_138 z_139 z_140 z_141 z_142 z_143 z_144 z_145 z_146 z_147 z_148 z_149 z_150 z_151 z_152 z_153 z_154 z_155 z_156 z_157 z_158 z_159
  z_160 z_161 : Value), ((↑a_1 : Int) < n → (∃ (a_2 : Nat), Ob ((0 : Int) ≤ (↑a_1 : Int) ∧ (1 : Nat) ≤ a_2 ∧ a_2 ≤ rows.length) ∧ Ob (n = n) ∧ Ob (SV.lst x rows.length 1 (Rv.elemOf [.i64] rows) = SV.lst x rows.length 1
  (Rv.elemOf [.i64] rows)) ∧ Ob (rows.length = rows.length) ∧ Ob ((↑a_1 : Int) = (↑a_1 : Int)) ∧ Ob ((0 : Int) = (↑(bst rows (dh rows a_1) a_2) : Int)) ∧ Ob ((1 : Int) = (↑a_2 : Int)) ∧ Ob (rows.length = rows.length ∧ ∀ (i
  : Nat), i < rows.length → (El.fn fun (i : Nat) ↦ [SV.i .i64 (dh rows a_1 i)]).at i = (El.fn fun (i : Nat) ↦ [SV.i .i64 (dh rows a_1 i)]).at i) ∧ Ob (IsLst B x rows.length 1 (Rv.elemOf [.i64] rows)) ∧ Ob (PlainE
  rows.length (El.fn fun (i : Nat) ↦ [SV.i .i64 (dh rows a_1 i)])) ∧ True) ∧ ∀ (a_2 : Nat), (0 : Int) ≤ (↑a_1 : Int) ∧ (1 : Nat) ≤ a_2 ∧ a_2 ≤ rows.length → ∀ (z_162 z_163 z_164 z_165 z_166 z_167 z_168 z_169 z_170 z_171
  z_172 z_173 z_174 z_175 z_176 z_177 z_178 z_179 z_180 z_181 z_182 z_183 z_184 z_185 z_186 z_187 z_188 z_189 z_190 z_191 z_192 z_193 z_194 z_195 z_196 z_197 z_198 z_199 z_200 z_201 z_202 z_203 z_204 z_205 z_206 z_207
  z_208 z_209 z_210 z_211 z_212 z_213 z_214 z_215 z_216 z_217 z_218 z_219 z_220 z_221 z_222 z_223 z_224 z_225 z_226 z_227 z_228 z_229 z_230 z_231 z_232 z_233 z_234 z_235 z_236 z_237 z_238 z_239 z_240 : Value), Ob (IsLst B
  x rows.length 1 (Rv.elemOf [.i64] rows)) ∧ ((↑a_2 : Int) < (↑rows.length : Int) → Ob (IsLst B x rows.length 1 (Rv.elemOf [.i64] rows)) ∧ Ob ((0 : Int) ≤ (↑a_2 : Int) ∧ a_2 < rows.length ∧ IsLst B x rows.length 1
  (Rv.elemOf [.i64] rows)) ∧ Ob (IsLst B x rows.length 1 (Rv.elemOf [.i64] rows) ∧ a_2 < rows.length) ∧ Ob (IsLst B x rows.length 1 (Rv.elemOf [.i64] rows) ∧ a_2 < rows.length) ∧ Ob ((0 : Int) ≤ (↑(bst rows (dh rows a_1)
  a_2) : Int) ∧ (↑(bst rows (dh rows a_1) a_2) : Int).toNat < rows.length) ∧ Ob ((↑(bst rows (dh rows a_1) a_2) : Int).toNat < rows.length) ∧ Ob (InR .i64 (dh rows a_1 (↑(bst rows (dh rows a_1) a_2) : Int).toNat + (1 :
  Int))) ∧ Ob (InR .i64 (cell rows a_2 0 * (dh rows a_1 (↑(bst rows (dh rows a_1) a_2) : Int).toNat + (1 : Int)))) ∧ Ob (IsLst B x rows.length 1 (Rv.elemOf [.i64] rows)) ∧ Ob ((0 : Int) ≤ (↑(bst rows (dh rows a_1) a_2) :
  Int) ∧ (↑(bst rows (dh rows a_1) a_2) : Int).toNat < rows.length ∧ IsLst B x rows.length 1 (Rv.elemOf [.i64] rows)) ∧ Ob (IsLst B x rows.length 1 (Rv.elemOf [.i64] rows) ∧ (↑(bst rows (dh rows a_1) a_2) : Int).toNat <
  rows.length) ∧ Ob (IsLst B x rows.length 1 (Rv.elemOf [.i64] rows) ∧ (↑(bst rows (dh rows a_1) a_2) : Int).toNat < rows.length) ∧ Ob ((0 : Int) ≤ (↑a_2 : Int) ∧ a_2 < rows.length) ∧ Ob (a_2 < rows.length) ∧ Ob (InR .i64
  (dh rows a_1 a_2 + (1 : Int))) ∧ Ob (InR .i64 (cell rows (↑(bst rows (dh rows a_1) a_2) : Int).toNat 0 * (dh rows a_1 a_2 + (1 : Int)))) ∧ (cell rows (↑(bst rows (dh rows a_1) a_2) : Int).toNat 0 * (dh rows a_1 a_2 + (1
  : Int)) < cell rows a_2 0 * (dh rows a_1 (↑(bst rows (dh rows a_1) a_2) : Int).toNat + (1 : Int)) → Ob (InR .i64 ((↑a_2 : Int) + (1 : Int))) ∧ ∃ (a' : Nat), Ob (((0 : Int) ≤ (↑a_1 : Int) ∧ (1 : Nat) ≤ a' ∧ a' ≤
  rows.length) ∧ rows.length - a' < rows.length - a_2) ∧ Ob (n = n) ∧ Ob (SV.lst x rows.length 1 (Rv.elemOf [.i64] rows) = SV.lst x rows.length 1 (Rv.elemOf [.i64] rows)) ∧ Ob (rows.length = rows.length) ∧ Ob ((↑a_1 : Int)
  = (↑a_1 : Int)) ∧ Ob ((↑a_2 : Int) = (↑(bst rows (dh rows a_1) a') : Int)) ∧ Ob ((↑a_2 : Int) + (1 : Int) = (↑a' : Int)) ∧ Ob (rows.length = rows.length ∧ ∀ (i : Nat), i < rows.length → (El.fn fun (i : Nat) ↦ [SV.i .i64
  (dh rows a_1 i)]).at i = (El.fn fun (i : Nat) ↦ [SV.i .i64 (dh rows a_1 i)]).at i) ∧ Ob (IsLst B x rows.length 1 (Rv.elemOf [.i64] rows)) ∧ Ob (PlainE rows.length (El.fn fun (i : Nat) ↦ [SV.i .i64 (dh rows a_1 i)])) ∧
  True) ∧ (¬cell rows (↑(bst rows (dh rows a_1) a_2) : Int).toNat 0 * (dh rows a_1 a_2 + (1 : Int)) < cell rows a_2 0 * (dh rows a_1 (↑(bst rows (dh rows a_1) a_2) : Int).toNat + (1 : Int)) → Ob (InR .i64 ((↑a_2 : Int) +
  (1 : Int))) ∧ ∃ (a' : Nat), Ob (((0 : Int) ≤ (↑a_1 : Int) ∧ (1 : Nat) ≤ a' ∧ a' ≤ rows.length) ∧ rows.length - a' < rows.length - a_2) ∧ Ob (n = n) ∧ Ob (SV.lst x rows.length 1 (Rv.elemOf [.i64] rows) = SV.lst x
  rows.length 1 (Rv.elemOf [.i64] rows)) ∧ Ob (rows.length = rows.length) ∧ Ob ((↑a_1 : Int) = (↑a_1 : Int)) ∧ Ob ((↑(bst rows (dh rows a_1) a_2) : Int) = (↑(bst rows (dh rows a_1) a') : Int)) ∧ Ob ((↑a_2 : Int) + (1 :
  Int) = (↑a' : Int)) ∧ Ob (rows.length = rows.length ∧ ∀ (i : Nat), i < rows.length → (El.fn fun (i : Nat) ↦ [SV.i .i64 (dh rows a_1 i)]).at i = (El.fn fun (i : Nat) ↦ [SV.i .i64 (dh rows a_1 i)]).at i) ∧ Ob (IsLst B x
  rows.length 1 (Rv.elemOf [.i64] rows)) ∧ Ob (PlainE rows.length (El.fn fun (i : Nat) ↦ [SV.i .i64 (dh rows a_1 i)])) ∧ True)) ∧ (¬(↑a_2 : Int) < (↑rows.length : Int) → Ob ((0 : Int) ≤ (↑(bst rows (dh rows a_1) a_2) :
  Int) ∧ (↑(bst rows (dh rows a_1) a_2) : Int).toNat < rows.length) ∧ Ob ((↑(bst rows (dh rows a_1) a_2) : Int).toNat < rows.length) ∧ Ob (InR .i64 (dh rows a_1 (↑(bst rows (dh rows a_1) a_2) : Int).toNat + (1 : Int))) ∧
  Ob ((0 : Int) ≤ (↑(bst rows (dh rows a_1) a_2) : Int) ∧ (↑(bst rows (dh rows a_1) a_2) : Int).toNat < rows.length) ∧ Ob ((↑(bst rows (dh rows a_1) a_2) : Int).toNat < rows.length ∧ ((El.fn fun (i : Nat) ↦ [SV.i .i64 (dh
  rows a_1 i)]).at (↑(bst rows (dh rows a_1) a_2) : Int).toNat).length = (1 : Nat)) ∧ Ob (InR .i64 ((↑a_1 : Int) + (1 : Int))) ∧ ∃ (a' : Nat), Ob ((↑a' : Int) ≤ n ∧ n.toNat - a' < n.toNat - a_1) ∧ Ob (n = n) ∧ Ob (SV.lst x
  rows.length 1 (Rv.elemOf [.i64] rows) = SV.lst x rows.length 1 (Rv.elemOf [.i64] rows)) ∧ Ob (rows.length = rows.length) ∧ Ob ((↑a_1 : Int) + (1 : Int) = (↑a' : Int)) ∧ Ob (rows.length = rows.length ∧ ∀ (i : Nat), i <
  rows.length → (updL (El.fn fun (i : Nat) ↦ [SV.i .i64 (dh rows a_1 i)]) (↑(bst rows (dh rows a_1) a_2) : Int).toNat 0 [SV.i .i64 (dh rows a_1 (↑(bst rows (dh rows a_1) a_2) : Int).toNat + (1 : Int))]).at i = (El.fn fun
  (i : Nat) ↦ [SV.i .i64 (dh rows a' i)]).at i) ∧ Ob (IsLst B x rows.length 1 (Rv.elemOf [.i64] rows)) ∧ Ob (PlainE rows.length (El.fn fun (i : Nat) ↦ [SV.i .i64 (dh rows a' i)])) ∧ True)) ∧ (¬(↑a_1 : Int) < n → Ob
  ¬C_ShareR ([Dat.z n] ++ ([Dat.l rows] ++ [])) ∧ Ob (rows.length = rows.length) ∧ Ob ((0 : Int) = (0 : Int)) ∧ Ob (rows.length = rows.length ∧ ∀ (i : Nat), i < rows.length → (El.fn fun (i : Nat) ↦ [SV.i .i64 (dh rows a_1
  i)]).at i = (El.fn fun (i : Nat) ↦ [SV.i .i64 (dh rows n.toNat i)]).at i) ∧ Ob (PlainE rows.length (El.fn fun (i : Nat) ↦ [SV.i .i64 (dh rows n.toNat i)])) ∧ True))) ∧ (¬(0 : Int) < n → Ob (IsLst B x rows.length 1
  (Rv.elemOf [.i64] rows)) ∧ Ob ((↑rows.length : Int) = (↑rows.length : Int) ∧ (0 : Int) ≤ (↑rows.length : Int) ∧ rows.length * (9 : Nat) ≤ (1099511627776 : Nat)) ∧ (∃ (a_1 : Nat), Ob ((↑a_1 : Int) ≤ n) ∧ Ob (n = n) ∧ Ob
  (SV.lst x rows.length 1 (Rv.elemOf [.i64] rows) = SV.lst x rows.length 1 (Rv.elemOf [.i64] rows)) ∧ Ob (rows.length = rows.length) ∧ Ob ((0 : Int) = (↑a_1 : Int)) ∧ Ob (rows.length = rows.length ∧ ∀ (i : Nat), i <
  rows.length → (El.fn fun (x : Nat) ↦ symL (List.map SV.v (Value.int .i64 (0 : Int)).cells.toList)).at i = (El.fn fun (i : Nat) ↦ [SV.i .i64 (dh rows a_1 i)]).at i) ∧ Ob (IsLst B x rows.length 1 (Rv.elemOf [.i64] rows)) ∧
  Ob (PlainE rows.length (El.fn fun (i : Nat) ↦ [SV.i .i64 (dh rows a_1 i)])) ∧ True) ∧ ∀ (a_1 : Nat), (↑a_1 : Int) ≤ n → ∀ (z_81 z_82 z_83 z_84 z_85 z_86 z_87 z_88 z_89 z_90 z_91 z_92 z_93 z_94 z_95 z_96 z_97 z_98 z_99
  z_100 z_101 z_102 z_103 z_104 z_105 z_106 z_107 z_108 z_109 z_110 z_111 z_112 z_113 z_114 z_115 z_116 z_117 z_118 z_119 z_120 z_121 z_122 z_123 z_124 z_125 z_126 z_127 z_128 z_129 z_130 z_131 z_132 z_133 z_134 z_135
  z_136 z_137 z_138 z_139 z_140 z_141 z_142 z_143 z_144 z_145 z_146 z_147 z_148 z_149 z_150 z_151 z_152 z_153 z_154 z_155 z_156 z_157 z_158 z_159 z_160 z_161 : Value), ((↑a_1 : Int) < n → (∃ (a_2 : Nat), Ob ((0 : Int) ≤
  (↑a_1 : Int) ∧ (1 : Nat) ≤ a_2 ∧ a_2 ≤ rows.length) ∧ Ob (n = n) ∧ Ob (SV.lst x rows.length 1 (Rv.elemOf [.i64] rows) = SV.lst x rows.length 1 (Rv.elemOf [.i64] rows)) ∧ Ob (rows.length = rows.length) ∧ Ob ((↑a_1 : Int)
  = (↑a_1 : Int)) ∧ Ob ((0 : Int) = (↑(bst rows (dh rows a_1) a_2) : Int)) ∧ Ob ((1 : Int) = (↑a_2 : Int)) ∧ Ob (rows.length = rows.length ∧ ∀ (i : Nat), i < rows.length → (El.fn fun (i : Nat) ↦ [SV.i .i64 (dh rows a_1
  i)]).at i = (El.fn fun (i : Nat) ↦ [SV.i .i64 (dh rows a_1 i)]).at i) ∧ Ob (IsLst B x rows.length 1 (Rv.elemOf [.i64] rows)) ∧ Ob (PlainE rows.length (El.fn fun (i : Nat) ↦ [SV.i .i64 (dh rows a_1 i)])) ∧ True) ∧ ∀ (a_2
  : Nat), (0 : Int) ≤ (↑a_1 : Int) ∧ (1 : Nat) ≤ a_2 ∧ a_2 ≤ rows.length → ∀ (z_162 z_163 z_164 z_165 z_166 z_167 z_168 z_169 z_170 z_171 z_172 z_173 z_174 z_175 z_176 z_177 z_178 z_179 z_180 z_181 z_182 z_183 z_184 z_185
  z_186 z_187 z_188 z_189 z_190 z_191 z_192 z_193 z_194 z_195 z_196 z_197 z_198 z_199 z_200 z_201 z_202 z_203 z_204 z_205 z_206 z_207 z_208 z_209 z_210 z_211 z_212 z_213 z_214 z_215 z_216 z_217 z_218 z_219 z_220 z_221
  z_222 z_223 z_224 z_225 z_226 z_227 z_228 z_229 z_230 z_231 z_232 z_233 z_234 z_235 z_236 z_237 z_238 z_239 z_240 : Value), Ob (IsLst B x rows.length 1 (Rv.elemOf [.i64] rows)) ∧ ((↑a_2 : Int) < (↑rows.length : Int) → Ob
  (IsLst B x rows.length 1 (Rv.elemOf [.i64] rows)) ∧ Ob ((0 : Int) ≤ (↑a_2 : Int) ∧ a_2 < rows.length ∧ IsLst B x rows.length 1 (Rv.elemOf [.i64] rows)) ∧ Ob (IsLst B x rows.length 1 (Rv.elemOf [.i64] rows) ∧ a_2 <
  rows.length) ∧ Ob (IsLst B x rows.length 1 (Rv.elemOf [.i64] rows) ∧ a_2 < rows.length) ∧ Ob ((0 : Int) ≤ (↑(bst rows (dh rows a_1) a_2) : Int) ∧ (↑(bst rows (dh rows a_1) a_2) : Int).toNat < rows.length) ∧ Ob ((↑(bst
  rows (dh rows a_1) a_2) : Int).toNat < rows.length) ∧ Ob (InR .i64 (dh rows a_1 (↑(bst rows (dh rows a_1) a_2) : Int).toNat + (1 : Int))) ∧ Ob (InR .i64 (cell rows a_2 0 * (dh rows a_1 (↑(bst rows (dh rows a_1) a_2) :
  Int).toNat + (1 : Int)))) ∧ Ob (IsLst B x rows.length 1 (Rv.elemOf [.i64] rows)) ∧ Ob ((0 : Int) ≤ (↑(bst rows (dh rows a_1) a_2) : Int) ∧ (↑(bst rows (dh rows a_1) a_2) : Int).toNat < rows.length ∧ IsLst B x rows.length
  1 (Rv.elemOf [.i64] rows)) ∧ Ob (IsLst B x rows.length 1 (Rv.elemOf [.i64] rows) ∧ (↑(bst rows (dh rows a_1) a_2) : Int).toNat < rows.length) ∧ Ob (IsLst B x rows.length 1 (Rv.elemOf [.i64] rows) ∧ (↑(bst rows (dh rows
  a_1) a_2) : Int).toNat < rows.length) ∧ Ob ((0 : Int) ≤ (↑a_2 : Int) ∧ a_2 < rows.length) ∧ Ob (a_2 < rows.length) ∧ Ob (InR .i64 (dh rows a_1 a_2 + (1 : Int))) ∧ Ob (InR .i64 (cell rows (↑(bst rows (dh rows a_1) a_2) :
  Int).toNat 0 * (dh rows a_1 a_2 + (1 : Int)))) ∧ (cell rows (↑(bst rows (dh rows a_1) a_2) : Int).toNat 0 * (dh rows a_1 a_2 + (1 : Int)) < cell rows a_2 0 * (dh rows a_1 (↑(bst rows (dh rows a_1) a_2) : Int).toNat + (1
  : Int)) → Ob (InR .i64 ((↑a_2 : Int) + (1 : Int))) ∧ ∃ (a' : Nat), Ob (((0 : Int) ≤ (↑a_1 : Int) ∧ (1 : Nat) ≤ a' ∧ a' ≤ rows.length) ∧ rows.length - a' < rows.length - a_2) ∧ Ob (n = n) ∧ Ob (SV.lst x rows.length 1
  (Rv.elemOf [.i64] rows) = SV.lst x rows.length 1 (Rv.elemOf [.i64] rows)) ∧ Ob (rows.length = rows.length) ∧ Ob ((↑a_1 : Int) = (↑a_1 : Int)) ∧ Ob ((↑a_2 : Int) = (↑(bst rows (dh rows a_1) a') : Int)) ∧ Ob ((↑a_2 : Int)
  + (1 : Int) = (↑a' : Int)) ∧ Ob (rows.length = rows.length ∧ ∀ (i : Nat), i < rows.length → (El.fn fun (i : Nat) ↦ [SV.i .i64 (dh rows a_1 i)]).at i = (El.fn fun (i : Nat) ↦ [SV.i .i64 (dh rows a_1 i)]).at i) ∧ Ob (IsLst
  B x rows.length 1 (Rv.elemOf [.i64] rows)) ∧ Ob (PlainE rows.length (El.fn fun (i : Nat) ↦ [SV.i .i64 (dh rows a_1 i)])) ∧ True) ∧ (¬cell rows (↑(bst rows (dh rows a_1) a_2) : Int).toNat 0 * (dh rows a_1 a_2 + (1 : Int))
  < cell rows a_2 0 * (dh rows a_1 (↑(bst rows (dh rows a_1) a_2) : Int).toNat + (1 : Int)) → Ob (InR .i64 ((↑a_2 : Int) + (1 : Int))) ∧ ∃ (a' : Nat), Ob (((0 : Int) ≤ (↑a_1 : Int) ∧ (1 : Nat) ≤ a' ∧ a' ≤ rows.length) ∧
  rows.length - a' < rows.length - a_2) ∧ Ob (n = n) ∧ Ob (SV.lst x rows.length 1 (Rv.elemOf [.i64] rows) = SV.lst x rows.length 1 (Rv.elemOf [.i64] rows)) ∧ Ob (rows.length = rows.length) ∧ Ob ((↑a_1 : Int) = (↑a_1 :
  Int)) ∧ Ob ((↑(bst rows (dh rows a_1) a_2) : Int) = (↑(bst rows (dh rows a_1) a') : Int)) ∧ Ob ((↑a_2 : Int) + (1 : Int) = (↑a' : Int)) ∧ Ob (rows.length = rows.length ∧ ∀ (i : Nat), i < rows.length → (El.fn fun (i :
  Nat) ↦ [SV.i .i64 (dh rows a_1 i)]).at i = (El.fn fun (i : Nat) ↦ [SV.i .i64 (dh rows a_1 i)]).at i) ∧ Ob (IsLst B x rows.length 1 (Rv.elemOf [.i64] rows)) ∧ Ob (PlainE rows.length (El.fn fun (i : Nat) ↦ [SV.i .i64 (dh
  rows a_1 i)])) ∧ True)) ∧ (¬(↑a_2 : Int) < (↑rows.length : Int) → Ob ((0 : Int) ≤ (↑(bst rows (dh rows a_1) a_2) : Int) ∧ (↑(bst rows (dh rows a_1) a_2) : Int).toNat < rows.length) ∧ Ob ((↑(bst rows (dh rows a_1) a_2) :
  Int).toNat < rows.length) ∧ Ob (InR .i64 (dh rows a_1 (↑(bst rows (dh rows a_1) a_2) : Int).toNat + (1 : Int))) ∧ Ob ((0 : Int) ≤ (↑(bst rows (dh rows a_1) a_2) : Int) ∧ (↑(bst rows (dh rows a_1) a_2) : Int).toNat <
  rows.length) ∧ Ob ((↑(bst rows (dh rows a_1) a_2) : Int).toNat < rows.length ∧ ((El.fn fun (i : Nat) ↦ [SV.i .i64 (dh rows a_1 i)]).at (↑(bst rows (dh rows a_1) a_2) : Int).toNat).length = (1 : Nat)) ∧ Ob (InR .i64
  ((↑a_1 : Int) + (1 : Int))) ∧ ∃ (a' : Nat), Ob ((↑a' : Int) ≤ n ∧ n.toNat - a' < n.toNat - a_1) ∧ Ob (n = n) ∧ Ob (SV.lst x rows.length 1 (Rv.elemOf [.i64] rows) = SV.lst x rows.length 1 (Rv.elemOf [.i64] rows)) ∧ Ob
  (rows.length = rows.length) ∧ Ob ((↑a_1 : Int) + (1 : Int) = (↑a' : Int)) ∧ Ob (rows.length = rows.length ∧ ∀ (i : Nat), i < rows.length → (updL (El.fn fun (i : Nat) ↦ [SV.i .i64 (dh rows a_1 i)]) (↑(bst rows (dh rows
  a_1) a_2) : Int).toNat 0 [SV.i .i64 (dh rows a_1 (↑(bst rows (dh rows a_1) a_2) : Int).toNat + (1 : Int))]).at i = (El.fn fun (i : Nat) ↦ [SV.i .i64 (dh rows a' i)]).at i) ∧ Ob (IsLst B x rows.length 1 (Rv.elemOf [.i64]
  rows)) ∧ Ob (PlainE rows.length (El.fn fun (i : Nat) ↦ [SV.i .i64 (dh rows a' i)])) ∧ True)) ∧ (¬(↑a_1 : Int) < n → Ob ¬C_ShareR ([Dat.z n] ++ ([Dat.l rows] ++ [])) ∧ Ob (rows.length = rows.length) ∧ Ob ((0 : Int) = (0 :
  Int)) ∧ Ob (rows.length = rows.length ∧ ∀ (i : Nat), i < rows.length → (El.fn fun (i : Nat) ↦ [SV.i .i64 (dh rows a_1 i)]).at i = (El.fn fun (i : Nat) ↦ [SV.i .i64 (dh rows n.toNat i)]).at i) ∧ Ob (PlainE rows.length
  (El.fn fun (i : Nat) ↦ [SV.i .i64 (dh rows n.toNat i)])) ∧ True)))))

set_option linter.unusedSimpArgs false in
set_option maxRecDepth 4000 in
set_option maxHeartbeats 2000000 in
theorem v_ShareR : V_ShareR := by
  unfold V_ShareR
  intro B q x T hx hox hrx hok
  have hok : T.length ≤ 4000000 := hok
  simp only [Ob_iff, and_true, true_and, Int.toNat_natCast]
  refine ⟨fun h => ?_, fun h => ?_⟩
  · have e := shr_q (T := T) h
    exact ⟨show shrErr q T ≠ 0 by omega, e.symm⟩
  have hq : 0 ≤ q ∧ q ≤ 5000 := Classical.not_not.1 h
  clear h
  refine ⟨hx, fun h1 => ?_, fun h1 => ?_⟩
  · have e := shr_full (T := T) hq (by omega)
    exact ⟨show shrErr q T ≠ 0 by omega, e.symm⟩
  have h1 : ¬ 12 < T.length := by omega
  refine ⟨⟨0, ⟨by omega, fun i hi => by omega⟩, rfl, rfl, hx⟩, ?_⟩
  intro k ⟨hk, hka⟩
  intros
  refine ⟨hx, fun h2 => ?_, fun h2 => ?_⟩
  · have hk' : k < T.length := by omega
    refine ⟨⟨by omega, hk', hx⟩, ⟨hx, hk'⟩, fun h3 => ?_, fun h3 => ?_⟩
    · have e := shr_bad hq h1 hk' h3
      exact ⟨show shrErr q T ≠ 0 by omega, e.symm⟩
    · have h3 := Classical.not_not.1 h3
      exact ⟨⟨by omega, hk', hx⟩, ⟨hx, hk'⟩, by simp only [InR]; omega, k + 1, ⟨⟨hk', fun i hi => by
        by_cases e : i = k
        · subst e; exact h3
        · exact hka i (by omega)⟩, by omega⟩, rfl, by omega, hx⟩
  have ek : k = T.length := by omega
  subst ek
  clear h2 hk
  refine ⟨fun h4 => ⟨fun h5 => ?_, fun h5 => ?_⟩, fun h4 => ?_⟩
  · have e := shr_none hq h1 hka h4 h5
    exact ⟨show shrErr q T ≠ 0 by omega, e.symm⟩
  all_goals
    have hn : ¬ (0 < q ∧ mxTo T T.length = 0) := by omega
    have e0 := shr_ok hq h1 hka hn
    have hmn := mx_nn T T.length
    refine ⟨hx, ⟨by omega, by omega⟩, ⟨0, by omega, rfl, fun i _ => rfl, hx, plain_fn1' _ _⟩, ?_⟩
    intro s hs
    intros
    have gn := dh_nn T s
    have gl := dh_le T s
    refine ⟨fun h6 => ?_, fun h6 => ?_⟩
    · obtain ⟨p, hp, hpp⟩ := mx_at T (k := T.length) (by omega)
      clear e0
      refine ⟨⟨1, ⟨by omega, by omega, by omega⟩, rfl, rfl, fun _ _ => trivial, hx, plain_fn1' _ _⟩, ?_⟩
      · intro i ⟨_, hi1, hi2⟩
        intros
        have hb := bst_lt T (dh T s) i (by omega)
        have es : ∀ b, bst T (dh T s) i = b → bst T (dh T s) (i + 1) = if cell T b 0 * (dh T s i + 1) < cell T i 0 * (dh T s b + 1) then i else b := fun b hb => by
          simp only [bst, hb]
          rw [if_neg (by omega)]
        obtain ⟨b, eb⟩ : ∃ b, bst T (dh T s) i = b := ⟨_, rfl⟩
        have es := es b eb
        rw [eb] at hb ⊢
        have hbT : b < T.length := by omega
        have gb := gn b
        have gbl := gl b
        have cb := hka b hbT
        have rb : InR .i64 (dh T s b + 1) := by simp only [InR]; omega
        refine ⟨hx, fun h7 => ?_, fun h7 => ?_⟩
        · have hi : i < T.length := by omega
          have gi := gn i
          have gil := gl i
          have ci := hka i hi
          have ri : InR .i64 (dh T s i + 1) := by simp only [InR]; omega
          have rk : InR .i64 ((i : Int) + 1) := by simp only [InR]; omega
          refine ⟨hx, ⟨by omega, hi, hx⟩, ⟨hx, hi⟩, ⟨hx, hi⟩, ⟨by omega, hbT⟩, hbT, rb, prod_in ci.1 ci.2 (by omega) (by omega), hx, ⟨by omega, hbT, hx⟩, ⟨hx, hbT⟩, ⟨hx, hbT⟩, ⟨by omega, hi⟩, hi, ri, prod_in cb.1 cb.2 (by omega) (by omega), fun h8 => ?_, fun h8 => ?_⟩
          · exact ⟨rk, i + 1, ⟨⟨by omega, by omega, by omega⟩, by omega⟩, by rw [es, if_pos h8], by omega, fun _ _ => trivial, hx, plain_fn1' _ _⟩
          · exact ⟨rk, i + 1, ⟨⟨by omega, by omega, by omega⟩, by omega⟩, by rw [es, if_neg h8], by omega, fun _ _ => trivial, hx, plain_fn1' _ _⟩
        have ei : i = T.length := by omega
        subst ei
        subst eb
        exact ⟨⟨by omega, hbT⟩, hbT, rb, ⟨by omega, hbT⟩, ⟨hbT, rfl⟩, by simp only [InR]; omega, s + 1, ⟨by omega, by omega⟩, by omega, fun i _ => dh_upd T s i, hx, plain_fn1' _ _⟩
    · have e : s = q.toNat := by omega
      subst e
      exact ⟨fun hc => absurd e0 (show shrErr q T ≠ 0 from hc), fun _ _ => rfl, plain_fn1' _ _⟩

theorem e_ShareR : V_ShareR = needE P [F_withinR] [] A_ShareR F_ShareR := by kernel_rfl

theorem n_ShareR : Ob (needE P [F_withinR] [] A_ShareR F_ShareR) := by
  rw [← e_ShareR]
  exact ⟨v_ShareR⟩

theorem b_ShareR : ((P.funcs[11]?).any fun fn => fn.body.isSome) = true := by kernel_rfl

theorem ShareR_ok : FnE.Ok P F_ShareR := FnE.ok named (l := [F_withinR]) (es := []) (A := A_ShareR) (by rfl) (by rfl) (by rfl) (by
  intro F h
  simp only [List.mem_cons, List.not_mem_nil, or_false] at h
  rcases h with rfl
  · exact withinR_ok
) (by
  intro F h; simp at h) b_ShareR (by
  intro ds h o ho n sz e k z he
  subst he
  simp only [F_ShareR] at ho
  split at ho
  · simp only [List.mem_cons, List.not_mem_nil, or_false, SObj.gr.injEq] at ho
    obtain ⟨rfl, rfl, rfl, rfl, rfl⟩ := ho
    exact plain_fn1' _ _
  · simp at ho) n_ShareR (by
  intro a ha ds h hc o ho n sz e k z he
  have ha : some _ = some a := ha
  simp only [Option.some.injEq] at ha
  subst ha
  simp only at ho
  split at ho <;> simp at ho)

end Go.Proofs.Ytpnnknhenhnmhaa.Sy
