/- Whose the dead ones are (the reference). -/
import Derived.Test.YtlnldabgbfcdcaaSyP2
import Derived.Test.YtlnldabgbfcdcaaGrM
import Derived.Test.YtlnldabgbfcdcaaStM
import Derived.Test.YtlnldabgbfcdcaaLrM
import Derived.Test.YtlnldabgbfcdcaaDhM
import Derived.Test.YtlnldabgbfcdcaaKtT
import Derived.Test.YtlnldabgbfcdcaaKtA
import Derived.Test.YtlnldabgbfcdcaaKtB
import Derived.Test.YtlnldabgbfcdcaaKtD
import Derived.Test.YtlnldabgbfcdcaaKtW
import Derived.Test.YtlnldabgbfcdcaaKtY
import Derived.Test.YtlnldabgbfcdcaaSyP2
import Derived.KernelRfl
import Derived.Test.YtlnldabgbfcdcaaProg
namespace Go.Proofs.Ytlnldabgbfcdcaa.Sy
open Go Go.Rv
set_option linter.unusedVariables false

open Classical in
noncomputable def lotErr (d : Int) (L : Rows) : Int := if 20 < L.length then 5 else if ∀ i, i < L.length → 0 ≤ cell L i 0 ∧ cell L i 0 ≤ 10000 ∧ 0 ≤ cell L i 1 ∧ cell L i 1 ≤ 10000 then (if d < 0 then 1 else if lotS L L.length + lotW L L.length < d then 12 else 0) else 1
def colO (c : Nat) (L : Rows) (k : Nat) : Rows := (List.range k).map fun i => [cell L i c]
noncomputable def qW (d : Int) (L : Rows) (i : Nat) : Int := shr (min d (lotW L L.length)) (lotW L L.length) (fun i => cell L i 1) L.length i
noncomputable def qS (d : Int) (L : Rows) (i : Nat) : Int := shr (d - min d (lotW L L.length)) (lotS L L.length) (fun i => cell L i 0) L.length i
noncomputable def lqF (d : Int) (L : Rows) (k i : Nat) : Int := qW d L i + (if i < k then qS d L i else 0)
theorem lot_full {d : Int} {L : Rows} (h : 20 < L.length) : lotErr d L = 5 := by unfold lotErr; rw [if_pos h]
theorem lot_bad {d : Int} {L : Rows} (h : ¬ 20 < L.length) {k : Nat} (hk : k < L.length) (hb : ¬ (0 ≤ cell L k 0 ∧ cell L k 0 ≤ 10000 ∧ 0 ≤ cell L k 1 ∧ cell L k 1 ≤ 10000)) : lotErr d L = 1 := by
  unfold lotErr; rw [if_neg h, if_neg fun a => hb (a k hk)]
theorem lot_neg {d : Int} {L : Rows} (h : ¬ 20 < L.length) (ha : ∀ i, i < L.length → 0 ≤ cell L i 0 ∧ cell L i 0 ≤ 10000 ∧ 0 ≤ cell L i 1 ∧ cell L i 1 ≤ 10000) (hd : d < 0) : lotErr d L = 1 := by
  unfold lotErr; rw [if_neg h, if_pos ha, if_pos hd]
theorem lot_over {d : Int} {L : Rows} (h : ¬ 20 < L.length) (ha : ∀ i, i < L.length → 0 ≤ cell L i 0 ∧ cell L i 0 ≤ 10000 ∧ 0 ≤ cell L i 1 ∧ cell L i 1 ≤ 10000) (hd : ¬ d < 0) (ho : lotS L L.length + lotW L L.length < d) : lotErr d L = 12 := by
  unfold lotErr; rw [if_neg h, if_pos ha, if_neg hd, if_pos ho]
theorem lot_ok {d : Int} {L : Rows} (h : ¬ 20 < L.length) (ha : ∀ i, i < L.length → 0 ≤ cell L i 0 ∧ cell L i 0 ≤ 10000 ∧ 0 ≤ cell L i 1 ∧ cell L i 1 ≤ 10000) (hd : ¬ d < 0) (ho : ¬ lotS L L.length + lotW L L.length < d) : lotErr d L = 0 := by
  unfold lotErr; rw [if_neg h, if_pos ha, if_neg hd, if_neg ho]
theorem col_len (c : Nat) (L : Rows) (k : Nat) : (colO c L k).length = k := by simp [colO]
theorem col_row (c : Nat) (L : Rows) (k : Nat) : ∀ r ∈ colO c L k, r.length = 1 := by
  intro r hr
  obtain ⟨i, _, rfl⟩ := List.mem_map.1 hr
  rfl
theorem col_cell (c : Nat) (L : Rows) {k i : Nat} (h : i < k) : cell (colO c L k) i 0 = cell L i c := by
  have e : (colO c L k).getD i [] = [cell L i c] := by
    unfold colO
    simp [List.getD_eq_getElem?_getD, h]
  show ((colO c L k).getD i []).getD 0 0 = cell L i c
  rw [e]
  rfl
theorem col_snoc (c : Nat) (L : Rows) (k : Nat) : colO c L (k + 1) = colO c L k ++ [[cell L k c]] := by simp [colO, List.range_succ]
theorem col_at (c : Nat) (L : Rows) {k i : Nat} (h : i < k + 1) : (behind k (.fn (Rv.elemOf [.i64] (colO c L k))) 1 (litEl [SV.i .i64 (cell L k c)] 1 1)).at i = (El.fn (Rv.elemOf [.i64] (colO c L (k + 1)))).at i := by
  have := snoc_at (R := colO c L k) (ks := [.i64]) (r := [cell L k c]) (cs := [SV.i .i64 (cell L k c)]) rfl (i := i) (by rw [col_len]; exact h)
  rw [col_len, ← col_snoc] at this
  exact this
theorem col_plain (c : Nat) (L : Rows) (k : Nat) : PlainE (k + 1) (behind k (.fn (Rv.elemOf [.i64] (colO c L k))) 1 (litEl [SV.i .i64 (cell L k c)] 1 1)) := fun i hi y hy => plain_elemOf [.i64] (colO c L (k + 1)) (k + 1) i hi y (by rw [← col_at c L hi]; exact hy)
theorem col_tot (c : Nat) (L : Rows) (n : Nat) : ∀ k, k ≤ n → totTo (colO c L n) k = sumF (fun i => cell L i c) k
  | 0, _ => rfl
  | k + 1, h => by
    simp only [totTo, sumF]
    rw [col_tot c L n k (by omega), col_cell c L (by omega)]
theorem col_A (c : Nat) (L : Rows) : pA (colO c L L.length) = fun i => cell L i c := by
  funext i
  unfold pA
  by_cases h : i < L.length
  · exact col_cell c L h
  · unfold cell
    have h1 : (colO c L L.length)[i]? = none := List.getElem?_eq_none (by rw [col_len]; omega)
    have h2 : L[i]? = none := List.getElem?_eq_none (by omega)
    simp [List.getD_eq_getElem?_getD, h1, h2]
theorem col_N (c : Nat) (L : Rows) : pN (colO c L L.length) = sumF (fun i => cell L i c) L.length := by
  unfold pN
  rw [col_len]
  exact col_tot c L _ _ (Nat.le_refl _)
theorem col_S (c : Nat) (L : Rows) (d : Int) : pS d (colO c L L.length) = shr d (sumF (fun i => cell L i c) L.length) (fun i => cell L i c) L.length := by
  unfold pS
  rw [col_N, col_A, col_len]
theorem col_ok {c : Nat} {L : Rows} {d : Int} (hl : ¬ 20 < L.length) (h : ∀ i, i < L.length → 0 ≤ cell L i c ∧ cell L i c ≤ 10000) (hd : 0 ≤ d ∧ d ≤ sumF (fun i => cell L i c) L.length) : PrtOk d (colO c L L.length) := by
  refine ⟨by rw [col_len]; omega, fun i hi => ?_, ?_⟩
  · rw [col_len] at hi
    rw [col_cell c L hi]
    exact h i hi
  · have := col_N c L
    unfold pN at this
    rw [this]
    exact hd
theorem pS_bd {d : Int} {R : Rows} (h : PrtOk d R) {i : Nat} (hi : i < R.length) : 0 ≤ pS d R i ∧ pS d R i ≤ 10000 := by
  by_cases h0 : pN R = 0
  · have : pS d R i = 0 := by
      unfold pS shr
      rw [if_pos h0]
    omega
  · have sh := h.sh h0
    have c := h.c i hi
    have h1 : 0 ≤ pS d R i := sh.nn hi
    have h2 : pS d R i ≤ cell R i 0 := sh.le h.d.2 hi
    omega
theorem sm_bd {f : Nat → Int} : ∀ {k : Nat}, (∀ i, i < k → 0 ≤ f i ∧ f i ≤ 10000) → 0 ≤ sumF f k ∧ sumF f k ≤ k * 10000
  | 0, _ => by simp [sumF]
  | k + 1, h => by
    have ih := sm_bd (f := f) (k := k) fun i hi => h i (by omega)
    have hc := h k (by omega)
    have e : ((k + 1 : Nat) : Int) * 10000 = k * 10000 + 10000 := by rw [Int.natCast_add, Int.add_mul]; simp
    rw [e]
    simp only [sumF]
    omega
theorem lq_upd (d : Int) (L : Rows) (k i : Nat) : (updL (El.fn fun i => [SV.i .i64 (lqF d L k i)]) k 0 [SV.i .i64 (lqF d L k k + qS d L k)]).at i = (El.fn fun i => [SV.i .i64 (lqF d L (k + 1) i)]).at i := by
  simp only [updL, El.at]
  by_cases e : i = k
  · subst e
    have n1 : ¬ i < i := by omega
    have n2 : i < i + 1 := by omega
    rw [if_pos rfl]
    show [SV.i .i64 (lqF d L i i + qS d L i)] = [SV.i .i64 (lqF d L (i + 1) i)]
    unfold lqF
    rw [if_neg n1, if_pos n2]
    simp
  · rw [if_neg e]
    show [SV.i .i64 (lqF d L k i)] = [SV.i .i64 (lqF d L (k + 1) i)]
    unfold lqF
    by_cases h : i < k
    · have n1 : i < k + 1 := by omega
      rw [if_pos h, if_pos n1]
    · have n1 : ¬ i < k + 1 := by omega
      rw [if_neg h, if_neg n1]

noncomputable def F_withinS : Fn0 := ⟨26, [i64, i64, i64], fun _ => True, fun l => match l with | [.z n, .z lo, .z hi] => .p (lo ≤ n ∧ n ≤ hi) | _ => .v undef⟩
noncomputable def A_withinS : List SV → List Dat → Nat → List SV → Ann := fun _ _ _ _ => noAnn

def V_withinS : Prop :=
  ∀ (B : RW) (n n_1 n_2 : Int), True → (n_1 ≤ n → Ob (n ≤ n_2 ↔ n_1 ≤ n ∧ n ≤ n_2) ∧ True) ∧ (¬n_1 ≤ n → Ob (false = true ↔ n_1 ≤ n ∧ n ≤ n_2) ∧ True)

set_option linter.unusedSimpArgs false in
set_option maxRecDepth 4000 in
set_option maxHeartbeats 400000 in
theorem v_withinS : V_withinS := by
  unfold V_withinS
  intros
  simp only [Ob_iff, and_true, true_and, InR] at *
  all_goals grind

theorem e_withinS : V_withinS = needF P [] A_withinS F_withinS := by kernel_rfl

theorem n_withinS : Ob (needF P [] A_withinS F_withinS) := by
  rw [← e_withinS]
  exact ⟨v_withinS⟩

theorem b_withinS : ((P.funcs[26]?).any fun fn => fn.body.isSome) = true := by kernel_rfl

theorem withinS_ok : Fn0.Ok P F_withinS := Fn0.ok named (l := []) (A := A_withinS) (by rfl) (by
  intro F h; simp at h) b_withinS (by
  intro ds N
  simp only [F_withinS]
  split <;> rfl) n_withinS

noncomputable def C_ShareS : List Dat → Prop := fun l => match l with | [.l L, .z d] => lotErr d L ≠ 0 | _ => False
noncomputable def F_ShareS : FnE := ⟨11, none, [.one (.l [.i64, .i64]), i64], fun l => match l with | [.l L, .z d] => L.length ≤ 4000000 | _ => False, fun l => match l with | [.l L, .z d] => [.gsl 0 L.length 1 false, .i .i64 0] | _ => [], fun l => match l with | [.l L, .z d] => [.gr L.length 1 (.fn fun i => [.i .i64 (lotD d L i)]) .ex false] | _ => [], fun l => match l with | [.l L, .z d] => [] | _ => [], false, some ⟨C_ShareS, isNil, fun l => match l with | [.l L, .z d] => [.v (.slice none 0 0), .i .i64 (lotErr d L)] | _ => [], fun l => match l with | [.l L, .z d] => [] | _ => [], fun l => match l with | [.l L, .z d] => [] | _ => []⟩⟩
noncomputable def A_ShareS : List SV → List Dat → Nat → List SV → Ann := fun xs ds n ts => match xs with
  | [.lst x _ _ _, .i _ _] => match ds with
    | [.l L, .z d] => match n with
      | 6 => ⟨Nat, fun k => [some (SV.lst x L.length ((2 : Nat)) (Rv.elemOf [IntKind.i64, IntKind.i64] L)), some (SV.i IntKind.i64 d), none, none, none, none, some (.gsl 0 k 1 true), some (.gsl 1 k 1 true), some (.i .i64 (lotS L k + lotW L k)), some (.i .i64 (lotW L k)), some (.i .i64 k), none, none, none, none, none, none, none, none, none, none, none, none, none, none, none, none, none, none, none, none, none, none, none, none, none, none, none, none, none, none, none, none, none, none, none, none, none, none, none, none, none, none, none, none, none, none, none, none, none, none, none, none, none, none, none, none, none, none, none, none, none, none, none, none, none, none, none, none, none, none, none, none, none, none, none, none, none, none, none, none, none, none, none, none, none, none, none, none, none, none, none, none, none, none, none, none, none, none, none, none], fun k => [.gr k 1 (.fn (Rv.elemOf [.i64] (colO 1 L k))) .gr true, .gr k 1 (.fn (Rv.elemOf [.i64] (colO 0 L k))) .gr true], fun k => k ≤ L.length ∧ ∀ i, i < k → 0 ≤ cell L i 0 ∧ cell L i 0 ≤ 10000 ∧ 0 ≤ cell L i 1 ∧ cell L i 1 ≤ 10000, fun k => L.length - k, 0⟩
      | 19 => ⟨Nat, fun k => [none, none, none, none, none, none, none, none, none, none, none, none, some (.gsl 2 L.length 1 false), some (.gsl 3 L.length 1 false), some (.i .i64 k), none, none, none, none, none, none, none, none, none, none, none, none, none, none, none, none, none, none, none, none, none, none, none, none, none, none, none, none, none, none, none, none, none, none, none, none, none, none, none, none, none, none, none, none, none, none, none, none, none, none, none, none, none, none, none, none, none, none, none, none, none, none, none, none, none, none, none, none, none, none, none, none, none, none, none, none, none, none, none, none, none, none, none, none, none, none, none, none, none, none, none, none, none, none, none, none], fun k => [.gr L.length 1 (.fn fun i => [.i .i64 (qS d L i)]) .ex false, .gr L.length 1 (.fn fun i => [.i .i64 (lqF d L k i)]) .ex false, .dead, .dead], fun k => k ≤ L.length, fun k => L.length - k, 0⟩
      | _ => noAnn
    | _ => noAnn
  | _ => noAnn

def V_ShareS : Prop :=
  ∀ (B : RW) (x : RV) (rows : List (List Int)), IsLst B x rows.length ((2 : Nat)) (Rv.elemOf [IntKind.i64, IntKind.i64] rows) → oneB x = true → (∀ (row : List Int), row ∈ rows → row.length = (2 : Nat)) → ∀ (n : Int),
  F_ShareS.pre ([Dat.l rows] ++ ([Dat.z n] ++ [])) → Ob (IsLst B x rows.length ((2 : Nat)) (Rv.elemOf [IntKind.i64, IntKind.i64] rows)) ∧ ((20 : Int) < (↑rows.length : Int) → Ob (C_ShareS ([Dat.l rows] ++ ([Dat.z n] ++
  []))) ∧ Ob (SV.v (Value.slice none ((0 : Nat)) ((0 : Nat))) = SV.v (Value.slice none ((0 : Nat)) ((0 : Nat)))) ∧ Ob ((5 : Int) = lotErr n rows) ∧ True) ∧ (¬(20 : Int) < (↑rows.length : Int) → (∃ (a : Nat), Ob (a ≤
  rows.length ∧ ∀ (i : Nat), i < a → (0 : Int) ≤ cell rows i ((0 : Nat)) ∧ cell rows i ((0 : Nat)) ≤ (10000 : Int) ∧ (0 : Int) ≤ cell rows i ((1 : Nat)) ∧ cell rows i ((1 : Nat)) ≤ (10000 : Int)) ∧ Ob (SV.lst x rows.length
  ((2 : Nat)) (Rv.elemOf [IntKind.i64, IntKind.i64] rows) = SV.lst x rows.length ((2 : Nat)) (Rv.elemOf [IntKind.i64, IntKind.i64] rows)) ∧ Ob (n = n) ∧ Ob (a = (0 : Nat)) ∧ Ob (a = (0 : Nat)) ∧ Ob ((0 : Int) = lotS rows a
  + lotW rows a) ∧ Ob ((0 : Int) = lotW rows a) ∧ Ob ((0 : Int) = (↑a : Int)) ∧ Ob (a = (0 : Nat)) ∧ Ob (a = (0 : Nat)) ∧ Ob (IsLst B x rows.length ((2 : Nat)) (Rv.elemOf [IntKind.i64, IntKind.i64] rows)) ∧ Ob (PlainE a
  (El.fn (Rv.elemOf [IntKind.i64] (colO ((1 : Nat)) rows a)))) ∧ Ob (PlainE a (El.fn (Rv.elemOf [IntKind.i64] (colO ((0 : Nat)) rows a)))) ∧ True) ∧ ∀ (a : Nat), (a ≤ rows.length ∧ ∀ (i : Nat), i < a → (0 : Int) ≤ cell
  rows i ((0 : Nat)) ∧ cell rows i ((0 : Nat)) ≤ (10000 : Int) ∧ (0 : Int) ≤ cell rows i ((1 : Nat)) ∧ cell rows i ((1 : Nat)) ≤ (10000 : Int)) → ∀ (z z_1 z_2 z_3 z_4 z_5 z_6 z_7 z_8 z_9 z_10 z_11 z_12 z_13 z_14 z_15 z_16
  z_17 z_18 z_19 z_20 z_21 z_22 z_23 z_24 z_25 z_26 z_27 z_28 z_29 z_30 z_31 z_32 z_33 z_34 z_35 z_36 z_37 z_38 z_39 z_40 z_41 z_42 z_43 z_44 z_45 z_46 z_47 z_48 z_49 z_50 z_51 z_52 z_53 z_54 z_55 z_56 z_57 z_58 z_59 z_60
  z_61 z_62 z_63 z_64 z_65 z_66 z_67 z_68 z_69 z_70 z_71 z_72 z_73 z_74 z_75 z_76 z_77 z_78 z_79 z_80 z_81 z_82 z_83 z_84 z_85 z_86 z_87 z_88 z_89 z_90 z_91 z_92 z_93 z_94 z_95 z_96 z_97 z_98 z_99 z_100 z_101 z_102 z_103 :
  Value), Ob (IsLst B x rows.length ((2 : Nat)) (Rv.elemOf [IntKind.i64, IntKind.i64] rows)) ∧ ((↑a : Int) < (↑rows.length : Int) → Ob ((0 : Int) ≤ (↑a : Int) ∧ a < rows.length ∧ IsLst B x rows.length ((2 : Nat))
  (Rv.elemOf [IntKind.i64, IntKind.i64] rows)) ∧ Ob (IsLst B x rows.length ((2 : Nat)) (Rv.elemOf [IntKind.i64, IntKind.i64] rows) ∧ a < rows.length) ∧ Ob True ∧ (¬¬((0 : Int) ≤ cell rows a ((0 : Nat)) ∧ cell rows a ((0 :
  Nat)) ≤ (10000 : Int)) → Ob ((0 : Int) ≤ (↑a : Int) ∧ a < rows.length ∧ IsLst B x rows.length ((2 : Nat)) (Rv.elemOf [IntKind.i64, IntKind.i64] rows)) ∧ Ob (IsLst B x rows.length ((2 : Nat)) (Rv.elemOf [IntKind.i64,
  IntKind.i64] rows) ∧ a < rows.length) ∧ Ob True ∧ (¬((0 : Int) ≤ cell rows a ((1 : Nat)) ∧ cell rows a ((1 : Nat)) ≤ (10000 : Int)) → Ob (C_ShareS ([Dat.l rows] ++ ([Dat.z n] ++ []))) ∧ Ob (SV.v (Value.slice none ((0 :
  Nat)) ((0 : Nat))) = SV.v (Value.slice none ((0 : Nat)) ((0 : Nat)))) ∧ Ob ((1 : Int) = lotErr n rows) ∧ True) ∧ (¬¬((0 : Int) ≤ cell rows a ((1 : Nat)) ∧ cell rows a ((1 : Nat)) ≤ (10000 : Int)) → Ob (IsLst B x
  rows.length ((2 : Nat)) (Rv.elemOf [IntKind.i64, IntKind.i64] rows)) ∧ Ob ((0 : Int) ≤ (↑a : Int) ∧ a < rows.length ∧ IsLst B x rows.length ((2 : Nat)) (Rv.elemOf [IntKind.i64, IntKind.i64] rows)) ∧ Ob (IsLst B x
  rows.length ((2 : Nat)) (Rv.elemOf [IntKind.i64, IntKind.i64] rows) ∧ a < rows.length) ∧ Ob (IsLst B x rows.length ((2 : Nat)) (Rv.elemOf [IntKind.i64, IntKind.i64] rows) ∧ a < rows.length) ∧ Ob (IsLst B x rows.length
  ((2 : Nat)) (Rv.elemOf [IntKind.i64, IntKind.i64] rows) ∧ a < rows.length) ∧ Ob (a = a ∧ ∀ (i : Nat), i < a → ((El.fn (Rv.elemOf [IntKind.i64] (colO ((0 : Nat)) rows a))).at i).length = (1 : Nat)) ∧ Ob ((a + (1 : Nat)) *
  (2 : Nat) * (9 : Nat) ≤ (1099511627776 : Nat)) ∧ Ob (a = a) ∧ Ob (PlainE (a + (1 : Nat)) (behind a (El.fn (Rv.elemOf [IntKind.i64] (colO ((0 : Nat)) rows a))) ((1 : Nat)) (litEl [SV.i IntKind.i64 (cell rows a ((0 :
  Nat)))] ((1 : Nat)) ((1 : Nat))))) ∧ Ob (IsLst B x rows.length ((2 : Nat)) (Rv.elemOf [IntKind.i64, IntKind.i64] rows)) ∧ Ob ((0 : Int) ≤ (↑a : Int) ∧ a < rows.length ∧ IsLst B x rows.length ((2 : Nat)) (Rv.elemOf
  [IntKind.i64, IntKind.i64] rows)) ∧ Ob (IsLst B x rows.length ((2 : Nat)) (Rv.elemOf [IntKind.i64, IntKind.i64] rows) ∧ a < rows.length) ∧ Ob (IsLst B x rows.length ((2 : Nat)) (Rv.elemOf [IntKind.i64, IntKind.i64] rows)
  ∧ a < rows.length) ∧ Ob (IsLst B x rows.length ((2 : Nat)) (Rv.elemOf [IntKind.i64, IntKind.i64] rows) ∧ a < rows.length) ∧ Ob (a = a ∧ ∀ (i : Nat), i < a → ((El.fn (Rv.elemOf [IntKind.i64] (colO ((1 : Nat)) rows a))).at
  i).length = (1 : Nat)) ∧ Ob ((a + (1 : Nat)) * (2 : Nat) * (9 : Nat) ≤ (1099511627776 : Nat)) ∧ Ob (a = a) ∧ Ob (IsLst B x rows.length ((2 : Nat)) (Rv.elemOf [IntKind.i64, IntKind.i64] rows)) ∧ Ob ((0 : Int) ≤ (↑a : Int)
  ∧ a < rows.length ∧ IsLst B x rows.length ((2 : Nat)) (Rv.elemOf [IntKind.i64, IntKind.i64] rows)) ∧ Ob (IsLst B x rows.length ((2 : Nat)) (Rv.elemOf [IntKind.i64, IntKind.i64] rows) ∧ a < rows.length) ∧ Ob (IsLst B x
  rows.length ((2 : Nat)) (Rv.elemOf [IntKind.i64, IntKind.i64] rows) ∧ a < rows.length) ∧ Ob (IsLst B x rows.length ((2 : Nat)) (Rv.elemOf [IntKind.i64, IntKind.i64] rows) ∧ a < rows.length) ∧ Ob (InR IntKind.i64 (lotS
  rows a + lotW rows a + cell rows a ((0 : Nat)))) ∧ Ob (IsLst B x rows.length ((2 : Nat)) (Rv.elemOf [IntKind.i64, IntKind.i64] rows)) ∧ Ob ((0 : Int) ≤ (↑a : Int) ∧ a < rows.length ∧ IsLst B x rows.length ((2 : Nat))
  (Rv.elemOf [IntKind.i64, IntKind.i64] rows)) ∧ Ob (IsLst B x rows.length ((2 : Nat)) (Rv.elemOf [IntKind.i64, IntKind.i64] rows) ∧ a < rows.length) ∧ Ob (IsLst B x rows.length ((2 : Nat)) (Rv.elemOf [IntKind.i64,
  IntKind.i64] rows) ∧ a < rows.length) ∧ Ob (IsLst B x rows.length ((2 : Nat)) (Rv.elemOf [IntKind.i64, IntKind.i64] rows) ∧ a < rows.length) ∧ Ob (InR IntKind.i64 (lotS rows a + lotW rows a + cell rows a ((0 : Nat)) +
  cell rows a ((1 : Nat)))) ∧ Ob (IsLst B x rows.length ((2 : Nat)) (Rv.elemOf [IntKind.i64, IntKind.i64] rows)) ∧ Ob ((0 : Int) ≤ (↑a : Int) ∧ a < rows.length ∧ IsLst B x rows.length ((2 : Nat)) (Rv.elemOf [IntKind.i64,
  IntKind.i64] rows)) ∧ Ob (IsLst B x rows.length ((2 : Nat)) (Rv.elemOf [IntKind.i64, IntKind.i64] rows) ∧ a < rows.length) ∧ Ob (IsLst B x rows.length ((2 : Nat)) (Rv.elemOf [IntKind.i64, IntKind.i64] rows) ∧ a <
  rows.length) ∧ Ob (IsLst B x rows.length ((2 : Nat)) (Rv.elemOf [IntKind.i64, IntKind.i64] rows) ∧ a < rows.length) ∧ Ob (InR IntKind.i64 (lotW rows a + cell rows a ((1 : Nat)))) ∧ Ob (InR IntKind.i64 ((↑a : Int) + (1 :
  Int))) ∧ ∃ (a' : Nat), Ob ((a' ≤ rows.length ∧ ∀ (i : Nat), i < a' → (0 : Int) ≤ cell rows i ((0 : Nat)) ∧ cell rows i ((0 : Nat)) ≤ (10000 : Int) ∧ (0 : Int) ≤ cell rows i ((1 : Nat)) ∧ cell rows i ((1 : Nat)) ≤ (10000
  : Int)) ∧ rows.length - a' < rows.length - a) ∧ Ob (SV.lst x rows.length ((2 : Nat)) (Rv.elemOf [IntKind.i64, IntKind.i64] rows) = SV.lst x rows.length ((2 : Nat)) (Rv.elemOf [IntKind.i64, IntKind.i64] rows)) ∧ Ob (n =
  n) ∧ Ob (a + (1 : Nat) = a') ∧ Ob (a + (1 : Nat) = a') ∧ Ob (lotS rows a + lotW rows a + cell rows a ((0 : Nat)) + cell rows a ((1 : Nat)) = lotS rows a' + lotW rows a') ∧ Ob (lotW rows a + cell rows a ((1 : Nat)) = lotW
  rows a') ∧ Ob ((↑a : Int) + (1 : Int) = (↑a' : Int)) ∧ Ob (a + (1 : Nat) = a' ∧ ∀ (i : Nat), i < a' → (behind a (El.fn (Rv.elemOf [IntKind.i64] (colO ((1 : Nat)) rows a))) ((1 : Nat)) (litEl [SV.i IntKind.i64 (cell rows
  a ((1 : Nat)))] ((1 : Nat)) ((1 : Nat)))).at i = (El.fn (Rv.elemOf [IntKind.i64] (colO ((1 : Nat)) rows a'))).at i) ∧ Ob (a + (1 : Nat) = a' ∧ ∀ (i : Nat), i < a' → (behind a (El.fn (Rv.elemOf [IntKind.i64] (colO ((0 :
  Nat)) rows a))) ((1 : Nat)) (litEl [SV.i IntKind.i64 (cell rows a ((0 : Nat)))] ((1 : Nat)) ((1 : Nat)))).at i = (El.fn (Rv.elemOf [IntKind.i64] (colO ((0 : Nat)) rows a'))).at i) ∧ Ob (IsLst B x rows.length ((2 : Nat))
  (Rv.elemOf [IntKind.i64, IntKind.i64] rows)) ∧ Ob (PlainE a' (El.fn (Rv.elemOf [IntKind.i64] (colO ((1 : Nat)) rows a')))) ∧ Ob (PlainE a' (El.fn (Rv.elemOf [IntKind.i64] (colO ((0 : Nat)) rows a')))) ∧ True)) ∧ (¬((0 :
  Int) ≤ cell rows a ((0 : Nat)) ∧ cell rows a ((0 : Nat)) ≤ (10000 : Int)) → Ob (C_ShareS ([Dat.l rows] ++ ([Dat.z n] ++ []))) ∧ Ob (SV.v (Value.slice none ((0 : Nat)) ((0 : Nat))) = SV.v (Value.slice none ((0 : Nat)) ((0
  : Nat)))) ∧ Ob ((1 : Int) = lotErr n rows) ∧ True)) ∧ (¬(↑a : Int) < (↑rows.length : Int) → (n < (0 : Int) → Ob (C_ShareS ([Dat.l rows] ++ ([Dat.z n] ++ []))) ∧ Ob (SV.v (Value.slice none ((0 : Nat)) ((0 : Nat))) = SV.v
  (Value.slice none ((0 : Nat)) ((0 : Nat)))) ∧ Ob ((1 : Int) = lotErr n rows) ∧ True) ∧ (¬n < (0 : Int) → (lotS rows a + lotW rows a < n → Ob (C_ShareS ([Dat.l rows] ++ ([Dat.z n] ++ []))) ∧ Ob (SV.v (Value.slice none ((0
  : Nat)) ((0 : Nat))) = SV.v (Value.slice none ((0 : Nat)) ((0 : Nat)))) ∧ Ob ((12 : Int) = lotErr n rows) ∧ True) ∧ (¬lotS rows a + lotW rows a < n → ∃ (rows_1 : List (List Int)), Ob (a = a ∧ rows_1.length = a ∧ (∀ (r :
  List Int), r ∈ rows_1 → r.length = (1 : Nat)) ∧ ∀ (i : Nat), i < a → (El.fn (Rv.elemOf [IntKind.i64] (colO ((1 : Nat)) rows a))).at i = Rv.elemOf [IntKind.i64] rows_1 i) ∧ Ob (F_shareS.named.pre [Dat.z (min n (lotW rows
  a)), Dat.l rows_1]) ∧ Ob (InR IntKind.i64 (n - min n (lotW rows a))) ∧ ∃ (rows_2 : List (List Int)), Ob (a = a ∧ rows_2.length = a ∧ (∀ (r : List Int), r ∈ rows_2 → r.length = (1 : Nat)) ∧ ∀ (i : Nat), i < a → (El.fn
  (Rv.elemOf [IntKind.i64] (colO ((0 : Nat)) rows a))).at i = Rv.elemOf [IntKind.i64] rows_2 i) ∧ Ob (F_shareS.named.pre [Dat.z (n - min n (lotW rows a)), Dat.l rows_2]) ∧ (∃ (a_1 : Nat), Ob (a_1 ≤ rows.length) ∧ Ob
  (rows_1.length = rows.length) ∧ Ob (rows_2.length = rows.length) ∧ Ob ((0 : Int) = (↑a_1 : Int)) ∧ Ob (rows_2.length = rows.length ∧ ∀ (i : Nat), i < rows.length → (El.fn fun (i : Nat) ↦ [SV.i IntKind.i64 (pS (n - min n
  (lotW rows a)) rows_2 i)]).at i = (El.fn fun (i : Nat) ↦ [SV.i IntKind.i64 (qS n rows i)]).at i) ∧ Ob (rows_1.length = rows.length ∧ ∀ (i : Nat), i < rows.length → (El.fn fun (i : Nat) ↦ [SV.i IntKind.i64 (pS (min n
  (lotW rows a)) rows_1 i)]).at i = (El.fn fun (i : Nat) ↦ [SV.i IntKind.i64 (lqF n rows a_1 i)]).at i) ∧ Ob (PlainE rows.length (El.fn fun (i : Nat) ↦ [SV.i IntKind.i64 (qS n rows i)])) ∧ Ob (PlainE rows.length (El.fn fun
  (i : Nat) ↦ [SV.i IntKind.i64 (lqF n rows a_1 i)])) ∧ True) ∧ ∀ (a_1 : Nat), a_1 ≤ rows.length → ∀ (z_104 z_105 z_106 z_107 z_108 z_109 z_110 z_111 z_112 z_113 z_114 z_115 z_116 z_117 z_118 z_119 z_120 z_121 z_122 z_123
  z_124 z_125 z_126 z_127 z_128 z_129 z_130 z_131 z_132 z_133 z_134 z_135 z_136 z_137 z_138 z_139 z_140 z_141 z_142 z_143 z_144 z_145 z_146 z_147 z_148 z_149 z_150 z_151 z_152 z_153 z_154 z_155 z_156 z_157 z_158 z_159
  z_160 z_161 z_162 z_163 z_164 z_165 z_166 z_167 z_168 z_169 z_170 z_171 z_172 z_173 z_174 z_175 z_176 z_177 z_178 z_179 z_180 z_181 z_182 z_183 z_184 z_185 z_186 z_187 z_188 z_189 z_190 z_191 z_192 z_193 z_194 z_195
  z_196 z_197 z_198 z_199 z_200 z_201 z_202 z_203 z_204 z_205 z_206 z_207 z_208 z_209 z_210 z_211 : Value), ((↑a_1 : Int) < (↑rows.length : Int) → Ob ((0 : Int) ≤ (↑a_1 : Int) ∧ a_1 < rows.length) ∧ Ob (a_1 < rows.length)
  ∧ Ob ((0 : Int) ≤ (↑a_1 : Int) ∧ a_1 < rows.length) ∧ Ob (a_1 < rows.length) ∧ Ob (InR IntKind.i64 (lqF n rows a_1 a_1 + qS n rows a_1)) ∧ Ob ((0 : Int) ≤ (↑a_1 : Int) ∧ a_1 < rows.length) ∧ Ob (a_1 < rows.length ∧
  ((El.fn fun (i : Nat) ↦ [SV.i IntKind.i64 (lqF n rows a_1 i)]).at a_1).length = (1 : Nat)) ∧ Ob (InR IntKind.i64 ((↑a_1 : Int) + (1 : Int))) ∧ ∃ (a' : Nat), Ob (a' ≤ rows.length ∧ rows.length - a' < rows.length - a_1) ∧
  Ob (rows.length = rows.length) ∧ Ob (rows.length = rows.length) ∧ Ob ((↑a_1 : Int) + (1 : Int) = (↑a' : Int)) ∧ Ob (rows.length = rows.length ∧ ∀ (i : Nat), i < rows.length → (El.fn fun (i : Nat) ↦ [SV.i IntKind.i64 (qS
  n rows i)]).at i = (El.fn fun (i : Nat) ↦ [SV.i IntKind.i64 (qS n rows i)]).at i) ∧ Ob (rows.length = rows.length ∧ ∀ (i : Nat), i < rows.length → (updL (El.fn fun (i : Nat) ↦ [SV.i IntKind.i64 (lqF n rows a_1 i)]) a_1
  ((0 : Nat)) [SV.i IntKind.i64 (lqF n rows a_1 a_1 + qS n rows a_1)]).at i = (El.fn fun (i : Nat) ↦ [SV.i IntKind.i64 (lqF n rows a' i)]).at i) ∧ Ob (PlainE rows.length (El.fn fun (i : Nat) ↦ [SV.i IntKind.i64 (qS n rows
  i)])) ∧ Ob (PlainE rows.length (El.fn fun (i : Nat) ↦ [SV.i IntKind.i64 (lqF n rows a' i)])) ∧ True) ∧ (¬(↑a_1 : Int) < (↑rows.length : Int) → Ob ¬C_ShareS ([Dat.l rows] ++ ([Dat.z n] ++ [])) ∧ Ob (rows.length =
  rows.length) ∧ Ob ((0 : Int) = (0 : Int)) ∧ Ob (rows.length = rows.length ∧ ∀ (i : Nat), i < rows.length → (El.fn fun (i : Nat) ↦ [SV.i IntKind.i64 (lqF n rows a_1 i)]).at i = (El.fn fun (i : Nat) ↦ [SV.i IntKind.i64
  (lotD n rows i)]).at i) ∧ Ob (PlainE rows.length (El.fn fun (i : Nat) ↦ [SV.i IntKind.i64 (lotD n rows i)])) ∧ True)))))

set_option linter.unusedSimpArgs false in
set_option maxRecDepth 4000 in
set_option maxHeartbeats 2000000 in
theorem v_ShareS : V_ShareS := by
  unfold V_ShareS
  intro B x L hx hox hrx d hok
  have hok : L.length ≤ 4000000 := hok
  simp only [Ob_iff, and_true, true_and, implies_true]
  refine ⟨hx, fun h1 => ?_, fun h1 => ?_⟩
  · have e := lot_full (d := d) (L := L) (by omega)
    exact ⟨show lotErr d L ≠ 0 by omega, e.symm⟩
  have h1 : ¬ 20 < L.length := by omega
  refine ⟨⟨0, ⟨by omega, fun i hi => by omega⟩, rfl, rfl, rfl, rfl, rfl, rfl, rfl, hx, plain_elemOf _ _ _, plain_elemOf _ _ _⟩, ?_⟩
  intro k ⟨hk, hka⟩
  intros
  have bS : 0 ≤ lotS L k ∧ lotS L k ≤ k * 10000 := sm_bd fun i hi => ⟨(hka i hi).1, (hka i hi).2.1⟩
  have bW : 0 ≤ lotW L k ∧ lotW L k ≤ k * 10000 := sm_bd fun i hi => (hka i hi).2.2
  refine ⟨hx, fun h2 => ?_, fun h2 => ?_⟩
  · have hk' : k < L.length := by omega
    have p : IsLst B x L.length 2 (Rv.elemOf [.i64, .i64] L) ∧ k < L.length := ⟨hx, hk'⟩
    have q : (0 : Int) ≤ (k : Int) ∧ k < L.length ∧ IsLst B x L.length 2 (Rv.elemOf [.i64, .i64] L) := ⟨by omega, hk', hx⟩
    refine ⟨q, p, fun h3 => ⟨q, p, fun h4 => ?_, fun h4 => ?_⟩, fun h3 => ?_⟩
    · have e := lot_bad (d := d) h1 hk' fun a => h4 a.2.2
      exact ⟨show lotErr d L ≠ 0 by omega, e.symm⟩
    · have h3 := Classical.not_not.1 h3
      have h4 := Classical.not_not.1 h4
      have l1 : (k + 1) * 2 * 9 ≤ 1099511627776 := by omega
      refine ⟨hx, q, p, p, p, fun i hi => rfl, l1, col_plain 0 L k, hx, q, p, p, p, fun i hi => rfl, l1, hx, q, p, p, p, by simp only [InR]; omega, hx, q, p, p, p, by simp only [InR]; omega, hx, q, p, p, p, by simp only [InR]; omega, by simp only [InR]; omega, k + 1, ⟨⟨hk', fun i hi => ?_⟩, by omega⟩, rfl, rfl, by simp only [lotS, lotW, sumF]; omega, rfl, by omega, ⟨rfl, fun i hi => col_at 1 L hi⟩, ⟨rfl, fun i hi => col_at 0 L hi⟩, hx, plain_elemOf _ _ _, plain_elemOf _ _ _⟩
      by_cases e : i = k
      · subst e; exact ⟨h3.1, h3.2, h4.1, h4.2⟩
      · exact hka i (by omega)
    · have e := lot_bad (d := d) h1 hk' fun a => h3 ⟨a.1, a.2.1⟩
      exact ⟨show lotErr d L ≠ 0 by omega, e.symm⟩
  have ek : k = L.length := by omega
  subst ek
  clear h2 hk
  refine ⟨fun h3 => ?_, fun h3 => ⟨fun h4 => ?_, fun h4 => ?_⟩⟩
  · have e := lot_neg h1 hka h3
    exact ⟨show lotErr d L ≠ 0 by omega, e.symm⟩
  · have e := lot_over h1 hka h3 h4
    exact ⟨show lotErr d L ≠ 0 by omega, e.symm⟩
  have e0 := lot_ok h1 hka h3 h4
  have o1 : PrtOk (min d (lotW L L.length)) (colO 1 L L.length) := col_ok h1 (fun i hi => (hka i hi).2.2) (by
    show 0 ≤ min d (lotW L L.length) ∧ min d (lotW L L.length) ≤ lotW L L.length
    omega)
  have o0 : PrtOk (d - min d (lotW L L.length)) (colO 0 L L.length) := col_ok h1 (fun i hi => ⟨(hka i hi).1, (hka i hi).2.1⟩) (by
    show 0 ≤ d - min d (lotW L L.length) ∧ d - min d (lotW L L.length) ≤ lotS L L.length
    omega)
  have s1 : ∀ i, pS (min d (lotW L L.length)) (colO 1 L L.length) i = qW d L i := fun i => by rw [col_S]; rfl
  have s0 : ∀ i, pS (d - min d (lotW L L.length)) (colO 0 L L.length) i = qS d L i := fun i => by rw [col_S]; rfl
  refine ⟨colO 1 L L.length, ⟨col_len _ _ _, col_row _ _ _, fun _ _ => rfl⟩, o1, by simp only [InR]; omega, colO 0 L L.length, ⟨col_len _ _ _, col_row _ _ _, fun _ _ => rfl⟩, o0, ⟨0, Nat.zero_le _, col_len _ _ _, col_len _ _ _, rfl, ⟨col_len _ _ _, fun i hi => ?_⟩, ⟨col_len _ _ _, fun i hi => ?_⟩, plain_fnD _ _, plain_fnD _ _⟩, ?_⟩
  · show [SV.i .i64 (pS (d - min d (lotW L L.length)) (colO 0 L L.length) i)] = [SV.i .i64 (qS d L i)]
    rw [s0]
  · show [SV.i .i64 (pS (min d (lotW L L.length)) (colO 1 L L.length) i)] = [SV.i .i64 (lqF d L 0 i)]
    rw [s1]
    simp [lqF]
  intro k hk
  intros
  refine ⟨fun h5 => ?_, fun h5 => ?_⟩
  · have hk' : k < L.length := by omega
    have b1 := pS_bd o1 (i := k) (by rw [col_len]; exact hk')
    have b0 := pS_bd o0 (i := k) (by rw [col_len]; exact hk')
    rw [s1] at b1
    rw [s0] at b0
    have e : lqF d L k k = qW d L k := by simp [lqF]
    exact ⟨⟨by omega, hk'⟩, hk', ⟨by omega, hk'⟩, hk', by simp only [InR]; omega, ⟨by omega, hk'⟩, ⟨hk', rfl⟩, by simp only [InR]; omega, k + 1, ⟨hk', by omega⟩, by omega, fun i hi => lq_upd d L k i, plain_fnD _ _, plain_fnD _ _⟩
  have ek : k = L.length := by omega
  subst ek
  refine ⟨fun hc => absurd e0 (show lotErr d L ≠ 0 from hc), fun i hi => ?_, plain_fnD _ _⟩
  show [SV.i .i64 (lqF d L L.length i)] = [SV.i .i64 (lotD d L i)]
  have : lqF d L L.length i = lotD d L i := by
    unfold lqF lotD
    rw [if_pos hi]
    rfl
  rw [this]

theorem e_ShareS : V_ShareS = needE P [F_withinS] [F_shareS.named] A_ShareS F_ShareS := by kernel_rfl

theorem n_ShareS : Ob (needE P [F_withinS] [F_shareS.named] A_ShareS F_ShareS) := by
  rw [← e_ShareS]
  exact ⟨v_ShareS⟩

theorem b_ShareS : ((P.funcs[11]?).any fun fn => fn.body.isSome) = true := by kernel_rfl

theorem ShareS_ok : FnE.Ok P F_ShareS := FnE.ok named (l := [F_withinS]) (es := [F_shareS.named]) (A := A_ShareS) (by rfl) (by rfl) (by rfl) (by
  intro F h
  simp only [List.mem_cons, List.not_mem_nil, or_false] at h
  rcases h with rfl
  · exact withinS_ok
) (by
  intro F h
  simp only [List.mem_cons, List.not_mem_nil, or_false] at h
  rcases h with rfl
  · exact shareS_ok.named
) b_ShareS (by
  intro ds h o ho n sz e k z he
  subst he
  simp only [F_ShareS] at ho
  split at ho
  · simp only [List.mem_cons, List.not_mem_nil, or_false, SObj.gr.injEq] at ho
    obtain ⟨rfl, rfl, rfl, rfl, rfl⟩ := ho
    exact plain_fnD _ _
  · simp at ho) n_ShareS (by
  intro a ha ds h hc o ho n sz e k z he
  have ha : some _ = some a := ha
  simp only [Option.some.injEq] at ha
  subst ha
  simp only at ho
  split at ho <;> simp at ho)

end Go.Proofs.Ytlnldabgbfcdcaa.Sy
