/- Whose the dead ones are (the program). -/
import Derived.Test.YthgpjpjflgeokaaSyP2
import Derived.Test.YthgpjpjflgeokaaGrM
import Derived.Test.YthgpjpjflgeokaaStM
import Derived.Test.YthgpjpjflgeokaaLrM
import Derived.Test.YthgpjpjflgeokaaDhM
import Derived.Test.YthgpjpjflgeokaaKtT
import Derived.Test.YthgpjpjflgeokaaKtA
import Derived.Test.YthgpjpjflgeokaaKtB
import Derived.Test.YthgpjpjflgeokaaKtD
import Derived.Test.YthgpjpjflgeokaaKtW
import Derived.Test.YthgpjpjflgeokaaKtY
import Derived.Test.YthgpjpjflgeokaaKtX
import Derived.Test.YthgpjpjflgeokaaKtP
import Derived.Test.YthgpjpjflgeokaaKtQ
import Derived.Test.YthgpjpjflgeokaaSyP2
import Derived.KernelRfl
import Derived.Test.YthgpjpjflgeokaaProg
namespace Go.Proofs.Ythgpjpjflgeokaa.Sy
open Go Go.Rv
set_option linter.unusedVariables false

open Classical in
noncomputable def lotChk (L : Rows) : Int := if 20 < L.length then 5 else if ∀ i, i < L.length → 0 ≤ cell L i 0 ∧ cell L i 0 ≤ 10000 ∧ 0 ≤ cell L i 1 ∧ cell L i 1 ≤ 10000 then 0 else 1
theorem chk_ne {d : Int} {L : Rows} (h : ¬ lotChk L = 0) : lotErr d L ≠ 0 ∧ lotChk L = lotErr d L := by
  unfold lotChk lotErr at *
  by_cases h1 : 20 < L.length
  · rw [if_pos h1, if_pos h1]; omega
  · rw [if_neg h1, if_neg h1] at *
    by_cases h2 : ∀ i, i < L.length → 0 ≤ cell L i 0 ∧ cell L i 0 ≤ 10000 ∧ 0 ≤ cell L i 1 ∧ cell L i 1 ≤ 10000
    · rw [if_pos h2] at h; exact absurd rfl h
    · rw [if_neg h2, if_neg h2]; omega
theorem chk_ok {L : Rows} (h : lotChk L = 0) : ¬ 20 < L.length ∧ ∀ i, i < L.length → 0 ≤ cell L i 0 ∧ cell L i 0 ≤ 10000 ∧ 0 ≤ cell L i 1 ∧ cell L i 1 ≤ 10000 := by
  unfold lotChk at h
  by_cases h1 : 20 < L.length
  · rw [if_pos h1] at h; omega
  · rw [if_neg h1] at h
    by_cases h2 : ∀ i, i < L.length → 0 ≤ cell L i 0 ∧ cell L i 0 ≤ 10000 ∧ 0 ≤ cell L i 1 ∧ cell L i 1 ≤ 10000
    · exact ⟨h1, h2⟩
    · rw [if_neg h2] at h; omega

noncomputable def F_checkLots : Fn0 := ⟨13, [.one (.l [.i64, .i64])], fun l => match l with | [.l L] => L.length ≤ 4000000 | _ => False, fun l => match l with | [.l L] => .i .i64 (lotChk L) | _ => .v undef⟩
noncomputable def A_checkLots : List SV → List Dat → Nat → List SV → Ann := fun xs ds n ts => match xs with
  | [.lst x _ _ _] => match ds with
    | [.l L] => match n with
      | 4 => ⟨Nat, fun k => [none, none, none, none, none, none, none, none, some (SV.lst x L.length ((2 : Nat)) (Rv.elemOf [IntKind.i64, IntKind.i64] L)), some (SV.i IntKind.i64 (↑L.length : Int)), some (.i .i64 k), none, none, none, none, none, none, none, none, none, none, none, none, none, none], fun k => [], fun k => k ≤ L.length ∧ ∀ i, i < k → 0 ≤ cell L i 0 ∧ cell L i 0 ≤ 10000 ∧ 0 ≤ cell L i 1 ∧ cell L i 1 ≤ 10000, fun k => L.length - k, 0⟩
      | _ => noAnn
    | _ => noAnn
  | _ => noAnn

def V_checkLots : Prop :=
  ∀ (B : RW) (x : RV) (rows : List (List Int)), IsLst B x rows.length 2 (Rv.elemOf [.i64, .i64] rows) → oneB x = true → (∀ (row : List Int), row ∈ rows → row.length = (2 : Nat)) → rows.length ≤ (4000000 : Nat) → Ob (IsLst
  B x rows.length 2 (Rv.elemOf [.i64, .i64] rows)) ∧ ((20 : Int) < (↑rows.length : Int) → Ob ((5 : Int) = lotChk rows) ∧ True) ∧ (¬(20 : Int) < (↑rows.length : Int) → Ob (IsLst B x rows.length 2 (Rv.elemOf [.i64, .i64]
  rows)) ∧ (∃ (a : Nat), Ob (a ≤ rows.length ∧ ∀ (i : Nat), i < a → (0 : Int) ≤ cell rows i 0 ∧ cell rows i 0 ≤ (10000 : Int) ∧ (0 : Int) ≤ cell rows i 1 ∧ cell rows i 1 ≤ (10000 : Int)) ∧ Ob (SV.lst x rows.length 2
  (Rv.elemOf [.i64, .i64] rows) = SV.lst x rows.length 2 (Rv.elemOf [.i64, .i64] rows)) ∧ Ob ((↑rows.length : Int) = (↑rows.length : Int)) ∧ Ob ((0 : Int) = (↑a : Int)) ∧ Ob (IsLst B x rows.length 2 (Rv.elemOf [.i64, .i64]
  rows)) ∧ True) ∧ ∀ (a : Nat), (a ≤ rows.length ∧ ∀ (i : Nat), i < a → (0 : Int) ≤ cell rows i 0 ∧ cell rows i 0 ≤ (10000 : Int) ∧ (0 : Int) ≤ cell rows i 1 ∧ cell rows i 1 ≤ (10000 : Int)) → ∀ (z z_1 z_2 z_3 z_4 z_5 z_6
  z_7 z_8 z_9 z_10 z_11 z_12 z_13 z_14 z_15 z_16 z_17 z_18 z_19 z_20 z_21 : Value), ((↑a : Int) < (↑rows.length : Int) → Ob ((0 : Int) ≤ (↑a : Int) ∧ a < rows.length ∧ IsLst B x rows.length 2 (Rv.elemOf [.i64, .i64] rows))
  ∧ Ob (IsLst B x rows.length 2 (Rv.elemOf [.i64, .i64] rows) ∧ a < rows.length) ∧ Ob True ∧ (¬¬((0 : Int) ≤ cell rows a 0 ∧ cell rows a 0 ≤ (10000 : Int)) → Ob True ∧ (¬((0 : Int) ≤ cell rows a 1 ∧ cell rows a 1 ≤ (10000
  : Int)) → Ob ((1 : Int) = lotChk rows) ∧ True) ∧ (¬¬((0 : Int) ≤ cell rows a 1 ∧ cell rows a 1 ≤ (10000 : Int)) → Ob (InR .i64 ((↑a : Int) + (1 : Int))) ∧ ∃ (a' : Nat), Ob ((a' ≤ rows.length ∧ ∀ (i : Nat), i < a' → (0 :
  Int) ≤ cell rows i 0 ∧ cell rows i 0 ≤ (10000 : Int) ∧ (0 : Int) ≤ cell rows i 1 ∧ cell rows i 1 ≤ (10000 : Int)) ∧ rows.length - a' < rows.length - a) ∧ Ob (SV.lst x rows.length 2 (Rv.elemOf [.i64, .i64] rows) = SV.lst
  x rows.length 2 (Rv.elemOf [.i64, .i64] rows)) ∧ Ob ((↑rows.length : Int) = (↑rows.length : Int)) ∧ Ob ((↑a : Int) + (1 : Int) = (↑a' : Int)) ∧ Ob (IsLst B x rows.length 2 (Rv.elemOf [.i64, .i64] rows)) ∧ True)) ∧ (¬((0
  : Int) ≤ cell rows a 0 ∧ cell rows a 0 ≤ (10000 : Int)) → Ob ((1 : Int) = lotChk rows) ∧ True)) ∧ (¬(↑a : Int) < (↑rows.length : Int) → Ob ((0 : Int) = lotChk rows) ∧ True))

set_option linter.unusedSimpArgs false in
set_option maxRecDepth 4000 in
set_option maxHeartbeats 400000 in
theorem v_checkLots : V_checkLots := by
  unfold V_checkLots
  intro B x L hx hox hrx hL
  simp only [Ob_iff, and_true, true_and, Classical.not_not]
  refine ⟨hx, fun h => ?_, fun h => ⟨hx, ⟨0, ⟨by omega, fun i hi => by omega⟩, rfl, hx⟩, ?_⟩⟩
  · unfold lotChk
    rw [if_pos (by omega)]
  have h : ¬ 20 < L.length := by omega
  intro k ⟨hk, ha⟩
  intros
  refine ⟨fun h1 => ?_, fun h1 => ?_⟩
  · have hk' : k < L.length := by omega
    have bad : ¬ (0 ≤ cell L k 0 ∧ cell L k 0 ≤ 10000 ∧ 0 ≤ cell L k 1 ∧ cell L k 1 ≤ 10000) → 1 = lotChk L := fun hb => by
      unfold lotChk
      rw [if_neg h, if_neg fun a => hb (a k hk')]
    refine ⟨⟨by omega, hk', hx⟩, ⟨hx, hk'⟩, fun h2 => ⟨fun h3 => ?_, fun h3 => ?_⟩, fun h2 => ?_⟩
    · exact bad fun a => h3 ⟨a.2.2.1, a.2.2.2⟩
    · refine ⟨by simp only [InR]; omega, k + 1, ⟨⟨hk', fun i hi => ?_⟩, by omega⟩, by omega, hx⟩
      by_cases e : i = k
      · subst e; exact ⟨h2.1, h2.2, h3.1, h3.2⟩
      · exact ha i (by omega)
    · exact bad fun a => h2 ⟨a.1, a.2.1⟩
  · have e : k = L.length := by omega
    subst e
    unfold lotChk
    rw [if_neg h, if_pos ha]

theorem e_checkLots : V_checkLots = needF P [F_withinT] A_checkLots F_checkLots := by kernel_rfl

theorem n_checkLots : Ob (needF P [F_withinT] A_checkLots F_checkLots) := by
  rw [← e_checkLots]
  exact ⟨v_checkLots⟩

theorem b_checkLots : ((P.funcs[13]?).any fun fn => fn.body.isSome) = true := by kernel_rfl

theorem checkLots_ok : Fn0.Ok P F_checkLots := Fn0.ok named (l := [F_withinT]) (A := A_checkLots) (by rfl) (by
  intro F h
  simp only [List.mem_cons, List.not_mem_nil, or_false] at h
  rcases h with rfl
  · exact withinT_ok
) b_checkLots (by
  intro ds N
  simp only [F_checkLots]
  split <;> rfl) n_checkLots

noncomputable def C_ShareT : List Dat → Prop := fun l => match l with | [.l L, .z d] => lotErr d L ≠ 0 | _ => False
noncomputable def F_ShareT : FnE := ⟨7, none, [.one (.l [.i64, .i64]), i64], fun l => match l with | [.l L, .z d] => L.length ≤ 4000000 | _ => False, fun l => match l with | [.l L, .z d] => [.gsl 0 L.length 1 false, .i .i64 0] | _ => [], fun l => match l with | [.l L, .z d] => [.gr L.length 1 (.fn fun i => [.i .i64 (lotD d L i)]) .ex false] | _ => [], fun l => match l with | [.l L, .z d] => [] | _ => [], false, some ⟨C_ShareT, isNil, fun l => match l with | [.l L, .z d] => [.v (.slice none 0 0), .i .i64 (lotErr d L)] | _ => [], fun l => match l with | [.l L, .z d] => [] | _ => [], fun l => match l with | [.l L, .z d] => [] | _ => []⟩⟩
noncomputable def A_ShareT : List SV → List Dat → Nat → List SV → Ann := fun xs ds n ts => match xs with
  | [.lst x _ _ _, .i _ _] => match ds with
    | [.l L, .z d] => match n with
      | 8 => ⟨Nat, fun k => [none, some (SV.i IntKind.i64 d), none, none, some (SV.v (Value.slice none ((0 : Nat)) ((0 : Nat)))), some (SV.v (Value.int IntKind.i64 (0 : Int))), none, some (.gsl 0 k 1 true), some (.gsl 1 k 1 true), none, none, none, none, none, none, none, none, none, none, none, none, none, some (SV.lst x L.length ((2 : Nat)) (Rv.elemOf [IntKind.i64, IntKind.i64] L)), some (SV.i IntKind.i64 (↑L.length : Int)), some (.i .i64 k), none, none, none, none, none, none, none, none, none, none, none, none, none, none, none, none, none, none, none, none, none, none, none, none, none, none, none, none, none, none, none, none, none, none, none, none, none, none, none, none, none, none, none, none, none, none, none, none], fun k => [.gr k 1 (.fn (Rv.elemOf [.i64] (colO 0 L k))) .gr true, .gr k 1 (.fn (Rv.elemOf [.i64] (colO 1 L k))) .gr true], fun k => k ≤ L.length, fun k => L.length - k, 0⟩
      | 17 => ⟨Nat, fun k => [none, none, none, none, some (SV.v (Value.slice none ((0 : Nat)) ((0 : Nat)))), some (SV.v (Value.int IntKind.i64 (0 : Int))), none, none, none, none, none, none, some (.gsl 2 L.length 1 false), none, none, none, none, none, none, none, none, none, none, none, none, none, none, none, none, none, none, none, none, none, none, none, none, none, none, none, none, none, none, none, none, none, none, none, none, none, none, none, none, none, none, none, none, some (.gsl 3 L.length 1 false), some (.i .i64 (L.length : Nat)), some (.i .i64 k), none, none, none, none, none, none, none, none, none, none, none, none, none], fun k => [.gr L.length 1 (.fn fun i => [.i .i64 (qS d L i)]) .ex false, .gr L.length 1 (.fn fun i => [.i .i64 (lqF d L k i)]) .ex false, .dead, .dead], fun k => k ≤ L.length, fun k => L.length - k, 0⟩
      | _ => noAnn
    | _ => noAnn
  | _ => noAnn

def V_ShareT : Prop :=
  ∀ (B : RW) (x : RV) (rows : List (List Int)), IsLst B x rows.length 2 (Rv.elemOf [.i64, .i64] rows) → oneB x = true → (∀ (row : List Int), row ∈ rows → row.length = (2 : Nat)) → ∀ (n : Int), F_ShareT.pre ([Dat.l rows] ++
  ([Dat.z n] ++ [])) → ∃ (rows_1 : List (List Int)), Ob (IsLst B x rows.length 2 (Rv.elemOf [.i64, .i64] rows) ∧ rows_1.length = rows.length ∧ (∀ (r : List Int), r ∈ rows_1 → r.length = (2 : Nat)) ∧ ∀ (i : Nat), i <
  rows.length → Rv.elemOf [.i64, .i64] rows i = Rv.elemOf [.i64, .i64] rows_1 i) ∧ Ob (rows_1.length ≤ (4000000 : Nat)) ∧ (¬lotChk rows_1 = (0 : Int) → Ob (C_ShareT ([Dat.l rows] ++ ([Dat.z n] ++ []))) ∧ Ob (SV.v
  (Value.slice none 0 0) = SV.v (Value.slice none 0 0)) ∧ Ob (lotChk rows_1 = lotErr n rows) ∧ True) ∧ (¬¬lotChk rows_1 = (0 : Int) → (n < (0 : Int) → Ob (C_ShareT ([Dat.l rows] ++ ([Dat.z n] ++ []))) ∧ Ob (SV.v
  (Value.slice none 0 0) = SV.v (Value.slice none 0 0)) ∧ Ob ((1 : Int) = lotErr n rows) ∧ True) ∧ (¬n < (0 : Int) → Ob (IsLst B x rows.length 2 (Rv.elemOf [.i64, .i64] rows)) ∧ (∃ (a : Nat), Ob (a ≤ rows.length) ∧ Ob (n =
  n) ∧ Ob (SV.v (Value.slice none 0 0) = SV.v (Value.slice none 0 0)) ∧ Ob (Value.int .i64 (0 : Int) = Value.int .i64 (0 : Int)) ∧ Ob (a = (0 : Nat)) ∧ Ob (a = (0 : Nat)) ∧ Ob (SV.lst x rows.length 2 (Rv.elemOf [.i64,
  .i64] rows) = SV.lst x rows.length 2 (Rv.elemOf [.i64, .i64] rows)) ∧ Ob ((↑rows.length : Int) = (↑rows.length : Int)) ∧ Ob ((0 : Int) = (↑a : Int)) ∧ Ob (a = (0 : Nat)) ∧ Ob (a = (0 : Nat)) ∧ Ob (IsLst B x rows.length 2
  (Rv.elemOf [.i64, .i64] rows)) ∧ Ob (PlainE a (El.fn (Rv.elemOf [.i64] (colO 0 rows a)))) ∧ Ob (PlainE a (El.fn (Rv.elemOf [.i64] (colO 1 rows a)))) ∧ True) ∧ ∀ (a : Nat), a ≤ rows.length → ∀ (z z_1 z_2 z_3 z_4 z_5 z_6
  z_7 z_8 z_9 z_10 z_11 z_12 z_13 z_14 z_15 z_16 z_17 z_18 z_19 z_20 z_21 z_22 z_23 z_24 z_25 z_26 z_27 z_28 z_29 z_30 z_31 z_32 z_33 z_34 z_35 z_36 z_37 z_38 z_39 z_40 z_41 z_42 z_43 z_44 z_45 z_46 z_47 z_48 z_49 z_50
  z_51 z_52 z_53 z_54 z_55 z_56 z_57 z_58 z_59 z_60 z_61 z_62 z_63 z_64 : Value), ((↑a : Int) < (↑rows.length : Int) → Ob ((0 : Int) ≤ (↑a : Int) ∧ a < rows.length ∧ IsLst B x rows.length 2 (Rv.elemOf [.i64, .i64] rows)) ∧
  Ob (IsLst B x rows.length 2 (Rv.elemOf [.i64, .i64] rows) ∧ a < rows.length) ∧ Ob (a = a ∧ ∀ (i : Nat), i < a → ((El.fn (Rv.elemOf [.i64] (colO 1 rows a))).at i).length = (1 : Nat)) ∧ Ob ((a + (1 : Nat)) * (2 : Nat) * (9
  : Nat) ≤ (1099511627776 : Nat)) ∧ Ob (a = a) ∧ Ob (PlainE (a + (1 : Nat)) (behind a (El.fn (Rv.elemOf [.i64] (colO 1 rows a))) 1 (litEl (symL [SV.i .i64 (cell rows a 1)]) 1 1))) ∧ Ob (a = a ∧ ∀ (i : Nat), i < a → ((El.fn
  (Rv.elemOf [.i64] (colO 0 rows a))).at i).length = (1 : Nat)) ∧ Ob ((a + (1 : Nat)) * (2 : Nat) * (9 : Nat) ≤ (1099511627776 : Nat)) ∧ Ob (a = a) ∧ Ob (InR .i64 ((↑a : Int) + (1 : Int))) ∧ ∃ (a' : Nat), Ob (a' ≤
  rows.length ∧ rows.length - a' < rows.length - a) ∧ Ob (n = n) ∧ Ob (SV.v (Value.slice none 0 0) = SV.v (Value.slice none 0 0)) ∧ Ob (Value.int .i64 (0 : Int) = Value.int .i64 (0 : Int)) ∧ Ob (a + (1 : Nat) = a') ∧ Ob (a
  + (1 : Nat) = a') ∧ Ob (SV.lst x rows.length 2 (Rv.elemOf [.i64, .i64] rows) = SV.lst x rows.length 2 (Rv.elemOf [.i64, .i64] rows)) ∧ Ob ((↑rows.length : Int) = (↑rows.length : Int)) ∧ Ob ((↑a : Int) + (1 : Int) = (↑a'
  : Int)) ∧ Ob (a + (1 : Nat) = a' ∧ ∀ (i : Nat), i < a' → (behind a (El.fn (Rv.elemOf [.i64] (colO 0 rows a))) 1 (litEl (symL [SV.i .i64 (cell rows a 0)]) 1 1)).at i = (El.fn (Rv.elemOf [.i64] (colO 0 rows a'))).at i) ∧
  Ob (a + (1 : Nat) = a' ∧ ∀ (i : Nat), i < a' → (behind a (El.fn (Rv.elemOf [.i64] (colO 1 rows a))) 1 (litEl (symL [SV.i .i64 (cell rows a 1)]) 1 1)).at i = (El.fn (Rv.elemOf [.i64] (colO 1 rows a'))).at i) ∧ Ob (IsLst B
  x rows.length 2 (Rv.elemOf [.i64, .i64] rows)) ∧ Ob (PlainE a' (El.fn (Rv.elemOf [.i64] (colO 0 rows a')))) ∧ Ob (PlainE a' (El.fn (Rv.elemOf [.i64] (colO 1 rows a')))) ∧ True) ∧ (¬(↑a : Int) < (↑rows.length : Int) → ∃
  (rows_2 : List (List Int)), Ob (a = a ∧ rows_2.length = a ∧ (∀ (r : List Int), r ∈ rows_2 → r.length = (1 : Nat)) ∧ ∀ (i : Nat), i < a → (El.fn (Rv.elemOf [.i64] (colO 1 rows a))).at i = Rv.elemOf [.i64] rows_2 i) ∧ Ob
  (rows_2.length ≤ (1000 : Nat) ∧ ∀ (i : Nat), i < rows_2.length → (0 : Int) ≤ cell rows_2 i 0 ∧ cell rows_2 i 0 ≤ (2000000000 : Int)) ∧ ∃ (rows_3 : List (List Int)), Ob (a = a ∧ rows_3.length = a ∧ (∀ (r : List Int), r ∈
  rows_3 → r.length = (1 : Nat)) ∧ ∀ (i : Nat), i < a → (El.fn (Rv.elemOf [.i64] (colO 0 rows a))).at i = Rv.elemOf [.i64] rows_3 i) ∧ Ob (rows_3.length ≤ (1000 : Nat) ∧ ∀ (i : Nat), i < rows_3.length → (0 : Int) ≤ cell
  rows_3 i 0 ∧ cell rows_3 i 0 ≤ (2000000000 : Int)) ∧ Ob (InR .i64 (totTo rows_2 rows_2.length + totTo rows_3 rows_3.length)) ∧ (totTo rows_2 rows_2.length + totTo rows_3 rows_3.length < n → Ob (C_ShareT ([Dat.l rows] ++
  ([Dat.z n] ++ []))) ∧ Ob (SV.v (Value.slice none 0 0) = SV.v (Value.slice none 0 0)) ∧ Ob ((12 : Int) = lotErr n rows) ∧ True) ∧ (¬totTo rows_2 rows_2.length + totTo rows_3 rows_3.length < n → ∃ (rows_4 : List (List
  Int)), Ob (a = a ∧ rows_4.length = a ∧ (∀ (r : List Int), r ∈ rows_4 → r.length = (1 : Nat)) ∧ ∀ (i : Nat), i < a → (El.fn (Rv.elemOf [.i64] (colO 1 rows a))).at i = Rv.elemOf [.i64] rows_4 i) ∧ Ob (rows_4.length ≤ (1000
  : Nat) ∧ ∀ (i : Nat), i < rows_4.length → (0 : Int) ≤ cell rows_4 i 0 ∧ cell rows_4 i 0 ≤ (2000000000 : Int)) ∧ ∃ (rows_5 : List (List Int)), Ob (a = a ∧ rows_5.length = a ∧ (∀ (r : List Int), r ∈ rows_5 → r.length = (1
  : Nat)) ∧ ∀ (i : Nat), i < a → (El.fn (Rv.elemOf [.i64] (colO 1 rows a))).at i = Rv.elemOf [.i64] rows_5 i) ∧ Ob (F_shareT.named.pre [Dat.z (min n (totTo rows_4 rows_4.length)), Dat.l rows_5]) ∧ Ob (InR .i64 (n - min n
  (totTo rows_4 rows_4.length))) ∧ ∃ (rows_6 : List (List Int)), Ob (a = a ∧ rows_6.length = a ∧ (∀ (r : List Int), r ∈ rows_6 → r.length = (1 : Nat)) ∧ ∀ (i : Nat), i < a → (El.fn (Rv.elemOf [.i64] (colO 0 rows a))).at i
  = Rv.elemOf [.i64] rows_6 i) ∧ Ob (F_shareT.named.pre [Dat.z (n - min n (totTo rows_4 rows_4.length)), Dat.l rows_6]) ∧ (∃ (a_1 : Nat), Ob (a_1 ≤ rows.length) ∧ Ob (SV.v (Value.slice none 0 0) = SV.v (Value.slice none 0
  0)) ∧ Ob (Value.int .i64 (0 : Int) = Value.int .i64 (0 : Int)) ∧ Ob (rows_5.length = rows.length) ∧ Ob (rows_6.length = rows.length) ∧ Ob ((↑rows_6.length : Int) = (↑rows.length : Int)) ∧ Ob ((0 : Int) = (↑a_1 : Int)) ∧
  Ob (rows_6.length = rows.length ∧ ∀ (i : Nat), i < rows.length → (El.fn fun (i : Nat) ↦ [SV.i .i64 (pS (n - min n (totTo rows_4 rows_4.length)) rows_6 i)]).at i = (El.fn fun (i : Nat) ↦ [SV.i .i64 (qS n rows i)]).at i) ∧
  Ob (rows_5.length = rows.length ∧ ∀ (i : Nat), i < rows.length → (El.fn fun (i : Nat) ↦ [SV.i .i64 (pS (min n (totTo rows_4 rows_4.length)) rows_5 i)]).at i = (El.fn fun (i : Nat) ↦ [SV.i .i64 (lqF n rows a_1 i)]).at i)
  ∧ Ob (PlainE rows.length (El.fn fun (i : Nat) ↦ [SV.i .i64 (qS n rows i)])) ∧ Ob (PlainE rows.length (El.fn fun (i : Nat) ↦ [SV.i .i64 (lqF n rows a_1 i)])) ∧ True) ∧ ∀ (a_1 : Nat), a_1 ≤ rows.length → ∀ (z_65 z_66 z_67
  z_68 z_69 z_70 z_71 z_72 z_73 z_74 z_75 z_76 z_77 z_78 z_79 z_80 z_81 z_82 z_83 z_84 z_85 z_86 z_87 z_88 z_89 z_90 z_91 z_92 z_93 z_94 z_95 z_96 z_97 z_98 z_99 z_100 z_101 z_102 z_103 z_104 z_105 z_106 z_107 z_108 z_109
  z_110 z_111 z_112 z_113 z_114 z_115 z_116 z_117 z_118 z_119 z_120 z_121 z_122 z_123 z_124 z_125 z_126 z_127 z_128 z_129 z_130 z_131 : Value), ((↑a_1 : Int) < (↑rows.length : Int) → Ob ((0 : Int) ≤ (↑a_1 : Int) ∧ a_1 <
  rows.length) ∧ Ob (a_1 < rows.length) ∧ Ob ((0 : Int) ≤ (↑a_1 : Int) ∧ a_1 < rows.length) ∧ Ob (a_1 < rows.length) ∧ Ob (InR .i64 (lqF n rows a_1 a_1 + qS n rows a_1)) ∧ Ob ((0 : Int) ≤ (↑a_1 : Int) ∧ a_1 < rows.length)
  ∧ Ob (a_1 < rows.length ∧ ((El.fn fun (i : Nat) ↦ [SV.i .i64 (lqF n rows a_1 i)]).at a_1).length = (1 : Nat)) ∧ Ob (InR .i64 ((↑a_1 : Int) + (1 : Int))) ∧ ∃ (a' : Nat), Ob (a' ≤ rows.length ∧ rows.length - a' <
  rows.length - a_1) ∧ Ob (SV.v (Value.slice none 0 0) = SV.v (Value.slice none 0 0)) ∧ Ob (Value.int .i64 (0 : Int) = Value.int .i64 (0 : Int)) ∧ Ob (rows.length = rows.length) ∧ Ob (rows.length = rows.length) ∧ Ob
  ((↑rows.length : Int) = (↑rows.length : Int)) ∧ Ob ((↑a_1 : Int) + (1 : Int) = (↑a' : Int)) ∧ Ob (rows.length = rows.length ∧ ∀ (i : Nat), i < rows.length → (El.fn fun (i : Nat) ↦ [SV.i .i64 (qS n rows i)]).at i = (El.fn
  fun (i : Nat) ↦ [SV.i .i64 (qS n rows i)]).at i) ∧ Ob (rows.length = rows.length ∧ ∀ (i : Nat), i < rows.length → (updL (El.fn fun (i : Nat) ↦ [SV.i .i64 (lqF n rows a_1 i)]) a_1 0 [SV.i .i64 (lqF n rows a_1 a_1 + qS n
  rows a_1)]).at i = (El.fn fun (i : Nat) ↦ [SV.i .i64 (lqF n rows a' i)]).at i) ∧ Ob (PlainE rows.length (El.fn fun (i : Nat) ↦ [SV.i .i64 (qS n rows i)])) ∧ Ob (PlainE rows.length (El.fn fun (i : Nat) ↦ [SV.i .i64 (lqF n
  rows a' i)])) ∧ True) ∧ (¬(↑a_1 : Int) < (↑rows.length : Int) → Ob ¬C_ShareT ([Dat.l rows] ++ ([Dat.z n] ++ [])) ∧ Ob (rows.length = rows.length) ∧ Ob ((0 : Int) = (0 : Int)) ∧ Ob (rows.length = rows.length ∧ ∀ (i :
  Nat), i < rows.length → (El.fn fun (i : Nat) ↦ [SV.i .i64 (lqF n rows a_1 i)]).at i = (El.fn fun (i : Nat) ↦ [SV.i .i64 (lotD n rows i)]).at i) ∧ Ob (PlainE rows.length (El.fn fun (i : Nat) ↦ [SV.i .i64 (lotD n rows
  i)])) ∧ True)))))

set_option linter.unusedSimpArgs false in
set_option maxRecDepth 4000 in
set_option maxHeartbeats 2000000 in
theorem v_ShareT : V_ShareT := by
  unfold V_ShareT
  intro B x L hx hox hrx d hok
  have hok : L.length ≤ 4000000 := hok
  have tot : ∀ c, totTo (colO c L L.length) (colO c L L.length).length = sumF (fun i => cell L i c) L.length := fun c => by
    rw [col_len]
    exact col_tot c L _ _ (Nat.le_refl _)
  simp only [Ob_iff, and_true, true_and, implies_true, Classical.not_not]
  refine ⟨L, ⟨hx, rfl, hrx, fun _ _ => rfl⟩, hok, fun h1 => ?_, fun hz => ⟨fun h3 => ?_, fun h3 => ?_⟩⟩
  · have e := chk_ne (d := d) h1
    exact ⟨e.1, e.2⟩
  · obtain ⟨h1, hka⟩ := chk_ok hz
    have e := lot_neg h1 hka h3
    exact ⟨show lotErr d L ≠ 0 by omega, e.symm⟩
  obtain ⟨h1, hka⟩ := chk_ok hz
  refine ⟨hx, ⟨0, Nat.zero_le _, rfl, rfl, rfl, rfl, rfl, hx, plain_elemOf _ _ _, plain_elemOf _ _ _⟩, ?_⟩
  intro k hk
  intros
  refine ⟨fun h2 => ?_, fun h2 => ?_⟩
  · have hk' : k < L.length := by omega
    have p : IsLst B x L.length 2 (Rv.elemOf [.i64, .i64] L) ∧ k < L.length := ⟨hx, hk'⟩
    have l1 : (k + 1) * 2 * 9 ≤ 1099511627776 := by omega
    exact ⟨⟨by omega, hk', hx⟩, p, fun i hi => rfl, l1, col_plain 1 L k, fun i hi => rfl, l1, by simp only [InR]; omega, k + 1, ⟨hk', by omega⟩, rfl, rfl, by omega, ⟨rfl, fun i hi => col_at 0 L hi⟩, ⟨rfl, fun i hi => col_at 1 L hi⟩, hx, plain_elemOf _ _ _, plain_elemOf _ _ _⟩
  have ek : k = L.length := by omega
  subst ek
  clear h2 hk
  have bW : 0 ≤ lotW L L.length ∧ lotW L L.length ≤ (L.length : Nat) * 10000 := sm_bd fun i hi => (hka i hi).2.2
  have bS : 0 ≤ lotS L L.length ∧ lotS L L.length ≤ (L.length : Nat) * 10000 := sm_bd fun i hi => ⟨(hka i hi).1, (hka i hi).2.1⟩
  have t1 : totTo (colO 1 L L.length) (colO 1 L L.length).length = lotW L L.length := tot 1
  have t0 : totTo (colO 0 L L.length) (colO 0 L L.length).length = lotS L L.length := tot 0
  have c1 : ∀ i, i < (colO 1 L L.length).length → 0 ≤ cell (colO 1 L L.length) i 0 ∧ cell (colO 1 L L.length) i 0 ≤ 2000000000 := fun i hi => by
    rw [col_len] at hi
    rw [col_cell 1 L hi]
    have := hka i hi
    omega
  have c0 : ∀ i, i < (colO 0 L L.length).length → 0 ≤ cell (colO 0 L L.length) i 0 ∧ cell (colO 0 L L.length) i 0 ≤ 2000000000 := fun i hi => by
    rw [col_len] at hi
    rw [col_cell 0 L hi]
    have := hka i hi
    omega
  refine ⟨colO 1 L L.length, ⟨col_len _ _ _, col_row _ _ _, fun _ _ => rfl⟩, ⟨by rw [col_len]; omega, c1⟩, colO 0 L L.length, ⟨col_len _ _ _, col_row _ _ _, fun _ _ => rfl⟩, ⟨by rw [col_len]; omega, c0⟩, ?_⟩
  rw [t1, t0]
  refine ⟨by simp only [InR]; omega, fun h4 => ?_, fun h4 => ?_⟩
  · have e := lot_over h1 hka h3 (by omega)
    exact ⟨show lotErr d L ≠ 0 by omega, e.symm⟩
  have e0 := lot_ok h1 hka h3 (by omega)
  have o1 : PrtOk (min d (lotW L L.length)) (colO 1 L L.length) := col_ok h1 (fun i hi => (hka i hi).2.2) (by
    show 0 ≤ min d (lotW L L.length) ∧ min d (lotW L L.length) ≤ lotW L L.length
    omega)
  have o0 : PrtOk (d - min d (lotW L L.length)) (colO 0 L L.length) := col_ok h1 (fun i hi => ⟨(hka i hi).1, (hka i hi).2.1⟩) (by
    show 0 ≤ d - min d (lotW L L.length) ∧ d - min d (lotW L L.length) ≤ lotS L L.length
    omega)
  have s1 : ∀ i, pS (min d (lotW L L.length)) (colO 1 L L.length) i = qW d L i := fun i => by rw [col_S]; rfl
  have s0 : ∀ i, pS (d - min d (lotW L L.length)) (colO 0 L L.length) i = qS d L i := fun i => by rw [col_S]; rfl
  refine ⟨colO 1 L L.length, ⟨col_len _ _ _, col_row _ _ _, fun _ _ => rfl⟩, ⟨by rw [col_len]; omega, c1⟩, ?_⟩
  rw [t1]
  refine ⟨colO 1 L L.length, ⟨col_len _ _ _, col_row _ _ _, fun _ _ => rfl⟩, o1, by simp only [InR]; omega, colO 0 L L.length, ⟨col_len _ _ _, col_row _ _ _, fun _ _ => rfl⟩, o0, ⟨0, Nat.zero_le _, col_len _ _ _, col_len _ _ _, by rw [col_len], rfl, ⟨col_len _ _ _, fun i hi => ?_⟩, ⟨col_len _ _ _, fun i hi => ?_⟩, plain_fnD _ _, plain_fnD _ _⟩, ?_⟩
  · show [SV.i .i64 (pS (d - min d (lotW L L.length)) (colO 0 L L.length) i)] = [SV.i .i64 (qS d L i)]
    rw [s0]
  · show [SV.i .i64 (pS (min d (lotW L L.length)) (colO 1 L L.length) i)] = [SV.i .i64 (lqF d L 0 i)]
    rw [s1]
    simp [lqF]
  intro k hk
  intros
  refine ⟨fun h5 => ?_, fun h5 => ?_⟩
  · have hk' : k < L.length := by omega
    have b1 := pS_bd o1 (i := k) (by rw [col_len]; exact hk')
    have b0 := pS_bd o0 (i := k) (by rw [col_len]; exact hk')
    rw [s1] at b1
    rw [s0] at b0
    have e : lqF d L k k = qW d L k := by simp [lqF]
    exact ⟨⟨by omega, hk'⟩, hk', ⟨by omega, hk'⟩, hk', by simp only [InR]; omega, ⟨by omega, hk'⟩, ⟨hk', rfl⟩, by simp only [InR]; omega, k + 1, ⟨hk', by omega⟩, by omega, fun i hi => lq_upd d L k i, plain_fnD _ _, plain_fnD _ _⟩
  have ek : k = L.length := by omega
  subst ek
  refine ⟨fun hc => absurd e0 (show lotErr d L ≠ 0 from hc), fun i hi => ?_, plain_fnD _ _⟩
  show [SV.i .i64 (lqF d L L.length i)] = [SV.i .i64 (lotD d L i)]
  have : lqF d L L.length i = lotD d L i := by
    unfold lqF lotD
    rw [if_pos hi]
    rfl
  rw [this]

theorem e_ShareT : V_ShareT = needE P [F_checkLots, F_sumT] [F_shareT.named] A_ShareT F_ShareT := by kernel_rfl

theorem n_ShareT : Ob (needE P [F_checkLots, F_sumT] [F_shareT.named] A_ShareT F_ShareT) := by
  rw [← e_ShareT]
  exact ⟨v_ShareT⟩

theorem b_ShareT : ((P.funcs[7]?).any fun fn => fn.body.isSome) = true := by kernel_rfl

theorem ShareT_ok : FnE.Ok P F_ShareT := FnE.ok named (l := [F_checkLots, F_sumT]) (es := [F_shareT.named]) (A := A_ShareT) (by rfl) (by rfl) (by rfl) (by
  intro F h
  simp only [List.mem_cons, List.not_mem_nil, or_false] at h
  rcases h with rfl | rfl
  · exact checkLots_ok
  · exact sumT_ok
) (by
  intro F h
  simp only [List.mem_cons, List.not_mem_nil, or_false] at h
  rcases h with rfl
  · exact shareT_ok.named
) b_ShareT (by
  intro ds h o ho n sz e k z he
  subst he
  simp only [F_ShareT] at ho
  split at ho
  · simp only [List.mem_cons, List.not_mem_nil, or_false, SObj.gr.injEq] at ho
    obtain ⟨rfl, rfl, rfl, rfl, rfl⟩ := ho
    exact plain_fnD _ _
  · simp at ho) n_ShareT (by
  intro a ha ds h hc o ho n sz e k z he
  have ha : some _ = some a := ha
  simp only [Option.some.injEq] at ha
  subst ha
  simp only at ho
  split at ho <;> simp at ho)

end Go.Proofs.Ythgpjpjflgeokaa.Sy
