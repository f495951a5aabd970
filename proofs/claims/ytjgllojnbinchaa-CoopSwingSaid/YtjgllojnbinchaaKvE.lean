/- Motions: the members who may still decide. -/
import Derived.Test.YtjgllojnbinchaaSyP2
import Derived.Test.YtjgllojnbinchaaGrM
import Derived.Test.YtjgllojnbinchaaStM
import Derived.Test.YtjgllojnbinchaaVtM
import Derived.Test.YtjgllojnbinchaaKvM
import Derived.Test.YtjgllojnbinchaaKvN
import Derived.Test.YtjgllojnbinchaaKtT
import Derived.Test.YtjgllojnbinchaaKtA
import Derived.Test.YtjgllojnbinchaaKtB
import Derived.Test.YtjgllojnbinchaaKtS
import Derived.Test.YtjgllojnbinchaaKtM
import Derived.Test.YtjgllojnbinchaaKtN
import Derived.Test.YtjgllojnbinchaaKvB
import Derived.Test.YtjgllojnbinchaaKvC
import Derived.Test.YtjgllojnbinchaaKvD
import Derived.Test.YtjgllojnbinchaaSyP2
import Derived.KernelRfl
import Derived.Test.YtjgllojnbinchaaProg
namespace Go.Proofs.Ytjgllojnbinchaa.Sy
open Go Go.Rv
set_option linter.unusedVariables false

theorem swgR_err {W V : Rows} {need : Int} (h : ¬ motErr W V need = 0) : swgR W V need = [] := by
  unfold swgR
  rw [if_neg h]
theorem swgR_ok {W V : Rows} {need : Int} (h : motErr W V need = 0) : swgR W V need = swR W V need W.length := by
  unfold swgR
  rw [if_pos h]

noncomputable def F_swingsR : FnE := ⟨42, none, [.one (.l [.i64]), .one (.l [.i64]), i64, i64], fun l => match l with | [.l W, .l V, .z need, .z mem] => MotOk W V need ∧ 0 ≤ mem ∧ mem < W.length | _ => False, fun l => match l with | [.l W, .l V, .z need, .z mem] => [.p (swg W V need mem.toNat)] | _ => [], fun l => match l with | [.l W, .l V, .z need, .z mem] => [] | _ => [], fun l => match l with | [.l W, .l V, .z need, .z mem] => [] | _ => [], false, none⟩
noncomputable def A_swingsR : List SV → List Dat → Nat → List SV → Ann := fun xs ds n ts => match xs with
  | [.lst xw _ _ _, .lst xv _ _ _, .i _ _, .i _ _] => match ds with
    | [.l W, .l V, .z need, .z mem] => match n with
      | 2 => ⟨Nat, fun s => [some (SV.lst xw W.length ((1 : Nat)) (Rv.elemOf [IntKind.i64] W)), some (SV.lst xv V.length ((1 : Nat)) (Rv.elemOf [IntKind.i64] V)), some (SV.i IntKind.i64 need), some (SV.i IntKind.i64 mem), none, none, none, none, none, some (.i .i64 s), none, none, none, none, none, none, none, none, none, none, none, none, none, none, none, none, none, none, none, none, none, none, none, none, none, none, none, none, none, none], fun s => [], fun s => s ≤ 2 ^ V.length ∧ ∀ j, j < s → ¬ trnC W V need mem.toNat j, fun s => 2 ^ V.length - s, 0⟩
      | _ => noAnn
    | _ => noAnn
  | _ => noAnn

def V_swingsR : Prop :=
  ∀ (B : RW) (x : RV) (rows : List (List Int)), IsLst B x rows.length 1 (Rv.elemOf [.i64] rows) → oneB x = true → (∀ (row : List Int), row ∈ rows → row.length = (1 : Nat)) → ∀ (x_1 : RV) (rows_1 : List (List Int)), IsLst B
  x_1 rows_1.length 1 (Rv.elemOf [.i64] rows_1) → oneB x_1 = true → (∀ (row : List Int), row ∈ rows_1 → row.length = (1 : Nat)) → ∀ (n n_1 : Int), F_swingsR.pre ([Dat.l rows] ++ ([Dat.l rows_1] ++ ([Dat.z n] ++ ([Dat.z
  n_1] ++ [])))) → (∃ (a : Nat), Ob (a ≤ (2 : Nat) ^ rows_1.length ∧ ∀ (j : Nat), j < a → ¬trnC rows rows_1 n n_1.toNat j) ∧ Ob (SV.lst x rows.length 1 (Rv.elemOf [.i64] rows) = SV.lst x rows.length 1 (Rv.elemOf [.i64]
  rows)) ∧ Ob (SV.lst x_1 rows_1.length 1 (Rv.elemOf [.i64] rows_1) = SV.lst x_1 rows_1.length 1 (Rv.elemOf [.i64] rows_1)) ∧ Ob (n = n) ∧ Ob (n_1 = n_1) ∧ Ob ((0 : Int) = (↑a : Int)) ∧ Ob (IsLst B x rows.length 1
  (Rv.elemOf [.i64] rows)) ∧ Ob (IsLst B x_1 rows_1.length 1 (Rv.elemOf [.i64] rows_1)) ∧ True) ∧ ∀ (a : Nat), (a ≤ (2 : Nat) ^ rows_1.length ∧ ∀ (j : Nat), j < a → ¬trnC rows rows_1 n n_1.toNat j) → ∀ (z z_1 z_2 z_3 z_4
  z_5 z_6 z_7 z_8 z_9 z_10 z_11 z_12 z_13 z_14 z_15 z_16 z_17 z_18 z_19 z_20 z_21 z_22 z_23 z_24 z_25 z_26 z_27 z_28 z_29 z_30 z_31 z_32 z_33 z_34 : Value), Ob (IsLst B x_1 rows_1.length 1 (Rv.elemOf [.i64] rows_1)) ∧ Ob
  ((0 : Int) ≤ (1 : Int) ∧ (0 : Int) ≤ (↑rows_1.length : Int) ∧ (↑rows_1.length : Int) ≤ (↑64 : Int) ∧ InR .i64 ((1 : Int) * (2 : Int) ^ rows_1.length)) ∧ ((↑a : Int) < (1 : Int) * (2 : Int) ^ rows_1.length → ∃ (rows_2 :
  List (List Int)), Ob (IsLst B x_1 rows_1.length 1 (Rv.elemOf [.i64] rows_1) ∧ rows_2.length = rows_1.length ∧ (∀ (r : List Int), r ∈ rows_2 → r.length = (1 : Nat)) ∧ ∀ (i : Nat), i < rows_1.length → Rv.elemOf [.i64]
  rows_1 i = Rv.elemOf [.i64] rows_2 i) ∧ Ob (F_CastR.pre [Dat.l rows_2, Dat.z (↑a : Int)]) ∧ Ob ((0 : Int) ≤ n_1 ∧ n_1.toNat < rows_2.length) ∧ Ob (n_1.toNat < rows_2.length ∧ ((El.fn (Rv.elemOf [.i64] (castR rows_2 a
  rows_2.length))).at n_1.toNat).length = (1 : Nat)) ∧ ∃ (rows_3 : List (List Int)), Ob (IsLst B x rows.length 1 (Rv.elemOf [.i64] rows) ∧ rows_3.length = rows.length ∧ (∀ (r : List Int), r ∈ rows_3 → r.length = (1 : Nat))
  ∧ ∀ (i : Nat), i < rows.length → Rv.elemOf [.i64] rows i = Rv.elemOf [.i64] rows_3 i) ∧ ∃ (rows_4 : List (List Int)), Ob (rows_2.length = rows_2.length ∧ rows_4.length = rows_2.length ∧ (∀ (r : List Int), r ∈ rows_4 →
  r.length = (1 : Nat)) ∧ ∀ (i : Nat), i < rows_2.length → (updL (El.fn (Rv.elemOf [.i64] (castR rows_2 a rows_2.length))) n_1.toNat 0 [SV.i .i64 (2 : Int)]).at i = Rv.elemOf [.i64] rows_4 i) ∧ Ob (WtOk rows_3 ∧
  rows_4.length = rows_3.length ∧ rows_3.length ≤ (100 : Nat) ∧ (0 : Int) ≤ n ∧ n ≤ (1000000 : Int)) ∧ Ob ((0 : Int) ≤ n_1 ∧ n_1.toNat < rows_2.length) ∧ Ob (n_1.toNat < rows_2.length ∧ ((updL (El.fn (Rv.elemOf [.i64]
  (castR rows_2 a rows_2.length))) n_1.toNat 0 [SV.i .i64 (2 : Int)]).at n_1.toNat).length = (1 : Nat)) ∧ (¬passN rows_3 n (yesS rows_3 rows_4 rows_3.length) → ∃ (rows_5 : List (List Int)), Ob (IsLst B x rows.length 1
  (Rv.elemOf [.i64] rows) ∧ rows_5.length = rows.length ∧ (∀ (r : List Int), r ∈ rows_5 → r.length = (1 : Nat)) ∧ ∀ (i : Nat), i < rows.length → Rv.elemOf [.i64] rows i = Rv.elemOf [.i64] rows_5 i) ∧ ∃ (rows_6 : List (List
  Int)), Ob (rows_2.length = rows_2.length ∧ rows_6.length = rows_2.length ∧ (∀ (r : List Int), r ∈ rows_6 → r.length = (1 : Nat)) ∧ ∀ (i : Nat), i < rows_2.length → (updL (updL (El.fn (Rv.elemOf [.i64] (castR rows_2 a
  rows_2.length))) n_1.toNat 0 [SV.i .i64 (2 : Int)]) n_1.toNat 0 [SV.i .i64 (1 : Int)]).at i = Rv.elemOf [.i64] rows_6 i) ∧ Ob (WtOk rows_5 ∧ rows_6.length = rows_5.length ∧ rows_5.length ≤ (100 : Nat) ∧ (0 : Int) ≤ n ∧ n
  ≤ (1000000 : Int)) ∧ (passN rows_5 n (yesS rows_5 rows_6 rows_5.length) → Ob (true = true ↔ swg rows rows_1 n n_1.toNat) ∧ True) ∧ (¬passN rows_5 n (yesS rows_5 rows_6 rows_5.length) → Ob (InR .i64 ((↑a : Int) + (1 :
  Int))) ∧ ∃ (a' : Nat), Ob ((a' ≤ (2 : Nat) ^ rows_1.length ∧ ∀ (j : Nat), j < a' → ¬trnC rows rows_1 n n_1.toNat j) ∧ (2 : Nat) ^ rows_1.length - a' < (2 : Nat) ^ rows_1.length - a) ∧ Ob (SV.lst x rows.length 1
  (Rv.elemOf [.i64] rows) = SV.lst x rows.length 1 (Rv.elemOf [.i64] rows)) ∧ Ob (SV.lst x_1 rows_1.length 1 (Rv.elemOf [.i64] rows_1) = SV.lst x_1 rows_1.length 1 (Rv.elemOf [.i64] rows_1)) ∧ Ob (n = n) ∧ Ob (n_1 = n_1) ∧
  Ob ((↑a : Int) + (1 : Int) = (↑a' : Int)) ∧ Ob (IsLst B x rows.length 1 (Rv.elemOf [.i64] rows)) ∧ Ob (IsLst B x_1 rows_1.length 1 (Rv.elemOf [.i64] rows_1)) ∧ True)) ∧ (¬¬passN rows_3 n (yesS rows_3 rows_4
  rows_3.length) → Ob (InR .i64 ((↑a : Int) + (1 : Int))) ∧ ∃ (a' : Nat), Ob ((a' ≤ (2 : Nat) ^ rows_1.length ∧ ∀ (j : Nat), j < a' → ¬trnC rows rows_1 n n_1.toNat j) ∧ (2 : Nat) ^ rows_1.length - a' < (2 : Nat) ^
  rows_1.length - a) ∧ Ob (SV.lst x rows.length 1 (Rv.elemOf [.i64] rows) = SV.lst x rows.length 1 (Rv.elemOf [.i64] rows)) ∧ Ob (SV.lst x_1 rows_1.length 1 (Rv.elemOf [.i64] rows_1) = SV.lst x_1 rows_1.length 1 (Rv.elemOf
  [.i64] rows_1)) ∧ Ob (n = n) ∧ Ob (n_1 = n_1) ∧ Ob ((↑a : Int) + (1 : Int) = (↑a' : Int)) ∧ Ob (IsLst B x rows.length 1 (Rv.elemOf [.i64] rows)) ∧ Ob (IsLst B x_1 rows_1.length 1 (Rv.elemOf [.i64] rows_1)) ∧ True)) ∧
  (¬(↑a : Int) < (1 : Int) * (2 : Int) ^ rows_1.length → Ob (false = true ↔ swg rows rows_1 n n_1.toNat) ∧ True)

set_option linter.unusedSimpArgs false in
set_option maxRecDepth 4000 in
set_option maxHeartbeats 1000000 in
theorem v_swingsR : V_swingsR := by
  unfold V_swingsR
  intro B xw W hw how hrw xv V hv hov hrv need mem ⟨ok, hm0, hm1⟩
  simp only [Ob_iff, and_true, true_and]
  have l1 := ok.l
  have l2 := ok.v
  have hts := trnC_swg (W := W) (V := V) (need := need) (i := mem.toNat)
  rw [← l2] at hts
  have hp1 : 2 ^ V.length ≤ 2 ^ 12 := Nat.pow_le_pow_right (by omega) (by omega)
  have hp0 : 0 < 2 ^ V.length := Nat.pow_pos (by omega)
  have hpc : (1 : Int) * 2 ^ V.length = ((2 ^ V.length : Nat) : Int) := by simp
  simp only [hpc]
  have hmV : 0 ≤ mem ∧ mem.toNat < V.length := ⟨hm0, by omega⟩
  refine ⟨⟨0, ⟨Nat.zero_le _, fun j hj => absurd hj (Nat.not_lt_zero _)⟩, rfl, hw, hv⟩, ?_⟩
  intro s ⟨hs, hnt⟩
  intros
  refine ⟨hv, ⟨by omega, by omega, by omega, by simp only [InR]; omega⟩, fun h1 => ?_, fun h1 => ?_⟩
  rotate_left
  · have es : s = 2 ^ V.length := by omega
    subst es
    exact ⟨fun h => absurd h (by decide), fun h => by
      obtain ⟨j, h3, h4⟩ := hts.2 h
      exact absurd h4 (hnt j h3)⟩
  have hs' : s < 2 ^ V.length := by omega
  have rs : InR .i64 ((s : Int) + 1) := by simp only [InR]; omega
  have nx : ¬ trnC W V need mem.toNat s → s + 1 ≤ 2 ^ V.length ∧ ∀ j, j < s + 1 → ¬ trnC W V need mem.toNat j := fun h => ⟨hs', fun j hj => by
    by_cases e : j = s
    · subst e; exact h
    · exact hnt j (by omega)⟩
  have hce : ∀ k, k < V.length → cell (castR V s V.length) k 0 = castV V s k := fun k hk => castR_cell V s _ k hk
  refine ⟨V, ⟨hv, rfl, hrv, fun _ _ => rfl⟩, ⟨by omega, by omega, by omega⟩, hmV, ⟨hmV.2, rfl⟩, W, ⟨hw, rfl, hrw, fun _ _ => rfl⟩, rowsF (setF (castV V s) mem.toNat 2) V.length, ⟨rowsF_len _ _, rowsF_row _ _, fun k hk => ?_⟩, ⟨ok.w, (rowsF_len _ _).trans l2, by omega, ok.n⟩, hmV, ⟨hmV.2, len_upd1 (fun k => cell (castR V s V.length) k 0) _ _ _⟩, ?_⟩
  · have := upd_at1 (f := fun k => cell (castR V s V.length) k 0) (p := mem.toNat) (k := k) (z := 2)
    refine Eq.trans this ?_
    show _ = [SV.i .i64 (cell (rowsF (setF (castV V s) mem.toNat 2) V.length) k 0)]
    rw [rowsF_cell _ hk, hce k hk]
    rfl
  rw [yes_rows W _ V.length W.length (by omega)]
  refine ⟨fun h2 => ?_, fun h2 => ?_⟩
  rotate_left
  · exact ⟨rs, s + 1, ⟨nx fun h => h.1 (Classical.not_not.1 h2), by omega⟩, by omega, hw, hv⟩
  refine ⟨W, ⟨hw, rfl, hrw, fun _ _ => rfl⟩, rowsF (setF (castV V s) mem.toNat 1) V.length, ⟨rowsF_len _ _, rowsF_row _ _, fun k hk => ?_⟩, ⟨ok.w, (rowsF_len _ _).trans l2, by omega, ok.n⟩, ?_⟩
  · have := upd_at2 (f := fun k => cell (castR V s V.length) k 0) (p := mem.toNat) (k := k) (y := 2) (z := 1)
    refine Eq.trans this ?_
    show _ = [SV.i .i64 (cell (rowsF (setF (castV V s) mem.toNat 1) V.length) k 0)]
    rw [rowsF_cell _ hk, hce k hk]
    rfl
  rw [yes_rows W _ V.length W.length (by omega)]
  refine ⟨fun h3 => ?_, fun h3 => ?_⟩
  · have := hts.1 ⟨s, hs', h2, h3⟩
    exact ⟨fun _ => this, fun _ => trivial⟩
  · exact ⟨rs, s + 1, ⟨nx fun h => h3 h.2, by omega⟩, by omega, hw, hv⟩

theorem e_swingsR : V_swingsR = needE P [F_PassesR] [F_CastR] A_swingsR F_swingsR := by kernel_rfl

theorem n_swingsR : Ob (needE P [F_PassesR] [F_CastR] A_swingsR F_swingsR) := by
  rw [← e_swingsR]
  exact ⟨v_swingsR⟩

theorem b_swingsR : ((P.funcs[42]?).any fun fn => fn.body.isSome) = true := by kernel_rfl

theorem swingsR_ok : FnE.Ok P F_swingsR := FnE.ok named (l := [F_PassesR]) (es := [F_CastR]) (A := A_swingsR) (by rfl) (by rfl) (by rfl) (by
  intro F h
  simp only [List.mem_cons, List.not_mem_nil, or_false] at h
  rcases h with rfl
  · exact PassesR_ok
) (by
  intro F h
  simp only [List.mem_cons, List.not_mem_nil, or_false] at h
  rcases h with rfl
  · exact CastR_ok
) b_swingsR (by
  rintro ds h o ho n sz e k z rfl
  simp only [F_swingsR] at ho
  split at ho <;> simp at ho) n_swingsR

noncomputable def F_Swing : FnE := ⟨16, none, [.one (.l [.i64]), .one (.l [.i64]), i64], fun l => match l with | [.l W, .l V, .z need] => W.length ≤ 4000000 ∧ V.length ≤ 4000000 | _ => False, fun l => match l with | [.l W, .l V, .z need] => [.gsl 0 (swgR W V need).length 1 true, .i .i64 (motErr W V need)] | _ => [], fun l => match l with | [.l W, .l V, .z need] => [.gr (swgR W V need).length 1 (.fn (Rv.elemOf [.i64] (swgR W V need))) .gr true] | _ => [], fun l => match l with | [.l W, .l V, .z need] => [] | _ => [], false, none⟩
noncomputable def A_Swing : List SV → List Dat → Nat → List SV → Ann := fun xs ds n ts => match xs with
  | [.lst xw _ _ _, .lst xv _ _ _, .i _ _] => match ds with
    | [.l W, .l V, .z need] => match n with
      | 7 => ⟨Nat, fun k => [none, none, none, none, none, none, some (SV.v (Value.slice none ((0 : Nat)) ((0 : Nat)))), some (SV.v (Value.int IntKind.i64 (0 : Int))), some (SV.ptr ((0 : Nat)) ((0 : Nat))), none, some (.gsl 1 (swR W V need k).length 1 true), none, none, none, none, none, none, none, none, none, none, none, none, some (SV.lst xv V.length ((1 : Nat)) (Rv.elemOf [IntKind.i64] V)), some (SV.i IntKind.i64 (↑V.length : Int)), some (.i .i64 k), none, none, none, none, none, none, none, none, none, none, none, none, none, none, none, none, none], fun k => [.gr (swR W V need k).length 1 (.fn (Rv.elemOf [.i64] (swR W V need k))) .gr true, SObj.cells [SV.lst xw W.length ((1 : Nat)) (Rv.elemOf [IntKind.i64] W), SV.lst xv V.length ((1 : Nat)) (Rv.elemOf [IntKind.i64] V), SV.i IntKind.i64 need] Kd.ex], fun k => k ≤ V.length, fun k => V.length - k, 0⟩
      | _ => noAnn
    | _ => noAnn
  | _ => noAnn

def V_Swing : Prop :=
  ∀ (B : RW) (x : RV) (rows : List (List Int)), IsLst B x rows.length 1 (Rv.elemOf [.i64] rows) → oneB x = true → (∀ (row : List Int), row ∈ rows → row.length = (1 : Nat)) → ∀ (x_1 : RV) (rows_1 : List (List Int)), IsLst B
  x_1 rows_1.length 1 (Rv.elemOf [.i64] rows_1) → oneB x_1 = true → (∀ (row : List Int), row ∈ rows_1 → row.length = (1 : Nat)) → ∀ (n : Int), F_Swing.pre ([Dat.l rows] ++ ([Dat.l rows_1] ++ ([Dat.z n] ++ []))) → Ob (oneB
  x = true) ∧ Ob (oneB x_1 = true) ∧ ∃ (rows_2 : List (List Int)), Ob (IsLst B x rows.length 1 (Rv.elemOf [.i64] rows) ∧ rows_2.length = rows.length ∧ (∀ (r : List Int), r ∈ rows_2 → r.length = (1 : Nat)) ∧ ∀ (i : Nat), i
  < rows.length → Rv.elemOf [.i64] rows i = Rv.elemOf [.i64] rows_2 i) ∧ ∃ (rows_3 : List (List Int)), Ob (IsLst B x_1 rows_1.length 1 (Rv.elemOf [.i64] rows_1) ∧ rows_3.length = rows_1.length ∧ (∀ (r : List Int), r ∈
  rows_3 → r.length = (1 : Nat)) ∧ ∀ (i : Nat), i < rows_1.length → Rv.elemOf [.i64] rows_1 i = Rv.elemOf [.i64] rows_3 i) ∧ Ob (rows_2.length ≤ (4000000 : Nat) ∧ rows_3.length ≤ (4000000 : Nat)) ∧ (¬motErr rows_2 rows_3 n
  = (0 : Int) → Ob (List.length (swgR rows rows_1 n) = (0 : Nat)) ∧ Ob (motErr rows_2 rows_3 n = motErr rows rows_1 n) ∧ Ob (List.length (swgR rows rows_1 n) = (0 : Nat)) ∧ Ob (PlainE (List.length (swgR rows rows_1 n))
  (El.fn (Rv.elemOf [.i64] (swgR rows rows_1 n)))) ∧ True) ∧ (¬¬motErr rows_2 rows_3 n = (0 : Int) → Ob (IsLst B x_1 rows_1.length 1 (Rv.elemOf [.i64] rows_1)) ∧ (∃ (a : Nat), Ob (a ≤ rows_1.length) ∧ Ob (SV.v (Value.slice
  none 0 0) = SV.v (Value.slice none 0 0)) ∧ Ob (Value.int .i64 (0 : Int) = Value.int .i64 (0 : Int)) ∧ Ob (List.length (swR rows rows_1 n a) = (0 : Nat)) ∧ Ob (SV.lst x_1 rows_1.length 1 (Rv.elemOf [.i64] rows_1) = SV.lst
  x_1 rows_1.length 1 (Rv.elemOf [.i64] rows_1)) ∧ Ob ((↑rows_1.length : Int) = (↑rows_1.length : Int)) ∧ Ob ((0 : Int) = (↑a : Int)) ∧ Ob (List.length (swR rows rows_1 n a) = (0 : Nat)) ∧ Ob (SV.lst x rows.length 1
  (Rv.elemOf [.i64] rows) = SV.lst x rows.length 1 (Rv.elemOf [.i64] rows)) ∧ Ob (SV.lst x_1 rows_1.length 1 (Rv.elemOf [.i64] rows_1) = SV.lst x_1 rows_1.length 1 (Rv.elemOf [.i64] rows_1)) ∧ Ob (n = n) ∧ Ob (IsLst B x_1
  rows_1.length 1 (Rv.elemOf [.i64] rows_1)) ∧ Ob (PlainE (List.length (swR rows rows_1 n a)) (El.fn (Rv.elemOf [.i64] (swR rows rows_1 n a)))) ∧ Ob (IsLst B x rows.length 1 (Rv.elemOf [.i64] rows)) ∧ Ob (IsLst B x_1
  rows_1.length 1 (Rv.elemOf [.i64] rows_1)) ∧ True) ∧ ∀ (a : Nat), a ≤ rows_1.length → ∀ (z z_1 z_2 z_3 z_4 z_5 z_6 z_7 z_8 z_9 z_10 z_11 z_12 z_13 z_14 z_15 z_16 z_17 z_18 z_19 z_20 z_21 z_22 z_23 z_24 z_25 z_26 z_27
  z_28 z_29 z_30 z_31 z_32 z_33 z_34 z_35 : Value), ((↑a : Int) < (↑rows_1.length : Int) → Ob ((0 : Int) ≤ (↑a : Int) ∧ a < rows_1.length ∧ IsLst B x_1 rows_1.length 1 (Rv.elemOf [.i64] rows_1)) ∧ Ob (IsLst B x_1
  rows_1.length 1 (Rv.elemOf [.i64] rows_1) ∧ a < rows_1.length) ∧ (cell rows_1 a 0 = (0 : Int) → ∃ (rows_4 : List (List Int)), Ob (IsLst B x rows.length 1 (Rv.elemOf [.i64] rows) ∧ rows_4.length = rows.length ∧ (∀ (r :
  List Int), r ∈ rows_4 → r.length = (1 : Nat)) ∧ ∀ (i : Nat), i < rows.length → Rv.elemOf [.i64] rows i = Rv.elemOf [.i64] rows_4 i) ∧ ∃ (rows_5 : List (List Int)), Ob (IsLst B x_1 rows_1.length 1 (Rv.elemOf [.i64]
  rows_1) ∧ rows_5.length = rows_1.length ∧ (∀ (r : List Int), r ∈ rows_5 → r.length = (1 : Nat)) ∧ ∀ (i : Nat), i < rows_1.length → Rv.elemOf [.i64] rows_1 i = Rv.elemOf [.i64] rows_5 i) ∧ Ob (F_turnsOn.pre ([Dat.l
  rows_4, Dat.l rows_5, Dat.z n] ++ [Dat.z (↑a : Int)])) ∧ (swg rows_4 rows_5 n a → Ob (List.length (swR rows rows_1 n a) = List.length (swR rows rows_1 n a) ∧ ∀ (i : Nat), i < List.length (swR rows rows_1 n a) → ((El.fn
  (Rv.elemOf [.i64] (swR rows rows_1 n a))).at i).length = (1 : Nat)) ∧ Ob ((List.length (swR rows rows_1 n a) + (1 : Nat)) * (2 : Nat) * (9 : Nat) ≤ (1099511627776 : Nat)) ∧ Ob (List.length (swR rows rows_1 n a) =
  List.length (swR rows rows_1 n a)) ∧ Ob (InR .i64 ((↑a : Int) + (1 : Int))) ∧ ∃ (a' : Nat), Ob (a' ≤ rows_1.length ∧ rows_1.length - a' < rows_1.length - a) ∧ Ob (SV.v (Value.slice none 0 0) = SV.v (Value.slice none 0
  0)) ∧ Ob (Value.int .i64 (0 : Int) = Value.int .i64 (0 : Int)) ∧ Ob (List.length (swR rows rows_1 n a) + (1 : Nat) = List.length (swR rows rows_1 n a')) ∧ Ob (SV.lst x_1 rows_1.length 1 (Rv.elemOf [.i64] rows_1) = SV.lst
  x_1 rows_1.length 1 (Rv.elemOf [.i64] rows_1)) ∧ Ob ((↑rows_1.length : Int) = (↑rows_1.length : Int)) ∧ Ob ((↑a : Int) + (1 : Int) = (↑a' : Int)) ∧ Ob (List.length (swR rows rows_1 n a) + (1 : Nat) = List.length (swR
  rows rows_1 n a') ∧ ∀ (i : Nat), i < List.length (swR rows rows_1 n a') → (behind (List.length (swR rows rows_1 n a)) (El.fn (Rv.elemOf [.i64] (swR rows rows_1 n a))) 1 (litEl [SV.i .i64 (↑a : Int)] 1 1)).at i = (El.fn
  (Rv.elemOf [.i64] (swR rows rows_1 n a'))).at i) ∧ Ob (SV.lst x rows.length 1 (Rv.elemOf [.i64] rows) = SV.lst x rows.length 1 (Rv.elemOf [.i64] rows)) ∧ Ob (SV.lst x_1 rows_1.length 1 (Rv.elemOf [.i64] rows_1) = SV.lst
  x_1 rows_1.length 1 (Rv.elemOf [.i64] rows_1)) ∧ Ob (n = n) ∧ Ob (IsLst B x_1 rows_1.length 1 (Rv.elemOf [.i64] rows_1)) ∧ Ob (PlainE (List.length (swR rows rows_1 n a')) (El.fn (Rv.elemOf [.i64] (swR rows rows_1 n
  a')))) ∧ Ob (IsLst B x rows.length 1 (Rv.elemOf [.i64] rows)) ∧ Ob (IsLst B x_1 rows_1.length 1 (Rv.elemOf [.i64] rows_1)) ∧ True) ∧ (¬swg rows_4 rows_5 n a → Ob (InR .i64 ((↑a : Int) + (1 : Int))) ∧ ∃ (a' : Nat), Ob (a'
  ≤ rows_1.length ∧ rows_1.length - a' < rows_1.length - a) ∧ Ob (SV.v (Value.slice none 0 0) = SV.v (Value.slice none 0 0)) ∧ Ob (Value.int .i64 (0 : Int) = Value.int .i64 (0 : Int)) ∧ Ob (List.length (swR rows rows_1 n
  a) = List.length (swR rows rows_1 n a')) ∧ Ob (SV.lst x_1 rows_1.length 1 (Rv.elemOf [.i64] rows_1) = SV.lst x_1 rows_1.length 1 (Rv.elemOf [.i64] rows_1)) ∧ Ob ((↑rows_1.length : Int) = (↑rows_1.length : Int)) ∧ Ob ((↑a
  : Int) + (1 : Int) = (↑a' : Int)) ∧ Ob (List.length (swR rows rows_1 n a) = List.length (swR rows rows_1 n a') ∧ ∀ (i : Nat), i < List.length (swR rows rows_1 n a') → (El.fn (Rv.elemOf [.i64] (swR rows rows_1 n a))).at i
  = (El.fn (Rv.elemOf [.i64] (swR rows rows_1 n a'))).at i) ∧ Ob (SV.lst x rows.length 1 (Rv.elemOf [.i64] rows) = SV.lst x rows.length 1 (Rv.elemOf [.i64] rows)) ∧ Ob (SV.lst x_1 rows_1.length 1 (Rv.elemOf [.i64] rows_1)
  = SV.lst x_1 rows_1.length 1 (Rv.elemOf [.i64] rows_1)) ∧ Ob (n = n) ∧ Ob (IsLst B x_1 rows_1.length 1 (Rv.elemOf [.i64] rows_1)) ∧ Ob (PlainE (List.length (swR rows rows_1 n a')) (El.fn (Rv.elemOf [.i64] (swR rows
  rows_1 n a')))) ∧ Ob (IsLst B x rows.length 1 (Rv.elemOf [.i64] rows)) ∧ Ob (IsLst B x_1 rows_1.length 1 (Rv.elemOf [.i64] rows_1)) ∧ True)) ∧ (¬cell rows_1 a 0 = (0 : Int) → Ob (InR .i64 ((↑a : Int) + (1 : Int))) ∧ ∃
  (a' : Nat), Ob (a' ≤ rows_1.length ∧ rows_1.length - a' < rows_1.length - a) ∧ Ob (SV.v (Value.slice none 0 0) = SV.v (Value.slice none 0 0)) ∧ Ob (Value.int .i64 (0 : Int) = Value.int .i64 (0 : Int)) ∧ Ob (List.length
  (swR rows rows_1 n a) = List.length (swR rows rows_1 n a')) ∧ Ob (SV.lst x_1 rows_1.length 1 (Rv.elemOf [.i64] rows_1) = SV.lst x_1 rows_1.length 1 (Rv.elemOf [.i64] rows_1)) ∧ Ob ((↑rows_1.length : Int) =
  (↑rows_1.length : Int)) ∧ Ob ((↑a : Int) + (1 : Int) = (↑a' : Int)) ∧ Ob (List.length (swR rows rows_1 n a) = List.length (swR rows rows_1 n a') ∧ ∀ (i : Nat), i < List.length (swR rows rows_1 n a') → (El.fn (Rv.elemOf
  [.i64] (swR rows rows_1 n a))).at i = (El.fn (Rv.elemOf [.i64] (swR rows rows_1 n a'))).at i) ∧ Ob (SV.lst x rows.length 1 (Rv.elemOf [.i64] rows) = SV.lst x rows.length 1 (Rv.elemOf [.i64] rows)) ∧ Ob (SV.lst x_1
  rows_1.length 1 (Rv.elemOf [.i64] rows_1) = SV.lst x_1 rows_1.length 1 (Rv.elemOf [.i64] rows_1)) ∧ Ob (n = n) ∧ Ob (IsLst B x_1 rows_1.length 1 (Rv.elemOf [.i64] rows_1)) ∧ Ob (PlainE (List.length (swR rows rows_1 n
  a')) (El.fn (Rv.elemOf [.i64] (swR rows rows_1 n a')))) ∧ Ob (IsLst B x rows.length 1 (Rv.elemOf [.i64] rows)) ∧ Ob (IsLst B x_1 rows_1.length 1 (Rv.elemOf [.i64] rows_1)) ∧ True)) ∧ (¬(↑a : Int) < (↑rows_1.length : Int)
  → Ob (List.length (swR rows rows_1 n a) = List.length (swgR rows rows_1 n)) ∧ Ob ((0 : Int) = motErr rows rows_1 n) ∧ Ob (List.length (swR rows rows_1 n a) = List.length (swgR rows rows_1 n) ∧ ∀ (i : Nat), i <
  List.length (swgR rows rows_1 n) → (El.fn (Rv.elemOf [.i64] (swR rows rows_1 n a))).at i = (El.fn (Rv.elemOf [.i64] (swgR rows rows_1 n))).at i) ∧ Ob (PlainE (List.length (swgR rows rows_1 n)) (El.fn (Rv.elemOf [.i64]
  (swgR rows rows_1 n)))) ∧ True))

set_option linter.unusedSimpArgs false in
set_option maxRecDepth 4000 in
set_option maxHeartbeats 1000000 in
theorem v_Swing : V_Swing := by
  unfold V_Swing
  intro B xw W hw how hrw xv V hv hov hrv need ⟨hW, hV⟩
  simp only [Ob_iff, and_true, true_and]
  refine ⟨how, hov, ?_⟩
  refine ⟨W, ⟨hw, rfl, hrw, fun _ _ => rfl⟩, V, ⟨hv, rfl, hrv, fun _ _ => rfl⟩, ⟨hW, hV⟩, fun h1 => ?_, fun h1 => ?_⟩
  · rw [swgR_err h1]
    exact ⟨rfl, rfl, rfl, plain_elemOf _ _ _⟩
  have h1 := Classical.not_not.1 h1
  have ok := mot_ok h1
  have l1 := ok.l
  have l2 := ok.v
  rw [swgR_ok h1]
  refine ⟨hv, ?_⟩
  refine ⟨⟨0, Nat.zero_le _, ?_⟩, ?_⟩
  · repeat' (first | assumption | exact fun _ _ => rfl | omega | exact plain_elemOf _ _ _ | exact plain_fn1 _ _ | (with_reducible rfl) | exact fun _ _ => rfl | exact fun _ _ => trivial | trivial | with_reducible apply And.intro)
  intro k hk
  intros
  have hlk := swR_len W V need k
  refine ⟨fun h2 => ?_, fun h2 => ?_⟩
  rotate_left
  · have ek : k = V.length := by omega
    subst ek
    rw [l2]
    exact ⟨rfl, h1.symm, ⟨rfl, fun _ _ => rfl⟩, plain_elemOf _ _ _⟩
  have hk' : k < V.length := by omega
  have rk : InR .i64 ((k : Int) + 1) := by simp only [InR]; omega
  refine ⟨⟨by omega, hk', hv⟩, ⟨hv, hk'⟩, fun h3 => ?_, fun h3 => ?_⟩
  rotate_left
  · have e := swR_no (W := W) (V := V) (need := need) (k := k) fun h => h3 h.1
    refine ⟨rk, k + 1, ⟨hk', by omega⟩, ?_⟩
    rw [e]
    repeat' (first | assumption | exact fun _ _ => rfl | omega | exact plain_elemOf _ _ _ | exact plain_fn1 _ _ | (with_reducible rfl) | exact fun _ _ => rfl | exact fun _ _ => trivial | trivial | with_reducible apply And.intro)
  refine ⟨W, ⟨hw, rfl, hrw, fun _ _ => rfl⟩, V, ⟨hv, rfl, hrv, fun _ _ => rfl⟩, ⟨ok, by omega, by omega, h3⟩, fun h4 => ?_, fun h4 => ?_⟩
  · have e := swR_yes (W := W) (V := V) (need := need) (k := k) ⟨h3, h4⟩
    have el : (swR W V need (k + 1)).length = (swR W V need k).length + 1 := by rw [e]; simp
    have hs := snoc1 (R := swR W V need k) (x := (k : Int)) rfl
    rw [← e, ← el] at hs
    refine ⟨fun _ _ => rfl, by omega, rk, k + 1, ⟨hk', by omega⟩, ?_⟩
    have el' := el.symm
    repeat' (first | assumption | exact fun _ _ => rfl | omega | exact plain_elemOf _ _ _ | exact plain_fn1 _ _ | (with_reducible rfl) | exact fun _ _ => rfl | exact fun _ _ => trivial | trivial | with_reducible apply And.intro)
  · have e := swR_no (W := W) (V := V) (need := need) (k := k) fun h => h4 h.2
    refine ⟨rk, k + 1, ⟨hk', by omega⟩, ?_⟩
    rw [e]
    repeat' (first | assumption | exact fun _ _ => rfl | omega | exact plain_elemOf _ _ _ | exact plain_fn1 _ _ | (with_reducible rfl) | exact fun _ _ => rfl | exact fun _ _ => trivial | trivial | with_reducible apply And.intro)

theorem e_Swing : V_Swing = needE P [F_check] [F_turnsOn] A_Swing F_Swing := by kernel_rfl

theorem n_Swing : Ob (needE P [F_check] [F_turnsOn] A_Swing F_Swing) := by
  rw [← e_Swing]
  exact ⟨v_Swing⟩

theorem b_Swing : ((P.funcs[16]?).any fun fn => fn.body.isSome) = true := by kernel_rfl

theorem Swing_ok : FnE.Ok P F_Swing := FnE.ok named (l := [F_check]) (es := [F_turnsOn]) (A := A_Swing) (by rfl) (by rfl) (by rfl) (by
  intro F h
  simp only [List.mem_cons, List.not_mem_nil, or_false] at h
  rcases h with rfl
  · exact check_ok
) (by
  intro F h
  simp only [List.mem_cons, List.not_mem_nil, or_false] at h
  rcases h with rfl
  · exact turnsOn_ok
) b_Swing (by
  intro ds h o ho n sz e k z he
  subst he
  simp only [F_Swing] at ho
  split at ho
  · simp only [List.mem_cons, List.not_mem_nil, or_false, SObj.gr.injEq] at ho
    obtain ⟨rfl, rfl, rfl, rfl, rfl⟩ := ho
    exact plain_elemOf _ _ _
  · simp at ho) n_Swing

end Go.Proofs.Ytjgllojnbinchaa.Sy
