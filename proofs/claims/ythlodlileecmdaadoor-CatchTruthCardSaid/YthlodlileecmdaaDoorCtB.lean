/- Classes of sizes, and weights. -/
import Derived.Test.YthlodlileecmdaaDoorSyP2
import Derived.Test.YthlodlileecmdaaDoorGrM
import Derived.Test.YthlodlileecmdaaDoorCtA
import Derived.KernelRfl
import Derived.Test.YthlodlileecmdaaDoorProg
namespace Go.Proofs.YthlodlileecmdaaDoor.Sy
open Go Go.Rv
set_option linter.unusedVariables false

theorem edg_all {E : Rows} : ∀ {n : Nat}, edgTo E n = 0 → ∀ j, j < n → 0 ≤ cell E j 0 ∧ cell E j 0 ≤ 2501
  | n + 1, h, j, hj => by
    simp only [edgTo] at h
    by_cases h0 : edgTo E n = 0
    · rw [if_pos h0] at h
      by_cases e : j = n
      · subst e
        unfold edgAt inB at h
        split at h
        · assumption
        · omega
      · exact edg_all h0 j (by omega)
    · rw [if_neg h0] at h
      exact absurd h h0
open Classical in
noncomputable def clsGoV (E : Rows) (s : Int) : Nat → Nat → Int
  | 0, _ => 0
  | n + 1, k => if inB s (cell E k 0) (cell E (k + 1) 0 - 1) then (k : Int) else clsGoV E s n (k + 1)
open Classical in
noncomputable def clsGoE (E : Rows) (s : Int) : Nat → Nat → Int
  | 0, _ => 6
  | n + 1, k => if inB s (cell E k 0) (cell E (k + 1) 0 - 1) then 0 else clsGoE E s n (k + 1)
open Classical in
noncomputable def clsV (E : Rows) (s : Int) : Int := if edgErr E = 0 then (if inB s 0 2500 then clsGoV E s (E.length - 1) 0 else 0) else 0
open Classical in
noncomputable def clsErr (E : Rows) (s : Int) : Int := if edgErr E = 0 then (if inB s 0 2500 then clsGoE E s (E.length - 1) 0 else 1) else edgErr E
theorem cube_bd {n : Int} (h0 : 0 ≤ n) (h1 : n ≤ 2500) : 0 ≤ n * n ∧ n * n ≤ 6250000 ∧ 0 ≤ n * n * n ∧ n * n * n ≤ 15625000000 := by
  have a0 : 0 ≤ n * n := Int.mul_nonneg h0 h0
  have a1 : n * n ≤ 2500 * 2500 := Int.mul_le_mul h1 h1 h0 (by omega)
  have a2 : 0 ≤ n * n * n := Int.mul_nonneg a0 h0
  have a3 : n * n * n ≤ 2500 * 2500 * 2500 := Int.mul_le_mul a1 h1 h0 (by omega)
  omega
theorem edg_len {E : Rows} (h : edgErr E = 0) : 2 ≤ E.length ∧ E.length ≤ 21 ∧ edgTo E E.length = 0 := by
  unfold edgErr at h
  split at h
  · omega
  · split at h
    · omega
    · exact ⟨by omega, by omega, h⟩
theorem many_ok {L : Rows} (h : manyErr L = 0) : L.length ≤ 600 ∧ capTo L L.length = 0 := by
  unfold manyErr at h
  split at h
  · omega
  · exact ⟨by omega, h⟩
def wgtLo (b : Int) (L : Rows) : Nat → Int
  | 0 => 0
  | k + 1 => wgtLo b L k + cell L k 0 * cell L k 0 * cell L k 0 / b
def wgtHi (b : Int) (L : Rows) : Nat → Int
  | 0 => 0
  | k + 1 => wgtHi b L k + (cell L k 1 * cell L k 1 * cell L k 1 + b - 1) / b
open Classical in
noncomputable def wgtErr (b : Int) (L : Rows) : Int := if inB b 1 100000 then manyErr L else 1
noncomputable def wgt (b : Int) (L : Rows) (c : Nat) : Int := if wgtErr b L = 0 then (if c = 0 then wgtLo b L L.length else wgtHi b L L.length) else 0
theorem cap_all {L : Rows} : ∀ {n : Nat}, capTo L n = 0 → ∀ j, j < n → capAt L j = 0
  | n + 1, h, j, hj => by
    simp only [capTo] at h
    by_cases h0 : capTo L n = 0
    · rw [if_pos h0] at h
      by_cases e : j = n
      · subst e; exact h
      · exact cap_all h0 j (by omega)
    · rw [if_neg h0] at h
      exact absurd h h0
theorem cap_size {L : Rows} {j : Nat} (h : capAt L j = 0) : 0 ≤ cell L j 0 ∧ cell L j 0 ≤ cell L j 1 ∧ cell L j 1 ≤ 2500 := by
  unfold capAt capErr inB at h
  split at h
  · split at h
    · omega
    · omega
  · omega
theorem div_bd {x b m : Int} (h0 : 0 ≤ x) (h1 : x ≤ m) (hb : 1 ≤ b) : 0 ≤ x / b ∧ x / b ≤ m := by
  refine ⟨Int.ediv_nonneg h0 (by omega), ?_⟩
  have := Int.ediv_le_self b h0
  omega
theorem wgt_bd {b : Int} {L : Rows} (h1 : 1 ≤ b) (h2 : b ≤ 100000) {n : Nat} (hc : capTo L n = 0) : ∀ k, k ≤ n → 0 ≤ wgtLo b L k ∧ wgtLo b L k ≤ 15625100000 * (k : Int) ∧ 0 ≤ wgtHi b L k ∧ wgtHi b L k ≤ 15625100000 * (k : Int)
  | 0, _ => by simp [wgtLo, wgtHi]
  | k + 1, hk => by
    have ih := wgt_bd h1 h2 hc k (by omega)
    have hs := cap_size (cap_all hc k (by omega))
    have c0 := cube_bd hs.1 (by omega)
    have c1 := cube_bd (show 0 ≤ cell L k 1 by omega) hs.2.2
    simp only [wgtLo, wgtHi]
    generalize cell L k 0 * cell L k 0 * cell L k 0 = x at *
    generalize cell L k 1 * cell L k 1 * cell L k 1 = y at *
    have d0 := div_bd (m := 15625000000) c0.2.2.1 c0.2.2.2 h1
    have d1 := div_bd (x := y + b - 1) (m := 15625100000) (by omega) (by omega) h1
    generalize x / b = u at *
    generalize (y + b - 1) / b = v at *
    omega

noncomputable def F_Class : Fn0 := ⟨61, [.one (.l [.i64]), i64], fun _ => True, fun l => match l with | [.l E, .z s] => .tup [.i .i64 (clsV E s), .i .i64 (clsErr E s)] | _ => .v undef⟩
noncomputable def A_Class : List SV → List Dat → Nat → List SV → Ann := fun xs ds n ts => match xs with
  | [.lst x _ _ _, .i _ _] => match ds with
    | [.l E, .z s] => match n with
      | 7 => ⟨Nat, fun k => [some (SV.lst x E.length ((1 : Nat)) (Rv.elemOf [IntKind.i64] E)), some (SV.i IntKind.i64 s), none, none, none, none, none, none, none, none, none, none, none, none, none, none, none, none, some (SV.i IntKind.i64 ((↑E.length : Int) - (1 : Int))), some (.i .i64 k), none, none, none, none, none, none, none, none, none, none, none, none, none, none, none, none], fun k => [], fun k => k ≤ E.length - 1 ∧ clsGoV E s (E.length - 1 - k) k = clsGoV E s (E.length - 1) 0 ∧ clsGoE E s (E.length - 1 - k) k = clsGoE E s (E.length - 1) 0, fun k => E.length - 1 - k, 0⟩
      | _ => noAnn
    | _ => noAnn
  | _ => noAnn

def V_Class : Prop :=
  ∀ (B : RW) (x : RV) (rows : List (List Int)), IsLst B x rows.length ((1 : Nat)) (Rv.elemOf [IntKind.i64] rows) → oneB x = true → (∀ (row : List Int), row ∈ rows → row.length = (1 : Nat)) → ∀ (n : Int), True → ∃ (rows_1 :
  List (List Int)), Ob (IsLst B x rows.length ((1 : Nat)) (Rv.elemOf [IntKind.i64] rows) ∧ rows_1.length = rows.length ∧ (∀ (r : List Int), r ∈ rows_1 → r.length = (1 : Nat)) ∧ ∀ (i : Nat), i < rows.length → Rv.elemOf
  [IntKind.i64] rows i = Rv.elemOf [IntKind.i64] rows_1 i) ∧ Ob True ∧ (¬edgErr rows_1 = (0 : Int) → Ob ((0 : Int) = clsV rows n) ∧ Ob (edgErr rows_1 = clsErr rows n) ∧ True) ∧ (¬¬edgErr rows_1 = (0 : Int) → Ob True ∧
  (¬inB n (0 : Int) (2500 : Int) → Ob ((0 : Int) = clsV rows n) ∧ Ob ((1 : Int) = clsErr rows n) ∧ True) ∧ (¬¬inB n (0 : Int) (2500 : Int) → Ob (IsLst B x rows.length ((1 : Nat)) (Rv.elemOf [IntKind.i64] rows)) ∧ Ob (InR
  IntKind.i64 ((↑rows.length : Int) - (1 : Int))) ∧ (∃ (a : Nat), Ob (a ≤ rows.length - (1 : Nat) ∧ clsGoV rows n (rows.length - (1 : Nat) - a) a = clsGoV rows n (rows.length - (1 : Nat)) ((0 : Nat)) ∧ clsGoE rows n
  (rows.length - (1 : Nat) - a) a = clsGoE rows n (rows.length - (1 : Nat)) ((0 : Nat))) ∧ Ob (SV.lst x rows.length ((1 : Nat)) (Rv.elemOf [IntKind.i64] rows) = SV.lst x rows.length ((1 : Nat)) (Rv.elemOf [IntKind.i64]
  rows)) ∧ Ob (n = n) ∧ Ob ((↑rows.length : Int) - (1 : Int) = (↑rows.length : Int) - (1 : Int)) ∧ Ob ((0 : Int) = (↑a : Int)) ∧ Ob (IsLst B x rows.length ((1 : Nat)) (Rv.elemOf [IntKind.i64] rows)) ∧ True) ∧ ∀ (a : Nat),
  a ≤ rows.length - (1 : Nat) ∧ clsGoV rows n (rows.length - (1 : Nat) - a) a = clsGoV rows n (rows.length - (1 : Nat)) ((0 : Nat)) ∧ clsGoE rows n (rows.length - (1 : Nat) - a) a = clsGoE rows n (rows.length - (1 : Nat))
  ((0 : Nat)) → ∀ (z z_1 z_2 z_3 z_4 z_5 z_6 z_7 z_8 z_9 z_10 z_11 z_12 z_13 z_14 z_15 z_16 z_17 z_18 z_19 z_20 z_21 z_22 z_23 z_24 z_25 z_26 z_27 z_28 z_29 z_30 z_31 : Value), ((↑a : Int) < (↑rows.length : Int) - (1 :
  Int) → Ob (IsLst B x rows.length ((1 : Nat)) (Rv.elemOf [IntKind.i64] rows)) ∧ Ob ((0 : Int) ≤ (↑a : Int) ∧ a < rows.length ∧ IsLst B x rows.length ((1 : Nat)) (Rv.elemOf [IntKind.i64] rows)) ∧ Ob (IsLst B x rows.length
  ((1 : Nat)) (Rv.elemOf [IntKind.i64] rows) ∧ a < rows.length) ∧ Ob (IsLst B x rows.length ((1 : Nat)) (Rv.elemOf [IntKind.i64] rows) ∧ a < rows.length) ∧ Ob (IsLst B x rows.length ((1 : Nat)) (Rv.elemOf [IntKind.i64]
  rows)) ∧ Ob (InR IntKind.i64 ((↑a : Int) + (1 : Int))) ∧ Ob ((0 : Int) ≤ (↑a : Int) + (1 : Int) ∧ ((↑a : Int) + (1 : Int)).toNat < rows.length ∧ IsLst B x rows.length ((1 : Nat)) (Rv.elemOf [IntKind.i64] rows)) ∧ Ob
  (IsLst B x rows.length ((1 : Nat)) (Rv.elemOf [IntKind.i64] rows) ∧ ((↑a : Int) + (1 : Int)).toNat < rows.length) ∧ Ob (IsLst B x rows.length ((1 : Nat)) (Rv.elemOf [IntKind.i64] rows) ∧ ((↑a : Int) + (1 : Int)).toNat <
  rows.length) ∧ Ob (InR IntKind.i64 (cell rows ((↑a : Int) + (1 : Int)).toNat ((0 : Nat)) - (1 : Int))) ∧ Ob True ∧ (inB n (cell rows a ((0 : Nat))) (cell rows ((↑a : Int) + (1 : Int)).toNat ((0 : Nat)) - (1 : Int)) → Ob
  ((↑a : Int) = clsV rows n) ∧ Ob ((0 : Int) = clsErr rows n) ∧ True) ∧ (¬inB n (cell rows a ((0 : Nat))) (cell rows ((↑a : Int) + (1 : Int)).toNat ((0 : Nat)) - (1 : Int)) → Ob (InR IntKind.i64 ((↑a : Int) + (1 : Int))) ∧
  ∃ (a' : Nat), Ob ((a' ≤ rows.length - (1 : Nat) ∧ clsGoV rows n (rows.length - (1 : Nat) - a') a' = clsGoV rows n (rows.length - (1 : Nat)) ((0 : Nat)) ∧ clsGoE rows n (rows.length - (1 : Nat) - a') a' = clsGoE rows n
  (rows.length - (1 : Nat)) ((0 : Nat))) ∧ rows.length - (1 : Nat) - a' < rows.length - (1 : Nat) - a) ∧ Ob (SV.lst x rows.length ((1 : Nat)) (Rv.elemOf [IntKind.i64] rows) = SV.lst x rows.length ((1 : Nat)) (Rv.elemOf
  [IntKind.i64] rows)) ∧ Ob (n = n) ∧ Ob ((↑rows.length : Int) - (1 : Int) = (↑rows.length : Int) - (1 : Int)) ∧ Ob ((↑a : Int) + (1 : Int) = (↑a' : Int)) ∧ Ob (IsLst B x rows.length ((1 : Nat)) (Rv.elemOf [IntKind.i64]
  rows)) ∧ True)) ∧ (¬(↑a : Int) < (↑rows.length : Int) - (1 : Int) → Ob ((0 : Int) = clsV rows n) ∧ Ob ((6 : Int) = clsErr rows n) ∧ True)))

set_option linter.unusedSimpArgs false in
set_option maxRecDepth 4000 in
set_option maxHeartbeats 400000 in
theorem v_Class : V_Class := by
  unfold V_Class
  intro B x E hx hox hrx s _
  simp only [Ob_iff, and_true, true_and, InR]
  refine ⟨E, ⟨hx, rfl, hrx, fun _ _ => rfl⟩, fun h1 => ?_, fun h1 => ⟨fun h2 => ?_, fun h2 => ?_⟩⟩
  · simp [clsV, clsErr, h1]
  · simp [clsV, clsErr, Classical.not_not.1 h1, h2]
  have hl := edg_len (Classical.not_not.1 h1)
  have hb := fun j => edg_all hl.2.2 j
  have hV : clsV E s = clsGoV E s (E.length - 1) 0 := by simp [clsV, Classical.not_not.1 h1, Classical.not_not.1 h2]
  have hE : clsErr E s = clsGoE E s (E.length - 1) 0 := by simp [clsErr, Classical.not_not.1 h1, Classical.not_not.1 h2]
  rw [hV, hE]
  refine ⟨hx, by omega, ⟨0, ⟨by omega, rfl, rfl⟩, by omega, hx⟩, ?_⟩
  intro k ⟨hk, h3, h4⟩
  intros
  rw [← h3, ← h4]
  have hk1 : ((k : Int) + 1).toNat = k + 1 := by omega
  simp only [hk1]
  refine ⟨fun h5 => ?_, fun h5 => ?_⟩
  · obtain ⟨n, hn⟩ : ∃ n, E.length - 1 - k = n + 1 := ⟨E.length - 1 - k - 1, by omega⟩
    have hn2 : E.length - 1 - (k + 1) = n := by omega
    have b1 := hb (k + 1) (by omega)
    rw [hn]
    refine ⟨hx, ⟨by omega, by omega, hx⟩, ⟨hx, by omega⟩, ⟨hx, by omega⟩, hx, by omega, ⟨by omega, by omega, hx⟩, ⟨hx, by omega⟩, ⟨hx, by omega⟩, by omega, fun h6 => ?_, fun h6 => ⟨by omega, k + 1, ⟨⟨by omega, ?_, ?_⟩, by omega⟩, by omega, hx⟩⟩
    · simp only [clsGoV, clsGoE, if_pos h6, and_self]
    · rw [hn2]
      simp only [clsGoV, if_neg h6]
    · rw [hn2]
      simp only [clsGoE, if_neg h6]
  · have e : E.length - 1 - k = 0 := by omega
    rw [e]
    exact ⟨rfl, rfl⟩

theorem e_Class : V_Class = needF P [F_checkEdges, F_gisSize, F_gwithin] A_Class F_Class := by kernel_rfl

theorem n_Class : Ob (needF P [F_checkEdges, F_gisSize, F_gwithin] A_Class F_Class) := by
  rw [← e_Class]
  exact ⟨v_Class⟩

theorem b_Class : ((P.funcs[61]?).any fun fn => fn.body.isSome) = true := by kernel_rfl

theorem Class_ok : Fn0.Ok P F_Class := Fn0.ok named (l := [F_checkEdges, F_gisSize, F_gwithin]) (A := A_Class) (by rfl) (by
  intro F h
  simp only [List.mem_cons, List.not_mem_nil, or_false] at h
  rcases h with rfl | rfl | rfl
  · exact checkEdges_ok
  · exact gisSize_ok
  · exact gwithin_ok
) b_Class (by
  intro ds N
  simp only [F_Class]
  split <;> rfl) n_Class

noncomputable def F_cube : Fn0 := ⟨66, [i64], fun l => match l with | [.z n] => 0 ≤ n ∧ n ≤ 2500 | _ => False, fun l => match l with | [.z n] => .i .i64 (n * n * n) | _ => .v undef⟩
noncomputable def A_cube : List SV → List Dat → Nat → List SV → Ann := fun _ _ _ _ => noAnn

def V_cube : Prop :=
  ∀ (B : RW) (n : Int), (0 : Int) ≤ n ∧ n ≤ (2500 : Int) → Ob (InR IntKind.i64 (n * n)) ∧ Ob (InR IntKind.i64 (n * n * n)) ∧ Ob (n * n * n = n * n * n) ∧ True

set_option linter.unusedSimpArgs false in
set_option maxRecDepth 4000 in
set_option maxHeartbeats 400000 in
theorem v_cube : V_cube := by
  unfold V_cube
  intro B n ⟨h0, h1⟩
  have h := cube_bd h0 h1
  simp only [Ob_iff, and_true, true_and, InR]
  generalize n * n * n = y at *
  generalize n * n = x at *
  repeat' (first | apply And.intro | intro _)
  all_goals first | trivial | omega

theorem e_cube : V_cube = needF P [] A_cube F_cube := by kernel_rfl

theorem n_cube : Ob (needF P [] A_cube F_cube) := by
  rw [← e_cube]
  exact ⟨v_cube⟩

theorem b_cube : ((P.funcs[66]?).any fun fn => fn.body.isSome) = true := by kernel_rfl

theorem cube_ok : Fn0.Ok P F_cube := Fn0.ok named (l := []) (A := A_cube) (by rfl) (by
  intro F h; simp at h) b_cube (by
  intro ds N
  simp only [F_cube]
  split <;> rfl) n_cube

noncomputable def F_Weight : Fn0 := ⟨29, [i64, .one (.l [.i64, .i64, .i64, .i64, .i64, .i64])], fun _ => True, fun l => match l with | [.z b, .l L] => .tup [.agg [.i .i64 (wgt b L 0), .i .i64 (wgt b L 1)], .i .i64 (wgtErr b L)] | _ => .v undef⟩
noncomputable def A_Weight : List SV → List Dat → Nat → List SV → Ann := fun xs ds n ts => match xs with
  | [.i _ _, .lst x _ _ _] => match ds with
    | [.z b, .l L] => match n with
      | 8 => ⟨Nat, fun k => [some (SV.i IntKind.i64 b), none, none, none, some (SV.ptr ((0 : Nat)) ((0 : Nat))), some (SV.v (Value.int IntKind.i64 (0 : Int))), none, some (SV.ptr ((1 : Nat)) ((0 : Nat))), none, none, none, none, none, none, none, none, none, none, none, none, some (SV.lst x L.length ((6 : Nat)) (Rv.elemOf [IntKind.i64, IntKind.i64, IntKind.i64, IntKind.i64, IntKind.i64, IntKind.i64] L)), some (SV.i IntKind.i64 (↑L.length : Int)), some (.i .i64 k), none, none, none, none, none, none, none, none, none, none, none, none, none, none, none, none, none, none, none, none, none, none, none, none, none, none, none, none], fun k => [.cells [.i .i64 (wgtLo b L k), .i .i64 (wgtHi b L k)] .ex, SObj.cells [SV.v (Value.int IntKind.i64 (0 : Int)), SV.v (Value.int IntKind.i64 (0 : Int))] Kd.ex], fun k => k ≤ L.length, fun k => L.length - k, 0⟩
      | _ => noAnn
    | _ => noAnn
  | _ => noAnn

def V_Weight : Prop :=
  ∀ (B : RW) (n : Int) (x : RV) (rows : List (List Int)), IsLst B x rows.length ((6 : Nat)) (Rv.elemOf [IntKind.i64, IntKind.i64, IntKind.i64, IntKind.i64, IntKind.i64, IntKind.i64] rows) → oneB x = true → (∀ (row : List
  Int), row ∈ rows → row.length = (6 : Nat)) → True → Ob True ∧ (¬inB n (1 : Int) (100000 : Int) → Ob ((0 : Int) = wgt n rows ((0 : Nat))) ∧ Ob ((0 : Int) = wgt n rows ((1 : Nat))) ∧ Ob ((1 : Int) = wgtErr n rows) ∧ True)
  ∧ (¬¬inB n (1 : Int) (100000 : Int) → ∃ (rows_1 : List (List Int)), Ob (IsLst B x rows.length ((6 : Nat)) (Rv.elemOf [IntKind.i64, IntKind.i64, IntKind.i64, IntKind.i64, IntKind.i64, IntKind.i64] rows) ∧ rows_1.length =
  rows.length ∧ (∀ (r : List Int), r ∈ rows_1 → r.length = (6 : Nat)) ∧ ∀ (i : Nat), i < rows.length → Rv.elemOf [IntKind.i64, IntKind.i64, IntKind.i64, IntKind.i64, IntKind.i64, IntKind.i64] rows i = Rv.elemOf
  [IntKind.i64, IntKind.i64, IntKind.i64, IntKind.i64, IntKind.i64, IntKind.i64] rows_1 i) ∧ Ob True ∧ (¬manyErr rows_1 = (0 : Int) → Ob ((0 : Int) = wgt n rows ((0 : Nat))) ∧ Ob ((0 : Int) = wgt n rows ((1 : Nat))) ∧ Ob
  (manyErr rows_1 = wgtErr n rows) ∧ True) ∧ (¬¬manyErr rows_1 = (0 : Int) → Ob (IsLst B x rows.length ((6 : Nat)) (Rv.elemOf [IntKind.i64, IntKind.i64, IntKind.i64, IntKind.i64, IntKind.i64, IntKind.i64] rows)) ∧ (∃ (a :
  Nat), Ob (a ≤ rows.length) ∧ Ob (n = n) ∧ Ob (Value.int IntKind.i64 (0 : Int) = Value.int IntKind.i64 (0 : Int)) ∧ Ob (SV.lst x rows.length ((6 : Nat)) (Rv.elemOf [IntKind.i64, IntKind.i64, IntKind.i64, IntKind.i64,
  IntKind.i64, IntKind.i64] rows) = SV.lst x rows.length ((6 : Nat)) (Rv.elemOf [IntKind.i64, IntKind.i64, IntKind.i64, IntKind.i64, IntKind.i64, IntKind.i64] rows)) ∧ Ob ((↑rows.length : Int) = (↑rows.length : Int)) ∧ Ob
  ((0 : Int) = (↑a : Int)) ∧ Ob ((0 : Int) = wgtLo n rows a) ∧ Ob ((0 : Int) = wgtHi n rows a) ∧ Ob (Value.int IntKind.i64 (0 : Int) = Value.int IntKind.i64 (0 : Int)) ∧ Ob (Value.int IntKind.i64 (0 : Int) = Value.int
  IntKind.i64 (0 : Int)) ∧ Ob (IsLst B x rows.length ((6 : Nat)) (Rv.elemOf [IntKind.i64, IntKind.i64, IntKind.i64, IntKind.i64, IntKind.i64, IntKind.i64] rows)) ∧ True) ∧ ∀ (a : Nat), a ≤ rows.length → ∀ (z z_1 z_2 z_3
  z_4 z_5 z_6 z_7 z_8 z_9 z_10 z_11 z_12 z_13 z_14 z_15 z_16 z_17 z_18 z_19 z_20 z_21 z_22 z_23 z_24 z_25 z_26 z_27 z_28 z_29 z_30 z_31 z_32 z_33 z_34 z_35 z_36 z_37 z_38 z_39 z_40 z_41 z_42 z_43 : Value), ((↑a : Int) <
  (↑rows.length : Int) → Ob ((0 : Int) ≤ (↑a : Int) ∧ a < rows.length ∧ IsLst B x rows.length ((6 : Nat)) (Rv.elemOf [IntKind.i64, IntKind.i64, IntKind.i64, IntKind.i64, IntKind.i64, IntKind.i64] rows)) ∧ Ob (IsLst B x
  rows.length ((6 : Nat)) (Rv.elemOf [IntKind.i64, IntKind.i64, IntKind.i64, IntKind.i64, IntKind.i64, IntKind.i64] rows) ∧ a < rows.length) ∧ Ob ((0 : Int) ≤ cell rows a ((0 : Nat)) ∧ cell rows a ((0 : Nat)) ≤ (2500 :
  Int)) ∧ Ob ((0 : Int) ≤ cell rows a ((0 : Nat)) * cell rows a ((0 : Nat)) * cell rows a ((0 : Nat)) ∧ (0 : Int) < n ∧ InR IntKind.i64 (cell rows a ((0 : Nat)) * cell rows a ((0 : Nat)) * cell rows a ((0 : Nat)) / n)) ∧
  Ob (InR IntKind.i64 (wgtLo n rows a + cell rows a ((0 : Nat)) * cell rows a ((0 : Nat)) * cell rows a ((0 : Nat)) / n)) ∧ Ob ((0 : Int) ≤ cell rows a ((1 : Nat)) ∧ cell rows a ((1 : Nat)) ≤ (2500 : Int)) ∧ Ob (InR
  IntKind.i64 (cell rows a ((1 : Nat)) * cell rows a ((1 : Nat)) * cell rows a ((1 : Nat)) + n)) ∧ Ob (InR IntKind.i64 (cell rows a ((1 : Nat)) * cell rows a ((1 : Nat)) * cell rows a ((1 : Nat)) + n - (1 : Int))) ∧ Ob ((0
  : Int) ≤ cell rows a ((1 : Nat)) * cell rows a ((1 : Nat)) * cell rows a ((1 : Nat)) + n - (1 : Int) ∧ (0 : Int) < n ∧ InR IntKind.i64 ((cell rows a ((1 : Nat)) * cell rows a ((1 : Nat)) * cell rows a ((1 : Nat)) + n -
  (1 : Int)) / n)) ∧ Ob (InR IntKind.i64 (wgtHi n rows a + (cell rows a ((1 : Nat)) * cell rows a ((1 : Nat)) * cell rows a ((1 : Nat)) + n - (1 : Int)) / n)) ∧ Ob (InR IntKind.i64 ((↑a : Int) + (1 : Int))) ∧ ∃ (a' : Nat),
  Ob (a' ≤ rows.length ∧ rows.length - a' < rows.length - a) ∧ Ob (n = n) ∧ Ob (Value.int IntKind.i64 (0 : Int) = Value.int IntKind.i64 (0 : Int)) ∧ Ob (SV.lst x rows.length ((6 : Nat)) (Rv.elemOf [IntKind.i64,
  IntKind.i64, IntKind.i64, IntKind.i64, IntKind.i64, IntKind.i64] rows) = SV.lst x rows.length ((6 : Nat)) (Rv.elemOf [IntKind.i64, IntKind.i64, IntKind.i64, IntKind.i64, IntKind.i64, IntKind.i64] rows)) ∧ Ob
  ((↑rows.length : Int) = (↑rows.length : Int)) ∧ Ob ((↑a : Int) + (1 : Int) = (↑a' : Int)) ∧ Ob (wgtLo n rows a + cell rows a ((0 : Nat)) * cell rows a ((0 : Nat)) * cell rows a ((0 : Nat)) / n = wgtLo n rows a') ∧ Ob
  (wgtHi n rows a + (cell rows a ((1 : Nat)) * cell rows a ((1 : Nat)) * cell rows a ((1 : Nat)) + n - (1 : Int)) / n = wgtHi n rows a') ∧ Ob (Value.int IntKind.i64 (0 : Int) = Value.int IntKind.i64 (0 : Int)) ∧ Ob
  (Value.int IntKind.i64 (0 : Int) = Value.int IntKind.i64 (0 : Int)) ∧ Ob (IsLst B x rows.length ((6 : Nat)) (Rv.elemOf [IntKind.i64, IntKind.i64, IntKind.i64, IntKind.i64, IntKind.i64, IntKind.i64] rows)) ∧ True) ∧ (¬(↑a
  : Int) < (↑rows.length : Int) → Ob (wgtLo n rows a = wgt n rows ((0 : Nat))) ∧ Ob (wgtHi n rows a = wgt n rows ((1 : Nat))) ∧ Ob ((0 : Int) = wgtErr n rows) ∧ True)))

set_option linter.unusedSimpArgs false in
set_option maxRecDepth 4000 in
set_option maxHeartbeats 400000 in
theorem v_Weight : V_Weight := by
  unfold V_Weight
  intro B b x L hx hox hrx _
  simp only [Ob_iff, and_true, true_and, InR]
  refine ⟨fun h1 => ?_, fun h1 => ⟨L, ⟨hx, rfl, hrx, fun _ _ => rfl⟩, fun h2 => ?_, fun h2 => ⟨hx, ⟨0, by omega, by omega, rfl, rfl, hx⟩, ?_⟩⟩⟩
  · simp [wgt, wgtErr, h1]
  · simp [wgt, wgtErr, Classical.not_not.1 h1, h2]
  have h1' : 1 ≤ b ∧ b ≤ 100000 := Classical.not_not.1 h1
  have hm := many_ok (Classical.not_not.1 h2)
  have he : wgtErr b L = 0 := by simp [wgtErr, Classical.not_not.1 h1, Classical.not_not.1 h2]
  clear h1 h2
  intro k hk
  intros
  refine ⟨fun h3 => ?_, fun h3 => ?_⟩
  · have hkL : k < L.length := by omega
    have hs := cap_size (cap_all hm.2 k hkL)
    have c0 := cube_bd hs.1 (by omega)
    have c1 := cube_bd (show 0 ≤ cell L k 1 by omega) hs.2.2
    have w := wgt_bd h1'.1 h1'.2 hm.2 k hk
    have e0 : wgtLo b L (k + 1) = wgtLo b L k + cell L k 0 * cell L k 0 * cell L k 0 / b := rfl
    have e1 : wgtHi b L (k + 1) = wgtHi b L k + (cell L k 1 * cell L k 1 * cell L k 1 + b - 1) / b := rfl
    have hm1 := hm.1
    generalize cell L k 0 * cell L k 0 * cell L k 0 = x0 at *
    generalize cell L k 1 * cell L k 1 * cell L k 1 = y0 at *
    have d0 := div_bd (m := 15625000000) c0.2.2.1 c0.2.2.2 h1'.1
    have d1 := div_bd (x := y0 + b - 1) (m := 15625100000) (by omega) (by omega) h1'.1
    generalize x0 / b = u at *
    generalize (y0 + b - 1) / b = v at *
    refine ⟨⟨by omega, hkL, hx⟩, ⟨hx, hkL⟩, by omega, ⟨by omega, by omega, by omega⟩, by omega, by omega, by omega, by omega, ⟨by omega, by omega, by omega⟩, by omega, by omega, k + 1, ⟨by omega, by omega⟩, by omega, e0.symm, e1.symm, hx⟩
  · have e : k = L.length := by omega
    subst e
    simp [wgt, he]

theorem e_Weight : V_Weight = needF P [F_cwithin, F_checkMany, F_cube] A_Weight F_Weight := by kernel_rfl

theorem n_Weight : Ob (needF P [F_cwithin, F_checkMany, F_cube] A_Weight F_Weight) := by
  rw [← e_Weight]
  exact ⟨v_Weight⟩

theorem b_Weight : ((P.funcs[29]?).any fun fn => fn.body.isSome) = true := by kernel_rfl

theorem Weight_ok : Fn0.Ok P F_Weight := Fn0.ok named (l := [F_cwithin, F_checkMany, F_cube]) (A := A_Weight) (by rfl) (by
  intro F h
  simp only [List.mem_cons, List.not_mem_nil, or_false] at h
  rcases h with rfl | rfl | rfl
  · exact cwithin_ok
  · exact checkMany_ok
  · exact cube_ok
) b_Weight (by
  intro ds N
  simp only [F_Weight]
  split <;> rfl) n_Weight

end Go.Proofs.YthlodlileecmdaaDoor.Sy
