/- Growths that are valid, and heat. -/
import Derived.Test.YtgdnhmilhpnbjaaDoorSyP2
import Derived.Test.YtgdnhmilhpnbjaaDoorGrM
import Derived.Test.YtgdnhmilhpnbjaaDoorGrA
import Derived.Test.YtgdnhmilhpnbjaaDoorGrT
import Derived.KernelRfl
import Derived.Test.YtgdnhmilhpnbjaaDoorProg
namespace Go.Proofs.YtgdnhmilhpnbjaaDoor.Sy
open Go Go.Rv
set_option linter.unusedVariables false

open Classical in
noncomputable def stErr (R : Rows) (i : Nat) : Int :=
  if inB (cell R i 0) 0 2500 then (if (i = 0 ∧ ¬ cell R i 0 = 0) ∨ (0 < i ∧ cell R i 0 ≤ cell R (i - 1) 0) then 8 else if spanErr (cell R i 1) (cell R i 2) 1 100000 = 0 then spanErr (cell R i 3) (cell R i 4) 0 300 else spanErr (cell R i 1) (cell R i 2) 1 100000) else 1
noncomputable def chkTo (R : Rows) : Nat → Int
  | 0 => 0
  | k + 1 => if chkTo R k = 0 then stErr R k else chkTo R k
open Classical in
noncomputable def gErr (base most : Int) (R : Rows) : Int := if inB base (-50) 400 ∧ inB most 0 2500 then (if R.length = 0 then 4 else if 6 < R.length then 5 else chkTo R R.length) else 1
theorem chk_stop {R : Rows} {k : Nat} (h1 : ¬ stErr R k = 0) (h0 : chkTo R k = 0) : ∀ n, k < n → chkTo R n = stErr R k
  | n + 1, h => by
    by_cases e : k = n
    · subst e
      simp [chkTo, h0]
    · have h2 := chk_stop h1 h0 n (by omega)
      simp [chkTo, h2, h1]
noncomputable def dayTo (D : Rows) : Nat → Int
  | 0 => 0
  | k + 1 => if dayTo D k = 0 then spanErr (cell D k 0) (cell D k 1) (-50) 400 else dayTo D k
theorem day_stop {D : Rows} {k : Nat} (h1 : ¬ spanErr (cell D k 0) (cell D k 1) (-50) 400 = 0) (h0 : dayTo D k = 0) : ∀ n, k < n → dayTo D n = spanErr (cell D k 0) (cell D k 1) (-50) 400
  | n + 1, h => by
    by_cases e : k = n
    · subst e
      simp [dayTo, h0]
    · have h2 := day_stop h1 h0 n (by omega)
      simp [dayTo, h2, h1]
noncomputable def daysErr (D : Rows) : Int := if 400 < D.length then 5 else dayTo D D.length
noncomputable def hErr (base most : Int) (R D : Rows) : Int := if gErr base most R = 0 then daysErr D else gErr base most R
def hSum (base : Int) (D : Rows) (c : Nat) : Nat → Int
  | 0 => 0
  | k + 1 => hSum base D c k + max (cell D k c - base) 0
noncomputable def heat (base most : Int) (R D : Rows) (c : Nat) : Int := if hErr base most R D = 0 then hSum base D c D.length else 0
def wrapZ (x n : Int) : Int := if n < 2 then 0 else if x.tmod n < 0 then x.tmod n + n else x.tmod n
theorem wrapZ_in (x : Int) {n : Int} (h : 0 < n) : 0 ≤ wrapZ x n ∧ wrapZ x n < n := by
  unfold wrapZ
  split
  · omega
  · have h1 := Int.tmod_lt_of_pos x (show 0 < n by omega)
    have h2 := Int.lt_tmod_of_pos x (show 0 < n by omega)
    split <;> omega
def sameGTo (a b : Int) (R : Rows) (c d : Int) (S : Rows) (k : Nat) : Prop := (a = c ∧ b = d ∧ R.length = S.length) ∧ ∀ i, i < k → cell R i 0 = cell S i 0 ∧ cell R i 1 = cell S i 1 ∧ cell R i 2 = cell S i 2 ∧ cell R i 3 = cell S i 3 ∧ cell R i 4 = cell S i 4
def sameG (a b : Int) (R : Rows) (c d : Int) (S : Rows) : Prop := sameGTo a b R c d S R.length
theorem sameG_zero {a b : Int} {R : Rows} {c d : Int} {S : Rows} : sameGTo a b R c d S 0 ↔ a = c ∧ b = d ∧ R.length = S.length := ⟨fun h => h.1, fun h => ⟨h, fun i hi => by omega⟩⟩
theorem sameG_succ {a b : Int} {R : Rows} {c d : Int} {S : Rows} {k : Nat} (h : sameGTo a b R c d S k) : sameGTo a b R c d S (k + 1) ↔ cell R k 0 = cell S k 0 ∧ cell R k 1 = cell S k 1 ∧ cell R k 2 = cell S k 2 ∧ cell R k 3 = cell S k 3 ∧ cell R k 4 = cell S k 4 := by
  refine ⟨fun h2 => h2.2 k (by omega), fun h2 => ⟨h.1, fun i hi => ?_⟩⟩
  by_cases e : i = k
  · subst e; exact h2
  · exact h.2 i (by omega)
theorem sameG_stop {a b : Int} {R : Rows} {c d : Int} {S : Rows} {k : Nat} (hk : k ≤ R.length) (h : ¬ sameGTo a b R c d S k) : ¬ sameG a b R c d S := fun h2 => h ⟨h2.1, fun i hi => h2.2 i (by omega)⟩
theorem sameG_refl (a b : Int) (R : Rows) : sameG a b R a b R := ⟨⟨rfl, rfl, rfl⟩, fun _ _ => ⟨rfl, rfl, rfl, rfl, rfl⟩⟩
theorem g_ok {base most : Int} {R : Rows} (h : gErr base most R = 0) : -50 ≤ base ∧ base ≤ 400 := by
  unfold gErr inB at h
  split at h <;> omega

noncomputable def F_Wrap : Fn0 := ⟨12, [i64, i64], fun l => match l with | [.z x, .z n] => n ≤ 1000000000 | _ => False, fun l => match l with | [.z x, .z n] => .i .i64 (wrapZ x n) | _ => .v undef⟩
noncomputable def A_Wrap : List SV → List Dat → Nat → List SV → Ann := fun _ _ _ _ => noAnn

def V_Wrap : Prop :=
  ∀ (B : RW) (n n_1 : Int), n_1 ≤ (1000000000 : Int) → (n_1 < (2 : Int) → Ob ((0 : Int) = wrapZ n n_1) ∧ True) ∧ (¬n_1 < (2 : Int) → Ob ((0 : Int) < n_1 ∧ InR IntKind.i64 (n.tmod n_1)) ∧ (n.tmod n_1 < (0 : Int) → Ob (InR
  IntKind.i64 (n.tmod n_1 + n_1)) ∧ Ob (n.tmod n_1 + n_1 = wrapZ n n_1) ∧ True) ∧ (¬n.tmod n_1 < (0 : Int) → Ob (n.tmod n_1 = wrapZ n n_1) ∧ True))

set_option linter.unusedSimpArgs false in
set_option maxRecDepth 4000 in
set_option maxHeartbeats 400000 in
theorem v_Wrap : V_Wrap := by
  unfold V_Wrap
  intro B x n hn
  simp only [Ob_iff, and_true, true_and, InR]
  have h1 := fun h : 0 < n => Int.tmod_lt_of_pos x h
  have h2 := fun h : 0 < n => Int.lt_tmod_of_pos x h
  have h3 := wrapZ_in x (n := n)
  unfold wrapZ at *
  refine ⟨fun h => ?_, fun h => ⟨by omega, fun h4 => ?_, fun h4 => ?_⟩⟩
  · rw [if_pos h]
  · refine ⟨by omega, ?_⟩
    rw [if_neg h, if_pos h4]
  · rw [if_neg h, if_neg h4]

theorem e_Wrap : V_Wrap = needF P [] A_Wrap F_Wrap := by kernel_rfl

theorem n_Wrap : Ob (needF P [] A_Wrap F_Wrap) := by
  rw [← e_Wrap]
  exact ⟨v_Wrap⟩

theorem b_Wrap : ((P.funcs[12]?).any fun fn => fn.body.isSome) = true := by kernel_rfl

theorem Wrap_ok : Fn0.Ok P F_Wrap := Fn0.ok named (l := []) (A := A_Wrap) (by rfl) (by
  intro F h; simp at h) b_Wrap (by
  intro ds N
  simp only [F_Wrap]
  split <;> rfl) n_Wrap

noncomputable def F_checkStage : Fn0 := ⟨39, [.one (.l [.i64, .i64, .i64, .i64, .i64]), i64], fun l => match l with | [.l R, .z i] => 0 ≤ i ∧ i < R.length ∧ R.length ≤ 1000 | _ => False, fun l => match l with | [.l R, .z i] => .i .i64 (stErr R i.toNat) | _ => .v undef⟩
noncomputable def A_checkStage : List SV → List Dat → Nat → List SV → Ann := fun _ _ _ _ => noAnn

def V_checkStage : Prop :=
  ∀ (B : RW) (x : RV) (rows : List (List Int)), IsLst B x rows.length ((5 : Nat)) (Rv.elemOf [IntKind.i64, IntKind.i64, IntKind.i64, IntKind.i64, IntKind.i64] rows) → oneB x = true → (∀ (row : List Int), row ∈ rows →
  row.length = (5 : Nat)) → ∀ (n : Int), (0 : Int) ≤ n ∧ n < (↑rows.length : Int) ∧ rows.length ≤ (1000 : Nat) → Ob ((0 : Int) ≤ n ∧ n.toNat < rows.length ∧ IsLst B x rows.length ((5 : Nat)) (Rv.elemOf [IntKind.i64,
  IntKind.i64, IntKind.i64, IntKind.i64, IntKind.i64] rows)) ∧ Ob (IsLst B x rows.length ((5 : Nat)) (Rv.elemOf [IntKind.i64, IntKind.i64, IntKind.i64, IntKind.i64, IntKind.i64] rows) ∧ n.toNat < rows.length) ∧ Ob True ∧
  (¬inB (cell rows n.toNat ((0 : Nat))) (0 : Int) (2500 : Int) → Ob ((1 : Int) = stErr rows n.toNat) ∧ True) ∧ (¬¬inB (cell rows n.toNat ((0 : Nat))) (0 : Int) (2500 : Int) → (n = (0 : Int) → (¬¬cell rows n.toNat ((0 :
  Nat)) = (0 : Int) → ((0 : Int) < n → Ob (IsLst B x rows.length ((5 : Nat)) (Rv.elemOf [IntKind.i64, IntKind.i64, IntKind.i64, IntKind.i64, IntKind.i64] rows)) ∧ Ob (InR IntKind.i64 (n - (1 : Int))) ∧ Ob ((0 : Int) ≤ n -
  (1 : Int) ∧ (n - (1 : Int)).toNat < rows.length ∧ IsLst B x rows.length ((5 : Nat)) (Rv.elemOf [IntKind.i64, IntKind.i64, IntKind.i64, IntKind.i64, IntKind.i64] rows)) ∧ Ob (IsLst B x rows.length ((5 : Nat)) (Rv.elemOf
  [IntKind.i64, IntKind.i64, IntKind.i64, IntKind.i64, IntKind.i64] rows) ∧ (n - (1 : Int)).toNat < rows.length) ∧ Ob (IsLst B x rows.length ((5 : Nat)) (Rv.elemOf [IntKind.i64, IntKind.i64, IntKind.i64, IntKind.i64,
  IntKind.i64] rows) ∧ (n - (1 : Int)).toNat < rows.length) ∧ Ob (IsLst B x rows.length ((5 : Nat)) (Rv.elemOf [IntKind.i64, IntKind.i64, IntKind.i64, IntKind.i64, IntKind.i64] rows) ∧ (n - (1 : Int)).toNat < rows.length)
  ∧ (cell rows n.toNat ((0 : Nat)) ≤ cell rows (n - (1 : Int)).toNat ((0 : Nat)) → Ob ((8 : Int) = stErr rows n.toNat) ∧ True) ∧ (¬cell rows n.toNat ((0 : Nat)) ≤ cell rows (n - (1 : Int)).toNat ((0 : Nat)) → Ob True ∧
  (¬spanErr (cell rows n.toNat ((1 : Nat))) (cell rows n.toNat ((2 : Nat))) (1 : Int) (100000 : Int) = (0 : Int) → Ob (spanErr (cell rows n.toNat ((1 : Nat))) (cell rows n.toNat ((2 : Nat))) (1 : Int) (100000 : Int) =
  stErr rows n.toNat) ∧ True) ∧ (¬¬spanErr (cell rows n.toNat ((1 : Nat))) (cell rows n.toNat ((2 : Nat))) (1 : Int) (100000 : Int) = (0 : Int) → Ob True ∧ Ob (spanErr (cell rows n.toNat ((3 : Nat))) (cell rows n.toNat ((4
  : Nat))) (0 : Int) (300 : Int) = stErr rows n.toNat) ∧ True))) ∧ (¬(0 : Int) < n → Ob True ∧ (¬spanErr (cell rows n.toNat ((1 : Nat))) (cell rows n.toNat ((2 : Nat))) (1 : Int) (100000 : Int) = (0 : Int) → Ob (spanErr
  (cell rows n.toNat ((1 : Nat))) (cell rows n.toNat ((2 : Nat))) (1 : Int) (100000 : Int) = stErr rows n.toNat) ∧ True) ∧ (¬¬spanErr (cell rows n.toNat ((1 : Nat))) (cell rows n.toNat ((2 : Nat))) (1 : Int) (100000 : Int)
  = (0 : Int) → Ob True ∧ Ob (spanErr (cell rows n.toNat ((3 : Nat))) (cell rows n.toNat ((4 : Nat))) (0 : Int) (300 : Int) = stErr rows n.toNat) ∧ True))) ∧ (¬cell rows n.toNat ((0 : Nat)) = (0 : Int) → Ob ((8 : Int) =
  stErr rows n.toNat) ∧ True)) ∧ (¬n = (0 : Int) → ((0 : Int) < n → Ob (IsLst B x rows.length ((5 : Nat)) (Rv.elemOf [IntKind.i64, IntKind.i64, IntKind.i64, IntKind.i64, IntKind.i64] rows)) ∧ Ob (InR IntKind.i64 (n - (1 :
  Int))) ∧ Ob ((0 : Int) ≤ n - (1 : Int) ∧ (n - (1 : Int)).toNat < rows.length ∧ IsLst B x rows.length ((5 : Nat)) (Rv.elemOf [IntKind.i64, IntKind.i64, IntKind.i64, IntKind.i64, IntKind.i64] rows)) ∧ Ob (IsLst B x
  rows.length ((5 : Nat)) (Rv.elemOf [IntKind.i64, IntKind.i64, IntKind.i64, IntKind.i64, IntKind.i64] rows) ∧ (n - (1 : Int)).toNat < rows.length) ∧ Ob (IsLst B x rows.length ((5 : Nat)) (Rv.elemOf [IntKind.i64,
  IntKind.i64, IntKind.i64, IntKind.i64, IntKind.i64] rows) ∧ (n - (1 : Int)).toNat < rows.length) ∧ Ob (IsLst B x rows.length ((5 : Nat)) (Rv.elemOf [IntKind.i64, IntKind.i64, IntKind.i64, IntKind.i64, IntKind.i64] rows)
  ∧ (n - (1 : Int)).toNat < rows.length) ∧ (cell rows n.toNat ((0 : Nat)) ≤ cell rows (n - (1 : Int)).toNat ((0 : Nat)) → Ob ((8 : Int) = stErr rows n.toNat) ∧ True) ∧ (¬cell rows n.toNat ((0 : Nat)) ≤ cell rows (n - (1 :
  Int)).toNat ((0 : Nat)) → Ob True ∧ (¬spanErr (cell rows n.toNat ((1 : Nat))) (cell rows n.toNat ((2 : Nat))) (1 : Int) (100000 : Int) = (0 : Int) → Ob (spanErr (cell rows n.toNat ((1 : Nat))) (cell rows n.toNat ((2 :
  Nat))) (1 : Int) (100000 : Int) = stErr rows n.toNat) ∧ True) ∧ (¬¬spanErr (cell rows n.toNat ((1 : Nat))) (cell rows n.toNat ((2 : Nat))) (1 : Int) (100000 : Int) = (0 : Int) → Ob True ∧ Ob (spanErr (cell rows n.toNat
  ((3 : Nat))) (cell rows n.toNat ((4 : Nat))) (0 : Int) (300 : Int) = stErr rows n.toNat) ∧ True))) ∧ (¬(0 : Int) < n → Ob True ∧ (¬spanErr (cell rows n.toNat ((1 : Nat))) (cell rows n.toNat ((2 : Nat))) (1 : Int) (100000
  : Int) = (0 : Int) → Ob (spanErr (cell rows n.toNat ((1 : Nat))) (cell rows n.toNat ((2 : Nat))) (1 : Int) (100000 : Int) = stErr rows n.toNat) ∧ True) ∧ (¬¬spanErr (cell rows n.toNat ((1 : Nat))) (cell rows n.toNat ((2
  : Nat))) (1 : Int) (100000 : Int) = (0 : Int) → Ob True ∧ Ob (spanErr (cell rows n.toNat ((3 : Nat))) (cell rows n.toNat ((4 : Nat))) (0 : Int) (300 : Int) = stErr rows n.toNat) ∧ True))))

set_option linter.unusedSimpArgs false in
set_option maxRecDepth 4000 in
set_option maxHeartbeats 400000 in
theorem v_checkStage : V_checkStage := by
  unfold V_checkStage
  intro B x R hx hox hrx i ⟨h1, h2, h3⟩
  obtain ⟨j, rfl⟩ := Int.eq_ofNat_of_zero_le h1
  have hj : ((j : Int) - 1).toNat = j - 1 := by omega
  simp only [Ob_iff, and_true, true_and, InR, Int.toNat_natCast, hj]
  generalize he : stErr R j = e
  unfold stErr at he
  generalize inB (cell R j 0) 0 2500 = p at *
  generalize spanErr (cell R j 1) (cell R j 2) 1 100000 = s1 at *
  generalize spanErr (cell R j 3) (cell R j 4) 0 300 = s3 at *
  generalize cell R j 0 = a at *
  generalize cell R (j - 1) 0 = b at *
  repeat' (first | apply And.intro | intro _)
  all_goals first | exact hx | omega | grind

theorem e_checkStage : V_checkStage = needF P [F_isSize, F_checkSpan] A_checkStage F_checkStage := by kernel_rfl

theorem n_checkStage : Ob (needF P [F_isSize, F_checkSpan] A_checkStage F_checkStage) := by
  rw [← e_checkStage]
  exact ⟨v_checkStage⟩

theorem b_checkStage : ((P.funcs[39]?).any fun fn => fn.body.isSome) = true := by kernel_rfl

theorem checkStage_ok : Fn0.Ok P F_checkStage := Fn0.ok named (l := [F_isSize, F_checkSpan]) (A := A_checkStage) (by rfl) (by
  intro F h
  simp only [List.mem_cons, List.not_mem_nil, or_false] at h
  rcases h with rfl | rfl
  · exact isSize_ok
  · exact checkSpan_ok
) b_checkStage (by
  intro ds N
  simp only [F_checkStage]
  split <;> rfl) n_checkStage

noncomputable def F_Check : Fn0 := ⟨16, [.agg [.i .i64, .i .i64, .l [.i64, .i64, .i64, .i64, .i64]]], fun l => match l with | [.z base, .z most, .l R] => R.length ≤ 1000 | _ => False, fun l => match l with | [.z base, .z most, .l R] => .i .i64 (gErr base most R) | _ => .v undef⟩
noncomputable def A_Check : List SV → List Dat → Nat → List SV → Ann := fun xs ds n ts => match xs with
  | [.agg [_, _, .lst x _ _ _]] => match ds with
    | [.z base, .z most, .l R] => match n with
      | 8 => ⟨Nat, fun k => [none, some (SV.ptr ((0 : Nat)) ((0 : Nat))), none, none, none, none, none, none, none, none, none, none, none, none, none, none, none, none, none, none, none, none, none, none, none, some (SV.i IntKind.i64 (↑R.length : Int)), some (.i .i64 k), none, none, none, none, none, none, none, none, none, none], fun k => [SObj.cells [SV.i IntKind.i64 base, SV.i IntKind.i64 most, SV.lst x R.length ((5 : Nat)) (Rv.elemOf [IntKind.i64, IntKind.i64, IntKind.i64, IntKind.i64, IntKind.i64] R)] Kd.ex], fun k => k ≤ R.length ∧ chkTo R k = 0, fun k => R.length - k, 0⟩
      | _ => noAnn
    | _ => noAnn
  | _ => noAnn

def V_Check : Prop :=
  ∀ (B : RW) (n n_1 : Int) (x : RV) (rows : List (List Int)), IsLst B x rows.length ((5 : Nat)) (Rv.elemOf [IntKind.i64, IntKind.i64, IntKind.i64, IntKind.i64, IntKind.i64] rows) → oneB x = true → (∀ (row : List Int), row
  ∈ rows → row.length = (5 : Nat)) → rows.length ≤ (1000 : Nat) → Ob True ∧ (¬¬inB n (-50 : Int) (400 : Int) → Ob True ∧ (¬inB n_1 (0 : Int) (2500 : Int) → Ob ((1 : Int) = gErr n n_1 rows) ∧ True) ∧ (¬¬inB n_1 (0 : Int)
  (2500 : Int) → Ob (IsLst B x rows.length ((5 : Nat)) (Rv.elemOf [IntKind.i64, IntKind.i64, IntKind.i64, IntKind.i64, IntKind.i64] rows)) ∧ ((↑rows.length : Int) = (0 : Int) → Ob ((4 : Int) = gErr n n_1 rows) ∧ True) ∧
  (¬(↑rows.length : Int) = (0 : Int) → Ob (IsLst B x rows.length ((5 : Nat)) (Rv.elemOf [IntKind.i64, IntKind.i64, IntKind.i64, IntKind.i64, IntKind.i64] rows)) ∧ ((6 : Int) < (↑rows.length : Int) → Ob ((5 : Int) = gErr n
  n_1 rows) ∧ True) ∧ (¬(6 : Int) < (↑rows.length : Int) → Ob (IsLst B x rows.length ((5 : Nat)) (Rv.elemOf [IntKind.i64, IntKind.i64, IntKind.i64, IntKind.i64, IntKind.i64] rows)) ∧ (∃ (a : Nat), Ob (a ≤ rows.length ∧
  chkTo rows a = (0 : Int)) ∧ Ob ((↑rows.length : Int) = (↑rows.length : Int)) ∧ Ob ((0 : Int) = (↑a : Int)) ∧ Ob (n = n) ∧ Ob (n_1 = n_1) ∧ Ob (SV.lst x rows.length ((5 : Nat)) (Rv.elemOf [IntKind.i64, IntKind.i64,
  IntKind.i64, IntKind.i64, IntKind.i64] rows) = SV.lst x rows.length ((5 : Nat)) (Rv.elemOf [IntKind.i64, IntKind.i64, IntKind.i64, IntKind.i64, IntKind.i64] rows)) ∧ Ob (IsLst B x rows.length ((5 : Nat)) (Rv.elemOf
  [IntKind.i64, IntKind.i64, IntKind.i64, IntKind.i64, IntKind.i64] rows)) ∧ True) ∧ ∀ (a : Nat), a ≤ rows.length ∧ chkTo rows a = (0 : Int) → ∀ (z z_1 z_2 z_3 z_4 z_5 z_6 z_7 z_8 z_9 z_10 z_11 z_12 z_13 z_14 z_15 z_16
  z_17 z_18 z_19 z_20 z_21 z_22 z_23 z_24 z_25 z_26 z_27 z_28 z_29 z_30 z_31 z_32 z_33 : Value), ((↑a : Int) < (↑rows.length : Int) → ∃ (rows_1 : List (List Int)), Ob (IsLst B x rows.length ((5 : Nat)) (Rv.elemOf
  [IntKind.i64, IntKind.i64, IntKind.i64, IntKind.i64, IntKind.i64] rows) ∧ rows_1.length = rows.length ∧ (∀ (r : List Int), r ∈ rows_1 → r.length = (5 : Nat)) ∧ ∀ (i : Nat), i < rows.length → Rv.elemOf [IntKind.i64,
  IntKind.i64, IntKind.i64, IntKind.i64, IntKind.i64] rows i = Rv.elemOf [IntKind.i64, IntKind.i64, IntKind.i64, IntKind.i64, IntKind.i64] rows_1 i) ∧ Ob ((0 : Int) ≤ (↑a : Int) ∧ (↑a : Int) < (↑rows_1.length : Int) ∧
  rows_1.length ≤ (1000 : Nat)) ∧ (¬stErr rows_1 a = (0 : Int) → Ob (stErr rows_1 a = gErr n n_1 rows) ∧ True) ∧ (¬¬stErr rows_1 a = (0 : Int) → Ob (InR IntKind.i64 ((↑a : Int) + (1 : Int))) ∧ ∃ (a' : Nat), Ob ((a' ≤
  rows.length ∧ chkTo rows a' = (0 : Int)) ∧ rows.length - a' < rows.length - a) ∧ Ob ((↑rows.length : Int) = (↑rows.length : Int)) ∧ Ob ((↑a : Int) + (1 : Int) = (↑a' : Int)) ∧ Ob (n = n) ∧ Ob (n_1 = n_1) ∧ Ob (SV.lst x
  rows.length ((5 : Nat)) (Rv.elemOf [IntKind.i64, IntKind.i64, IntKind.i64, IntKind.i64, IntKind.i64] rows) = SV.lst x rows.length ((5 : Nat)) (Rv.elemOf [IntKind.i64, IntKind.i64, IntKind.i64, IntKind.i64, IntKind.i64]
  rows)) ∧ Ob (IsLst B x rows.length ((5 : Nat)) (Rv.elemOf [IntKind.i64, IntKind.i64, IntKind.i64, IntKind.i64, IntKind.i64] rows)) ∧ True)) ∧ (¬(↑a : Int) < (↑rows.length : Int) → Ob ((0 : Int) = gErr n n_1 rows) ∧
  True))))) ∧ (¬inB n (-50 : Int) (400 : Int) → Ob ((1 : Int) = gErr n n_1 rows) ∧ True)

set_option linter.unusedSimpArgs false in
set_option maxRecDepth 4000 in
set_option maxHeartbeats 400000 in
theorem v_Check : V_Check := by
  unfold V_Check
  intro B base most x R hx hox hrx hR
  simp only [Ob_iff, and_true, true_and, InR]
  refine ⟨fun h1 => ⟨fun h2 => ?_, fun h2 => ⟨hx, fun h3 => ?_, fun h3 => ⟨hx, fun h4 => ?_, fun h4 => ⟨hx, ?_, ?_⟩⟩⟩⟩, fun h1 => ?_⟩
  · simp [gErr, h2]
  · have h3' : R.length = 0 := by omega
    simp [gErr, Classical.not_not.1 h1, Classical.not_not.1 h2, h3']
  · have h3' : ¬ R.length = 0 := by omega
    have h4' : 6 < R.length := by omega
    simp [gErr, Classical.not_not.1 h1, Classical.not_not.1 h2, h3', h4']
  · exact ⟨0, ⟨by omega, rfl⟩, by omega, hx⟩
  · have h3' : ¬ R.length = 0 := by omega
    have h4' : ¬ 6 < R.length := by omega
    have hg : gErr base most R = chkTo R R.length := by simp [gErr, Classical.not_not.1 h1, Classical.not_not.1 h2, h3', h4']
    rw [hg]
    intro k ⟨hk, hc⟩
    intros
    refine ⟨fun h5 => ⟨R, ⟨hx, rfl, hrx, fun _ _ => rfl⟩, ⟨by omega, by omega, hR⟩, fun h6 => ?_, fun h6 => ⟨by omega, k + 1, ⟨⟨by omega, ?_⟩, by omega⟩, by omega, hx⟩⟩, fun h5 => ?_⟩
    · exact (chk_stop h6 hc _ (by omega)).symm
    · simp [chkTo, hc, Classical.not_not.1 h6]
    · have e : k = R.length := by omega
      subst e
      exact hc.symm
  · simp [gErr, h1]

theorem e_Check : V_Check = needF P [F_within, F_isSize, F_checkStage] A_Check F_Check := by kernel_rfl

theorem n_Check : Ob (needF P [F_within, F_isSize, F_checkStage] A_Check F_Check) := by
  rw [← e_Check]
  exact ⟨v_Check⟩

theorem b_Check : ((P.funcs[16]?).any fun fn => fn.body.isSome) = true := by kernel_rfl

theorem Check_ok : Fn0.Ok P F_Check := Fn0.ok named (l := [F_within, F_isSize, F_checkStage]) (A := A_Check) (by rfl) (by
  intro F h
  simp only [List.mem_cons, List.not_mem_nil, or_false] at h
  rcases h with rfl | rfl | rfl
  · exact within_ok
  · exact isSize_ok
  · exact checkStage_ok
) b_Check (by
  intro ds N
  simp only [F_Check]
  split <;> rfl) n_Check

noncomputable def F_rCheck : Fn0 := ⟨17, [.agg [.i .i64, .i .i64, .l [.i64, .i64, .i64, .i64, .i64]]], fun l => match l with | [.z base, .z most, .l R] => R.length ≤ 1000 | _ => False, fun l => match l with | [.z base, .z most, .l R] => .i .i64 (gErr base most R) | _ => .v undef⟩
noncomputable def A_rCheck : List SV → List Dat → Nat → List SV → Ann := fun xs ds n ts => match xs with
  | [.agg [_, _, .lst x _ _ _]] => match ds with
    | [.z base, .z most, .l R] => match n with
      | 8 => ⟨Nat, fun k => [none, some (SV.ptr ((0 : Nat)) ((0 : Nat))), none, some (.i .i64 k), none, none, none, none, none, none, none, none, none, none, none, none, none, none, none, none, none, none, none, none, none, none, none, none, none, none, none, none, none, none, none, none, none, none, none, none, none, none, none, none, none, none, none, none, none, none, none, none, none, none, none, none, none, none, none, none, none, none, none, none, none, none, none, none, none, none, none, none, none, none], fun k => [SObj.cells [SV.i IntKind.i64 base, SV.i IntKind.i64 most, SV.lst x R.length ((5 : Nat)) (Rv.elemOf [IntKind.i64, IntKind.i64, IntKind.i64, IntKind.i64, IntKind.i64] R)] Kd.ex], fun k => k ≤ R.length ∧ chkTo R k = 0, fun k => R.length - k, 0⟩
      | _ => noAnn
    | _ => noAnn
  | _ => noAnn

def V_rCheck : Prop :=
  ∀ (B : RW) (n n_1 : Int) (x : RV) (rows : List (List Int)), IsLst B x rows.length ((5 : Nat)) (Rv.elemOf [IntKind.i64, IntKind.i64, IntKind.i64, IntKind.i64, IntKind.i64] rows) → oneB x = true → (∀ (row : List Int), row
  ∈ rows → row.length = (5 : Nat)) → rows.length ≤ (1000 : Nat) → Ob True ∧ (¬¬inB n (-50 : Int) (400 : Int) → Ob True ∧ (¬inB n_1 (0 : Int) (2500 : Int) → Ob ((1 : Int) = gErr n n_1 rows) ∧ True) ∧ (¬¬inB n_1 (0 : Int)
  (2500 : Int) → Ob (IsLst B x rows.length ((5 : Nat)) (Rv.elemOf [IntKind.i64, IntKind.i64, IntKind.i64, IntKind.i64, IntKind.i64] rows)) ∧ ((↑rows.length : Int) = (0 : Int) → Ob ((4 : Int) = gErr n n_1 rows) ∧ True) ∧
  (¬(↑rows.length : Int) = (0 : Int) → Ob (IsLst B x rows.length ((5 : Nat)) (Rv.elemOf [IntKind.i64, IntKind.i64, IntKind.i64, IntKind.i64, IntKind.i64] rows)) ∧ ((6 : Int) < (↑rows.length : Int) → Ob ((5 : Int) = gErr n
  n_1 rows) ∧ True) ∧ (¬(6 : Int) < (↑rows.length : Int) → (∃ (a : Nat), Ob (a ≤ rows.length ∧ chkTo rows a = (0 : Int)) ∧ Ob ((0 : Int) = (↑a : Int)) ∧ Ob (n = n) ∧ Ob (n_1 = n_1) ∧ Ob (SV.lst x rows.length ((5 : Nat))
  (Rv.elemOf [IntKind.i64, IntKind.i64, IntKind.i64, IntKind.i64, IntKind.i64] rows) = SV.lst x rows.length ((5 : Nat)) (Rv.elemOf [IntKind.i64, IntKind.i64, IntKind.i64, IntKind.i64, IntKind.i64] rows)) ∧ Ob (IsLst B x
  rows.length ((5 : Nat)) (Rv.elemOf [IntKind.i64, IntKind.i64, IntKind.i64, IntKind.i64, IntKind.i64] rows)) ∧ True) ∧ ∀ (a : Nat), a ≤ rows.length ∧ chkTo rows a = (0 : Int) → ∀ (z z_1 z_2 z_3 z_4 z_5 z_6 z_7 z_8 z_9
  z_10 z_11 z_12 z_13 z_14 z_15 z_16 z_17 z_18 z_19 z_20 z_21 z_22 z_23 z_24 z_25 z_26 z_27 z_28 z_29 z_30 z_31 z_32 z_33 z_34 z_35 z_36 z_37 z_38 z_39 z_40 z_41 z_42 z_43 z_44 z_45 z_46 z_47 z_48 z_49 z_50 z_51 z_52 z_53
  z_54 z_55 z_56 z_57 z_58 z_59 z_60 z_61 z_62 z_63 z_64 z_65 z_66 z_67 z_68 z_69 z_70 z_71 : Value), Ob (IsLst B x rows.length ((5 : Nat)) (Rv.elemOf [IntKind.i64, IntKind.i64, IntKind.i64, IntKind.i64, IntKind.i64]
  rows)) ∧ ((↑a : Int) < (↑rows.length : Int) → Ob ((0 : Int) ≤ (↑a : Int) ∧ a < rows.length ∧ IsLst B x rows.length ((5 : Nat)) (Rv.elemOf [IntKind.i64, IntKind.i64, IntKind.i64, IntKind.i64, IntKind.i64] rows)) ∧ Ob
  (IsLst B x rows.length ((5 : Nat)) (Rv.elemOf [IntKind.i64, IntKind.i64, IntKind.i64, IntKind.i64, IntKind.i64] rows) ∧ a < rows.length) ∧ Ob True ∧ (¬inB (cell rows a ((0 : Nat))) (0 : Int) (2500 : Int) → Ob ((1 : Int)
  = gErr n n_1 rows) ∧ True) ∧ (¬¬inB (cell rows a ((0 : Nat))) (0 : Int) (2500 : Int) → ((↑a : Int) = (0 : Int) → (¬¬cell rows a ((0 : Nat)) = (0 : Int) → ((0 : Int) < (↑a : Int) → Ob (IsLst B x rows.length ((5 : Nat))
  (Rv.elemOf [IntKind.i64, IntKind.i64, IntKind.i64, IntKind.i64, IntKind.i64] rows)) ∧ Ob (InR IntKind.i64 ((↑a : Int) - (1 : Int))) ∧ Ob ((0 : Int) ≤ (↑a : Int) - (1 : Int) ∧ ((↑a : Int) - (1 : Int)).toNat < rows.length
  ∧ IsLst B x rows.length ((5 : Nat)) (Rv.elemOf [IntKind.i64, IntKind.i64, IntKind.i64, IntKind.i64, IntKind.i64] rows)) ∧ Ob (IsLst B x rows.length ((5 : Nat)) (Rv.elemOf [IntKind.i64, IntKind.i64, IntKind.i64,
  IntKind.i64, IntKind.i64] rows) ∧ ((↑a : Int) - (1 : Int)).toNat < rows.length) ∧ Ob (IsLst B x rows.length ((5 : Nat)) (Rv.elemOf [IntKind.i64, IntKind.i64, IntKind.i64, IntKind.i64, IntKind.i64] rows) ∧ ((↑a : Int) -
  (1 : Int)).toNat < rows.length) ∧ Ob (IsLst B x rows.length ((5 : Nat)) (Rv.elemOf [IntKind.i64, IntKind.i64, IntKind.i64, IntKind.i64, IntKind.i64] rows) ∧ ((↑a : Int) - (1 : Int)).toNat < rows.length) ∧ (cell rows a
  ((0 : Nat)) ≤ cell rows ((↑a : Int) - (1 : Int)).toNat ((0 : Nat)) → Ob ((8 : Int) = gErr n n_1 rows) ∧ True) ∧ (¬cell rows a ((0 : Nat)) ≤ cell rows ((↑a : Int) - (1 : Int)).toNat ((0 : Nat)) → Ob True ∧ Ob True ∧ Ob
  ([[spanErr (cell rows a ((1 : Nat))) (cell rows a ((2 : Nat))) (1 : Int) (100000 : Int)], [spanErr (cell rows a ((3 : Nat))) (cell rows a ((4 : Nat))) (0 : Int) (300 : Int)]].length ≤ (1000 : Nat)) ∧ (¬firstOf [[spanErr
  (cell rows a (nat_lit 1)) (cell rows a (nat_lit 2)) (1 : Int) (100000 : Int)], [spanErr (cell rows a (nat_lit 3)) (cell rows a (nat_lit 4)) (0 : Int) (300 : Int)]] = (0 : Int) → Ob (firstOf [[spanErr (cell rows a
  (nat_lit 1)) (cell rows a (nat_lit 2)) (1 : Int) (100000 : Int)], [spanErr (cell rows a (nat_lit 3)) (cell rows a (nat_lit 4)) (0 : Int) (300 : Int)]] = gErr n n_1 rows) ∧ True) ∧ (¬¬firstOf [[spanErr (cell rows a
  (nat_lit 1)) (cell rows a (nat_lit 2)) (1 : Int) (100000 : Int)], [spanErr (cell rows a (nat_lit 3)) (cell rows a (nat_lit 4)) (0 : Int) (300 : Int)]] = (0 : Int) → Ob (InR IntKind.i64 ((↑a : Int) + (1 : Int))) ∧ ∃ (a' :
  Nat), Ob ((a' ≤ rows.length ∧ chkTo rows a' = (0 : Int)) ∧ rows.length - a' < rows.length - a) ∧ Ob ((↑a : Int) + (1 : Int) = (↑a' : Int)) ∧ Ob (n = n) ∧ Ob (n_1 = n_1) ∧ Ob (SV.lst x rows.length (nat_lit 5) (Rv.elemOf
  [IntKind.i64, IntKind.i64, IntKind.i64, IntKind.i64, IntKind.i64] rows) = SV.lst x rows.length (nat_lit 5) (Rv.elemOf [IntKind.i64, IntKind.i64, IntKind.i64, IntKind.i64, IntKind.i64] rows)) ∧ Ob (IsLst B x rows.length
  (nat_lit 5) (Rv.elemOf [IntKind.i64, IntKind.i64, IntKind.i64, IntKind.i64, IntKind.i64] rows)) ∧ True))) ∧ (¬(0 : Int) < (↑a : Int) → Ob True ∧ Ob True ∧ Ob ([[spanErr (cell rows a ((1 : Nat))) (cell rows a ((2 : Nat)))
  (1 : Int) (100000 : Int)], [spanErr (cell rows a ((3 : Nat))) (cell rows a ((4 : Nat))) (0 : Int) (300 : Int)]].length ≤ (1000 : Nat)) ∧ (¬firstOf [[spanErr (cell rows a ((1 : Nat))) (cell rows a ((2 : Nat))) (1 : Int)
  (100000 : Int)], [spanErr (cell rows a ((3 : Nat))) (cell rows a ((4 : Nat))) (0 : Int) (300 : Int)]] = (0 : Int) → Ob (firstOf [[spanErr (cell rows a ((1 : Nat))) (cell rows a ((2 : Nat))) (1 : Int) (100000 : Int)],
  [spanErr (cell rows a ((3 : Nat))) (cell rows a ((4 : Nat))) (0 : Int) (300 : Int)]] = gErr n n_1 rows) ∧ True) ∧ (¬¬firstOf [[spanErr (cell rows a ((1 : Nat))) (cell rows a ((2 : Nat))) (1 : Int) (100000 : Int)],
  [spanErr (cell rows a ((3 : Nat))) (cell rows a ((4 : Nat))) (0 : Int) (300 : Int)]] = (0 : Int) → Ob (InR IntKind.i64 ((↑a : Int) + (1 : Int))) ∧ ∃ (a' : Nat), Ob ((a' ≤ rows.length ∧ chkTo rows a' = (0 : Int)) ∧
  rows.length - a' < rows.length - a) ∧ Ob ((↑a : Int) + (1 : Int) = (↑a' : Int)) ∧ Ob (n = n) ∧ Ob (n_1 = n_1) ∧ Ob (SV.lst x rows.length ((5 : Nat)) (Rv.elemOf [IntKind.i64, IntKind.i64, IntKind.i64, IntKind.i64,
  IntKind.i64] rows) = SV.lst x rows.length ((5 : Nat)) (Rv.elemOf [IntKind.i64, IntKind.i64, IntKind.i64, IntKind.i64, IntKind.i64] rows)) ∧ Ob (IsLst B x rows.length ((5 : Nat)) (Rv.elemOf [IntKind.i64, IntKind.i64,
  IntKind.i64, IntKind.i64, IntKind.i64] rows)) ∧ True))) ∧ (¬cell rows a ((0 : Nat)) = (0 : Int) → Ob ((8 : Int) = gErr n n_1 rows) ∧ True)) ∧ (¬(↑a : Int) = (0 : Int) → ((0 : Int) < (↑a : Int) → Ob (IsLst B x rows.length
  ((5 : Nat)) (Rv.elemOf [IntKind.i64, IntKind.i64, IntKind.i64, IntKind.i64, IntKind.i64] rows)) ∧ Ob (InR IntKind.i64 ((↑a : Int) - (1 : Int))) ∧ Ob ((0 : Int) ≤ (↑a : Int) - (1 : Int) ∧ ((↑a : Int) - (1 : Int)).toNat <
  rows.length ∧ IsLst B x rows.length ((5 : Nat)) (Rv.elemOf [IntKind.i64, IntKind.i64, IntKind.i64, IntKind.i64, IntKind.i64] rows)) ∧ Ob (IsLst B x rows.length ((5 : Nat)) (Rv.elemOf [IntKind.i64, IntKind.i64,
  IntKind.i64, IntKind.i64, IntKind.i64] rows) ∧ ((↑a : Int) - (1 : Int)).toNat < rows.length) ∧ Ob (IsLst B x rows.length ((5 : Nat)) (Rv.elemOf [IntKind.i64, IntKind.i64, IntKind.i64, IntKind.i64, IntKind.i64] rows) ∧
  ((↑a : Int) - (1 : Int)).toNat < rows.length) ∧ Ob (IsLst B x rows.length ((5 : Nat)) (Rv.elemOf [IntKind.i64, IntKind.i64, IntKind.i64, IntKind.i64, IntKind.i64] rows) ∧ ((↑a : Int) - (1 : Int)).toNat < rows.length) ∧
  (cell rows a ((0 : Nat)) ≤ cell rows ((↑a : Int) - (1 : Int)).toNat ((0 : Nat)) → Ob ((8 : Int) = gErr n n_1 rows) ∧ True) ∧ (¬cell rows a ((0 : Nat)) ≤ cell rows ((↑a : Int) - (1 : Int)).toNat ((0 : Nat)) → Ob True ∧ Ob
  True ∧ Ob ([[spanErr (cell rows a ((1 : Nat))) (cell rows a ((2 : Nat))) (1 : Int) (100000 : Int)], [spanErr (cell rows a ((3 : Nat))) (cell rows a ((4 : Nat))) (0 : Int) (300 : Int)]].length ≤ (1000 : Nat)) ∧ (¬firstOf
  [[spanErr (cell rows a ((1 : Nat))) (cell rows a ((2 : Nat))) (1 : Int) (100000 : Int)], [spanErr (cell rows a ((3 : Nat))) (cell rows a ((4 : Nat))) (0 : Int) (300 : Int)]] = (0 : Int) → Ob (firstOf [[spanErr (cell rows
  a ((1 : Nat))) (cell rows a ((2 : Nat))) (1 : Int) (100000 : Int)], [spanErr (cell rows a ((3 : Nat))) (cell rows a ((4 : Nat))) (0 : Int) (300 : Int)]] = gErr n n_1 rows) ∧ True) ∧ (¬¬firstOf [[spanErr (cell rows a ((1
  : Nat))) (cell rows a ((2 : Nat))) (1 : Int) (100000 : Int)], [spanErr (cell rows a ((3 : Nat))) (cell rows a ((4 : Nat))) (0 : Int) (300 : Int)]] = (0 : Int) → Ob (InR IntKind.i64 ((↑a : Int) + (1 : Int))) ∧ ∃ (a' :
  Nat), Ob ((a' ≤ rows.length ∧ chkTo rows a' = (0 : Int)) ∧ rows.length - a' < rows.length - a) ∧ Ob ((↑a : Int) + (1 : Int) = (↑a' : Int)) ∧ Ob (n = n) ∧ Ob (n_1 = n_1) ∧ Ob (SV.lst x rows.length (nat_lit 5) (Rv.elemOf
  [IntKind.i64, IntKind.i64, IntKind.i64, IntKind.i64, IntKind.i64] rows) = SV.lst x rows.length (nat_lit 5) (Rv.elemOf [IntKind.i64, IntKind.i64, IntKind.i64, IntKind.i64, IntKind.i64] rows)) ∧ Ob (IsLst B x rows.length
  (nat_lit 5) (Rv.elemOf [IntKind.i64, IntKind.i64, IntKind.i64, IntKind.i64, IntKind.i64] rows)) ∧ True))) ∧ (¬(0 : Int) < (↑a : Int) → Ob True ∧ Ob True ∧ Ob ([[spanErr (cell rows a ((1 : Nat))) (cell rows a ((2 : Nat)))
  (1 : Int) (100000 : Int)], [spanErr (cell rows a ((3 : Nat))) (cell rows a ((4 : Nat))) (0 : Int) (300 : Int)]].length ≤ (1000 : Nat)) ∧ (¬firstOf [[spanErr (cell rows a ((1 : Nat))) (cell rows a ((2 : Nat))) (1 : Int)
  (100000 : Int)], [spanErr (cell rows a ((3 : Nat))) (cell rows a ((4 : Nat))) (0 : Int) (300 : Int)]] = (0 : Int) → Ob (firstOf [[spanErr (cell rows a ((1 : Nat))) (cell rows a ((2 : Nat))) (1 : Int) (100000 : Int)],
  [spanErr (cell rows a ((3 : Nat))) (cell rows a ((4 : Nat))) (0 : Int) (300 : Int)]] = gErr n n_1 rows) ∧ True) ∧ (¬¬firstOf [[spanErr (cell rows a ((1 : Nat))) (cell rows a ((2 : Nat))) (1 : Int) (100000 : Int)],
  [spanErr (cell rows a ((3 : Nat))) (cell rows a ((4 : Nat))) (0 : Int) (300 : Int)]] = (0 : Int) → Ob (InR IntKind.i64 ((↑a : Int) + (1 : Int))) ∧ ∃ (a' : Nat), Ob ((a' ≤ rows.length ∧ chkTo rows a' = (0 : Int)) ∧
  rows.length - a' < rows.length - a) ∧ Ob ((↑a : Int) + (1 : Int) = (↑a' : Int)) ∧ Ob (n = n) ∧ Ob (n_1 = n_1) ∧ Ob (SV.lst x rows.length ((5 : Nat)) (Rv.elemOf [IntKind.i64, IntKind.i64, IntKind.i64, IntKind.i64,
  IntKind.i64] rows) = SV.lst x rows.length ((5 : Nat)) (Rv.elemOf [IntKind.i64, IntKind.i64, IntKind.i64, IntKind.i64, IntKind.i64] rows)) ∧ Ob (IsLst B x rows.length ((5 : Nat)) (Rv.elemOf [IntKind.i64, IntKind.i64,
  IntKind.i64, IntKind.i64, IntKind.i64] rows)) ∧ True))))) ∧ (¬(↑a : Int) < (↑rows.length : Int) → Ob ((0 : Int) = gErr n n_1 rows) ∧ True))))) ∧ (¬inB n (-50 : Int) (400 : Int) → Ob ((1 : Int) = gErr n n_1 rows) ∧ True)

set_option linter.unusedSimpArgs false in
set_option maxRecDepth 4000 in
set_option maxHeartbeats 400000 in
theorem v_rCheck : V_rCheck := by
  unfold V_rCheck
  intro B base most x R hx hox hrx hR
  simp only [Ob_iff, and_true, true_and, InR]
  refine ⟨fun h1 => ⟨fun h2 => ?_, fun h2 => ⟨hx, fun h3 => ?_, fun h3 => ⟨hx, fun h4 => ?_, fun h4 => ⟨?_, ?_⟩⟩⟩⟩, fun h1 => ?_⟩
  · simp [gErr, h2]
  · have h3' : R.length = 0 := by omega
    simp [gErr, Classical.not_not.1 h1, Classical.not_not.1 h2, h3']
  · have h3' : ¬ R.length = 0 := by omega
    have h4' : 6 < R.length := by omega
    simp [gErr, Classical.not_not.1 h1, Classical.not_not.1 h2, h3', h4']
  · exact ⟨0, ⟨by omega, rfl⟩, by omega, hx⟩
  · have h3' : ¬ R.length = 0 := by omega
    have h4' : ¬ 6 < R.length := by omega
    have hg : gErr base most R = chkTo R R.length := by simp [gErr, Classical.not_not.1 h1, Classical.not_not.1 h2, h3', h4']
    rw [hg]
    intro k ⟨hk, hc⟩
    intros
    have e0 : (if True then (0 : Int) else 0) = 0 := rfl
    have hk1 : ((k : Int) - 1).toNat = k - 1 := by omega
    have hstop : k < R.length → ¬ stErr R k = 0 → chkTo R R.length = stErr R k := fun h h2 => chk_stop h2 hc _ h
    have hnext : stErr R k = 0 → chkTo R (k + 1) = 0 := fun h => by simp [chkTo, hc, h]
    have hend : k = R.length → chkTo R R.length = 0 := fun h => by rw [← h]; exact hc
    have hf : ∀ s t : Int, firstOf [[s], [t]] = if s = 0 then t else s := fun s t => by
      simp only [firstOf, List.getD_cons_zero]
      split
      · split <;> simp_all
      · rfl
    simp only [hk1, hf]
    clear hf hg h1 h2
    generalize chkTo R R.length = c at *
    generalize he : stErr R k = e at *
    unfold stErr at he
    generalize inB (cell R k 0) 0 2500 = p at *
    generalize spanErr (cell R k 1) (cell R k 2) 1 100000 = s1 at *
    generalize spanErr (cell R k 3) (cell R k 4) 0 300 = s3 at *
    generalize cell R k 0 = a at *
    generalize cell R (k - 1) 0 = b at *
    refine ⟨hx, ?_⟩
    repeat' (first | apply And.intro | intro _)
    all_goals first | exact hx | omega | exact ⟨k + 1, ⟨⟨by omega, hnext (by grind)⟩, by omega⟩, by omega, hx⟩ | grind
  · simp [gErr, h1]

theorem e_rCheck : V_rCheck = needF P [F_rwithin, F_rcheckSpan, F_rfirst] A_rCheck F_rCheck := by kernel_rfl

theorem n_rCheck : Ob (needF P [F_rwithin, F_rcheckSpan, F_rfirst] A_rCheck F_rCheck) := by
  rw [← e_rCheck]
  exact ⟨v_rCheck⟩

theorem b_rCheck : ((P.funcs[17]?).any fun fn => fn.body.isSome) = true := by kernel_rfl

theorem rCheck_ok : Fn0.Ok P F_rCheck := Fn0.ok named (l := [F_rwithin, F_rcheckSpan, F_rfirst]) (A := A_rCheck) (by rfl) (by
  intro F h
  simp only [List.mem_cons, List.not_mem_nil, or_false] at h
  rcases h with rfl | rfl | rfl
  · exact rwithin_ok
  · exact rcheckSpan_ok
  · exact rfirst_ok
) b_rCheck (by
  intro ds N
  simp only [F_rCheck]
  split <;> rfl) n_rCheck

noncomputable def F_rcheckDays : Fn0 := ⟨36, [.one (.l [.i64, .i64])], fun l => match l with | [.l D] => D.length ≤ 1000 | _ => False, fun l => match l with | [.l D] => .i .i64 (daysErr D) | _ => .v undef⟩
noncomputable def A_rcheckDays : List SV → List Dat → Nat → List SV → Ann := fun xs ds n ts => match xs with
  | [.lst x _ _ _] => match ds with
    | [.l D] => match n with
      | 4 => ⟨Nat, fun k => [some (SV.lst x D.length ((2 : Nat)) (Rv.elemOf [IntKind.i64, IntKind.i64] D)), none, none, some (.i .i64 k), none, none, none, none, none, none, none, none, none, none, none, none, none, none, none, none, none, none], fun k => [], fun k => k ≤ D.length ∧ dayTo D k = 0, fun k => D.length - k, 0⟩
      | _ => noAnn
    | _ => noAnn
  | _ => noAnn

def V_rcheckDays : Prop :=
  ∀ (B : RW) (x : RV) (rows : List (List Int)), IsLst B x rows.length ((2 : Nat)) (Rv.elemOf [IntKind.i64, IntKind.i64] rows) → oneB x = true → (∀ (row : List Int), row ∈ rows → row.length = (2 : Nat)) → rows.length ≤
  (1000 : Nat) → Ob (IsLst B x rows.length ((2 : Nat)) (Rv.elemOf [IntKind.i64, IntKind.i64] rows)) ∧ ((400 : Int) < (↑rows.length : Int) → Ob ((5 : Int) = daysErr rows) ∧ True) ∧ (¬(400 : Int) < (↑rows.length : Int) → (∃
  (a : Nat), Ob (a ≤ rows.length ∧ dayTo rows a = (0 : Int)) ∧ Ob (SV.lst x rows.length ((2 : Nat)) (Rv.elemOf [IntKind.i64, IntKind.i64] rows) = SV.lst x rows.length ((2 : Nat)) (Rv.elemOf [IntKind.i64, IntKind.i64]
  rows)) ∧ Ob ((0 : Int) = (↑a : Int)) ∧ Ob (IsLst B x rows.length ((2 : Nat)) (Rv.elemOf [IntKind.i64, IntKind.i64] rows)) ∧ True) ∧ ∀ (a : Nat), a ≤ rows.length ∧ dayTo rows a = (0 : Int) → ∀ (z z_1 z_2 z_3 z_4 z_5 z_6
  z_7 z_8 z_9 z_10 z_11 z_12 z_13 z_14 z_15 z_16 z_17 z_18 z_19 : Value), Ob (IsLst B x rows.length ((2 : Nat)) (Rv.elemOf [IntKind.i64, IntKind.i64] rows)) ∧ ((↑a : Int) < (↑rows.length : Int) → Ob ((0 : Int) ≤ (↑a : Int)
  ∧ a < rows.length ∧ IsLst B x rows.length ((2 : Nat)) (Rv.elemOf [IntKind.i64, IntKind.i64] rows)) ∧ Ob (IsLst B x rows.length ((2 : Nat)) (Rv.elemOf [IntKind.i64, IntKind.i64] rows) ∧ a < rows.length) ∧ Ob True ∧
  (¬spanErr (cell rows a ((0 : Nat))) (cell rows a ((1 : Nat))) (-50 : Int) (400 : Int) = (0 : Int) → Ob (spanErr (cell rows a ((0 : Nat))) (cell rows a ((1 : Nat))) (-50 : Int) (400 : Int) = daysErr rows) ∧ True) ∧
  (¬¬spanErr (cell rows a ((0 : Nat))) (cell rows a ((1 : Nat))) (-50 : Int) (400 : Int) = (0 : Int) → Ob (InR IntKind.i64 ((↑a : Int) + (1 : Int))) ∧ ∃ (a' : Nat), Ob ((a' ≤ rows.length ∧ dayTo rows a' = (0 : Int)) ∧
  rows.length - a' < rows.length - a) ∧ Ob (SV.lst x rows.length ((2 : Nat)) (Rv.elemOf [IntKind.i64, IntKind.i64] rows) = SV.lst x rows.length ((2 : Nat)) (Rv.elemOf [IntKind.i64, IntKind.i64] rows)) ∧ Ob ((↑a : Int) + (1
  : Int) = (↑a' : Int)) ∧ Ob (IsLst B x rows.length ((2 : Nat)) (Rv.elemOf [IntKind.i64, IntKind.i64] rows)) ∧ True)) ∧ (¬(↑a : Int) < (↑rows.length : Int) → Ob ((0 : Int) = daysErr rows) ∧ True))

set_option linter.unusedSimpArgs false in
set_option maxRecDepth 4000 in
set_option maxHeartbeats 400000 in
theorem v_rcheckDays : V_rcheckDays := by
  unfold V_rcheckDays
  intro B x D hx hox hrx hD
  simp only [Ob_iff, and_true, true_and, InR]
  refine ⟨hx, fun h1 => ?_, fun h1 => ⟨⟨0, ⟨by omega, rfl⟩, by omega, hx⟩, ?_⟩⟩
  · have h1' : 400 < D.length := by omega
    simp [daysErr, h1']
  have h1' : ¬ 400 < D.length := by omega
  have hg : daysErr D = dayTo D D.length := by simp [daysErr, h1']
  rw [hg]
  intro k ⟨hk, hc⟩
  intros
  refine ⟨hx, fun h5 => ⟨⟨by omega, by omega, hx⟩, ⟨hx, by omega⟩, fun h6 => ?_, fun h6 => ⟨by omega, k + 1, ⟨⟨by omega, ?_⟩, by omega⟩, by omega, hx⟩⟩, fun h5 => ?_⟩
  · exact (day_stop h6 hc _ (by omega)).symm
  · simp [dayTo, hc, Classical.not_not.1 h6]
  · have e : k = D.length := by omega
    subst e
    exact hc.symm

theorem e_rcheckDays : V_rcheckDays = needF P [F_rcheckSpan] A_rcheckDays F_rcheckDays := by kernel_rfl

theorem n_rcheckDays : Ob (needF P [F_rcheckSpan] A_rcheckDays F_rcheckDays) := by
  rw [← e_rcheckDays]
  exact ⟨v_rcheckDays⟩

theorem b_rcheckDays : ((P.funcs[36]?).any fun fn => fn.body.isSome) = true := by kernel_rfl

theorem rcheckDays_ok : Fn0.Ok P F_rcheckDays := Fn0.ok named (l := [F_rcheckSpan]) (A := A_rcheckDays) (by rfl) (by
  intro F h
  simp only [List.mem_cons, List.not_mem_nil, or_false] at h
  rcases h with rfl
  · exact rcheckSpan_ok
) b_rcheckDays (by
  intro ds N
  simp only [F_rcheckDays]
  split <;> rfl) n_rcheckDays

noncomputable def F_SameGrowths : Fn0 := ⟨18, [.agg [.i .i64, .i .i64, .l [.i64, .i64, .i64, .i64, .i64]], .agg [.i .i64, .i .i64, .l [.i64, .i64, .i64, .i64, .i64]]], fun l => match l with | [.z a, .z b, .l R, .z c, .z d, .l S] => R.length ≤ 1000 ∧ S.length ≤ 1000 | _ => False, fun l => match l with | [.z a, .z b, .l R, .z c, .z d, .l S] => .p (sameG a b R c d S) | _ => .v undef⟩
noncomputable def A_SameGrowths : List SV → List Dat → Nat → List SV → Ann := fun xs ds n ts => match xs with
  | [.agg [_, _, .lst x _ _ _], .agg [_, _, .lst y _ _ _]] => match ds with
    | [.z a, .z b, .l R, .z c, .z d, .l S] => match n with
      | 3 => ⟨Nat, fun k => [none, none, some (SV.ptr ((0 : Nat)) ((0 : Nat))), some (SV.ptr ((1 : Nat)) ((0 : Nat))), some (SV.v (Value.bool false)), some (.p (sameGTo a b R c d S k)), some (.i .i64 k), none, none, none, none, none, none, none, none, none, none, none, none, none, none, none, none, none, none, none, none, none, none, none, none, none, none, none, none, none, none, none, none, none, none, none, none, none, none, none, none, none, none, none], fun k => [SObj.cells [SV.i IntKind.i64 c, SV.i IntKind.i64 d, SV.lst y S.length ((5 : Nat)) (Rv.elemOf [IntKind.i64, IntKind.i64, IntKind.i64, IntKind.i64, IntKind.i64] S)] Kd.ex, SObj.cells [SV.i IntKind.i64 a, SV.i IntKind.i64 b, SV.lst x R.length ((5 : Nat)) (Rv.elemOf [IntKind.i64, IntKind.i64, IntKind.i64, IntKind.i64, IntKind.i64] R)] Kd.ex], fun k => k ≤ R.length, fun k => R.length - k, 0⟩
      | _ => noAnn
    | _ => noAnn
  | _ => noAnn

def V_SameGrowths : Prop :=
  ∀ (B : RW) (n n_1 : Int) (x : RV) (rows : List (List Int)), IsLst B x rows.length ((5 : Nat)) (Rv.elemOf [IntKind.i64, IntKind.i64, IntKind.i64, IntKind.i64, IntKind.i64] rows) → oneB x = true → (∀ (row : List Int), row
  ∈ rows → row.length = (5 : Nat)) → ∀ (n_2 n_3 : Int) (x_1 : RV) (rows_1 : List (List Int)), IsLst B x_1 rows_1.length ((5 : Nat)) (Rv.elemOf [IntKind.i64, IntKind.i64, IntKind.i64, IntKind.i64, IntKind.i64] rows_1) →
  oneB x_1 = true → (∀ (row : List Int), row ∈ rows_1 → row.length = (5 : Nat)) → rows.length ≤ (1000 : Nat) ∧ rows_1.length ≤ (1000 : Nat) → (n = n_2 → (n_1 = n_3 → Ob (IsLst B x rows.length ((5 : Nat)) (Rv.elemOf
  [IntKind.i64, IntKind.i64, IntKind.i64, IntKind.i64, IntKind.i64] rows)) ∧ Ob (IsLst B x_1 rows_1.length ((5 : Nat)) (Rv.elemOf [IntKind.i64, IntKind.i64, IntKind.i64, IntKind.i64, IntKind.i64] rows_1)) ∧ (∃ (a : Nat),
  Ob (a ≤ rows.length) ∧ Ob (SV.v (Value.bool false) = SV.v (Value.bool false)) ∧ Ob ((↑rows.length : Int) = (↑rows_1.length : Int) ↔ sameGTo n n_1 rows n_2 n_3 rows_1 a) ∧ Ob ((0 : Int) = (↑a : Int)) ∧ Ob (n_2 = n_2) ∧ Ob
  (n_3 = n_3) ∧ Ob (SV.lst x_1 rows_1.length ((5 : Nat)) (Rv.elemOf [IntKind.i64, IntKind.i64, IntKind.i64, IntKind.i64, IntKind.i64] rows_1) = SV.lst x_1 rows_1.length ((5 : Nat)) (Rv.elemOf [IntKind.i64, IntKind.i64,
  IntKind.i64, IntKind.i64, IntKind.i64] rows_1)) ∧ Ob (n = n) ∧ Ob (n_1 = n_1) ∧ Ob (SV.lst x rows.length ((5 : Nat)) (Rv.elemOf [IntKind.i64, IntKind.i64, IntKind.i64, IntKind.i64, IntKind.i64] rows) = SV.lst x
  rows.length ((5 : Nat)) (Rv.elemOf [IntKind.i64, IntKind.i64, IntKind.i64, IntKind.i64, IntKind.i64] rows)) ∧ Ob (IsLst B x_1 rows_1.length ((5 : Nat)) (Rv.elemOf [IntKind.i64, IntKind.i64, IntKind.i64, IntKind.i64,
  IntKind.i64] rows_1)) ∧ Ob (IsLst B x rows.length ((5 : Nat)) (Rv.elemOf [IntKind.i64, IntKind.i64, IntKind.i64, IntKind.i64, IntKind.i64] rows)) ∧ True) ∧ ∀ (a : Nat), a ≤ rows.length → ∀ (z z_1 z_2 z_3 z_4 z_5 z_6 z_7
  z_8 z_9 z_10 z_11 z_12 z_13 z_14 z_15 z_16 z_17 z_18 z_19 z_20 z_21 z_22 z_23 z_24 z_25 z_26 z_27 z_28 z_29 z_30 z_31 z_32 z_33 z_34 z_35 z_36 z_37 z_38 z_39 z_40 z_41 z_42 z_43 z_44 : Value), (sameGTo n n_1 rows n_2 n_3
  rows_1 a → Ob (IsLst B x rows.length ((5 : Nat)) (Rv.elemOf [IntKind.i64, IntKind.i64, IntKind.i64, IntKind.i64, IntKind.i64] rows)) ∧ ((↑a : Int) < (↑rows.length : Int) → Ob (IsLst B x rows.length ((5 : Nat)) (Rv.elemOf
  [IntKind.i64, IntKind.i64, IntKind.i64, IntKind.i64, IntKind.i64] rows)) ∧ Ob ((0 : Int) ≤ (↑a : Int) ∧ a < rows.length ∧ IsLst B x rows.length ((5 : Nat)) (Rv.elemOf [IntKind.i64, IntKind.i64, IntKind.i64, IntKind.i64,
  IntKind.i64] rows)) ∧ Ob (IsLst B x rows.length ((5 : Nat)) (Rv.elemOf [IntKind.i64, IntKind.i64, IntKind.i64, IntKind.i64, IntKind.i64] rows) ∧ a < rows.length) ∧ Ob (IsLst B x rows.length ((5 : Nat)) (Rv.elemOf
  [IntKind.i64, IntKind.i64, IntKind.i64, IntKind.i64, IntKind.i64] rows) ∧ a < rows.length) ∧ Ob (IsLst B x_1 rows_1.length ((5 : Nat)) (Rv.elemOf [IntKind.i64, IntKind.i64, IntKind.i64, IntKind.i64, IntKind.i64] rows_1))
  ∧ Ob ((0 : Int) ≤ (↑a : Int) ∧ a < rows_1.length ∧ IsLst B x_1 rows_1.length ((5 : Nat)) (Rv.elemOf [IntKind.i64, IntKind.i64, IntKind.i64, IntKind.i64, IntKind.i64] rows_1)) ∧ Ob (IsLst B x_1 rows_1.length ((5 : Nat))
  (Rv.elemOf [IntKind.i64, IntKind.i64, IntKind.i64, IntKind.i64, IntKind.i64] rows_1) ∧ a < rows_1.length) ∧ Ob (IsLst B x_1 rows_1.length ((5 : Nat)) (Rv.elemOf [IntKind.i64, IntKind.i64, IntKind.i64, IntKind.i64,
  IntKind.i64] rows_1) ∧ a < rows_1.length) ∧ Ob (InR IntKind.i64 ((↑a : Int) + (1 : Int))) ∧ ∃ (a' : Nat), Ob (a' ≤ rows.length ∧ rows.length - a' < rows.length - a) ∧ Ob (SV.v (Value.bool false) = SV.v (Value.bool
  false)) ∧ Ob (cell rows a ((0 : Nat)) = cell rows_1 a ((0 : Nat)) ∧ cell rows a ((1 : Nat)) = cell rows_1 a ((1 : Nat)) ∧ cell rows a ((2 : Nat)) = cell rows_1 a ((2 : Nat)) ∧ cell rows a ((3 : Nat)) = cell rows_1 a ((3
  : Nat)) ∧ cell rows a ((4 : Nat)) = cell rows_1 a ((4 : Nat)) ∧ True ↔ sameGTo n n_1 rows n_2 n_3 rows_1 a') ∧ Ob ((↑a : Int) + (1 : Int) = (↑a' : Int)) ∧ Ob (n_2 = n_2) ∧ Ob (n_3 = n_3) ∧ Ob (SV.lst x_1 rows_1.length
  ((5 : Nat)) (Rv.elemOf [IntKind.i64, IntKind.i64, IntKind.i64, IntKind.i64, IntKind.i64] rows_1) = SV.lst x_1 rows_1.length ((5 : Nat)) (Rv.elemOf [IntKind.i64, IntKind.i64, IntKind.i64, IntKind.i64, IntKind.i64]
  rows_1)) ∧ Ob (n = n) ∧ Ob (n_1 = n_1) ∧ Ob (SV.lst x rows.length ((5 : Nat)) (Rv.elemOf [IntKind.i64, IntKind.i64, IntKind.i64, IntKind.i64, IntKind.i64] rows) = SV.lst x rows.length ((5 : Nat)) (Rv.elemOf [IntKind.i64,
  IntKind.i64, IntKind.i64, IntKind.i64, IntKind.i64] rows)) ∧ Ob (IsLst B x_1 rows_1.length ((5 : Nat)) (Rv.elemOf [IntKind.i64, IntKind.i64, IntKind.i64, IntKind.i64, IntKind.i64] rows_1)) ∧ Ob (IsLst B x rows.length ((5
  : Nat)) (Rv.elemOf [IntKind.i64, IntKind.i64, IntKind.i64, IntKind.i64, IntKind.i64] rows)) ∧ True) ∧ (¬(↑a : Int) < (↑rows.length : Int) → Ob (sameGTo n n_1 rows n_2 n_3 rows_1 a ↔ sameG n n_1 rows n_2 n_3 rows_1) ∧
  True)) ∧ (¬sameGTo n n_1 rows n_2 n_3 rows_1 a → Ob (sameGTo n n_1 rows n_2 n_3 rows_1 a ↔ sameG n n_1 rows n_2 n_3 rows_1) ∧ True)) ∧ (¬n_1 = n_3 → (∃ (a : Nat), Ob (a ≤ rows.length) ∧ Ob (SV.v (Value.bool false) = SV.v
  (Value.bool false)) ∧ Ob (false = true ↔ sameGTo n n_1 rows n_2 n_3 rows_1 a) ∧ Ob ((0 : Int) = (↑a : Int)) ∧ Ob (n_2 = n_2) ∧ Ob (n_3 = n_3) ∧ Ob (SV.lst x_1 rows_1.length ((5 : Nat)) (Rv.elemOf [IntKind.i64,
  IntKind.i64, IntKind.i64, IntKind.i64, IntKind.i64] rows_1) = SV.lst x_1 rows_1.length ((5 : Nat)) (Rv.elemOf [IntKind.i64, IntKind.i64, IntKind.i64, IntKind.i64, IntKind.i64] rows_1)) ∧ Ob (n = n) ∧ Ob (n_1 = n_1) ∧ Ob
  (SV.lst x rows.length ((5 : Nat)) (Rv.elemOf [IntKind.i64, IntKind.i64, IntKind.i64, IntKind.i64, IntKind.i64] rows) = SV.lst x rows.length ((5 : Nat)) (Rv.elemOf [IntKind.i64, IntKind.i64, IntKind.i64, IntKind.i64,
  IntKind.i64] rows)) ∧ Ob (IsLst B x_1 rows_1.length ((5 : Nat)) (Rv.elemOf [IntKind.i64, IntKind.i64, IntKind.i64, IntKind.i64, IntKind.i64] rows_1)) ∧ Ob (IsLst B x rows.length ((5 : Nat)) (Rv.elemOf [IntKind.i64,
  IntKind.i64, IntKind.i64, IntKind.i64, IntKind.i64] rows)) ∧ True) ∧ ∀ (a : Nat), a ≤ rows.length → ∀ (z z_1 z_2 z_3 z_4 z_5 z_6 z_7 z_8 z_9 z_10 z_11 z_12 z_13 z_14 z_15 z_16 z_17 z_18 z_19 z_20 z_21 z_22 z_23 z_24 z_25
  z_26 z_27 z_28 z_29 z_30 z_31 z_32 z_33 z_34 z_35 z_36 z_37 z_38 z_39 z_40 z_41 z_42 z_43 z_44 : Value), (sameGTo n n_1 rows n_2 n_3 rows_1 a → Ob (IsLst B x rows.length ((5 : Nat)) (Rv.elemOf [IntKind.i64, IntKind.i64,
  IntKind.i64, IntKind.i64, IntKind.i64] rows)) ∧ ((↑a : Int) < (↑rows.length : Int) → Ob (IsLst B x rows.length ((5 : Nat)) (Rv.elemOf [IntKind.i64, IntKind.i64, IntKind.i64, IntKind.i64, IntKind.i64] rows)) ∧ Ob ((0 :
  Int) ≤ (↑a : Int) ∧ a < rows.length ∧ IsLst B x rows.length ((5 : Nat)) (Rv.elemOf [IntKind.i64, IntKind.i64, IntKind.i64, IntKind.i64, IntKind.i64] rows)) ∧ Ob (IsLst B x rows.length ((5 : Nat)) (Rv.elemOf [IntKind.i64,
  IntKind.i64, IntKind.i64, IntKind.i64, IntKind.i64] rows) ∧ a < rows.length) ∧ Ob (IsLst B x rows.length ((5 : Nat)) (Rv.elemOf [IntKind.i64, IntKind.i64, IntKind.i64, IntKind.i64, IntKind.i64] rows) ∧ a < rows.length) ∧
  Ob (IsLst B x_1 rows_1.length ((5 : Nat)) (Rv.elemOf [IntKind.i64, IntKind.i64, IntKind.i64, IntKind.i64, IntKind.i64] rows_1)) ∧ Ob ((0 : Int) ≤ (↑a : Int) ∧ a < rows_1.length ∧ IsLst B x_1 rows_1.length ((5 : Nat))
  (Rv.elemOf [IntKind.i64, IntKind.i64, IntKind.i64, IntKind.i64, IntKind.i64] rows_1)) ∧ Ob (IsLst B x_1 rows_1.length ((5 : Nat)) (Rv.elemOf [IntKind.i64, IntKind.i64, IntKind.i64, IntKind.i64, IntKind.i64] rows_1) ∧ a <
  rows_1.length) ∧ Ob (IsLst B x_1 rows_1.length ((5 : Nat)) (Rv.elemOf [IntKind.i64, IntKind.i64, IntKind.i64, IntKind.i64, IntKind.i64] rows_1) ∧ a < rows_1.length) ∧ Ob (InR IntKind.i64 ((↑a : Int) + (1 : Int))) ∧ ∃ (a'
  : Nat), Ob (a' ≤ rows.length ∧ rows.length - a' < rows.length - a) ∧ Ob (SV.v (Value.bool false) = SV.v (Value.bool false)) ∧ Ob (cell rows a ((0 : Nat)) = cell rows_1 a ((0 : Nat)) ∧ cell rows a ((1 : Nat)) = cell
  rows_1 a ((1 : Nat)) ∧ cell rows a ((2 : Nat)) = cell rows_1 a ((2 : Nat)) ∧ cell rows a ((3 : Nat)) = cell rows_1 a ((3 : Nat)) ∧ cell rows a ((4 : Nat)) = cell rows_1 a ((4 : Nat)) ∧ True ↔ sameGTo n n_1 rows n_2 n_3
  rows_1 a') ∧ Ob ((↑a : Int) + (1 : Int) = (↑a' : Int)) ∧ Ob (n_2 = n_2) ∧ Ob (n_3 = n_3) ∧ Ob (SV.lst x_1 rows_1.length ((5 : Nat)) (Rv.elemOf [IntKind.i64, IntKind.i64, IntKind.i64, IntKind.i64, IntKind.i64] rows_1) =
  SV.lst x_1 rows_1.length ((5 : Nat)) (Rv.elemOf [IntKind.i64, IntKind.i64, IntKind.i64, IntKind.i64, IntKind.i64] rows_1)) ∧ Ob (n = n) ∧ Ob (n_1 = n_1) ∧ Ob (SV.lst x rows.length ((5 : Nat)) (Rv.elemOf [IntKind.i64,
  IntKind.i64, IntKind.i64, IntKind.i64, IntKind.i64] rows) = SV.lst x rows.length ((5 : Nat)) (Rv.elemOf [IntKind.i64, IntKind.i64, IntKind.i64, IntKind.i64, IntKind.i64] rows)) ∧ Ob (IsLst B x_1 rows_1.length ((5 : Nat))
  (Rv.elemOf [IntKind.i64, IntKind.i64, IntKind.i64, IntKind.i64, IntKind.i64] rows_1)) ∧ Ob (IsLst B x rows.length ((5 : Nat)) (Rv.elemOf [IntKind.i64, IntKind.i64, IntKind.i64, IntKind.i64, IntKind.i64] rows)) ∧ True) ∧
  (¬(↑a : Int) < (↑rows.length : Int) → Ob (sameGTo n n_1 rows n_2 n_3 rows_1 a ↔ sameG n n_1 rows n_2 n_3 rows_1) ∧ True)) ∧ (¬sameGTo n n_1 rows n_2 n_3 rows_1 a → Ob (sameGTo n n_1 rows n_2 n_3 rows_1 a ↔ sameG n n_1
  rows n_2 n_3 rows_1) ∧ True))) ∧ (¬n = n_2 → (∃ (a : Nat), Ob (a ≤ rows.length) ∧ Ob (SV.v (Value.bool false) = SV.v (Value.bool false)) ∧ Ob (false = true ↔ sameGTo n n_1 rows n_2 n_3 rows_1 a) ∧ Ob ((0 : Int) = (↑a :
  Int)) ∧ Ob (n_2 = n_2) ∧ Ob (n_3 = n_3) ∧ Ob (SV.lst x_1 rows_1.length ((5 : Nat)) (Rv.elemOf [IntKind.i64, IntKind.i64, IntKind.i64, IntKind.i64, IntKind.i64] rows_1) = SV.lst x_1 rows_1.length ((5 : Nat)) (Rv.elemOf
  [IntKind.i64, IntKind.i64, IntKind.i64, IntKind.i64, IntKind.i64] rows_1)) ∧ Ob (n = n) ∧ Ob (n_1 = n_1) ∧ Ob (SV.lst x rows.length ((5 : Nat)) (Rv.elemOf [IntKind.i64, IntKind.i64, IntKind.i64, IntKind.i64, IntKind.i64]
  rows) = SV.lst x rows.length ((5 : Nat)) (Rv.elemOf [IntKind.i64, IntKind.i64, IntKind.i64, IntKind.i64, IntKind.i64] rows)) ∧ Ob (IsLst B x_1 rows_1.length ((5 : Nat)) (Rv.elemOf [IntKind.i64, IntKind.i64, IntKind.i64,
  IntKind.i64, IntKind.i64] rows_1)) ∧ Ob (IsLst B x rows.length ((5 : Nat)) (Rv.elemOf [IntKind.i64, IntKind.i64, IntKind.i64, IntKind.i64, IntKind.i64] rows)) ∧ True) ∧ ∀ (a : Nat), a ≤ rows.length → ∀ (z z_1 z_2 z_3 z_4
  z_5 z_6 z_7 z_8 z_9 z_10 z_11 z_12 z_13 z_14 z_15 z_16 z_17 z_18 z_19 z_20 z_21 z_22 z_23 z_24 z_25 z_26 z_27 z_28 z_29 z_30 z_31 z_32 z_33 z_34 z_35 z_36 z_37 z_38 z_39 z_40 z_41 z_42 z_43 z_44 : Value), (sameGTo n n_1
  rows n_2 n_3 rows_1 a → Ob (IsLst B x rows.length ((5 : Nat)) (Rv.elemOf [IntKind.i64, IntKind.i64, IntKind.i64, IntKind.i64, IntKind.i64] rows)) ∧ ((↑a : Int) < (↑rows.length : Int) → Ob (IsLst B x rows.length ((5 :
  Nat)) (Rv.elemOf [IntKind.i64, IntKind.i64, IntKind.i64, IntKind.i64, IntKind.i64] rows)) ∧ Ob ((0 : Int) ≤ (↑a : Int) ∧ a < rows.length ∧ IsLst B x rows.length ((5 : Nat)) (Rv.elemOf [IntKind.i64, IntKind.i64,
  IntKind.i64, IntKind.i64, IntKind.i64] rows)) ∧ Ob (IsLst B x rows.length ((5 : Nat)) (Rv.elemOf [IntKind.i64, IntKind.i64, IntKind.i64, IntKind.i64, IntKind.i64] rows) ∧ a < rows.length) ∧ Ob (IsLst B x rows.length ((5
  : Nat)) (Rv.elemOf [IntKind.i64, IntKind.i64, IntKind.i64, IntKind.i64, IntKind.i64] rows) ∧ a < rows.length) ∧ Ob (IsLst B x_1 rows_1.length ((5 : Nat)) (Rv.elemOf [IntKind.i64, IntKind.i64, IntKind.i64, IntKind.i64,
  IntKind.i64] rows_1)) ∧ Ob ((0 : Int) ≤ (↑a : Int) ∧ a < rows_1.length ∧ IsLst B x_1 rows_1.length ((5 : Nat)) (Rv.elemOf [IntKind.i64, IntKind.i64, IntKind.i64, IntKind.i64, IntKind.i64] rows_1)) ∧ Ob (IsLst B x_1
  rows_1.length ((5 : Nat)) (Rv.elemOf [IntKind.i64, IntKind.i64, IntKind.i64, IntKind.i64, IntKind.i64] rows_1) ∧ a < rows_1.length) ∧ Ob (IsLst B x_1 rows_1.length ((5 : Nat)) (Rv.elemOf [IntKind.i64, IntKind.i64,
  IntKind.i64, IntKind.i64, IntKind.i64] rows_1) ∧ a < rows_1.length) ∧ Ob (InR IntKind.i64 ((↑a : Int) + (1 : Int))) ∧ ∃ (a' : Nat), Ob (a' ≤ rows.length ∧ rows.length - a' < rows.length - a) ∧ Ob (SV.v (Value.bool false)
  = SV.v (Value.bool false)) ∧ Ob (cell rows a ((0 : Nat)) = cell rows_1 a ((0 : Nat)) ∧ cell rows a ((1 : Nat)) = cell rows_1 a ((1 : Nat)) ∧ cell rows a ((2 : Nat)) = cell rows_1 a ((2 : Nat)) ∧ cell rows a ((3 : Nat)) =
  cell rows_1 a ((3 : Nat)) ∧ cell rows a ((4 : Nat)) = cell rows_1 a ((4 : Nat)) ∧ True ↔ sameGTo n n_1 rows n_2 n_3 rows_1 a') ∧ Ob ((↑a : Int) + (1 : Int) = (↑a' : Int)) ∧ Ob (n_2 = n_2) ∧ Ob (n_3 = n_3) ∧ Ob (SV.lst
  x_1 rows_1.length ((5 : Nat)) (Rv.elemOf [IntKind.i64, IntKind.i64, IntKind.i64, IntKind.i64, IntKind.i64] rows_1) = SV.lst x_1 rows_1.length ((5 : Nat)) (Rv.elemOf [IntKind.i64, IntKind.i64, IntKind.i64, IntKind.i64,
  IntKind.i64] rows_1)) ∧ Ob (n = n) ∧ Ob (n_1 = n_1) ∧ Ob (SV.lst x rows.length ((5 : Nat)) (Rv.elemOf [IntKind.i64, IntKind.i64, IntKind.i64, IntKind.i64, IntKind.i64] rows) = SV.lst x rows.length ((5 : Nat)) (Rv.elemOf
  [IntKind.i64, IntKind.i64, IntKind.i64, IntKind.i64, IntKind.i64] rows)) ∧ Ob (IsLst B x_1 rows_1.length ((5 : Nat)) (Rv.elemOf [IntKind.i64, IntKind.i64, IntKind.i64, IntKind.i64, IntKind.i64] rows_1)) ∧ Ob (IsLst B x
  rows.length ((5 : Nat)) (Rv.elemOf [IntKind.i64, IntKind.i64, IntKind.i64, IntKind.i64, IntKind.i64] rows)) ∧ True) ∧ (¬(↑a : Int) < (↑rows.length : Int) → Ob (sameGTo n n_1 rows n_2 n_3 rows_1 a ↔ sameG n n_1 rows n_2
  n_3 rows_1) ∧ True)) ∧ (¬sameGTo n n_1 rows n_2 n_3 rows_1 a → Ob (sameGTo n n_1 rows n_2 n_3 rows_1 a ↔ sameG n n_1 rows n_2 n_3 rows_1) ∧ True))

set_option linter.unusedSimpArgs false in
set_option maxRecDepth 4000 in
set_option maxHeartbeats 400000 in
theorem v_SameGrowths : V_SameGrowths := by
  unfold V_SameGrowths
  intro B a b x R hx hox hrx c d y S hy hoy hry ⟨hR, hS⟩
  simp only [Ob_iff, and_true, true_and, InR]
  have body : ∀ k, k ≤ R.length → sameGTo a b R c d S k → (k : Int) < (R.length : Int) → k < S.length := fun k h1 h2 h3 => by
    have := h2.1.2.2
    omega
  have e0 : ∀ k, k ≤ R.length → ¬ sameGTo a b R c d S k → (sameGTo a b R c d S k ↔ sameG a b R c d S) := fun k h1 h2 => ⟨fun h => absurd h h2, fun h => absurd h (sameG_stop h1 h2)⟩
  have e1 : ∀ k, k ≤ R.length → ¬ (k : Int) < (R.length : Int) → (sameGTo a b R c d S k ↔ sameG a b R c d S) := fun k h1 h2 => by
    have e : k = R.length := by omega
    subst e
    exact Iff.rfl
  refine ⟨fun h1 => ⟨fun h2 => ⟨hx, hy, ⟨0, by omega, ?_, by omega, hy, hx⟩, ?_⟩, fun h2 => ⟨⟨0, by omega, ?_, by omega, hy, hx⟩, ?_⟩⟩, fun h1 => ⟨⟨0, by omega, ?_, by omega, hy, hx⟩, ?_⟩⟩
  · rw [sameG_zero]
    exact ⟨fun h => ⟨h1, h2, by omega⟩, fun h => by omega⟩
  rotate_left 1
  · rw [sameG_zero]
    exact ⟨fun h => by simp at h, fun h => absurd h.2.1 h2⟩
  rotate_left 1
  · rw [sameG_zero]
    exact ⟨fun h => by simp at h, fun h => absurd h.1 h1⟩
  all_goals
    intro k hk
    intros
    refine ⟨fun h3 => ⟨hx, fun h4 => ?_, fun h4 => e1 k hk h4⟩, fun h3 => e0 k hk h3⟩
    have hkR : k < R.length := by omega
    have hkS := body k hk h3 h4
    refine ⟨hx, ⟨by omega, hkR, hx⟩, ⟨hx, hkR⟩, ⟨hx, hkR⟩, hy, ⟨by omega, hkS, hy⟩, ⟨hy, hkS⟩, ⟨hy, hkS⟩, by omega, k + 1, ⟨by omega, by omega⟩, ?_, by omega, hy, hx⟩
    rw [sameG_succ h3]

theorem e_SameGrowths : V_SameGrowths = needF P [] A_SameGrowths F_SameGrowths := by kernel_rfl

theorem n_SameGrowths : Ob (needF P [] A_SameGrowths F_SameGrowths) := by
  rw [← e_SameGrowths]
  exact ⟨v_SameGrowths⟩

theorem b_SameGrowths : ((P.funcs[18]?).any fun fn => fn.body.isSome) = true := by kernel_rfl

theorem SameGrowths_ok : Fn0.Ok P F_SameGrowths := Fn0.ok named (l := []) (A := A_SameGrowths) (by rfl) (by
  intro F h; simp at h) b_SameGrowths (by
  intro ds N
  simp only [F_SameGrowths]
  split <;> rfl) n_SameGrowths

noncomputable def F_OwnGrowth : FnE := ⟨11, none, [.agg [.i .i64, .i .i64, .l [.i64, .i64, .i64, .i64, .i64]]], fun l => match l with | [.z base, .z most, .l R] => R.length ≤ 1000 | _ => False, fun l => match l with | [.z base, .z most, .l R] => [.agg [.i .i64 base, .i .i64 most, .gsl 0 R.length 5 false]] | _ => [], fun l => match l with | [.z base, .z most, .l R] => [.gr R.length 5 (.fn (Rv.elemOf [.i64, .i64, .i64, .i64, .i64] R)) .gr false] | _ => [], fun l => match l with | [.z base, .z most, .l R] => [] | _ => [], false⟩
noncomputable def A_OwnGrowth : List SV → List Dat → Nat → List SV → Ann := fun _ _ _ _ => noAnn

def V_OwnGrowth : Prop :=
  ∀ (B : RW) (n n_1 : Int) (x : RV) (rows : List (List Int)), IsLst B x rows.length ((5 : Nat)) (Rv.elemOf [IntKind.i64, IntKind.i64, IntKind.i64, IntKind.i64, IntKind.i64] rows) → oneB x = true → (∀ (row : List Int), row
  ∈ rows → row.length = (5 : Nat)) → F_OwnGrowth.pre ([Dat.z n, Dat.z n_1, Dat.l rows] ++ []) → Ob (IsLst B x rows.length ((5 : Nat)) (Rv.elemOf [IntKind.i64, IntKind.i64, IntKind.i64, IntKind.i64, IntKind.i64] rows)) ∧
  (rows.length = (0 : Nat) → Ob (n = n) ∧ Ob (n_1 = n_1) ∧ Ob ((0 : Nat) = rows.length) ∧ Ob ((0 : Nat) = rows.length ∧ ∀ (i : Nat), i < rows.length → (litEl (replS ((0 : Nat)) (List.map SV.v (Value.agg #[Value.int
  IntKind.i64 (0 : Int), Value.int IntKind.i64 (0 : Int), Value.int IntKind.i64 (0 : Int), Value.int IntKind.i64 (0 : Int), Value.int IntKind.i64 (0 : Int)]).cells.toList)) ((5 : Nat)) ((0 : Nat))).at i = (El.fn (Rv.elemOf
  [IntKind.i64, IntKind.i64, IntKind.i64, IntKind.i64, IntKind.i64] rows)).at i) ∧ Ob (PlainE rows.length (El.fn (Rv.elemOf [IntKind.i64, IntKind.i64, IntKind.i64, IntKind.i64, IntKind.i64] rows))) ∧ True) ∧ (¬rows.length
  = (0 : Nat) → Ob (((0 : Nat) + rows.length) * (2 : Nat) * (41 : Nat) ≤ (1099511627776 : Nat)) ∧ Ob ((0 : Nat) < (0 : Nat) + ((0 : Nat) + rows.length) * (5 : Nat)) ∧ Ob (n = n) ∧ Ob (n_1 = n_1) ∧ Ob ((0 : Nat) +
  rows.length = rows.length) ∧ Ob ((0 : Nat) + rows.length = rows.length ∧ ∀ (i : Nat), i < rows.length → (behind ((0 : Nat)) (litEl (replS ((0 : Nat)) (List.map SV.v (Value.agg #[Value.int IntKind.i64 (0 : Int), Value.int
  IntKind.i64 (0 : Int), Value.int IntKind.i64 (0 : Int), Value.int IntKind.i64 (0 : Int), Value.int IntKind.i64 (0 : Int)]).cells.toList)) ((5 : Nat)) ((0 : Nat))) rows.length (El.fn (Rv.elemOf [IntKind.i64, IntKind.i64,
  IntKind.i64, IntKind.i64, IntKind.i64] rows))).at i = (El.fn (Rv.elemOf [IntKind.i64, IntKind.i64, IntKind.i64, IntKind.i64, IntKind.i64] rows)).at i) ∧ Ob (PlainE rows.length (El.fn (Rv.elemOf [IntKind.i64, IntKind.i64,
  IntKind.i64, IntKind.i64, IntKind.i64] rows))) ∧ True)

set_option linter.unusedSimpArgs false in
set_option maxRecDepth 4000 in
set_option maxHeartbeats 400000 in
theorem v_OwnGrowth : V_OwnGrowth := by
  unfold V_OwnGrowth
  intro B base most x R hx ho hr h
  simp only [F_OwnGrowth, List.cons_append, List.nil_append, Ob_iff] at h ⊢
  refine ⟨hx, fun h0 => ⟨trivial, trivial, h0.symm, ⟨h0.symm, fun i hi => by omega⟩, plain_elemOf _ _ _, trivial⟩, fun h0 => ⟨by omega, by omega, trivial, trivial, by omega, ⟨by omega, fun i _ => behind_at _ _ _ _⟩, plain_elemOf _ _ _, trivial⟩⟩

theorem e_OwnGrowth : V_OwnGrowth = needE P [] [] A_OwnGrowth F_OwnGrowth := by kernel_rfl

theorem n_OwnGrowth : Ob (needE P [] [] A_OwnGrowth F_OwnGrowth) := by
  rw [← e_OwnGrowth]
  exact ⟨v_OwnGrowth⟩

theorem b_OwnGrowth : ((P.funcs[11]?).any fun fn => fn.body.isSome) = true := by kernel_rfl

theorem OwnGrowth_ok : FnE.Ok P F_OwnGrowth := FnE.ok named (l := []) (es := []) (A := A_OwnGrowth) (by rfl) (by rfl) (by rfl) (by
  intro F h; simp at h) (by
  intro F h; simp at h) b_OwnGrowth (by
  intro ds h o ho n sz e k z he
  subst he
  simp only [F_OwnGrowth] at ho
  split at ho
  · simp only [List.mem_cons, List.not_mem_nil, or_false, SObj.gr.injEq] at ho
    obtain ⟨rfl, rfl, rfl, rfl, rfl⟩ := ho
    exact plain_elemOf _ _ _
  · simp at ho) n_OwnGrowth

end Go.Proofs.YtgdnhmilhpnbjaaDoor.Sy
