/- Motions: weights, votes and what they come to. -/
import Derived.Test.YtjgllojnbinchaaSyP2
import Derived.Test.YtjgllojnbinchaaGrM
import Derived.Test.YtjgllojnbinchaaStM
import Derived.Test.YtjgllojnbinchaaVtM
import Derived.Test.YtjgllojnbinchaaKtT
import Derived.Test.YtjgllojnbinchaaKtA
import Derived.Test.YtjgllojnbinchaaKtB
import Derived.Test.YtjgllojnbinchaaKtS
import Derived.Test.YtjgllojnbinchaaSyP2
import Derived.KernelRfl
import Derived.Test.YtjgllojnbinchaaProg
namespace Go.Proofs.Ytjgllojnbinchaa.Sy
open Go Go.Rv
set_option linter.unusedVariables false

def moQ (b : Int) : Int := belowA (belowA b 6) (2 - 0 + 1)
def moW (b : Int) : List Int := [belowV b 6]
def moV (b : Int) : List Int := [0 + belowV (belowA b 6) (2 - 0 + 1)]
def moN (a most : Int) : Nat := (1 + belowV a (most - 1 + 1)).toNat
def moA (a most : Int) : Int := belowA a (most - 1 + 1)
def moE (a most : Int) : Int := itQ moQ (moA a most) (moN a most)
def moD (a most : Int) : Int := ofV (belowA (moE a most) 1000001) [[500000], [666666], [belowV (moE a most) 1000001]]
def moZ (a most : Int) : Int := ofA (belowA (moE a most) 1000001) [[500000], [666666], [belowV (moE a most) 1000001]]
theorem snoc1 {R : Rows} {k : Nat} {x : Int} (hl : R.length = k) : ∀ i, i < k + 1 → (behind k (.fn (Rv.elemOf [.i64] R)) 1 (litEl [SV.i .i64 x] 1 1)).at i = (El.fn (Rv.elemOf [.i64] (R ++ [[x]]))).at i := fun i hi => by
  have := snoc_at (R := R) (ks := [.i64]) (r := [x]) (cs := [SV.i .i64 x]) rfl (i := i) (by omega)
  rw [hl] at this
  exact this
theorem castS_le (V : Rows) (s : Nat) : ∀ k, castS V s k ≤ s
  | 0 => Nat.le_refl _
  | k + 1 => by
    have := castS_le V s k
    simp only [castS]
    split <;> omega
theorem castR_succ (V : Rows) (s k : Nat) : castR V s (k + 1) = castR V s k ++ [[castV V s k]] := rfl
theorem and_one (s : Nat) : andI (s : Int) 1 = ((s % 2 : Nat) : Int) := by
  unfold andI
  show (((s : Int).toNat &&& (1 : Int).toNat : Nat) : Int) = _
  have : (s : Int).toNat &&& (1 : Int).toNat = s % 2 := Nat.and_one_is_mod s
  rw [this]

noncomputable def F_PassesR : Fn0 := ⟨31, [.one (.l [.i64]), .one (.l [.i64]), i64], fun l => match l with | [.l W, .l V, .z need] => WtOk W ∧ V.length = W.length ∧ W.length ≤ 100 ∧ 0 ≤ need ∧ need ≤ 1000000 | _ => False, fun l => match l with | [.l W, .l V, .z need] => .p (passN W need (yesS W V W.length)) | _ => .v undef⟩
noncomputable def A_PassesR : List SV → List Dat → Nat → List SV → Ann := fun xs ds n ts => match xs with
  | [.lst xw _ _ _, .lst xv _ _ _, .i _ _] => match ds with
    | [.l W, .l V, .z need] => match n with
      | 3 => ⟨Nat, fun k => [some (SV.lst xw W.length ((1 : Nat)) (Rv.elemOf [IntKind.i64] W)), some (SV.lst xv V.length ((1 : Nat)) (Rv.elemOf [IntKind.i64] V)), some (SV.i IntKind.i64 need), none, none, none, some (SV.v (Value.bool false)), some (.i .i64 (yesS W V k)), some (.i .i64 (allS W k)), some (.i .i64 k), none, none, none, none, none, none, none, none, none, none, none, none, none, none, none, none, none, none, none, none, none, none, none, none, none, none, none, none, none], fun k => [], fun k => k ≤ W.length, fun k => W.length - k, 0⟩
      | _ => noAnn
    | _ => noAnn
  | _ => noAnn

def V_PassesR : Prop :=
  ∀ (B : RW) (x : RV) (rows : List (List Int)), IsLst B x rows.length 1 (Rv.elemOf [.i64] rows) → oneB x = true → (∀ (row : List Int), row ∈ rows → row.length = (1 : Nat)) → ∀ (x_1 : RV) (rows_1 : List (List Int)), IsLst B
  x_1 rows_1.length 1 (Rv.elemOf [.i64] rows_1) → oneB x_1 = true → (∀ (row : List Int), row ∈ rows_1 → row.length = (1 : Nat)) → ∀ (n : Int), WtOk rows ∧ rows_1.length = rows.length ∧ rows.length ≤ (100 : Nat) ∧ (0 : Int)
  ≤ n ∧ n ≤ (1000000 : Int) → (∃ (a : Nat), Ob (a ≤ rows.length) ∧ Ob (SV.lst x rows.length 1 (Rv.elemOf [.i64] rows) = SV.lst x rows.length 1 (Rv.elemOf [.i64] rows)) ∧ Ob (SV.lst x_1 rows_1.length 1 (Rv.elemOf [.i64]
  rows_1) = SV.lst x_1 rows_1.length 1 (Rv.elemOf [.i64] rows_1)) ∧ Ob (n = n) ∧ Ob (SV.v (Value.bool false) = SV.v (Value.bool false)) ∧ Ob ((0 : Int) = yesS rows rows_1 a) ∧ Ob ((0 : Int) = allS rows a) ∧ Ob ((0 : Int) =
  (↑a : Int)) ∧ Ob (IsLst B x rows.length 1 (Rv.elemOf [.i64] rows)) ∧ Ob (IsLst B x_1 rows_1.length 1 (Rv.elemOf [.i64] rows_1)) ∧ True) ∧ ∀ (a : Nat), a ≤ rows.length → ∀ (z z_1 z_2 z_3 z_4 z_5 z_6 z_7 z_8 z_9 z_10 z_11
  z_12 z_13 z_14 z_15 z_16 z_17 z_18 z_19 z_20 z_21 z_22 z_23 z_24 z_25 z_26 z_27 z_28 z_29 z_30 z_31 : Value), Ob (IsLst B x rows.length 1 (Rv.elemOf [.i64] rows)) ∧ ((↑a : Int) < (↑rows.length : Int) → Ob ((0 : Int) ≤
  (↑a : Int) ∧ a < rows.length ∧ IsLst B x rows.length 1 (Rv.elemOf [.i64] rows)) ∧ Ob (IsLst B x rows.length 1 (Rv.elemOf [.i64] rows) ∧ a < rows.length) ∧ Ob (InR .i64 (allS rows a + cell rows a 0)) ∧ Ob ((0 : Int) ≤ (↑a
  : Int) ∧ a < rows_1.length ∧ IsLst B x_1 rows_1.length 1 (Rv.elemOf [.i64] rows_1)) ∧ Ob (IsLst B x_1 rows_1.length 1 (Rv.elemOf [.i64] rows_1) ∧ a < rows_1.length) ∧ (cell rows_1 a 0 = (1 : Int) → Ob ((0 : Int) ≤ (↑a :
  Int) ∧ a < rows.length ∧ IsLst B x rows.length 1 (Rv.elemOf [.i64] rows)) ∧ Ob (IsLst B x rows.length 1 (Rv.elemOf [.i64] rows) ∧ a < rows.length) ∧ Ob (InR .i64 (yesS rows rows_1 a + cell rows a 0)) ∧ Ob (InR .i64 ((↑a
  : Int) + (1 : Int))) ∧ ∃ (a' : Nat), Ob (a' ≤ rows.length ∧ rows.length - a' < rows.length - a) ∧ Ob (SV.lst x rows.length 1 (Rv.elemOf [.i64] rows) = SV.lst x rows.length 1 (Rv.elemOf [.i64] rows)) ∧ Ob (SV.lst x_1
  rows_1.length 1 (Rv.elemOf [.i64] rows_1) = SV.lst x_1 rows_1.length 1 (Rv.elemOf [.i64] rows_1)) ∧ Ob (n = n) ∧ Ob (SV.v (Value.bool false) = SV.v (Value.bool false)) ∧ Ob (yesS rows rows_1 a + cell rows a 0 = yesS rows
  rows_1 a') ∧ Ob (allS rows a + cell rows a 0 = allS rows a') ∧ Ob ((↑a : Int) + (1 : Int) = (↑a' : Int)) ∧ Ob (IsLst B x rows.length 1 (Rv.elemOf [.i64] rows)) ∧ Ob (IsLst B x_1 rows_1.length 1 (Rv.elemOf [.i64] rows_1))
  ∧ True) ∧ (¬cell rows_1 a 0 = (1 : Int) → Ob (InR .i64 ((↑a : Int) + (1 : Int))) ∧ ∃ (a' : Nat), Ob (a' ≤ rows.length ∧ rows.length - a' < rows.length - a) ∧ Ob (SV.lst x rows.length 1 (Rv.elemOf [.i64] rows) = SV.lst x
  rows.length 1 (Rv.elemOf [.i64] rows)) ∧ Ob (SV.lst x_1 rows_1.length 1 (Rv.elemOf [.i64] rows_1) = SV.lst x_1 rows_1.length 1 (Rv.elemOf [.i64] rows_1)) ∧ Ob (n = n) ∧ Ob (SV.v (Value.bool false) = SV.v (Value.bool
  false)) ∧ Ob (yesS rows rows_1 a = yesS rows rows_1 a') ∧ Ob (allS rows a + cell rows a 0 = allS rows a') ∧ Ob ((↑a : Int) + (1 : Int) = (↑a' : Int)) ∧ Ob (IsLst B x rows.length 1 (Rv.elemOf [.i64] rows)) ∧ Ob (IsLst B
  x_1 rows_1.length 1 (Rv.elemOf [.i64] rows_1)) ∧ True)) ∧ (¬(↑a : Int) < (↑rows.length : Int) → Ob (InR .i64 (yesS rows rows_1 a * (1000000 : Int))) ∧ Ob (InR .i64 (n * allS rows a)) ∧ Ob (n * allS rows a < yesS rows
  rows_1 a * (1000000 : Int) ↔ passN rows n (yesS rows rows_1 rows.length)) ∧ True)

set_option linter.unusedSimpArgs false in
set_option maxRecDepth 4000 in
set_option maxHeartbeats 400000 in
theorem v_PassesR : V_PassesR := by
  unfold V_PassesR
  intro B xw W hw how hrw xv V hv hov hrv need ⟨h1, h2, h3, h4⟩
  simp only [Ob_iff, and_true, true_and]
  refine ⟨⟨0, by omega, rfl, rfl, rfl, hw, hv⟩, ?_⟩
  intro k hk
  intros
  have b := all_bd (V := V) h1 hk
  refine ⟨hw, fun h5 => ?_, fun h5 => ?_⟩
  · have hk' : k < W.length := by omega
    have hkV : k < V.length := by omega
    have c := h1 k hk'
    have rk : InR .i64 ((k : Int) + 1) := by simp only [InR]; omega
    have r1 : InR .i64 (allS W k + cell W k 0) := by simp only [InR]; omega
    have r2 : InR .i64 (yesS W V k + cell W k 0) := by simp only [InR]; omega
    have ey : ∀ x, (if cell V k 0 = 1 then cell W k 0 else 0) = x → yesS W V (k + 1) = yesS W V k + x := fun x hx => by simp only [yesS, hx]
    refine ⟨⟨by omega, hk', hw⟩, ⟨hw, hk'⟩, r1, ⟨by omega, hkV, hv⟩, ⟨hv, hkV⟩, fun h6 => ?_, fun h6 => ?_⟩
    · exact ⟨⟨by omega, hk', hw⟩, ⟨hw, hk'⟩, r2, rk, k + 1, ⟨hk', by omega⟩, (ey _ (if_pos h6)).symm, rfl, by omega, hw, hv⟩
    · exact ⟨rk, k + 1, ⟨hk', by omega⟩, by rw [ey _ (if_neg h6)]; omega, rfl, by omega, hw, hv⟩
  have e : k = W.length := by omega
  subst e
  have m1 : 0 ≤ need * allS W W.length := Int.mul_nonneg h4.1 (by omega)
  have m2 : need * allS W W.length ≤ 1000000 * 100000000 := Int.mul_le_mul h4.2 (by omega) (by omega) (by omega)
  exact ⟨by simp only [InR]; omega, by simp only [InR]; omega, Iff.rfl⟩

theorem e_PassesR : V_PassesR = needF P [] A_PassesR F_PassesR := by kernel_rfl

theorem n_PassesR : Ob (needF P [] A_PassesR F_PassesR) := by
  rw [← e_PassesR]
  exact ⟨v_PassesR⟩

theorem b_PassesR : ((P.funcs[31]?).any fun fn => fn.body.isSome) = true := by kernel_rfl

theorem PassesR_ok : Fn0.Ok P F_PassesR := Fn0.ok named (l := []) (A := A_PassesR) (by rfl) (by
  intro F h; simp at h) b_PassesR (by
  intro ds N
  simp only [F_PassesR]
  split <;> rfl) n_PassesR

noncomputable def F_CastR : FnE := ⟨32, none, [.one (.l [.i64]), i64], fun l => match l with | [.l V, .z s] => 0 ≤ s ∧ s ≤ 1000000000 ∧ V.length ≤ 100 | _ => False, fun l => match l with | [.l V, .z s] => [.gsl 0 V.length 1 true] | _ => [], fun l => match l with | [.l V, .z s] => [.gr V.length 1 (.fn (Rv.elemOf [.i64] (castR V s.toNat V.length))) .gr true] | _ => [], fun l => match l with | [.l V, .z s] => [] | _ => [], false, none⟩
noncomputable def A_CastR : List SV → List Dat → Nat → List SV → Ann := fun xs ds n ts => match xs with
  | [.lst x _ _ _, .i _ _] => match ds with
    | [.l V, .z s] => match n with
      | 3 => ⟨Nat, fun k => [some (SV.lst x V.length ((1 : Nat)) (Rv.elemOf [IntKind.i64] V)), some (.i .i64 (castS V s.toNat k)), none, none, some (SV.v (Value.slice none ((0 : Nat)) ((0 : Nat)))), some (.gsl 0 k 1 true), some (.i .i64 k), none, none, none, none, none, none, none, none, none, none, none, none, none, none, none, none, none, none, none, none, none, none, none], fun k => [.gr k 1 (.fn (Rv.elemOf [.i64] (castR V s.toNat k))) .gr true], fun k => k ≤ V.length, fun k => V.length - k, 0⟩
      | _ => noAnn
    | _ => noAnn
  | _ => noAnn

def V_CastR : Prop :=
  ∀ (B : RW) (x : RV) (rows : List (List Int)), IsLst B x rows.length 1 (Rv.elemOf [.i64] rows) → oneB x = true → (∀ (row : List Int), row ∈ rows → row.length = (1 : Nat)) → ∀ (n : Int), F_CastR.pre ([Dat.l rows] ++
  ([Dat.z n] ++ [])) → (∃ (a : Nat), Ob (a ≤ rows.length) ∧ Ob (SV.lst x rows.length 1 (Rv.elemOf [.i64] rows) = SV.lst x rows.length 1 (Rv.elemOf [.i64] rows)) ∧ Ob (n = (↑(castS rows n.toNat a) : Int)) ∧ Ob (SV.v
  (Value.slice none 0 0) = SV.v (Value.slice none 0 0)) ∧ Ob (a = (0 : Nat)) ∧ Ob ((0 : Int) = (↑a : Int)) ∧ Ob (a = (0 : Nat)) ∧ Ob (IsLst B x rows.length 1 (Rv.elemOf [.i64] rows)) ∧ Ob (PlainE a (El.fn (Rv.elemOf [.i64]
  (castR rows n.toNat a)))) ∧ True) ∧ ∀ (a : Nat), a ≤ rows.length → ∀ (z z_1 z_2 z_3 z_4 z_5 z_6 z_7 z_8 z_9 z_10 z_11 z_12 z_13 z_14 z_15 z_16 z_17 z_18 z_19 z_20 z_21 z_22 z_23 z_24 : Value), Ob (IsLst B x rows.length 1
  (Rv.elemOf [.i64] rows)) ∧ ((↑a : Int) < (↑rows.length : Int) → Ob ((0 : Int) ≤ (↑a : Int) ∧ a < rows.length ∧ IsLst B x rows.length 1 (Rv.elemOf [.i64] rows)) ∧ Ob (IsLst B x rows.length 1 (Rv.elemOf [.i64] rows) ∧ a <
  rows.length) ∧ (cell rows a 0 = (0 : Int) → Ob ((0 : Int) ≤ (↑(castS rows n.toNat a) : Int) ∧ (0 : Int) ≤ (1 : Int) ∧ InR .i64 (andI (↑(castS rows n.toNat a) : Int) (1 : Int))) ∧ Ob (InR .i64 ((2 : Int) - andI (↑(castS
  rows n.toNat a) : Int) (1 : Int))) ∧ Ob ((0 : Int) ≤ (↑(castS rows n.toNat a) : Int) ∧ (0 : Int) ≤ (1 : Int) ∧ (1 : Int) ≤ (↑64 : Int) ∧ InR .i64 ((↑(castS rows n.toNat a) : Int) / (2 : Int) ^ (1 : Nat))) ∧ Ob (a = a ∧ ∀
  (i : Nat), i < a → ((El.fn (Rv.elemOf [.i64] (castR rows n.toNat a))).at i).length = (1 : Nat)) ∧ Ob ((a + (1 : Nat)) * (2 : Nat) * (9 : Nat) ≤ (1099511627776 : Nat)) ∧ Ob (a = a) ∧ Ob (InR .i64 ((↑a : Int) + (1 : Int)))
  ∧ ∃ (a' : Nat), Ob (a' ≤ rows.length ∧ rows.length - a' < rows.length - a) ∧ Ob (SV.lst x rows.length 1 (Rv.elemOf [.i64] rows) = SV.lst x rows.length 1 (Rv.elemOf [.i64] rows)) ∧ Ob ((↑(castS rows n.toNat a) : Int) / (2
  : Int) ^ (1 : Nat) = (↑(castS rows n.toNat a') : Int)) ∧ Ob (SV.v (Value.slice none 0 0) = SV.v (Value.slice none 0 0)) ∧ Ob (a + (1 : Nat) = a') ∧ Ob ((↑a : Int) + (1 : Int) = (↑a' : Int)) ∧ Ob (a + (1 : Nat) = a' ∧ ∀
  (i : Nat), i < a' → (behind a (El.fn (Rv.elemOf [.i64] (castR rows n.toNat a))) 1 (litEl [SV.i .i64 ((2 : Int) - andI (↑(castS rows n.toNat a) : Int) (1 : Int))] 1 1)).at i = (El.fn (Rv.elemOf [.i64] (castR rows n.toNat
  a'))).at i) ∧ Ob (IsLst B x rows.length 1 (Rv.elemOf [.i64] rows)) ∧ Ob (PlainE a' (El.fn (Rv.elemOf [.i64] (castR rows n.toNat a')))) ∧ True) ∧ (¬cell rows a 0 = (0 : Int) → Ob (a = a ∧ ∀ (i : Nat), i < a → ((El.fn
  (Rv.elemOf [.i64] (castR rows n.toNat a))).at i).length = (1 : Nat)) ∧ Ob ((a + (1 : Nat)) * (2 : Nat) * (9 : Nat) ≤ (1099511627776 : Nat)) ∧ Ob (a = a) ∧ Ob (InR .i64 ((↑a : Int) + (1 : Int))) ∧ ∃ (a' : Nat), Ob (a' ≤
  rows.length ∧ rows.length - a' < rows.length - a) ∧ Ob (SV.lst x rows.length 1 (Rv.elemOf [.i64] rows) = SV.lst x rows.length 1 (Rv.elemOf [.i64] rows)) ∧ Ob ((↑(castS rows n.toNat a) : Int) = (↑(castS rows n.toNat a') :
  Int)) ∧ Ob (SV.v (Value.slice none 0 0) = SV.v (Value.slice none 0 0)) ∧ Ob (a + (1 : Nat) = a') ∧ Ob ((↑a : Int) + (1 : Int) = (↑a' : Int)) ∧ Ob (a + (1 : Nat) = a' ∧ ∀ (i : Nat), i < a' → (behind a (El.fn (Rv.elemOf
  [.i64] (castR rows n.toNat a))) 1 (litEl [SV.i .i64 (cell rows a 0)] 1 1)).at i = (El.fn (Rv.elemOf [.i64] (castR rows n.toNat a'))).at i) ∧ Ob (IsLst B x rows.length 1 (Rv.elemOf [.i64] rows)) ∧ Ob (PlainE a' (El.fn
  (Rv.elemOf [.i64] (castR rows n.toNat a')))) ∧ True)) ∧ (¬(↑a : Int) < (↑rows.length : Int) → Ob (a = rows.length) ∧ Ob (a = rows.length ∧ ∀ (i : Nat), i < rows.length → (El.fn (Rv.elemOf [.i64] (castR rows n.toNat
  a))).at i = (El.fn (Rv.elemOf [.i64] (castR rows n.toNat rows.length))).at i) ∧ Ob (PlainE rows.length (El.fn (Rv.elemOf [.i64] (castR rows n.toNat rows.length)))) ∧ True)

set_option linter.unusedSimpArgs false in
set_option maxRecDepth 4000 in
set_option maxHeartbeats 400000 in
theorem v_CastR : V_CastR := by
  unfold V_CastR
  intro B x V hx hox hrx s ⟨h1, h2, h3⟩
  obtain ⟨m, rfl⟩ := Int.eq_ofNat_of_zero_le h1
  have em : ((m : Int)).toNat = m := rfl
  simp only [Ob_iff, and_true, true_and, em]
  refine ⟨⟨0, by omega, rfl, rfl, rfl, rfl, hx, plain_elemOf _ _ _⟩, ?_⟩
  intro k hk
  intros
  have hle := castS_le V m k
  have hl := castR_len V m k
  obtain ⟨q, hq⟩ : ∃ q, castS V m k = q := ⟨_, rfl⟩
  refine ⟨hx, fun h5 => ?_, fun h5 => ?_⟩
  · have hk' : k < V.length := by omega
    have rk : InR .i64 ((k : Int) + 1) := by simp only [InR]; omega
    refine ⟨⟨by omega, hk', hx⟩, ⟨hx, hk'⟩, fun h6 => ?_, fun h6 => ?_⟩
    · rw [and_one, hq]
      have e1 : castV V m k = 2 - ((q % 2 : Nat) : Int) := by unfold castV; rw [if_pos h6, hq]
      have e2 : castS V m (k + 1) = q / 2 := by simp only [castS]; rw [if_pos h6, hq]
      have e3 : (q : Int) / 2 ^ 1 = ((castS V m (k + 1) : Nat) : Int) := by rw [e2]; simp
      have hs := snoc1 (x := castV V m k) hl
      rw [← castR_succ, e1] at hs
      have hb : q % 2 < 2 := Nat.mod_lt _ (by omega)
      refine ⟨⟨by omega, by omega, by simp only [InR]; omega⟩, by simp only [InR]; omega, ⟨by omega, by omega, by omega, ?_⟩, fun i hi => rfl, by omega, rk, k + 1, ⟨hk', by omega⟩, e3, rfl, by omega, ⟨rfl, hs⟩, hx, plain_elemOf _ _ _⟩
      simp only [InR]
      omega
    · have e1 : castV V m k = cell V k 0 := by unfold castV; rw [if_neg h6]
      have e2 : castS V m (k + 1) = q := by simp only [castS]; rw [if_neg h6, hq]
      have hs := snoc1 (x := castV V m k) hl
      rw [← castR_succ, e1] at hs
      exact ⟨fun i hi => rfl, by omega, rk, k + 1, ⟨hk', by omega⟩, by rw [e2, hq], rfl, by omega, ⟨rfl, hs⟩, hx, plain_elemOf _ _ _⟩
  have e : k = V.length := by omega
  subst e
  exact ⟨rfl, ⟨rfl, fun _ _ => rfl⟩, plain_elemOf _ _ _⟩

theorem e_CastR : V_CastR = needE P [] [] A_CastR F_CastR := by kernel_rfl

theorem n_CastR : Ob (needE P [] [] A_CastR F_CastR) := by
  rw [← e_CastR]
  exact ⟨v_CastR⟩

theorem b_CastR : ((P.funcs[32]?).any fun fn => fn.body.isSome) = true := by kernel_rfl

theorem CastR_ok : FnE.Ok P F_CastR := FnE.ok named (l := []) (es := []) (A := A_CastR) (by rfl) (by rfl) (by rfl) (by
  intro F h; simp at h) (by
  intro F h; simp at h) b_CastR (by
  intro ds h o ho n sz e k z he
  subst he
  simp only [F_CastR] at ho
  split at ho
  · simp only [List.mem_cons, List.not_mem_nil, or_false, SObj.gr.injEq] at ho
    obtain ⟨rfl, rfl, rfl, rfl, rfl⟩ := ho
    exact plain_elemOf _ _ _
  · simp at ho) n_CastR

end Go.Proofs.Ytjgllojnbinchaa.Sy
