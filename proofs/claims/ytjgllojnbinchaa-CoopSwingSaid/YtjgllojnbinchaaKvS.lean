/- The law CoopSwing. -/
import Derived.Test.YtjgllojnbinchaaSyP2
import Derived.Test.YtjgllojnbinchaaGrM
import Derived.Test.YtjgllojnbinchaaStM
import Derived.Test.YtjgllojnbinchaaVtM
import Derived.Test.YtjgllojnbinchaaKvM
import Derived.Test.YtjgllojnbinchaaKvN
import Derived.Test.YtjgllojnbinchaaKtT
import Derived.Test.YtjgllojnbinchaaKtA
import Derived.Test.YtjgllojnbinchaaKtB
import Derived.Test.YtjgllojnbinchaaKtS
import Derived.Test.YtjgllojnbinchaaKtM
import Derived.Test.YtjgllojnbinchaaKtN
import Derived.Test.YtjgllojnbinchaaKvB
import Derived.Test.YtjgllojnbinchaaKvC
import Derived.Test.YtjgllojnbinchaaKvD
import Derived.Test.YtjgllojnbinchaaKvE
import Derived.Test.YtjgllojnbinchaaSyP2
import Derived.KernelRfl
import Derived.Test.YtjgllojnbinchaaProg
namespace Go.Proofs.Ytjgllojnbinchaa.Sy
open Go Go.Rv
set_option linter.unusedVariables false

structure Wst where
  k : Nat
  s : Nat
  need : Int
  q : Int
  W : Rows
  V : Rows
noncomputable def Wst.S (v : Wst) : Rows := swgR v.W v.V v.need
structure Wst.Ok (v : Wst) : Prop where
  m : MotOk v.W v.V v.need
  l : v.W.length ≤ 7
  w : ∀ r ∈ v.W, r.length = 1
  v : ∀ r ∈ v.V, r.length = 1
def hasR (L : Rows) (x : Int) : Prop := ∃ j, j < L.length ∧ cell L j 0 = x

def stepX (V : Rows) (j k : Nat) : Int := if cell V k 0 = 0 then (if k < j then 1 else 2) else cell V k 0
theorem step_votes (V : Rows) (j n : Nat) : Votes V n (stepX V j) := by
  refine ⟨fun k _ h => ?_, fun k _ h => ?_⟩
  · unfold stepX
    rw [if_neg h]
  · unfold stepX
    rw [if_pos h]
    split
    · exact .inl rfl
    · exact .inr rfl
theorem step_zero (W V : Rows) : ∀ k, yesF W (stepX V 0) k = yesS W V k
  | 0 => rfl
  | k + 1 => by
    simp only [yesF, yesS]
    rw [step_zero W V k]
    unfold stepX
    by_cases e : cell V k 0 = 0
    · rw [if_pos e, if_neg (Nat.not_lt_zero k), if_neg (by omega), if_neg (show ¬ cell V k 0 = 1 by omega)]
    · rw [if_neg e]
theorem step_all (W V : Rows) (n : Nat) : ∀ k, k ≤ n → yesF W (stepX V n) k = yesS W V k + opnS W V k
  | 0, _ => by simp [yesF, yesS, opnS]
  | k + 1, h => by
    simp only [yesF, yesS, opnS]
    rw [step_all W V n k (by omega)]
    unfold stepX
    by_cases e : cell V k 0 = 0
    · rw [if_pos e, if_pos (show k < n by omega), if_pos rfl, if_neg (show ¬ cell V k 0 = 1 by omega), if_pos e]
      omega
    · rw [if_neg e, if_neg e]
      omega
theorem pivot {p : Nat → Prop} (h0 : ¬ p 0) : ∀ n, p n → ∃ k, k < n ∧ ¬ p k ∧ p (k + 1)
  | 0, h => absurd h h0
  | n + 1, h => by
    by_cases e : p n
    · obtain ⟨k, h1, h2⟩ := pivot h0 n e
      exact ⟨k, by omega, h2⟩
    · exact ⟨n, by omega, e, h⟩
theorem votes_bd {W V : Rows} {X : Nat → Int} {n : Nat} (h : Votes V n X) : ∀ {k}, k ≤ n → (∀ i, i < k → 0 ≤ cell W i 0) → yesS W V k ≤ yesF W X k ∧ yesF W X k ≤ yesS W V k + opnS W V k
  | 0, _, _ => by simp [yesS, yesF, opnS]
  | k + 1, hk, hw => by
    have ih := votes_bd h (k := k) (by omega) fun i hi => hw i (by omega)
    have h0 := hw k (by omega)
    simp only [yesS, yesF, opnS]
    by_cases e : cell V k 0 = 0
    · rw [if_neg (show ¬ cell V k 0 = 1 by omega), if_pos e]
      split <;> omega
    · rw [h.1 k (by omega) e, if_neg e]
      omega
theorem swg_any {W V : Rows} {need : Int} (ok : MotOk W V need) : decV W V need = 3 ↔ ∃ i, i < W.length ∧ cell V i 0 = 0 ∧ swg W V need i := by
  have hw : ∀ i, i < W.length → 0 ≤ cell W i 0 := fun i hi => (ok.w i hi).1
  have hd : decV W V need = 3 ↔ ¬ passN W need (yesS W V W.length) ∧ passN W need (yesS W V W.length + opnS W V W.length) := by
    unfold decV
    rw [if_pos (mot_zero ok)]
    by_cases h1 : passN W need (yesS W V W.length)
    · rw [if_pos h1]
      exact ⟨fun h => absurd h (by decide), fun h => absurd h1 h.1⟩
    · rw [if_neg h1]
      by_cases h2 : passN W need (yesS W V W.length + opnS W V W.length)
      · rw [if_pos h2]
        exact ⟨fun _ => ⟨h1, h2⟩, fun _ => rfl⟩
      · rw [if_neg h2]
        exact ⟨fun h => absurd h (by decide), fun h => absurd h.2 h2⟩
  rw [hd]
  constructor
  · rintro ⟨h1, h2⟩
    obtain ⟨k, h3, h4, h5⟩ := pivot (p := fun j => passN W need (yesF W (stepX V j) W.length)) (by
      show ¬ passN W need (yesF W (stepX V 0) W.length)
      rw [step_zero]
      exact h1) W.length (by
      show passN W need (yesF W (stepX V W.length) W.length)
      rw [step_all W V W.length W.length (Nat.le_refl _)]
      exact h2)
    have h0 : cell V k 0 = 0 := by
      apply Classical.byContradiction
      intro hne
      apply h4
      have e : stepX V k = stepX V (k + 1) := by
        funext j
        unfold stepX
        by_cases ej : cell V j 0 = 0
        · have : j ≠ k := fun e => hne (by rw [← e]; exact ej)
          rw [if_pos ej, if_pos ej]
          by_cases hj : j < k
          · rw [if_pos hj, if_pos (by omega)]
          · rw [if_neg hj, if_neg (by omega)]
        · rw [if_neg ej, if_neg ej]
      show passN W need (yesF W (stepX V k) W.length)
      rw [e]
      exact h5
    refine ⟨k, h3, h0, stepX V k, step_votes V k _, ?_, ?_⟩
    · have e : setF (stepX V k) k 1 = stepX V (k + 1) := by
        funext j
        unfold setF stepX
        by_cases ej : j = k
        · subst ej
          rw [if_pos rfl, if_pos h0, if_pos (by omega)]
        · rw [if_neg ej]
          by_cases e0 : cell V j 0 = 0
          · rw [if_pos e0, if_pos e0]
            by_cases hj : j < k
            · rw [if_pos hj, if_pos (by omega)]
            · rw [if_neg hj, if_neg (by omega)]
          · rw [if_neg e0, if_neg e0]
      rw [e]
      exact h5
    · have e : setF (stepX V k) k 2 = stepX V k := set_same (by
        unfold stepX
        rw [if_pos h0, if_neg (by omega)])
      rw [e]
      exact h4
  · rintro ⟨i, h1, h2, X, h3, h4, h5⟩
    have b1 := votes_bd (W := W) (votes_set h3 h2 (z := 1) (.inl rfl)) (Nat.le_refl _) hw
    have b2 := votes_bd (W := W) (votes_set h3 h2 (z := 2) (.inr rfl)) (Nat.le_refl _) hw
    exact ⟨fun h => h5 (passM b2.1 h), passM b1.2 h4⟩
theorem sw_has {W V : Rows} {need : Int} (ok : MotOk W V need) (i : Nat) : hasR (swgR W V need) i ↔ i < W.length ∧ cell V i 0 = 0 ∧ swg W V need i := by
  rw [swgR_ok (mot_zero ok)]
  exact (swR_in W V need W.length).2 i
theorem dec_open {W V : Rows} {need : Int} (ok : MotOk W V need) : decV W V need = 3 ↔ 0 < (swgR W V need).length := by
  rw [swg_any ok]
  constructor
  · rintro ⟨i, h⟩
    obtain ⟨j, h1, _⟩ := (sw_has ok i).2 h
    omega
  · intro h
    have h1 := (swR_in W V need W.length).1 0 (by rw [← swgR_ok (mot_zero ok)]; exact h)
    obtain ⟨i, hi⟩ := Int.eq_ofNat_of_zero_le h1.1
    exact ⟨i, (sw_has ok i).1 ⟨0, h, by rw [swgR_ok (mot_zero ok)]; exact hi⟩⟩
theorem Wst.Ok.in {v : Wst} (h : v.Ok) (j : Nat) (hj : j < v.S.length) : 0 ≤ cell v.S j 0 ∧ cell v.S j 0 < v.V.length ∧ (0 < j → cell v.S (j - 1) 0 < cell v.S j 0) := by
  have e : v.S = swR v.W v.V v.need v.W.length := swgR_ok (mot_zero h.m)
  rw [e] at hj ⊢
  have := (swR_in v.W v.V v.need v.W.length).1 j hj
  rw [h.m.v]
  exact this
theorem Wst.Ok.has {v : Wst} (h : v.Ok) (i : Nat) : hasR v.S i ↔ i < v.W.length ∧ cell v.V i 0 = 0 ∧ swg v.W v.V v.need i := sw_has h.m i

noncomputable def F_Has : Fn0 := ⟨33, [.one (.l [.i64]), i64], fun l => match l with | [.l L, .z y] => L.length ≤ 4000000 | _ => False, fun l => match l with | [.l L, .z y] => .p (hasR L y) | _ => .v undef⟩
noncomputable def A_Has : List SV → List Dat → Nat → List SV → Ann := fun xs ds n ts => match xs with
  | [.lst x _ _ _, .i _ _] => match ds with
    | [.l L, .z y] => match n with
      | 2 => ⟨Nat, fun k => [some (SV.lst x L.length ((1 : Nat)) (Rv.elemOf [IntKind.i64] L)), some (SV.i IntKind.i64 y), none, none, none, some (.i .i64 k), none, none, none, none, none, none, none, none, none, none, none, none], fun k => [], fun k => k ≤ L.length ∧ ∀ j, j < k → ¬ cell L j 0 = y, fun k => L.length - k, 0⟩
      | _ => noAnn
    | _ => noAnn
  | _ => noAnn

def V_Has : Prop :=
  ∀ (B : RW) (x : RV) (rows : List (List Int)), IsLst B x rows.length 1 (Rv.elemOf [.i64] rows) → oneB x = true → (∀ (row : List Int), row ∈ rows → row.length = (1 : Nat)) → ∀ (n : Int), rows.length ≤ (4000000 : Nat) → (∃
  (a : Nat), Ob (a ≤ rows.length ∧ ∀ (j : Nat), j < a → ¬cell rows j 0 = n) ∧ Ob (SV.lst x rows.length 1 (Rv.elemOf [.i64] rows) = SV.lst x rows.length 1 (Rv.elemOf [.i64] rows)) ∧ Ob (n = n) ∧ Ob ((0 : Int) = (↑a : Int))
  ∧ Ob (IsLst B x rows.length 1 (Rv.elemOf [.i64] rows)) ∧ True) ∧ ∀ (a : Nat), (a ≤ rows.length ∧ ∀ (j : Nat), j < a → ¬cell rows j 0 = n) → ∀ (z z_1 z_2 z_3 z_4 z_5 z_6 z_7 z_8 z_9 z_10 z_11 z_12 z_13 z_14 : Value), Ob
  (IsLst B x rows.length 1 (Rv.elemOf [.i64] rows)) ∧ ((↑a : Int) < (↑rows.length : Int) → Ob ((0 : Int) ≤ (↑a : Int) ∧ a < rows.length ∧ IsLst B x rows.length 1 (Rv.elemOf [.i64] rows)) ∧ Ob (IsLst B x rows.length 1
  (Rv.elemOf [.i64] rows) ∧ a < rows.length) ∧ (cell rows a 0 = n → Ob (true = true ↔ hasR rows n) ∧ True) ∧ (¬cell rows a 0 = n → Ob (InR .i64 ((↑a : Int) + (1 : Int))) ∧ ∃ (a' : Nat), Ob ((a' ≤ rows.length ∧ ∀ (j : Nat),
  j < a' → ¬cell rows j 0 = n) ∧ rows.length - a' < rows.length - a) ∧ Ob (SV.lst x rows.length 1 (Rv.elemOf [.i64] rows) = SV.lst x rows.length 1 (Rv.elemOf [.i64] rows)) ∧ Ob (n = n) ∧ Ob ((↑a : Int) + (1 : Int) = (↑a' :
  Int)) ∧ Ob (IsLst B x rows.length 1 (Rv.elemOf [.i64] rows)) ∧ True)) ∧ (¬(↑a : Int) < (↑rows.length : Int) → Ob (false = true ↔ hasR rows n) ∧ True)

set_option linter.unusedSimpArgs false in
set_option maxRecDepth 4000 in
set_option maxHeartbeats 400000 in
theorem v_Has : V_Has := by
  unfold V_Has
  intro B x L hx hox hrx y hL
  simp only [Ob_iff, and_true, true_and]
  refine ⟨⟨0, ⟨Nat.zero_le _, fun j hj => absurd hj (Nat.not_lt_zero _)⟩, rfl, hx⟩, ?_⟩
  intro k ⟨hk, hn⟩
  intros
  refine ⟨hx, ?_⟩
  refine ⟨fun h1 => ?_, fun h1 => ?_⟩
  · have hk' : k < L.length := by omega
    refine ⟨⟨by omega, hk', hx⟩, ⟨hx, hk'⟩, fun h2 => ?_, fun h2 => ?_⟩
    · exact ⟨fun _ => ⟨k, hk', h2⟩, fun _ => trivial⟩
    · refine ⟨by simp only [InR]; omega, k + 1, ⟨⟨hk', fun j hj => ?_⟩, by omega⟩, by omega, hx⟩
      by_cases e : j = k
      · subst e; exact h2
      · exact hn j (by omega)
  · have e : k = L.length := by omega
    subst e
    exact ⟨fun h => absurd h (by decide), fun ⟨j, h2, h3⟩ => absurd h3 (hn j h2)⟩

theorem e_Has : V_Has = needF P [] A_Has F_Has := by kernel_rfl

theorem n_Has : Ob (needF P [] A_Has F_Has) := by
  rw [← e_Has]
  exact ⟨v_Has⟩

theorem b_Has : ((P.funcs[33]?).any fun fn => fn.body.isSome) = true := by kernel_rfl

theorem Has_ok : Fn0.Ok P F_Has := Fn0.ok named (l := []) (A := A_Has) (by rfl) (by
  intro F h; simp at h) b_Has (by
  intro ds N
  simp only [F_Has]
  split <;> rfl) n_Has

noncomputable def F_law : LawF := ⟨7, [.one (.l [.i64])], fun l => match l with | [.l N] => N.length ≤ 9223372036854775807 | _ => False⟩
noncomputable def A_law : List SV → List Dat → Nat → List SV → Ann := fun xs ds n ts => match xs with
  | [.lst xz _ _ _] => match ds with
    | [.l N] => match n with
      | 7 => ⟨Wst, fun v => [none, none, none, some (.gsl 1 v.W.length 1 true), some (.gsl 2 v.V.length 1 true), some (.i .i64 v.need), some (.gsl 3 v.S.length 1 true), none, none, none, some (.i .i64 v.k), none, none, none, none, none, none, none, none, none, none, none, none, none, none, none, none, none, none, none, none, none, none, none, none, none, none, none, none, none, none, none, none, none, none, none, none, none, none, none, none, none, none, none, none, none, none, none, none, none, none, none, none, none, none, none, none, none, none, none, none, none, none, none, none, none, none, none, none, none, none, none, none, none, none, none, none, none, none, none, none, none, none, none, none, none, none, none, none, none, none, none, none, none, none, none, none, none, none, none, none, none, none, none, none, none, none, none, none, none, none, none, none, none, none, none, none, none, none, none, none, none, none, none, none, none, none, none, none], fun v => [.gr v.S.length 1 (.fn (Rv.elemOf [.i64] v.S)) .gr true, .gr v.V.length 1 (.fn (Rv.elemOf [.i64] v.V)) .gr true, .gr v.W.length 1 (.fn (Rv.elemOf [.i64] v.W)) .gr true, .cells [.i .u64 v.q] .ex], fun v => v.Ok ∧ v.k ≤ v.S.length, fun v => v.S.length - v.k, 0⟩
      | 12 => ⟨Wst, fun v => [none, none, none, some (.gsl 1 v.W.length 1 true), some (.gsl 2 v.V.length 1 true), some (.i .i64 v.need), some (.gsl 3 v.S.length 1 true), none, none, none, none, some (.i .i64 v.k), none, none, none, none, none, none, none, none, none, none, none, none, none, none, none, none, none, none, none, none, none, none, none, none, none, none, none, none, none, none, none, none, none, none, none, none, none, none, none, none, none, none, none, none, none, none, none, none, none, none, none, none, none, none, none, none, none, none, none, none, none, none, none, none, none, none, none, none, none, none, none, none, none, none, none, none, none, none, none, none, none, none, none, none, none, none, none, none, none, none, none, none, none, none, none, none, none, none, none, none, none, none, none, none, none, none, none, none, none, none, none, none, none, none, none, none, none, none, none, none, none, none, none, none, none, none, none], fun v => [.gr v.S.length 1 (.fn (Rv.elemOf [.i64] v.S)) .gr true, .gr v.V.length 1 (.fn (Rv.elemOf [.i64] v.V)) .gr true, .gr v.W.length 1 (.fn (Rv.elemOf [.i64] v.W)) .gr true, .cells [.i .u64 v.q] .ex], fun v => v.Ok ∧ v.k ≤ v.V.length, fun v => v.V.length - v.k, 0⟩
      | 16 => (match lget ts 4 with | some (SV.gsl _ n4 _ _) => (match lget ts 11 with | some (SV.i _ i0) => ⟨Wst, fun v => [none, none, none, some (.gsl 1 v.W.length 1 true), some (SV.gsl 2 n4 1 true), some (.i .i64 v.need), some (.gsl 3 v.S.length 1 true), none, none, none, none, some (SV.i IntKind.i64 i0), some (.p (∃ j, j < v.s ∧ trnC v.W v.V v.need v.k j)), some (.i .i64 v.s), none, none, none, none, none, none, none, none, none, none, none, none, none, none, none, none, none, none, none, none, none, none, none, none, none, none, none, none, none, none, none, none, none, none, none, none, none, none, none, none, none, none, none, none, none, none, none, none, none, none, none, none, none, none, none, none, none, none, none, none, none, none, none, none, none, none, none, none, none, none, none, none, none, none, none, none, none, none, none, none, none, none, none, none, none, none, none, none, none, none, none, none, none, none, none, none, none, none, none, none, none, none, none, none, none, none, none, none, none, none, none, none, none, none, none, none, none, none, none, none, none, none, none, none, none], fun v => [.gr v.S.length 1 (.fn (Rv.elemOf [.i64] v.S)) .gr true, .gr v.V.length 1 (.fn (Rv.elemOf [.i64] v.V)) .gr true, .gr v.W.length 1 (.fn (Rv.elemOf [.i64] v.W)) .gr true, .cells [.i .u64 v.q] .ex], fun v => v.Ok ∧ v.k < v.V.length ∧ v.s ≤ 2 ^ v.V.length ∧ i0 = v.k ∧ n4 = v.V.length ∧ (¬ cell v.V v.k 0 = 0 → v.s = 0), fun v => 2 ^ v.V.length - v.s, 0⟩ | _ => noAnn) | _ => noAnn)
      | _ => noAnn
    | _ => noAnn
  | _ => noAnn

def V_law : Prop :=
  ∀ (B : RW), hasTabs [] B → ∀ (x : RV) (rows : List (List Int)), IsLst B x rows.length 1 (Rv.elemOf [.i64] rows) → oneB x = true → (∀ (row : List Int), row ∈ rows → row.length = (1 : Nat)) → rows.length ≤
  (9223372036854775807 : Nat) → ∃ (rows_1 : List (List Int)), Ob (IsLst B x rows.length 1 (Rv.elemOf [.i64] rows) ∧ rows_1.length = rows.length ∧ (∀ (r : List Int), r ∈ rows_1 → r.length = (1 : Nat)) ∧ ∀ (i : Nat), i <
  rows.length → Rv.elemOf [.i64] rows i = Rv.elemOf [.i64] rows_1 i) ∧ Ob (F_TideOf.named.pre [Dat.l rows_1]) ∧ Ob (F_MotionOf.named.pre ([Dat.z (tideK rows_1 rows_1.length)] ++ [Dat.z (7 : Int)])) ∧ ∀ (v : Int), v = moZ
  (tideK rows_1 rows_1.length) (7 : Int) → ∀ (v_1 : Int), v_1 = moD (tideK rows_1 rows_1.length) (7 : Int) → ∃ (rows_2 : List (List Int)), Ob (moN (tideK rows_1 rows_1.length) (7 : Int) = moN (tideK rows_1 rows_1.length)
  (7 : Int) ∧ rows_2.length = moN (tideK rows_1 rows_1.length) (7 : Int) ∧ (∀ (r : List Int), r ∈ rows_2 → r.length = (1 : Nat)) ∧ ∀ (i : Nat), i < moN (tideK rows_1 rows_1.length) (7 : Int) → (El.fn (Rv.elemOf [.i64] (itR
  moQ moW (moA (tideK rows_1 rows_1.length) (7 : Int)) (moN (tideK rows_1 rows_1.length) (7 : Int))))).at i = Rv.elemOf [.i64] rows_2 i) ∧ ∃ (rows_3 : List (List Int)), Ob (moN (tideK rows_1 rows_1.length) (7 : Int) = moN
  (tideK rows_1 rows_1.length) (7 : Int) ∧ rows_3.length = moN (tideK rows_1 rows_1.length) (7 : Int) ∧ (∀ (r : List Int), r ∈ rows_3 → r.length = (1 : Nat)) ∧ ∀ (i : Nat), i < moN (tideK rows_1 rows_1.length) (7 : Int) →
  (El.fn (Rv.elemOf [.i64] (itR moQ moV (moA (tideK rows_1 rows_1.length) (7 : Int)) (moN (tideK rows_1 rows_1.length) (7 : Int))))).at i = Rv.elemOf [.i64] rows_3 i) ∧ Ob (F_Swing.named.pre [Dat.l rows_2, Dat.l rows_3,
  Dat.z v_1]) ∧ ∀ (v_2 : Int), v_2 = motErr rows_2 rows_3 v_1 → ∃ (rows_4 : List (List Int)), Ob (moN (tideK rows_1 rows_1.length) (7 : Int) = moN (tideK rows_1 rows_1.length) (7 : Int) ∧ rows_4.length = moN (tideK rows_1
  rows_1.length) (7 : Int) ∧ (∀ (r : List Int), r ∈ rows_4 → r.length = (1 : Nat)) ∧ ∀ (i : Nat), i < moN (tideK rows_1 rows_1.length) (7 : Int) → (El.fn (Rv.elemOf [.i64] (itR moQ moW (moA (tideK rows_1 rows_1.length) (7
  : Int)) (moN (tideK rows_1 rows_1.length) (7 : Int))))).at i = Rv.elemOf [.i64] rows_4 i) ∧ ∃ (rows_5 : List (List Int)), Ob (moN (tideK rows_1 rows_1.length) (7 : Int) = moN (tideK rows_1 rows_1.length) (7 : Int) ∧
  rows_5.length = moN (tideK rows_1 rows_1.length) (7 : Int) ∧ (∀ (r : List Int), r ∈ rows_5 → r.length = (1 : Nat)) ∧ ∀ (i : Nat), i < moN (tideK rows_1 rows_1.length) (7 : Int) → (El.fn (Rv.elemOf [.i64] (itR moQ moV
  (moA (tideK rows_1 rows_1.length) (7 : Int)) (moN (tideK rows_1 rows_1.length) (7 : Int))))).at i = Rv.elemOf [.i64] rows_5 i) ∧ Ob (F_Decide.named.pre [Dat.l rows_4, Dat.l rows_5, Dat.z v_1]) ∧ ∀ (v_3 : Int), v_3 = decV
  rows_4 rows_5 v_1 → ∀ (v_4 : Int), v_4 = motErr rows_4 rows_5 v_1 → (¬¬v_2 = (0 : Int) → (¬¬v_4 = (0 : Int) → (¬(v_3 = (3 : Int) ↔ (0 : Int) < (↑(List.length (swgR rows_2 rows_3 v_1)) : Int)) → False) ∧ (¬¬(v_3 = (3 :
  Int) ↔ (0 : Int) < (↑(List.length (swgR rows_2 rows_3 v_1)) : Int)) → (∃ (a : Wst), Ob (a.Ok ∧ a.k ≤ List.length a.S) ∧ Ob (moN (tideK rows_1 rows_1.length) (7 : Int) = List.length a.W) ∧ Ob (moN (tideK rows_1
  rows_1.length) (7 : Int) = List.length a.V) ∧ Ob (v_1 = a.need) ∧ Ob (List.length (swgR rows_2 rows_3 v_1) = List.length a.S) ∧ Ob ((0 : Int) = (↑a.k : Int)) ∧ Ob (List.length (swgR rows_2 rows_3 v_1) = List.length a.S ∧
  ∀ (i : Nat), i < List.length a.S → (El.fn (Rv.elemOf [.i64] (swgR rows_2 rows_3 v_1))).at i = (El.fn (Rv.elemOf [.i64] a.S)).at i) ∧ Ob (moN (tideK rows_1 rows_1.length) (7 : Int) = List.length a.V ∧ ∀ (i : Nat), i <
  List.length a.V → (El.fn (Rv.elemOf [.i64] (itR moQ moV (moA (tideK rows_1 rows_1.length) (7 : Int)) (moN (tideK rows_1 rows_1.length) (7 : Int))))).at i = (El.fn (Rv.elemOf [.i64] a.V)).at i) ∧ Ob (moN (tideK rows_1
  rows_1.length) (7 : Int) = List.length a.W ∧ ∀ (i : Nat), i < List.length a.W → (El.fn (Rv.elemOf [.i64] (itR moQ moW (moA (tideK rows_1 rows_1.length) (7 : Int)) (moN (tideK rows_1 rows_1.length) (7 : Int))))).at i =
  (El.fn (Rv.elemOf [.i64] a.W)).at i) ∧ Ob (v = a.q) ∧ Ob (PlainE (List.length a.S) (El.fn (Rv.elemOf [.i64] a.S))) ∧ Ob (PlainE (List.length a.V) (El.fn (Rv.elemOf [.i64] a.V))) ∧ Ob (PlainE (List.length a.W) (El.fn
  (Rv.elemOf [.i64] a.W))) ∧ True) ∧ ∀ (a : Wst), a.Ok ∧ a.k ≤ List.length a.S → ∀ (z z_1 z_2 z_3 z_4 z_5 z_6 z_7 z_8 z_9 z_10 z_11 z_12 z_13 z_14 z_15 z_16 z_17 z_18 z_19 z_20 z_21 z_22 z_23 z_24 z_25 z_26 z_27 z_28 z_29
  z_30 z_31 z_32 z_33 z_34 z_35 z_36 z_37 z_38 z_39 z_40 z_41 z_42 z_43 z_44 z_45 z_46 z_47 z_48 z_49 z_50 z_51 z_52 z_53 z_54 z_55 z_56 z_57 z_58 z_59 z_60 z_61 z_62 z_63 z_64 z_65 z_66 z_67 z_68 z_69 z_70 z_71 z_72 z_73
  z_74 z_75 z_76 z_77 z_78 z_79 z_80 z_81 z_82 z_83 z_84 z_85 z_86 z_87 z_88 z_89 z_90 z_91 z_92 z_93 z_94 z_95 z_96 z_97 z_98 z_99 z_100 z_101 z_102 z_103 z_104 z_105 z_106 z_107 z_108 z_109 z_110 z_111 z_112 z_113 z_114
  z_115 z_116 z_117 z_118 z_119 z_120 z_121 z_122 z_123 z_124 z_125 z_126 z_127 z_128 z_129 z_130 z_131 z_132 z_133 : Value), ((↑a.k : Int) < (↑(List.length a.S) : Int) → Ob ((0 : Int) ≤ (↑a.k : Int) ∧ a.k < List.length
  a.S) ∧ Ob (a.k < List.length a.S) ∧ (¬cell a.S a.k 0 < (0 : Int) → Ob ((0 : Int) ≤ (↑a.k : Int) ∧ a.k < List.length a.S) ∧ Ob (a.k < List.length a.S) ∧ (¬(↑(List.length a.V) : Int) ≤ cell a.S a.k 0 → ((0 : Int) < (↑a.k :
  Int) → Ob ((0 : Int) ≤ (↑a.k : Int) ∧ a.k < List.length a.S) ∧ Ob (a.k < List.length a.S) ∧ Ob (InR .i64 ((↑a.k : Int) - (1 : Int))) ∧ Ob ((0 : Int) ≤ (↑a.k : Int) - (1 : Int) ∧ ((↑a.k : Int) - (1 : Int)).toNat <
  List.length a.S) ∧ Ob (((↑a.k : Int) - (1 : Int)).toNat < List.length a.S) ∧ (cell a.S a.k 0 ≤ cell a.S ((↑a.k : Int) - (1 : Int)).toNat 0 → False) ∧ (¬cell a.S a.k 0 ≤ cell a.S ((↑a.k : Int) - (1 : Int)).toNat 0 → Ob
  (InR .i64 ((↑a.k : Int) + (1 : Int))) ∧ ∃ (a' : Wst), Ob ((a'.Ok ∧ a'.k ≤ List.length a'.S) ∧ List.length a'.S - a'.k < List.length a.S - a.k) ∧ Ob (List.length a.W = List.length a'.W) ∧ Ob (List.length a.V = List.length
  a'.V) ∧ Ob (a.need = a'.need) ∧ Ob (List.length a.S = List.length a'.S) ∧ Ob ((↑a.k : Int) + (1 : Int) = (↑a'.k : Int)) ∧ Ob (List.length a.S = List.length a'.S ∧ ∀ (i : Nat), i < List.length a'.S → (El.fn (Rv.elemOf
  [.i64] a.S)).at i = (El.fn (Rv.elemOf [.i64] a'.S)).at i) ∧ Ob (List.length a.V = List.length a'.V ∧ ∀ (i : Nat), i < List.length a'.V → (El.fn (Rv.elemOf [.i64] a.V)).at i = (El.fn (Rv.elemOf [.i64] a'.V)).at i) ∧ Ob
  (List.length a.W = List.length a'.W ∧ ∀ (i : Nat), i < List.length a'.W → (El.fn (Rv.elemOf [.i64] a.W)).at i = (El.fn (Rv.elemOf [.i64] a'.W)).at i) ∧ Ob (a.q = a'.q) ∧ Ob (PlainE (List.length a'.S) (El.fn (Rv.elemOf
  [.i64] a'.S))) ∧ Ob (PlainE (List.length a'.V) (El.fn (Rv.elemOf [.i64] a'.V))) ∧ Ob (PlainE (List.length a'.W) (El.fn (Rv.elemOf [.i64] a'.W))) ∧ True)) ∧ (¬(0 : Int) < (↑a.k : Int) → Ob (InR .i64 ((↑a.k : Int) + (1 :
  Int))) ∧ ∃ (a' : Wst), Ob ((a'.Ok ∧ a'.k ≤ List.length a'.S) ∧ List.length a'.S - a'.k < List.length a.S - a.k) ∧ Ob (List.length a.W = List.length a'.W) ∧ Ob (List.length a.V = List.length a'.V) ∧ Ob (a.need = a'.need)
  ∧ Ob (List.length a.S = List.length a'.S) ∧ Ob ((↑a.k : Int) + (1 : Int) = (↑a'.k : Int)) ∧ Ob (List.length a.S = List.length a'.S ∧ ∀ (i : Nat), i < List.length a'.S → (El.fn (Rv.elemOf [.i64] a.S)).at i = (El.fn
  (Rv.elemOf [.i64] a'.S)).at i) ∧ Ob (List.length a.V = List.length a'.V ∧ ∀ (i : Nat), i < List.length a'.V → (El.fn (Rv.elemOf [.i64] a.V)).at i = (El.fn (Rv.elemOf [.i64] a'.V)).at i) ∧ Ob (List.length a.W =
  List.length a'.W ∧ ∀ (i : Nat), i < List.length a'.W → (El.fn (Rv.elemOf [.i64] a.W)).at i = (El.fn (Rv.elemOf [.i64] a'.W)).at i) ∧ Ob (a.q = a'.q) ∧ Ob (PlainE (List.length a'.S) (El.fn (Rv.elemOf [.i64] a'.S))) ∧ Ob
  (PlainE (List.length a'.V) (El.fn (Rv.elemOf [.i64] a'.V))) ∧ Ob (PlainE (List.length a'.W) (El.fn (Rv.elemOf [.i64] a'.W))) ∧ True)) ∧ ((↑(List.length a.V) : Int) ≤ cell a.S a.k 0 → False)) ∧ (cell a.S a.k 0 < (0 : Int)
  → False)) ∧ (¬(↑a.k : Int) < (↑(List.length a.S) : Int) → (∃ (a_1 : Wst), Ob (a_1.Ok ∧ a_1.k ≤ List.length a_1.V) ∧ Ob (List.length a.W = List.length a_1.W) ∧ Ob (List.length a.V = List.length a_1.V) ∧ Ob (a.need =
  a_1.need) ∧ Ob (List.length a.S = List.length a_1.S) ∧ Ob ((0 : Int) = (↑a_1.k : Int)) ∧ Ob (List.length a.S = List.length a_1.S ∧ ∀ (i : Nat), i < List.length a_1.S → (El.fn (Rv.elemOf [.i64] a.S)).at i = (El.fn
  (Rv.elemOf [.i64] a_1.S)).at i) ∧ Ob (List.length a.V = List.length a_1.V ∧ ∀ (i : Nat), i < List.length a_1.V → (El.fn (Rv.elemOf [.i64] a.V)).at i = (El.fn (Rv.elemOf [.i64] a_1.V)).at i) ∧ Ob (List.length a.W =
  List.length a_1.W ∧ ∀ (i : Nat), i < List.length a_1.W → (El.fn (Rv.elemOf [.i64] a.W)).at i = (El.fn (Rv.elemOf [.i64] a_1.W)).at i) ∧ Ob (a.q = a_1.q) ∧ Ob (PlainE (List.length a_1.S) (El.fn (Rv.elemOf [.i64] a_1.S)))
  ∧ Ob (PlainE (List.length a_1.V) (El.fn (Rv.elemOf [.i64] a_1.V))) ∧ Ob (PlainE (List.length a_1.W) (El.fn (Rv.elemOf [.i64] a_1.W))) ∧ True) ∧ ∀ (a_1 : Wst), a_1.Ok ∧ a_1.k ≤ List.length a_1.V → ∀ (z_134 z_135 z_136
  z_137 z_138 z_139 z_140 z_141 z_142 z_143 z_144 z_145 z_146 z_147 z_148 z_149 z_150 z_151 z_152 z_153 z_154 z_155 z_156 z_157 z_158 z_159 z_160 z_161 z_162 z_163 z_164 z_165 z_166 z_167 z_168 z_169 z_170 z_171 z_172
  z_173 z_174 z_175 z_176 z_177 z_178 z_179 z_180 z_181 z_182 z_183 z_184 z_185 z_186 z_187 z_188 z_189 z_190 z_191 z_192 z_193 z_194 z_195 z_196 z_197 z_198 z_199 z_200 z_201 z_202 z_203 z_204 z_205 z_206 z_207 z_208
  z_209 z_210 z_211 z_212 z_213 z_214 z_215 z_216 z_217 z_218 z_219 z_220 z_221 z_222 z_223 z_224 z_225 z_226 z_227 z_228 z_229 z_230 z_231 z_232 z_233 z_234 z_235 z_236 z_237 z_238 z_239 z_240 z_241 z_242 z_243 z_244
  z_245 z_246 z_247 z_248 z_249 z_250 z_251 z_252 z_253 z_254 z_255 z_256 z_257 z_258 z_259 z_260 z_261 z_262 z_263 z_264 z_265 z_266 z_267 : Value), ((↑a_1.k : Int) < (↑(List.length a_1.V) : Int) → (∃ (a_2 : Wst), Ob
  (a_2.Ok ∧ a_2.k < List.length a_2.V ∧ a_2.s ≤ (2 : Nat) ^ List.length a_2.V ∧ (↑a_1.k : Int) = (↑a_2.k : Int) ∧ List.length a_1.V = List.length a_2.V ∧ (¬cell a_2.V a_2.k 0 = (0 : Int) → a_2.s = (0 : Nat))) ∧ Ob
  (List.length a_1.W = List.length a_2.W) ∧ Ob (List.length a_1.V = List.length a_1.V) ∧ Ob (a_1.need = a_2.need) ∧ Ob (List.length a_1.S = List.length a_2.S) ∧ Ob ((↑a_1.k : Int) = (↑a_1.k : Int)) ∧ Ob (false = true ↔ ∃
  (j : Nat), j < a_2.s ∧ trnC a_2.W a_2.V a_2.need a_2.k j) ∧ Ob ((0 : Int) = (↑a_2.s : Int)) ∧ Ob (List.length a_1.S = List.length a_2.S ∧ ∀ (i : Nat), i < List.length a_2.S → (El.fn (Rv.elemOf [.i64] a_1.S)).at i =
  (El.fn (Rv.elemOf [.i64] a_2.S)).at i) ∧ Ob (List.length a_1.V = List.length a_2.V ∧ ∀ (i : Nat), i < List.length a_2.V → (El.fn (Rv.elemOf [.i64] a_1.V)).at i = (El.fn (Rv.elemOf [.i64] a_2.V)).at i) ∧ Ob (List.length
  a_1.W = List.length a_2.W ∧ ∀ (i : Nat), i < List.length a_2.W → (El.fn (Rv.elemOf [.i64] a_1.W)).at i = (El.fn (Rv.elemOf [.i64] a_2.W)).at i) ∧ Ob (a_1.q = a_2.q) ∧ Ob (PlainE (List.length a_2.S) (El.fn (Rv.elemOf
  [.i64] a_2.S))) ∧ Ob (PlainE (List.length a_2.V) (El.fn (Rv.elemOf [.i64] a_2.V))) ∧ Ob (PlainE (List.length a_2.W) (El.fn (Rv.elemOf [.i64] a_2.W))) ∧ True) ∧ ∀ (a_2 : Wst), a_2.Ok ∧ a_2.k < List.length a_2.V ∧ a_2.s ≤
  (2 : Nat) ^ List.length a_2.V ∧ (↑a_1.k : Int) = (↑a_2.k : Int) ∧ List.length a_1.V = List.length a_2.V ∧ (¬cell a_2.V a_2.k 0 = (0 : Int) → a_2.s = (0 : Nat)) → ∀ (z_268 z_269 z_270 z_271 z_272 z_273 z_274 z_275 z_276
  z_277 z_278 z_279 z_280 z_281 z_282 z_283 z_284 z_285 z_286 z_287 z_288 z_289 z_290 z_291 z_292 z_293 z_294 z_295 z_296 z_297 z_298 z_299 z_300 z_301 z_302 z_303 z_304 z_305 z_306 z_307 z_308 z_309 z_310 z_311 z_312
  z_313 z_314 z_315 z_316 z_317 z_318 z_319 z_320 z_321 z_322 z_323 z_324 z_325 z_326 z_327 z_328 z_329 z_330 z_331 z_332 z_333 z_334 z_335 z_336 z_337 z_338 z_339 z_340 z_341 z_342 z_343 z_344 z_345 z_346 z_347 z_348
  z_349 z_350 z_351 z_352 z_353 z_354 z_355 z_356 z_357 z_358 z_359 z_360 z_361 z_362 z_363 z_364 z_365 z_366 z_367 z_368 z_369 z_370 z_371 z_372 z_373 z_374 z_375 z_376 z_377 z_378 z_379 z_380 z_381 z_382 z_383 z_384
  z_385 z_386 z_387 z_388 z_389 z_390 z_391 z_392 z_393 z_394 z_395 z_396 z_397 z_398 z_399 : Value), Ob ((0 : Int) ≤ (1 : Int) ∧ (0 : Int) ≤ (↑(List.length a_1.V) : Int) ∧ (↑(List.length a_1.V) : Int) ≤ (↑64 : Int) ∧ InR
  .i64 ((1 : Int) * (2 : Int) ^ List.length a_1.V)) ∧ ((↑a_2.s : Int) < (1 : Int) * (2 : Int) ^ List.length a_1.V → Ob ((0 : Int) ≤ (↑a_1.k : Int) ∧ a_1.k < List.length a_1.V) ∧ Ob (a_1.k < List.length a_2.V) ∧ (cell a_2.V
  a_1.k 0 = (0 : Int) → ∃ (rows_6 : List (List Int)), Ob (List.length a_2.V = List.length a_1.V ∧ rows_6.length = List.length a_1.V ∧ (∀ (r : List Int), r ∈ rows_6 → r.length = (1 : Nat)) ∧ ∀ (i : Nat), i < List.length
  a_1.V → (El.fn (Rv.elemOf [.i64] a_2.V)).at i = Rv.elemOf [.i64] rows_6 i) ∧ Ob (F_CastR.named.pre [Dat.l rows_6, Dat.z (↑a_2.s : Int)]) ∧ ∃ (rows_7 : List (List Int)), Ob (List.length a_2.V = List.length a_1.V ∧
  rows_7.length = List.length a_1.V ∧ (∀ (r : List Int), r ∈ rows_7 → r.length = (1 : Nat)) ∧ ∀ (i : Nat), i < List.length a_1.V → (El.fn (Rv.elemOf [.i64] a_2.V)).at i = Rv.elemOf [.i64] rows_7 i) ∧ Ob (F_CastR.named.pre
  [Dat.l rows_7, Dat.z (↑a_2.s : Int)]) ∧ Ob ((0 : Int) ≤ (↑a_1.k : Int) ∧ a_1.k < rows_6.length) ∧ Ob (a_1.k < rows_6.length ∧ ((El.fn (Rv.elemOf [.i64] (castR rows_6 a_2.s rows_6.length))).at a_1.k).length = (1 : Nat)) ∧
  Ob ((0 : Int) ≤ (↑a_1.k : Int) ∧ a_1.k < rows_7.length) ∧ Ob (a_1.k < rows_7.length ∧ ((El.fn (Rv.elemOf [.i64] (castR rows_7 a_2.s rows_7.length))).at a_1.k).length = (1 : Nat)) ∧ ((¬∃ (j : Nat), j < a_2.s ∧ trnC a_2.W
  a_2.V a_2.need a_2.k j) → ∃ (rows_8 : List (List Int)), Ob (List.length a_2.W = List.length a_2.W ∧ rows_8.length = List.length a_2.W ∧ (∀ (r : List Int), r ∈ rows_8 → r.length = (1 : Nat)) ∧ ∀ (i : Nat), i < List.length
  a_2.W → (El.fn (Rv.elemOf [.i64] a_2.W)).at i = Rv.elemOf [.i64] rows_8 i) ∧ ∃ (rows_9 : List (List Int)), Ob (rows_6.length = rows_6.length ∧ rows_9.length = rows_6.length ∧ (∀ (r : List Int), r ∈ rows_9 → r.length = (1
  : Nat)) ∧ ∀ (i : Nat), i < rows_6.length → (updL (El.fn (Rv.elemOf [.i64] (castR rows_6 a_2.s rows_6.length))) a_1.k 0 [SV.i .i64 (1 : Int)]).at i = Rv.elemOf [.i64] rows_9 i) ∧ Ob (WtOk rows_8 ∧ rows_9.length =
  rows_8.length ∧ rows_8.length ≤ (100 : Nat) ∧ (0 : Int) ≤ a_2.need ∧ a_2.need ≤ (1000000 : Int)) ∧ (passN rows_8 a_2.need (yesS rows_8 rows_9 rows_8.length) → ∃ (rows_10 : List (List Int)), Ob (List.length a_2.W =
  List.length a_2.W ∧ rows_10.length = List.length a_2.W ∧ (∀ (r : List Int), r ∈ rows_10 → r.length = (1 : Nat)) ∧ ∀ (i : Nat), i < List.length a_2.W → (El.fn (Rv.elemOf [.i64] a_2.W)).at i = Rv.elemOf [.i64] rows_10 i) ∧
  ∃ (rows_11 : List (List Int)), Ob (rows_7.length = rows_7.length ∧ rows_11.length = rows_7.length ∧ (∀ (r : List Int), r ∈ rows_11 → r.length = (1 : Nat)) ∧ ∀ (i : Nat), i < rows_7.length → (updL (El.fn (Rv.elemOf [.i64]
  (castR rows_7 a_2.s rows_7.length))) a_1.k 0 [SV.i .i64 (2 : Int)]).at i = Rv.elemOf [.i64] rows_11 i) ∧ Ob (WtOk rows_10 ∧ rows_11.length = rows_10.length ∧ rows_10.length ≤ (100 : Nat) ∧ (0 : Int) ≤ a_2.need ∧ a_2.need
  ≤ (1000000 : Int)) ∧ Ob (InR .i64 ((↑a_2.s : Int) + (1 : Int))) ∧ ∃ (a' : Wst), Ob ((a'.Ok ∧ a'.k < List.length a'.V ∧ a'.s ≤ (2 : Nat) ^ List.length a'.V ∧ (↑a_1.k : Int) = (↑a'.k : Int) ∧ List.length a_1.V =
  List.length a'.V ∧ (¬cell a'.V a'.k 0 = (0 : Int) → a'.s = (0 : Nat))) ∧ (2 : Nat) ^ List.length a'.V - a'.s < (2 : Nat) ^ List.length a_2.V - a_2.s) ∧ Ob (List.length a_2.W = List.length a'.W) ∧ Ob (List.length a_1.V =
  List.length a_1.V) ∧ Ob (a_2.need = a'.need) ∧ Ob (List.length a_2.S = List.length a'.S) ∧ Ob ((↑a_1.k : Int) = (↑a_1.k : Int)) ∧ Ob (¬passN rows_10 a_2.need (yesS rows_10 rows_11 rows_10.length) ↔ ∃ (j : Nat), j < a'.s
  ∧ trnC a'.W a'.V a'.need a'.k j) ∧ Ob ((↑a_2.s : Int) + (1 : Int) = (↑a'.s : Int)) ∧ Ob (List.length a_2.S = List.length a'.S ∧ ∀ (i : Nat), i < List.length a'.S → (El.fn (Rv.elemOf [.i64] a_2.S)).at i = (El.fn
  (Rv.elemOf [.i64] a'.S)).at i) ∧ Ob (List.length a_2.V = List.length a'.V ∧ ∀ (i : Nat), i < List.length a'.V → (El.fn (Rv.elemOf [.i64] a_2.V)).at i = (El.fn (Rv.elemOf [.i64] a'.V)).at i) ∧ Ob (List.length a_2.W =
  List.length a'.W ∧ ∀ (i : Nat), i < List.length a'.W → (El.fn (Rv.elemOf [.i64] a_2.W)).at i = (El.fn (Rv.elemOf [.i64] a'.W)).at i) ∧ Ob (a_2.q = a'.q) ∧ Ob (PlainE (List.length a'.S) (El.fn (Rv.elemOf [.i64] a'.S))) ∧
  Ob (PlainE (List.length a'.V) (El.fn (Rv.elemOf [.i64] a'.V))) ∧ Ob (PlainE (List.length a'.W) (El.fn (Rv.elemOf [.i64] a'.W))) ∧ True) ∧ (¬passN rows_8 a_2.need (yesS rows_8 rows_9 rows_8.length) → Ob (InR .i64 ((↑a_2.s
  : Int) + (1 : Int))) ∧ ∃ (a' : Wst), Ob ((a'.Ok ∧ a'.k < List.length a'.V ∧ a'.s ≤ (2 : Nat) ^ List.length a'.V ∧ (↑a_1.k : Int) = (↑a'.k : Int) ∧ List.length a_1.V = List.length a'.V ∧ (¬cell a'.V a'.k 0 = (0 : Int) →
  a'.s = (0 : Nat))) ∧ (2 : Nat) ^ List.length a'.V - a'.s < (2 : Nat) ^ List.length a_2.V - a_2.s) ∧ Ob (List.length a_2.W = List.length a'.W) ∧ Ob (List.length a_1.V = List.length a_1.V) ∧ Ob (a_2.need = a'.need) ∧ Ob
  (List.length a_2.S = List.length a'.S) ∧ Ob ((↑a_1.k : Int) = (↑a_1.k : Int)) ∧ Ob (false = true ↔ ∃ (j : Nat), j < a'.s ∧ trnC a'.W a'.V a'.need a'.k j) ∧ Ob ((↑a_2.s : Int) + (1 : Int) = (↑a'.s : Int)) ∧ Ob
  (List.length a_2.S = List.length a'.S ∧ ∀ (i : Nat), i < List.length a'.S → (El.fn (Rv.elemOf [.i64] a_2.S)).at i = (El.fn (Rv.elemOf [.i64] a'.S)).at i) ∧ Ob (List.length a_2.V = List.length a'.V ∧ ∀ (i : Nat), i <
  List.length a'.V → (El.fn (Rv.elemOf [.i64] a_2.V)).at i = (El.fn (Rv.elemOf [.i64] a'.V)).at i) ∧ Ob (List.length a_2.W = List.length a'.W ∧ ∀ (i : Nat), i < List.length a'.W → (El.fn (Rv.elemOf [.i64] a_2.W)).at i =
  (El.fn (Rv.elemOf [.i64] a'.W)).at i) ∧ Ob (a_2.q = a'.q) ∧ Ob (PlainE (List.length a'.S) (El.fn (Rv.elemOf [.i64] a'.S))) ∧ Ob (PlainE (List.length a'.V) (El.fn (Rv.elemOf [.i64] a'.V))) ∧ Ob (PlainE (List.length a'.W)
  (El.fn (Rv.elemOf [.i64] a'.W))) ∧ True)) ∧ ((∃ (j : Nat), j < a_2.s ∧ trnC a_2.W a_2.V a_2.need a_2.k j) → Ob (InR .i64 ((↑a_2.s : Int) + (1 : Int))) ∧ ∃ (a' : Wst), Ob ((a'.Ok ∧ a'.k < List.length a'.V ∧ a'.s ≤ (2 :
  Nat) ^ List.length a'.V ∧ (↑a_1.k : Int) = (↑a'.k : Int) ∧ List.length a_1.V = List.length a'.V ∧ (¬cell a'.V a'.k 0 = (0 : Int) → a'.s = (0 : Nat))) ∧ (2 : Nat) ^ List.length a'.V - a'.s < (2 : Nat) ^ List.length a_2.V
  - a_2.s) ∧ Ob (List.length a_2.W = List.length a'.W) ∧ Ob (List.length a_1.V = List.length a_1.V) ∧ Ob (a_2.need = a'.need) ∧ Ob (List.length a_2.S = List.length a'.S) ∧ Ob ((↑a_1.k : Int) = (↑a_1.k : Int)) ∧ Ob (true =
  true ↔ ∃ (j : Nat), j < a'.s ∧ trnC a'.W a'.V a'.need a'.k j) ∧ Ob ((↑a_2.s : Int) + (1 : Int) = (↑a'.s : Int)) ∧ Ob (List.length a_2.S = List.length a'.S ∧ ∀ (i : Nat), i < List.length a'.S → (El.fn (Rv.elemOf [.i64]
  a_2.S)).at i = (El.fn (Rv.elemOf [.i64] a'.S)).at i) ∧ Ob (List.length a_2.V = List.length a'.V ∧ ∀ (i : Nat), i < List.length a'.V → (El.fn (Rv.elemOf [.i64] a_2.V)).at i = (El.fn (Rv.elemOf [.i64] a'.V)).at i) ∧ Ob
  (List.length a_2.W = List.length a'.W ∧ ∀ (i : Nat), i < List.length a'.W → (El.fn (Rv.elemOf [.i64] a_2.W)).at i = (El.fn (Rv.elemOf [.i64] a'.W)).at i) ∧ Ob (a_2.q = a'.q) ∧ Ob (PlainE (List.length a'.S) (El.fn
  (Rv.elemOf [.i64] a'.S))) ∧ Ob (PlainE (List.length a'.V) (El.fn (Rv.elemOf [.i64] a'.V))) ∧ Ob (PlainE (List.length a'.W) (El.fn (Rv.elemOf [.i64] a'.W))) ∧ True)) ∧ (¬cell a_2.V a_1.k 0 = (0 : Int) → ∃ (rows_6 : List
  (List Int)), Ob (List.length a_2.S = List.length a_2.S ∧ rows_6.length = List.length a_2.S ∧ (∀ (r : List Int), r ∈ rows_6 → r.length = (1 : Nat)) ∧ ∀ (i : Nat), i < List.length a_2.S → (El.fn (Rv.elemOf [.i64]
  a_2.S)).at i = Rv.elemOf [.i64] rows_6 i) ∧ Ob (rows_6.length ≤ (4000000 : Nat)) ∧ (¬(hasR rows_6 (↑a_1.k : Int) ↔ ∃ (j : Nat), j < a_2.s ∧ trnC a_2.W a_2.V a_2.need a_2.k j) → False) ∧ (¬¬(hasR rows_6 (↑a_1.k : Int) ↔ ∃
  (j : Nat), j < a_2.s ∧ trnC a_2.W a_2.V a_2.need a_2.k j) → Ob (InR .i64 ((↑a_1.k : Int) + (1 : Int))) ∧ ∃ (a' : Wst), Ob ((a'.Ok ∧ a'.k ≤ List.length a'.V) ∧ List.length a'.V - a'.k < List.length a_1.V - a_1.k) ∧ Ob
  (List.length a_2.W = List.length a'.W) ∧ Ob (List.length a_1.V = List.length a'.V) ∧ Ob (a_2.need = a'.need) ∧ Ob (List.length a_2.S = List.length a'.S) ∧ Ob ((↑a_1.k : Int) + (1 : Int) = (↑a'.k : Int)) ∧ Ob (List.length
  a_2.S = List.length a'.S ∧ ∀ (i : Nat), i < List.length a'.S → (El.fn (Rv.elemOf [.i64] a_2.S)).at i = (El.fn (Rv.elemOf [.i64] a'.S)).at i) ∧ Ob (List.length a_2.V = List.length a'.V ∧ ∀ (i : Nat), i < List.length a'.V
  → (El.fn (Rv.elemOf [.i64] a_2.V)).at i = (El.fn (Rv.elemOf [.i64] a'.V)).at i) ∧ Ob (List.length a_2.W = List.length a'.W ∧ ∀ (i : Nat), i < List.length a'.W → (El.fn (Rv.elemOf [.i64] a_2.W)).at i = (El.fn (Rv.elemOf
  [.i64] a'.W)).at i) ∧ Ob (a_2.q = a'.q) ∧ Ob (PlainE (List.length a'.S) (El.fn (Rv.elemOf [.i64] a'.S))) ∧ Ob (PlainE (List.length a'.V) (El.fn (Rv.elemOf [.i64] a'.V))) ∧ Ob (PlainE (List.length a'.W) (El.fn (Rv.elemOf
  [.i64] a'.W))) ∧ True))) ∧ (¬(↑a_2.s : Int) < (1 : Int) * (2 : Int) ^ List.length a_1.V → ∃ (rows_6 : List (List Int)), Ob (List.length a_2.S = List.length a_2.S ∧ rows_6.length = List.length a_2.S ∧ (∀ (r : List Int), r
  ∈ rows_6 → r.length = (1 : Nat)) ∧ ∀ (i : Nat), i < List.length a_2.S → (El.fn (Rv.elemOf [.i64] a_2.S)).at i = Rv.elemOf [.i64] rows_6 i) ∧ Ob (rows_6.length ≤ (4000000 : Nat)) ∧ (¬(hasR rows_6 (↑a_1.k : Int) ↔ ∃ (j :
  Nat), j < a_2.s ∧ trnC a_2.W a_2.V a_2.need a_2.k j) → False) ∧ (¬¬(hasR rows_6 (↑a_1.k : Int) ↔ ∃ (j : Nat), j < a_2.s ∧ trnC a_2.W a_2.V a_2.need a_2.k j) → Ob (InR .i64 ((↑a_1.k : Int) + (1 : Int))) ∧ ∃ (a' : Wst), Ob
  ((a'.Ok ∧ a'.k ≤ List.length a'.V) ∧ List.length a'.V - a'.k < List.length a_1.V - a_1.k) ∧ Ob (List.length a_2.W = List.length a'.W) ∧ Ob (List.length a_1.V = List.length a'.V) ∧ Ob (a_2.need = a'.need) ∧ Ob
  (List.length a_2.S = List.length a'.S) ∧ Ob ((↑a_1.k : Int) + (1 : Int) = (↑a'.k : Int)) ∧ Ob (List.length a_2.S = List.length a'.S ∧ ∀ (i : Nat), i < List.length a'.S → (El.fn (Rv.elemOf [.i64] a_2.S)).at i = (El.fn
  (Rv.elemOf [.i64] a'.S)).at i) ∧ Ob (List.length a_2.V = List.length a'.V ∧ ∀ (i : Nat), i < List.length a'.V → (El.fn (Rv.elemOf [.i64] a_2.V)).at i = (El.fn (Rv.elemOf [.i64] a'.V)).at i) ∧ Ob (List.length a_2.W =
  List.length a'.W ∧ ∀ (i : Nat), i < List.length a'.W → (El.fn (Rv.elemOf [.i64] a_2.W)).at i = (El.fn (Rv.elemOf [.i64] a'.W)).at i) ∧ Ob (a_2.q = a'.q) ∧ Ob (PlainE (List.length a'.S) (El.fn (Rv.elemOf [.i64] a'.S))) ∧
  Ob (PlainE (List.length a'.V) (El.fn (Rv.elemOf [.i64] a'.V))) ∧ Ob (PlainE (List.length a'.W) (El.fn (Rv.elemOf [.i64] a'.W))) ∧ True))) ∧ (¬(↑a_1.k : Int) < (↑(List.length a_1.V) : Int) → Ob (hasTabs [] B) ∧ True)))) ∧
  (¬v_4 = (0 : Int) → False)) ∧ (¬v_2 = (0 : Int) → False)

set_option linter.unusedSimpArgs false in
set_option maxRecDepth 4000 in
set_option maxHeartbeats 2000000 in
theorem v_law : V_law := by
  unfold V_law
  intro B htab xz N hz hoz hrz hN
  refine ⟨N, ⟨⟨hz, rfl, hrz, fun _ _ => rfl⟩⟩, ⟨hN⟩, ?_⟩
  obtain ⟨a, ha⟩ : ∃ a, tideK N N.length = a := ⟨_, rfl⟩
  rw [ha]
  clear ha
  refine ⟨⟨by show (1 : Int) ≤ 7 ∧ (7 : Int) ≤ 100; omega⟩, ?_⟩
  intro v hv v1 hv1
  clear hv
  have hn := moN_in a (most := 7) (by omega)
  have hd : 0 ≤ v1 ∧ v1 ≤ 1000000 := by rw [hv1]; exact moD_in a 7
  clear hv1
  obtain ⟨n, en⟩ : ∃ n, moN a 7 = n := ⟨_, rfl⟩
  rw [en] at hn ⊢
  clear en
  obtain ⟨q, eq⟩ : ∃ q, moA a 7 = q := ⟨_, rfl⟩
  rw [eq]
  clear eq
  have lW := it_len moQ moW q n
  have lV := it_len moQ moV q n
  have rW : ∀ r ∈ itR moQ moW q n, r.length = 1 := it_mem (p := fun r => r.length = 1) (fun _ => rfl) _
  have rV : ∀ r ∈ itR moQ moV q n, r.length = 1 := it_mem (p := fun r => r.length = 1) (fun _ => rfl) _
  have cW : ∀ i, i < n → 0 ≤ cell (itR moQ moW q n) i 0 ∧ cell (itR moQ moW q n) i 0 ≤ 5 := fun i hi => by rw [(mo_cell q n hi).1]; exact moRow_ok _
  have cV : ∀ i, i < n → 0 ≤ cell (itR moQ moV q n) i 0 ∧ cell (itR moQ moV q n) i 0 ≤ 2 := fun i hi => by rw [(mo_cell q n hi).2]; exact moVot_ok _
  obtain ⟨W, eW⟩ : ∃ W, itR moQ moW q n = W := ⟨_, rfl⟩
  obtain ⟨V, eV⟩ : ∃ V, itR moQ moV q n = V := ⟨_, rfl⟩
  rw [eW] at lW rW cW ⊢
  rw [eV] at lV rV cV ⊢
  clear eW eV
  subst lW
  have hm : MotOk W V v1 := ⟨⟨by omega, by omega⟩, lV, fun i hi => ⟨(cW i hi).1, by have := (cW i hi).2; omega⟩, fun i hi => cV i (by omega), hd⟩
  have hl4 : W.length ≤ 4000000 ∧ V.length ≤ 4000000 := ⟨by omega, by omega⟩
  refine ⟨W, ⟨⟨rfl, rfl, rW, fun _ _ => rfl⟩⟩, V, ⟨⟨rfl, lV, rV, fun _ _ => rfl⟩⟩, ⟨hl4⟩, ?_⟩
  intro v2 hv2
  refine ⟨W, ⟨⟨rfl, rfl, rW, fun _ _ => rfl⟩⟩, V, ⟨⟨rfl, lV, rV, fun _ _ => rfl⟩⟩, ⟨hl4⟩, ?_⟩
  intro v3 hv3 v4 hv4
  rw [mot_zero hm] at hv2 hv4
  subst hv2 hv3 hv4
  refine ⟨fun _ => ⟨fun _ => ⟨fun h => ?_, fun _ => ?_⟩, fun h => absurd rfl h⟩, fun h => absurd rfl h⟩
  · apply h
    rw [dec_open hm]
    omega
  have hk0 : (Wst.mk 0 0 v1 v W V).Ok := ⟨hm, by show W.length ≤ 7; omega, rW, rV⟩
  constructor
  · refine ⟨⟨0, 0, v1, v, W, V⟩, ⟨⟨hk0, Nat.zero_le _⟩⟩, ?_⟩
    dsimp only
    repeat' (first | assumption | exact ⟨plain_elemOf _ _ _⟩ | exact ⟨rfl⟩ | exact ⟨⟨rfl, fun _ _ => rfl⟩⟩ | exact ⟨⟨lV, fun _ _ => rfl⟩⟩ | exact ⟨lV.symm⟩ | exact ⟨⟨lV.symm, fun _ _ => rfl⟩⟩ | trivial | with_reducible apply And.intro)
  intro v ⟨ok, hk⟩
  intros
  refine ⟨fun h1 => ?_, fun h1 => ?_⟩
  · have hk' : v.k < v.S.length := by omega
    obtain ⟨i1, i2, i3⟩ := ok.in v.k hk'
    have nx : (Wst.mk (v.k + 1) v.s v.need v.q v.W v.V).Ok := ⟨ok.m, ok.l, ok.w, ok.v⟩
    have lS : v.S.length ≤ 12 := swgR_len _ _ _
    have rk : Ob (InR .i64 ((v.k : Int) + 1)) := ⟨by simp only [InR]; omega⟩
    have hb : Ob (0 ≤ (v.k : Int) ∧ v.k < v.S.length) := ⟨by omega, hk'⟩
    have hmu : Ob (((Wst.mk (v.k + 1) v.s v.need v.q v.W v.V).Ok ∧ v.k + 1 ≤ v.S.length) ∧ v.S.length - (v.k + 1) < v.S.length - v.k) := ⟨⟨nx, hk'⟩, by omega⟩
    refine ⟨hb, ⟨hk'⟩, fun _ => ⟨hb, ⟨hk'⟩, fun _ => ⟨fun h4 => ?_, fun h4 => ?_⟩, fun h3 => by omega⟩, fun h2 => by omega⟩
    · have e : ((v.k : Int) - 1).toNat = v.k - 1 := by omega
      rw [e]
      refine ⟨hb, ⟨hk'⟩, ⟨by simp only [InR]; omega⟩, ⟨by omega, by omega⟩, ⟨by omega⟩, fun h5 => ?_, fun _ => ⟨rk, ⟨v.k + 1, v.s, v.need, v.q, v.W, v.V⟩, hmu, ?_⟩⟩
      · have := i3 (by omega)
        omega
      · repeat' (first | assumption | exact ⟨plain_elemOf _ _ _⟩ | exact ⟨rfl⟩ | exact ⟨⟨rfl, fun _ _ => rfl⟩⟩ | exact ⟨⟨lV, fun _ _ => rfl⟩⟩ | exact ⟨lV.symm⟩ | exact ⟨⟨lV.symm, fun _ _ => rfl⟩⟩ | trivial | with_reducible apply And.intro)
    · refine ⟨rk, ⟨v.k + 1, v.s, v.need, v.q, v.W, v.V⟩, hmu, ?_⟩
      repeat' (first | assumption | exact ⟨plain_elemOf _ _ _⟩ | exact ⟨rfl⟩ | exact ⟨⟨rfl, fun _ _ => rfl⟩⟩ | exact ⟨⟨lV, fun _ _ => rfl⟩⟩ | exact ⟨lV.symm⟩ | exact ⟨⟨lV.symm, fun _ _ => rfl⟩⟩ | trivial | with_reducible apply And.intro)
  clear h1 hk
  constructor
  · refine ⟨⟨0, v.s, v.need, v.q, v.W, v.V⟩, ⟨⟨⟨ok.m, ok.l, ok.w, ok.v⟩, Nat.zero_le _⟩⟩, ?_⟩
    repeat' (first | assumption | exact ⟨plain_elemOf _ _ _⟩ | exact ⟨rfl⟩ | exact ⟨⟨rfl, fun _ _ => rfl⟩⟩ | exact ⟨⟨lV, fun _ _ => rfl⟩⟩ | exact ⟨lV.symm⟩ | exact ⟨⟨lV.symm, fun _ _ => rfl⟩⟩ | trivial | with_reducible apply And.intro)
  clear ok
  intro v ⟨ok, hk⟩
  intros
  refine ⟨fun h1 => ?_, fun h1 => ⟨⟨htab⟩, trivial⟩⟩
  have hk' : v.k < v.V.length := by omega
  constructor
  · refine ⟨⟨v.k, 0, v.need, v.q, v.W, v.V⟩, ⟨⟨⟨ok.m, ok.l, ok.w, ok.v⟩, hk', Nat.zero_le _, rfl, rfl, fun _ => rfl⟩⟩, ?_⟩
    have en : Ob (false = true ↔ ∃ j, j < 0 ∧ trnC v.W v.V v.need v.k j) := ⟨⟨fun h => (by cases h), fun ⟨_, h, _⟩ => absurd h (Nat.not_lt_zero _)⟩⟩
    repeat' (first | assumption | exact ⟨plain_elemOf _ _ _⟩ | exact ⟨rfl⟩ | exact ⟨⟨rfl, fun _ _ => rfl⟩⟩ | exact ⟨⟨lV, fun _ _ => rfl⟩⟩ | exact ⟨lV.symm⟩ | exact ⟨⟨lV.symm, fun _ _ => rfl⟩⟩ | trivial | with_reducible apply And.intro)
  clear h1 hk
  intro u ⟨uk, hu1, hu2, hu3, hu4, hu5⟩
  intros
  have l1 := uk.m.l
  have l2 := uk.m.v
  have l3 := uk.l
  have hke : v.k = u.k := by omega
  rw [hke, hu4]
  have hp1 : 2 ^ u.V.length ≤ 2 ^ 12 := Nat.pow_le_pow_right (by omega) (by omega)
  have hp0 : 0 < 2 ^ u.V.length := Nat.pow_pos (by omega)
  have hpc : (1 : Int) * 2 ^ u.V.length = ((2 ^ u.V.length : Nat) : Int) := by simp
  rw [hpc]
  have hts := trnC_swg (W := u.W) (V := u.V) (need := u.need) (i := u.k)
  rw [← l2] at hts
  have hkV : 0 ≤ (u.k : Int) ∧ u.k < u.V.length := ⟨by omega, hu1⟩
  have rk : Ob (InR .i64 ((u.k : Int) + 1)) := ⟨by simp only [InR]; omega⟩
  have nxt : (hasR u.S u.k ↔ ∃ j, j < u.s ∧ trnC u.W u.V u.need u.k j) → ∃ rows_6 : List (List Int), Ob (u.S.length = u.S.length ∧ rows_6.length = u.S.length ∧ (∀ r ∈ rows_6, r.length = 1) ∧ ∀ i, i < u.S.length → (El.fn (Rv.elemOf [.i64] u.S)).at i = Rv.elemOf [.i64] rows_6 i) ∧ Ob (rows_6.length ≤ 4000000) ∧
      (¬ (hasR rows_6 u.k ↔ ∃ j, j < u.s ∧ trnC u.W u.V u.need u.k j) → False) ∧ (¬ ¬ (hasR rows_6 u.k ↔ ∃ j, j < u.s ∧ trnC u.W u.V u.need u.k j) → Ob (InR .i64 ((u.k : Int) + 1)) ∧ ∃ a' : Wst, Ob ((a'.Ok ∧ a'.k ≤ a'.V.length) ∧ a'.V.length - a'.k < u.V.length - u.k) ∧ Ob (u.W.length = a'.W.length) ∧ Ob (u.V.length = a'.V.length) ∧ Ob (u.need = a'.need) ∧ Ob (u.S.length = a'.S.length) ∧ Ob ((u.k : Int) + 1 = (a'.k : Int)) ∧
        Ob (u.S.length = a'.S.length ∧ ∀ i, i < a'.S.length → (El.fn (Rv.elemOf [.i64] u.S)).at i = (El.fn (Rv.elemOf [.i64] a'.S)).at i) ∧ Ob (u.V.length = a'.V.length ∧ ∀ i, i < a'.V.length → (El.fn (Rv.elemOf [.i64] u.V)).at i = (El.fn (Rv.elemOf [.i64] a'.V)).at i) ∧ Ob (u.W.length = a'.W.length ∧ ∀ i, i < a'.W.length → (El.fn (Rv.elemOf [.i64] u.W)).at i = (El.fn (Rv.elemOf [.i64] a'.W)).at i) ∧ Ob (u.q = a'.q) ∧ Ob (PlainE a'.S.length (El.fn (Rv.elemOf [.i64] a'.S))) ∧ Ob (PlainE a'.V.length (El.fn (Rv.elemOf [.i64] a'.V))) ∧ Ob (PlainE a'.W.length (El.fn (Rv.elemOf [.i64] a'.W))) ∧ True) := by
    intro h
    have hS : u.S.length ≤ 4000000 := by
      have : u.S.length ≤ 12 := swgR_len _ _ _
      omega
    refine ⟨u.S, ⟨⟨rfl, rfl, swgR_row _ _ _, fun _ _ => rfl⟩⟩, ⟨hS⟩, fun hn => hn h, fun _ => ⟨rk, ⟨u.k + 1, u.s, u.need, u.q, u.W, u.V⟩, ⟨⟨⟨⟨uk.m, uk.l, uk.w, uk.v⟩, hu1⟩, by show u.V.length - (u.k + 1) < u.V.length - u.k; omega⟩⟩, ?_⟩⟩
    repeat' (first | assumption | exact ⟨plain_elemOf _ _ _⟩ | exact ⟨rfl⟩ | exact ⟨⟨rfl, fun _ _ => rfl⟩⟩ | exact ⟨⟨lV, fun _ _ => rfl⟩⟩ | exact ⟨lV.symm⟩ | exact ⟨⟨lV.symm, fun _ _ => rfl⟩⟩ | trivial | with_reducible apply And.intro)
  refine ⟨⟨⟨by decide, by omega, by omega, by simp only [InR]; omega⟩⟩, fun h1 => ?_, fun h1 => ?_⟩
  rotate_left
  · have es : u.s = 2 ^ u.V.length := by omega
    refine nxt ?_
    rw [uk.has u.k, es, hts]
    have h0 : cell u.V u.k 0 = 0 := Classical.byContradiction fun h => by
      have := hu5 h
      omega
    exact ⟨fun h => h.2.2, fun h => ⟨by omega, h0, h⟩⟩
  have hs' : u.s < 2 ^ u.V.length := by omega
  refine ⟨⟨hkV⟩, ⟨hu1⟩, fun h2 => ?_, fun h2 => ?_⟩
  rotate_left
  · refine nxt ?_
    rw [uk.has u.k, hu5 h2]
    exact ⟨fun h => absurd h.2.1 h2, fun ⟨j, hj, _⟩ => absurd hj (Nat.not_lt_zero _)⟩
  clear nxt
  have rs : Ob (InR .i64 ((u.s : Int) + 1)) := ⟨by simp only [InR]; omega⟩
  have hce : ∀ k, k < u.V.length → cell (castR u.V u.s u.V.length) k 0 = castV u.V u.s k := fun k hk => castR_cell u.V u.s _ k hk
  have cpre : Ob (0 ≤ (u.s : Int) ∧ (u.s : Int) ≤ 1000000000 ∧ u.V.length ≤ 100) := ⟨by omega, by omega, by omega⟩
  have upd : ∀ (z : Int) k, k < u.V.length → (updL (El.fn (Rv.elemOf [.i64] (castR u.V u.s u.V.length))) u.k 0 [SV.i .i64 z]).at k = Rv.elemOf [.i64] (rowsF (setF (castV u.V u.s) u.k z) u.V.length) k := fun z k hk => by
    refine Eq.trans (upd_at1 (f := fun k => cell (castR u.V u.s u.V.length) k 0)) ?_
    show _ = [SV.i .i64 (cell (rowsF (setF (castV u.V u.s) u.k z) u.V.length) k 0)]
    rw [rowsF_cell _ hk, hce k hk]
    rfl
  have hinv : Ob (((Wst.mk u.k (u.s + 1) u.need u.q u.W u.V).Ok ∧ u.k < u.V.length ∧ u.s + 1 ≤ 2 ^ u.V.length ∧ (u.k : Int) = (u.k : Int) ∧ u.V.length = u.V.length ∧ (¬ cell u.V u.k 0 = 0 → u.s + 1 = 0)) ∧ 2 ^ u.V.length - (u.s + 1) < 2 ^ u.V.length - u.s) := ⟨⟨⟨uk.m, uk.l, uk.w, uk.v⟩, hu1, hs', rfl, rfl, fun h => absurd h2 h⟩, by omega⟩
  have wpre : ∀ z, Ob (WtOk u.W ∧ (rowsF (setF (castV u.V u.s) u.k z) u.V.length).length = u.W.length ∧ u.W.length ≤ 100 ∧ 0 ≤ u.need ∧ u.need ≤ 1000000) := fun z => ⟨uk.m.w, (rowsF_len _ _).trans l2, by omega, uk.m.n⟩
  have hy : ∀ z, yesS u.W (rowsF (setF (castV u.V u.s) u.k z) u.V.length) u.W.length = yesF u.W (setF (castV u.V u.s) u.k z) u.W.length := fun z => yes_rows u.W _ u.V.length u.W.length (by omega)
  have e1 : ∀ {p : Nat → Prop}, p u.s → Ob (true = true ↔ ∃ j, j < u.s + 1 ∧ p j) := fun h => ⟨⟨fun _ => ⟨u.s, by omega, h⟩, fun _ => rfl⟩⟩
  have e0 : ∀ {p : Nat → Prop} {X : Prop}, (¬ ∃ j, j < u.s ∧ p j) → (X ↔ p u.s) → Ob (X ↔ ∃ j, j < u.s + 1 ∧ p j) := fun {p} {X} hq hX => ⟨⟨fun x => ⟨u.s, by omega, hX.1 x⟩, fun ⟨j, q1, q2⟩ => by
    by_cases e : j = u.s
    · subst e; exact hX.2 q2
    · exact absurd ⟨j, by omega, q2⟩ hq⟩⟩
  refine ⟨u.V, ⟨⟨rfl, rfl, uk.v, fun _ _ => rfl⟩⟩, cpre, u.V, ⟨⟨rfl, rfl, uk.v, fun _ _ => rfl⟩⟩, cpre, ⟨hkV⟩, ⟨⟨hu1, rfl⟩⟩, ⟨hkV⟩, ⟨⟨hu1, rfl⟩⟩, fun h3 => ?_, fun h3 => ?_⟩
  rotate_left
  · obtain ⟨j, hj1, hj2⟩ := h3
    refine ⟨rs, ⟨u.k, u.s + 1, u.need, u.q, u.W, u.V⟩, hinv, ?_⟩
    have x1 : Ob (true = true ↔ ∃ j, j < u.s + 1 ∧ trnC u.W u.V u.need u.k j) := ⟨⟨fun _ => ⟨j, by omega, hj2⟩, fun _ => rfl⟩⟩
    repeat' (first | assumption | exact ⟨plain_elemOf _ _ _⟩ | exact ⟨rfl⟩ | exact ⟨⟨rfl, fun _ _ => rfl⟩⟩ | exact ⟨⟨lV, fun _ _ => rfl⟩⟩ | exact ⟨lV.symm⟩ | exact ⟨⟨lV.symm, fun _ _ => rfl⟩⟩ | trivial | with_reducible apply And.intro)
  refine ⟨u.W, ⟨⟨rfl, rfl, uk.w, fun _ _ => rfl⟩⟩, rowsF (setF (castV u.V u.s) u.k 1) u.V.length, ⟨⟨rfl, rowsF_len _ _, rowsF_row _ _, upd 1⟩⟩, wpre 1, ?_⟩
  rw [hy 1]
  refine ⟨fun h4 => ?_, fun h4 => ?_⟩
  · refine ⟨u.W, ⟨⟨rfl, rfl, uk.w, fun _ _ => rfl⟩⟩, rowsF (setF (castV u.V u.s) u.k 2) u.V.length, ⟨⟨rfl, rowsF_len _ _, rowsF_row _ _, upd 2⟩⟩, wpre 2, rs, ⟨u.k, u.s + 1, u.need, u.q, u.W, u.V⟩, hinv, ?_⟩
    rw [hy 2]
    have x1 := e0 (p := trnC u.W u.V u.need u.k) (X := ¬ passN u.W u.need (yesF u.W (setF (castV u.V u.s) u.k 2) u.W.length)) h3 ⟨fun h => ⟨h, h4⟩, fun h => h.1⟩
    repeat' (first | assumption | exact ⟨plain_elemOf _ _ _⟩ | exact ⟨rfl⟩ | exact ⟨⟨rfl, fun _ _ => rfl⟩⟩ | exact ⟨⟨lV, fun _ _ => rfl⟩⟩ | exact ⟨lV.symm⟩ | exact ⟨⟨lV.symm, fun _ _ => rfl⟩⟩ | trivial | with_reducible apply And.intro)
  · refine ⟨rs, ⟨u.k, u.s + 1, u.need, u.q, u.W, u.V⟩, hinv, ?_⟩
    have x1 := e0 (p := trnC u.W u.V u.need u.k) (X := false = true) h3 ⟨fun h => (by cases h), fun h => absurd h.2 h4⟩
    repeat' (first | assumption | exact ⟨plain_elemOf _ _ _⟩ | exact ⟨rfl⟩ | exact ⟨⟨rfl, fun _ _ => rfl⟩⟩ | exact ⟨⟨lV, fun _ _ => rfl⟩⟩ | exact ⟨lV.symm⟩ | exact ⟨⟨lV.symm, fun _ _ => rfl⟩⟩ | trivial | with_reducible apply And.intro)

theorem e_law : V_law = needL P [F_PassesR, F_Has] [F_TideOf.named, F_MotionOf.named, F_Decide.named, F_Swing.named, F_CastR.named] 9 ([] : Tabs) A_law F_law := by kernel_rfl

theorem n_law : Ob (needL P [F_PassesR, F_Has] [F_TideOf.named, F_MotionOf.named, F_Decide.named, F_Swing.named, F_CastR.named] 9 ([] : Tabs) A_law F_law) := by
  rw [← e_law]
  exact ⟨v_law⟩

theorem l_law : (([F_PassesR, F_Has] : List Fn0).all fun G => !Nat.beq G.g 9) = true := rfl
theorem le_law : ([F_TideOf.named, F_MotionOf.named, F_Decide.named, F_Swing.named, F_CastR.named].all fun G => !Nat.beq G.g 9) = true := rfl
theorem c_law : ∀ F ∈ ([F_PassesR, F_Has] : List Fn0), F.Ok P := by
  intro F h
  simp only [List.mem_cons, List.not_mem_nil, or_false] at h
  rcases h with rfl | rfl
  · exact PassesR_ok
  · exact Has_ok

theorem ce_law : ∀ F ∈ [F_TideOf.named, F_MotionOf.named, F_Decide.named, F_Swing.named, F_CastR.named], F.Ok P := by
  intro F h
  simp only [List.mem_cons, List.not_mem_nil, or_false] at h
  rcases h with rfl | rfl | rfl | rfl | rfl
  · exact TideOf_ok.named
  · exact MotionOf_ok.named
  · exact Decide_ok.named
  · exact Swing_ok.named
  · exact CastR_ok.named

end Go.Proofs.Ytjgllojnbinchaa.Sy
