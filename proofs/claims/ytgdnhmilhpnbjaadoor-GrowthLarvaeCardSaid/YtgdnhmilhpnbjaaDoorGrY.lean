/- The law GrowthLarvae. -/
import Derived.Test.YtgdnhmilhpnbjaaDoorSyP2
import Derived.Test.YtgdnhmilhpnbjaaDoorGrM
import Derived.Test.YtgdnhmilhpnbjaaDoorGrA
import Derived.Test.YtgdnhmilhpnbjaaDoorGrT
import Derived.Test.YtgdnhmilhpnbjaaDoorGrU
import Derived.Test.YtgdnhmilhpnbjaaDoorGrV
import Derived.Test.YtgdnhmilhpnbjaaDoorGrX
import Derived.Test.YtgdnhmilhpnbjaaDoorGrN
import Derived.KernelRfl
import Derived.Test.YtgdnhmilhpnbjaaDoorProg
namespace Go.Proofs.YtgdnhmilhpnbjaaDoor.Sy
open Go Go.Rv
set_option linter.unusedVariables false

def g64 : List Int := [0, 1, 56, 2, 57, 49, 28, 3, 61, 58, 42, 50, 38, 29, 17, 4, 62, 47, 59, 36, 45, 43, 51, 22, 53, 39, 33, 30, 24, 18, 12, 5, 63, 55, 48, 27, 60, 41, 37, 16, 46, 35, 44, 21, 52, 32, 23, 11, 54, 26, 40, 15, 34, 20, 31, 10, 25, 14, 19, 9, 13, 8, 7, 6]
def tab1 : Tabs := [(0, .u8, g64)]
/-- a nursery with days and larvae, and what settles there -/
structure Nur where
  n : Nat
  q : Int
  lo : Int
  hi : Int
  rate : Int
  room : Int
  x0 : Int
  x1 : Int
  D : Rows
  L : Rows
structure Nur.Is (a : Nur) : Prop where
  n : a.n ≤ 10
  lo : 80 ≤ a.lo
  lh : a.lo ≤ a.hi
  hi : a.hi ≤ 250
  r0 : 0 ≤ a.rate
  r1 : a.rate ≤ 1000000
  m0 : 0 ≤ a.room
  m1 : a.room ≤ 1000000
  d : a.D.length = a.n
  l : a.L.length = a.n
  dr : ∀ r ∈ a.D, r.length = 2
  lr : ∀ r ∈ a.L, r.length = 2
  days : Days a.D a.L a.n
  x0 : a.x0 = min (sumLo a.lo a.hi a.rate a.D a.L a.n) a.room
  x1 : a.x1 = min (sumHi a.lo a.hi a.rate a.D a.L a.n) a.room
theorem Nur.Is.q {a : Nur} (h : a.Is) (q : Int) : ({ a with q := q } : Nur).Is := ⟨h.n, h.lo, h.lh, h.hi, h.r0, h.r1, h.m0, h.m1, h.d, h.l, h.dr, h.lr, h.days, h.x0, h.x1⟩
structure NurK where
  k : Nat
  a : Nur
  O : Rows
structure NurR where
  r : Nat
  a : Nur
structure NurI where
  i : Nat
  s : Int
  a : Nur
theorem set_of {lo hi rate room : Int} {D L : Rows} {n : Nat} (h1 : 80 ≤ lo) (h2 : lo ≤ hi) (h3 : hi ≤ 250) (h4 : 0 ≤ rate) (h5 : rate ≤ 1000000) (h6 : 0 ≤ room) (h7 : room ≤ 1000000000) (hn : n ≤ 10) (hD : D.length = n) (hL : L.length = n) (hd : Days D L n) :
    setErr lo hi rate room D L = 0 ∧ setLo lo hi rate room D L = min (sumLo lo hi rate D L n) room ∧ setHi lo hi rate room D L = min (sumHi lo hi rate D L n) room := by
  have e0 : nurErr lo hi rate room = 0 := by
    unfold nurErr inB
    rw [if_pos (by omega), if_neg (by omega)]
  have ef' : firstErr D L n = 0 := days_first hd _ (by omega)
  have g1 : ¬ (400 : Nat) < D.length := by omega
  have g2 : ¬ (L.length ≠ D.length) := by omega
  have e1 : setErr lo hi rate room D L = 0 := by
    simp [setErr, e0, ef', hD, hL]; omega
  refine ⟨e1, ?_, ?_⟩
  · simp [setLo, e1, hD]
  · simp [setHi, e1, hD]
theorem nurK_of {a : Int} {v v1 v2 v3 v4 v5 : Int} {n : Nat} {D L : Rows} (hn : n ≤ 10) (h1 : 80 ≤ v1) (h2 : v1 ≤ v2) (h3 : v2 ≤ 250) (h4 : 0 ≤ v3) (h5 : v3 ≤ 1000000) (h6 : 0 ≤ v4) (h7 : v4 ≤ 1000000) (hD : D.length = n) (hL : L.length = n) (dr : ∀ r ∈ D, r.length = 2) (lr : ∀ r ∈ L, r.length = 2) (hd : Days D L n) :
    (⟨n, v5, v1, v2, v3, v4, setLo v1 v2 v3 v4 D L, setHi v1 v2 v3 v4 D L, D, L⟩ : Nur).Is := by
  obtain ⟨e1, e2, e3⟩ := set_of h1 h2 h3 h4 h5 h6 (by omega) hn hD hL hd
  exact ⟨hn, h1, h2, h3, h4, h5, h6, h7, hD, hL, dr, lr, hd, e2, e3⟩
theorem larva_in {lo hi rate d0 d1 l0 l1 w m val : Int} (hd : d0 ≤ w ∧ w ≤ d1) (hw : lo ≤ w ∧ w ≤ hi) (h0 : 0 ≤ l0) (hm : l0 ≤ m ∧ m ≤ l1) (hr : 0 ≤ rate) (hv : val = m * rate / 1000000 ∨ val = (m * rate + 999999) / 1000000) :
    (if lo ≤ d0 ∧ d1 ≤ hi then l0 * rate / 1000000 else 0) ≤ val ∧ val ≤ (if d0 ≤ hi ∧ lo ≤ d1 then (l1 * rate + 999999) / 1000000 else 0) := by
  have p0 : 0 ≤ l0 * rate := Int.mul_nonneg h0 hr
  have p1 : l0 * rate ≤ m * rate := Int.mul_le_mul_of_nonneg_right hm.1 hr
  have p2 : m * rate ≤ l1 * rate := Int.mul_le_mul_of_nonneg_right hm.2 hr
  generalize l0 * rate = x at *
  generalize m * rate = y at *
  generalize l1 * rate = z at *
  rw [if_pos (show d0 ≤ hi ∧ lo ≤ d1 by omega)]
  split <;> omega
theorem larva_out {lo hi d0 d1 x y w : Int} (hd : d0 ≤ w ∧ w ≤ d1) (hw : ¬ (lo ≤ w ∧ w ≤ hi)) (hy : 0 ≤ y) :
    (if lo ≤ d0 ∧ d1 ≤ hi then x else 0) ≤ 0 ∧ 0 ≤ (if d0 ≤ hi ∧ lo ≤ d1 then y else 0) := by
  rw [if_neg (show ¬ (lo ≤ d0 ∧ d1 ≤ hi) by omega)]
  split <;> omega
theorem sum_bd {lo hi rate : Int} {D L : Rows} {n : Nat} (hd : Days D L n) (h0 : 0 ≤ rate) (h1 : rate ≤ 1000000) : ∀ k : Nat, k ≤ n → 0 ≤ sumLo lo hi rate D L k ∧ sumHi lo hi rate D L k ≤ 1000 * (k : Int)
  | 0, _ => ⟨Int.le_refl 0, Int.le_refl 0⟩
  | k + 1, hk => by
    obtain ⟨e1, e2⟩ := sum_bd (lo := lo) (hi := hi) hd h0 h1 k (by omega)
    have h2 := hd k (by omega)
    have p0 : 0 ≤ cell L k 0 * rate := Int.mul_nonneg (by omega) h0
    have p1 : cell L k 1 * rate ≤ cell L k 1 * 1000000 := Int.mul_le_mul_of_nonneg_left h1 (by omega)
    simp only [sumLo, sumHi]
    generalize cell L k 0 * rate = x at *
    generalize cell L k 1 * rate = y at *
    refine ⟨?_, ?_⟩
    · split <;> omega
    · split <;> omega

noncomputable def F_Covers : Fn0 := ⟨27, [.agg [.i .i64, .i .i64], i64], fun _ => True, fun l => match l with | [.z lo, .z hi, .z n] => .p (lo ≤ n ∧ n ≤ hi) | _ => .v undef⟩
noncomputable def A_Covers : List SV → List Dat → Nat → List SV → Ann := fun _ _ _ _ => noAnn

def V_Covers : Prop :=
  ∀ (B : RW) (n n_1 n_2 : Int), True → (n ≤ n_2 → Ob (n_2 ≤ n_1 ↔ n ≤ n_2 ∧ n_2 ≤ n_1) ∧ True) ∧ (¬n ≤ n_2 → Ob (false = true ↔ n ≤ n_2 ∧ n_2 ≤ n_1) ∧ True)

set_option linter.unusedSimpArgs false in
set_option maxRecDepth 4000 in
set_option maxHeartbeats 400000 in
theorem v_Covers : V_Covers := by
  unfold V_Covers
  intros
  simp only [Ob_iff, and_true, true_and, InR] at *
  all_goals grind

theorem e_Covers : V_Covers = needF P [] A_Covers F_Covers := by kernel_rfl

theorem n_Covers : Ob (needF P [] A_Covers F_Covers) := by
  rw [← e_Covers]
  exact ⟨v_Covers⟩

theorem b_Covers : ((P.funcs[27]?).any fun fn => fn.body.isSome) = true := by kernel_rfl

theorem Covers_ok : Fn0.Ok P F_Covers := Fn0.ok named (l := []) (A := A_Covers) (by rfl) (by
  intro F h; simp at h) b_Covers (by
  intro ds N
  simp only [F_Covers]
  split <;> rfl) n_Covers

noncomputable def F_law : LawF := ⟨5, [.one (.l [.i64])], fun l => match l with | [.l N] => N.length ≤ 9223372036854775807 | _ => False⟩
noncomputable def A_law : List SV → List Dat → Nat → List SV → Ann := fun xs ds n ts => match xs with
  | [.lst z _ _ _] => match ds with
    | [.l N] => match n with
      | 7 => ⟨NurK, fun v => [none, none, some (SV.v (Value.bool false)), some (SV.ptr ((0 : Nat)) ((0 : Nat))), some (SV.ptr ((3 : Nat)) ((0 : Nat))), some (.gsl 1 v.a.n 2 true), some (.gsl 2 v.a.n 2 true), some (SV.ptr ((4 : Nat)) ((0 : Nat))), some (.i .i64 0), some (.gsl 5 v.a.n 1 true), some (.gsl 6 v.k 2 true), some (.gsl 7 v.k 2 true), some (.i .i64 v.k), none, none, none, none, none, none, none, none, none, none, none, none, none, none, none, none, none, none, none, none, none, none, none, none, none, none, none, none, none, none, none, none, none, none, none, none, none, none, none, none, none, none, none, none, none, none, none, none, none, none, none, none, none, none, none, none, none, none, none, none, none, none, none, none, none, none, none, none, none, none, none, none, none, none, none, none, none, none, none, none, none, none, none, none, none, none, none, none, none, none, none, none, none, none, none, none, none, none, none, none, none, none, none, none, none, none, none, none, none, none, none, none, none, none, none, none, none, none, none, none, none, none, none, none, none, none, none, none, none, none, none, none, none, none, none, none, none, none, none, none, none, none, none, none, none, none, none, none, none, none, none, none, none, none, none, none, none, none, none], fun v => [.gr v.k 2 (.fn (Rv.elemOf [.i64, .i64] (permR v.a.L v.O v.k))) .gr true, .gr v.k 2 (.fn (Rv.elemOf [.i64, .i64] (permR v.a.D v.O v.k))) .gr true, .gr v.a.n 1 (.fn (Rv.elemOf [.i64] v.O)) .gr true, .cells [.i .i64 v.a.x0, .i .i64 v.a.x1] .ex, .cells [.i .i64 v.a.lo, .i .i64 v.a.hi, .i .i64 v.a.rate, .i .i64 v.a.room] .ex, .gr v.a.n 2 (.fn (Rv.elemOf [.i64, .i64] v.a.L)) .gr true, .gr v.a.n 2 (.fn (Rv.elemOf [.i64, .i64] v.a.D)) .gr true, .cells [.i .u64 v.a.q] .ex], fun v => v.k ≤ v.a.n ∧ v.a.Is ∧ v.O.Perm ((List.range v.a.n).map fun i : Nat => [(i : Int)]), fun v => v.a.n - v.k, 0⟩
      | 17 => ⟨NurR, fun v => [none, none, none, some (SV.ptr ((0 : Nat)) ((0 : Nat))), some (SV.ptr ((3 : Nat)) ((0 : Nat))), some (.gsl 1 v.a.n 2 true), some (.gsl 2 v.a.n 2 true), some (SV.ptr ((4 : Nat)) ((0 : Nat))), none, none, none, none, none, none, none, none, none, none, some (.i .i64 v.r), none, none, none, none, none, none, none, none, none, none, none, none, none, none, none, none, none, none, none, none, none, none, none, none, none, none, none, none, none, none, none, none, none, none, none, none, none, none, none, none, none, none, none, none, none, none, none, none, none, none, none, none, none, none, none, none, none, none, none, none, none, none, none, none, none, none, none, none, none, none, none, none, none, none, none, none, none, none, none, none, none, none, none, none, none, none, none, none, none, none, none, none, none, none, none, none, none, none, none, none, none, none, none, none, none, none, none, none, none, none, none, none, none, none, none, none, none, none, none, none, none, none, none, none, none, none, none, none, none, none, none, none, none, none, none, none, none, none, none, none, none, none, none, none, none, none, none, none, none, none, none, none, none], fun v => [.dead, .dead, .dead, .dead, .dead, .dead, .cells [.i .i64 v.a.x0, .i .i64 v.a.x1] .ex, .cells [.i .i64 v.a.lo, .i .i64 v.a.hi, .i .i64 v.a.rate, .i .i64 v.a.room] .ex, .gr v.a.n 2 (.fn (Rv.elemOf [.i64, .i64] v.a.L)) .gr true, .gr v.a.n 2 (.fn (Rv.elemOf [.i64, .i64] v.a.D)) .gr true, .cells [.i .u64 v.a.q] .ex], fun v => v.r ≤ 8 ∧ v.a.Is, fun v => 8 - v.r, 0⟩
      | 21 => (match lget ts 18 with | some (SV.i _ r18) => ⟨NurI, fun v => [none, none, none, some (SV.ptr ((0 : Nat)) ((0 : Nat))), some (SV.ptr ((3 : Nat)) ((0 : Nat))), some (.gsl 1 v.a.n 2 true), some (.gsl 2 v.a.n 2 true), some (SV.ptr ((4 : Nat)) ((0 : Nat))), none, none, none, none, none, none, none, none, none, none, some (SV.i .i64 r18), some (.i .i64 v.s), some (.i .i64 v.i), none, none, none, none, none, none, none, none, none, none, none, none, none, none, none, none, none, none, none, none, none, none, none, none, none, none, none, none, none, none, none, none, none, none, none, none, none, none, none, none, none, none, none, none, none, none, none, none, none, none, none, none, none, none, none, none, none, none, none, none, none, none, none, none, none, none, none, none, none, none, none, none, none, none, none, none, none, none, none, none, none, none, none, none, none, none, none, none, none, none, none, none, none, none, none, none, none, none, none, none, none, none, none, none, none, none, none, none, none, none, none, none, none, none, none, none, none, none, none, none, none, none, none, none, none, none, none, none, none, none, none, none, none, none, none, none, none, none, none, none, none, none, none, none, none, none, none, none, none, none, none], fun v => [SObj.dead, SObj.dead, SObj.dead, SObj.dead, SObj.dead, SObj.dead, .cells [.i .i64 v.a.x0, .i .i64 v.a.x1] .ex, .cells [.i .i64 v.a.lo, .i .i64 v.a.hi, .i .i64 v.a.rate, .i .i64 v.a.room] .ex, .gr v.a.n 2 (.fn (Rv.elemOf [.i64, .i64] v.a.L)) .gr true, .gr v.a.n 2 (.fn (Rv.elemOf [.i64, .i64] v.a.D)) .gr true, .cells [.i .u64 v.a.q] .ex], fun v => v.i ≤ v.a.n ∧ v.a.Is ∧ sumLo v.a.lo v.a.hi v.a.rate v.a.D v.a.L v.i ≤ v.s ∧ v.s ≤ sumHi v.a.lo v.a.hi v.a.rate v.a.D v.a.L v.i, fun v => v.a.n - v.i, 0⟩ | _ => noAnn)
      | _ => noAnn
    | _ => noAnn
  | _ => noAnn

def V_law : Prop :=
  ∀ (B : RW), hasTabs tab1 B → ∀ (x : RV) (rows : List (List Int)), IsLst B x rows.length ((1 : Nat)) (Rv.elemOf [IntKind.i64] rows) → oneB x = true → (∀ (row : List Int), row ∈ rows → row.length = (1 : Nat)) → rows.length
  ≤ (9223372036854775807 : Nat) → ∃ (rows_1 : List (List Int)), Ob (IsLst B x rows.length ((1 : Nat)) (Rv.elemOf [IntKind.i64] rows) ∧ rows_1.length = rows.length ∧ (∀ (r : List Int), r ∈ rows_1 → r.length = (1 : Nat)) ∧ ∀
  (i : Nat), i < rows.length → Rv.elemOf [IntKind.i64] rows i = Rv.elemOf [IntKind.i64] rows_1 i) ∧ Ob (F_TideOf.named.pre [Dat.l rows_1]) ∧ Ob (F_nurseryOf.named.pre ([Dat.z (tideK rows_1 rows_1.length)] ++ [Dat.z (10 :
  Int)])) ∧ ∀ (v : Int), v = nurQ (tideK rows_1 rows_1.length) (10 : Int) (nurN (tideK rows_1 rows_1.length) (10 : Int)).toNat → ∀ (v_1 : Int), v_1 = nurLow (tideK rows_1 rows_1.length) → ∀ (v_2 : Int), v_2 = nurHigh
  (tideK rows_1 rows_1.length) → ∀ (v_3 : Int), v_3 = nurRate (tideK rows_1 rows_1.length) → ∀ (v_4 : Int), v_4 = nurRoom (tideK rows_1 rows_1.length) → ∃ (rows_2 : List (List Int)), Ob ((nurN (tideK rows_1 rows_1.length)
  (10 : Int)).toNat = (nurN (tideK rows_1 rows_1.length) (10 : Int)).toNat ∧ rows_2.length = (nurN (tideK rows_1 rows_1.length) (10 : Int)).toNat ∧ (∀ (r : List Int), r ∈ rows_2 → r.length = (2 : Nat)) ∧ ∀ (i : Nat), i <
  (nurN (tideK rows_1 rows_1.length) (10 : Int)).toNat → (El.fn (Rv.elemOf [IntKind.i64, IntKind.i64] (nurD (tideK rows_1 rows_1.length) (10 : Int) (nurN (tideK rows_1 rows_1.length) (10 : Int)).toNat))).at i = Rv.elemOf
  [IntKind.i64, IntKind.i64] rows_2 i) ∧ ∃ (rows_3 : List (List Int)), Ob ((nurN (tideK rows_1 rows_1.length) (10 : Int)).toNat = (nurN (tideK rows_1 rows_1.length) (10 : Int)).toNat ∧ rows_3.length = (nurN (tideK rows_1
  rows_1.length) (10 : Int)).toNat ∧ (∀ (r : List Int), r ∈ rows_3 → r.length = (2 : Nat)) ∧ ∀ (i : Nat), i < (nurN (tideK rows_1 rows_1.length) (10 : Int)).toNat → (El.fn (Rv.elemOf [IntKind.i64, IntKind.i64] (nurL (tideK
  rows_1 rows_1.length) (10 : Int) (nurN (tideK rows_1 rows_1.length) (10 : Int)).toNat))).at i = Rv.elemOf [IntKind.i64, IntKind.i64] rows_3 i) ∧ Ob (rows_2.length ≤ (1000 : Nat) ∧ rows_3.length ≤ (1000 : Nat)) ∧ Ob
  (F_Row.named.pre ([Dat.z v] ++ [Dat.z (↑(nurN (tideK rows_1 rows_1.length) (10 : Int)).toNat : Int)])) ∧ ∀ (v_5 : Int), v_5 = rowA v (↑(nurN (tideK rows_1 rows_1.length) (10 : Int)).toNat : Int).toNat → (∃ (a : NurK), Ob
  (a.k ≤ a.a.n ∧ a.a.Is ∧ List.Perm a.O (List.map (fun (i : Nat) ↦ [(↑i : Int)]) (List.range a.a.n))) ∧ Ob (SV.v (Value.bool false) = SV.v (Value.bool false)) ∧ Ob ((nurN (tideK rows_1 rows_1.length) (10 : Int)).toNat =
  a.a.n) ∧ Ob ((nurN (tideK rows_1 rows_1.length) (10 : Int)).toNat = a.a.n) ∧ Ob (setErr v_1 v_2 v_3 v_4 rows_2 rows_3 = (0 : Int)) ∧ Ob ((↑(nurN (tideK rows_1 rows_1.length) (10 : Int)).toNat : Int).toNat = a.a.n) ∧ Ob
  (a.k = (0 : Nat)) ∧ Ob (a.k = (0 : Nat)) ∧ Ob ((0 : Int) = (↑a.k : Int)) ∧ Ob (a.k = (0 : Nat)) ∧ Ob (a.k = (0 : Nat)) ∧ Ob ((↑(nurN (tideK rows_1 rows_1.length) (10 : Int)).toNat : Int).toNat = a.a.n ∧ ∀ (i : Nat), i <
  a.a.n → (El.fn (Rv.elemOf [IntKind.i64] (rowR v (↑(nurN (tideK rows_1 rows_1.length) (10 : Int)).toNat : Int).toNat))).at i = (El.fn (Rv.elemOf [IntKind.i64] a.O)).at i) ∧ Ob (setLo v_1 v_2 v_3 v_4 rows_2 rows_3 =
  a.a.x0) ∧ Ob (setHi v_1 v_2 v_3 v_4 rows_2 rows_3 = a.a.x1) ∧ Ob (v_1 = a.a.lo) ∧ Ob (v_2 = a.a.hi) ∧ Ob (v_3 = a.a.rate) ∧ Ob (v_4 = a.a.room) ∧ Ob ((nurN (tideK rows_1 rows_1.length) (10 : Int)).toNat = a.a.n ∧ ∀ (i :
  Nat), i < a.a.n → (El.fn (Rv.elemOf [IntKind.i64, IntKind.i64] (nurL (tideK rows_1 rows_1.length) (10 : Int) (nurN (tideK rows_1 rows_1.length) (10 : Int)).toNat))).at i = (El.fn (Rv.elemOf [IntKind.i64, IntKind.i64]
  a.a.L)).at i) ∧ Ob ((nurN (tideK rows_1 rows_1.length) (10 : Int)).toNat = a.a.n ∧ ∀ (i : Nat), i < a.a.n → (El.fn (Rv.elemOf [IntKind.i64, IntKind.i64] (nurD (tideK rows_1 rows_1.length) (10 : Int) (nurN (tideK rows_1
  rows_1.length) (10 : Int)).toNat))).at i = (El.fn (Rv.elemOf [IntKind.i64, IntKind.i64] a.a.D)).at i) ∧ Ob (v_5 = a.a.q) ∧ Ob (PlainE a.k (El.fn (Rv.elemOf [IntKind.i64, IntKind.i64] (permR a.a.L a.O a.k)))) ∧ Ob (PlainE
  a.k (El.fn (Rv.elemOf [IntKind.i64, IntKind.i64] (permR a.a.D a.O a.k)))) ∧ Ob (PlainE a.a.n (El.fn (Rv.elemOf [IntKind.i64] a.O))) ∧ Ob (PlainE a.a.n (El.fn (Rv.elemOf [IntKind.i64, IntKind.i64] a.a.L))) ∧ Ob (PlainE
  a.a.n (El.fn (Rv.elemOf [IntKind.i64, IntKind.i64] a.a.D))) ∧ True) ∧ ∀ (a : NurK), a.k ≤ a.a.n ∧ a.a.Is ∧ List.Perm a.O (List.map (fun (i : Nat) ↦ [(↑i : Int)]) (List.range a.a.n)) → ∀ (z z_1 z_2 z_3 z_4 z_5 z_6 z_7 z_8
  z_9 z_10 z_11 z_12 z_13 z_14 z_15 z_16 z_17 z_18 z_19 z_20 z_21 z_22 z_23 z_24 z_25 z_26 z_27 z_28 z_29 z_30 z_31 z_32 z_33 z_34 z_35 z_36 z_37 z_38 z_39 z_40 z_41 z_42 z_43 z_44 z_45 z_46 z_47 z_48 z_49 z_50 z_51 z_52
  z_53 z_54 z_55 z_56 z_57 z_58 z_59 z_60 z_61 z_62 z_63 z_64 z_65 z_66 z_67 z_68 z_69 z_70 z_71 z_72 z_73 z_74 z_75 z_76 z_77 z_78 z_79 z_80 z_81 z_82 z_83 z_84 z_85 z_86 z_87 z_88 z_89 z_90 z_91 z_92 z_93 z_94 z_95 z_96
  z_97 z_98 z_99 z_100 z_101 z_102 z_103 z_104 z_105 z_106 z_107 z_108 z_109 z_110 z_111 z_112 z_113 z_114 z_115 z_116 z_117 z_118 z_119 z_120 z_121 z_122 z_123 z_124 z_125 z_126 z_127 z_128 z_129 z_130 z_131 z_132 z_133
  z_134 z_135 z_136 z_137 z_138 z_139 z_140 z_141 z_142 z_143 z_144 z_145 z_146 z_147 z_148 z_149 z_150 z_151 z_152 z_153 z_154 z_155 z_156 z_157 z_158 z_159 z_160 : Value), ((↑a.k : Int) < (↑a.a.n : Int) → Ob ((0 : Int) ≤
  (↑a.k : Int) ∧ (↑a.k : Int).toNat < a.a.n) ∧ Ob ((↑a.k : Int).toNat < a.a.n) ∧ Ob ((0 : Int) ≤ cell a.O (↑a.k : Int).toNat ((0 : Nat)) ∧ (cell a.O (↑a.k : Int).toNat ((0 : Nat))).toNat < a.a.n) ∧ Ob ((cell a.O (↑a.k :
  Int).toNat ((0 : Nat))).toNat < a.a.n) ∧ Ob (a.k = a.k ∧ ∀ (i : Nat), i < a.k → ((El.fn (Rv.elemOf [IntKind.i64, IntKind.i64] (permR a.a.D a.O a.k))).at i).length = (2 : Nat)) ∧ Ob ((a.k + (1 : Nat)) * (2 : Nat) * (17 :
  Nat) ≤ (1099511627776 : Nat)) ∧ Ob (a.k = a.k) ∧ Ob (PlainE (a.k + (1 : Nat)) (behind a.k (El.fn (Rv.elemOf [IntKind.i64, IntKind.i64] (permR a.a.D a.O a.k))) ((1 : Nat)) (litEl [SV.i IntKind.i64 (cell a.a.D (cell a.O
  (↑a.k : Int).toNat (nat_lit 0)).toNat ((0 : Nat))), SV.i IntKind.i64 (cell a.a.D (cell a.O (↑a.k : Int).toNat (nat_lit 0)).toNat ((1 : Nat)))] ((2 : Nat)) ((1 : Nat))))) ∧ Ob ((0 : Int) ≤ (↑a.k : Int) ∧ (↑a.k :
  Int).toNat < a.a.n) ∧ Ob ((↑a.k : Int).toNat < a.a.n) ∧ Ob ((0 : Int) ≤ cell a.O (↑a.k : Int).toNat ((0 : Nat)) ∧ (cell a.O (↑a.k : Int).toNat (nat_lit 0)).toNat < a.a.n) ∧ Ob ((cell a.O (↑a.k : Int).toNat (nat_lit
  0)).toNat < a.a.n) ∧ Ob (a.k = a.k ∧ ∀ (i : Nat), i < a.k → ((El.fn (Rv.elemOf [IntKind.i64, IntKind.i64] (permR a.a.L a.O a.k))).at i).length = (2 : Nat)) ∧ Ob ((a.k + (1 : Nat)) * (2 : Nat) * (17 : Nat) ≤ nat_lit
  1099511627776) ∧ Ob (a.k = a.k) ∧ Ob (InR IntKind.i64 ((↑a.k : Int) + (1 : Int))) ∧ ∃ (a' : NurK), Ob ((a'.k ≤ a'.a.n ∧ a'.a.Is ∧ List.Perm a'.O (List.map (fun (i : Nat) ↦ [(↑i : Int)]) (List.range a'.a.n))) ∧ a'.a.n -
  a'.k < a.a.n - a.k) ∧ Ob (SV.v (Value.bool false) = SV.v (Value.bool false)) ∧ Ob (a.a.n = a'.a.n) ∧ Ob (a.a.n = a'.a.n) ∧ Ob ((0 : Int) = (0 : Int)) ∧ Ob (a.a.n = a'.a.n) ∧ Ob (a.k + nat_lit 1 = a'.k) ∧ Ob (a.k +
  nat_lit 1 = a'.k) ∧ Ob ((↑a.k : Int) + (1 : Int) = (↑a'.k : Int)) ∧ Ob (a.k + nat_lit 1 = a'.k ∧ ∀ (i : Nat), i < a'.k → (behind a.k (El.fn (Rv.elemOf [IntKind.i64, IntKind.i64] (permR a.a.L a.O a.k))) (nat_lit 1) (litEl
  [SV.i IntKind.i64 (cell a.a.L (cell a.O (↑a.k : Int).toNat (nat_lit 0)).toNat (nat_lit 0)), SV.i IntKind.i64 (cell a.a.L (cell a.O (↑a.k : Int).toNat (nat_lit 0)).toNat (nat_lit 1))] (nat_lit 2) (nat_lit 1))).at i =
  (El.fn (Rv.elemOf [IntKind.i64, IntKind.i64] (permR a'.a.L a'.O a'.k))).at i) ∧ Ob (a.k + nat_lit 1 = a'.k ∧ ∀ (i : Nat), i < a'.k → (behind a.k (El.fn (Rv.elemOf [IntKind.i64, IntKind.i64] (permR a.a.D a.O a.k)))
  (nat_lit 1) (litEl [SV.i IntKind.i64 (cell a.a.D (cell a.O (↑a.k : Int).toNat (nat_lit 0)).toNat (nat_lit 0)), SV.i IntKind.i64 (cell a.a.D (cell a.O (↑a.k : Int).toNat (nat_lit 0)).toNat (nat_lit 1))] (nat_lit 2)
  (nat_lit 1))).at i = (El.fn (Rv.elemOf [IntKind.i64, IntKind.i64] (permR a'.a.D a'.O a'.k))).at i) ∧ Ob (a.a.n = a'.a.n ∧ ∀ (i : Nat), i < a'.a.n → (El.fn (Rv.elemOf [IntKind.i64] a.O)).at i = (El.fn (Rv.elemOf
  [IntKind.i64] a'.O)).at i) ∧ Ob (a.a.x0 = a'.a.x0) ∧ Ob (a.a.x1 = a'.a.x1) ∧ Ob (a.a.lo = a'.a.lo) ∧ Ob (a.a.hi = a'.a.hi) ∧ Ob (a.a.rate = a'.a.rate) ∧ Ob (a.a.room = a'.a.room) ∧ Ob (a.a.n = a'.a.n ∧ ∀ (i : Nat), i <
  a'.a.n → (El.fn (Rv.elemOf [IntKind.i64, IntKind.i64] a.a.L)).at i = (El.fn (Rv.elemOf [IntKind.i64, IntKind.i64] a'.a.L)).at i) ∧ Ob (a.a.n = a'.a.n ∧ ∀ (i : Nat), i < a'.a.n → (El.fn (Rv.elemOf [IntKind.i64,
  IntKind.i64] a.a.D)).at i = (El.fn (Rv.elemOf [IntKind.i64, IntKind.i64] a'.a.D)).at i) ∧ Ob (a.a.q = a'.a.q) ∧ Ob (PlainE a'.k (El.fn (Rv.elemOf [IntKind.i64, IntKind.i64] (permR a'.a.L a'.O a'.k)))) ∧ Ob (PlainE a'.k
  (El.fn (Rv.elemOf [IntKind.i64, IntKind.i64] (permR a'.a.D a'.O a'.k)))) ∧ Ob (PlainE a'.a.n (El.fn (Rv.elemOf [IntKind.i64] a'.O))) ∧ Ob (PlainE a'.a.n (El.fn (Rv.elemOf [IntKind.i64, IntKind.i64] a'.a.L))) ∧ Ob (PlainE
  a'.a.n (El.fn (Rv.elemOf [IntKind.i64, IntKind.i64] a'.a.D))) ∧ True) ∧ (¬(↑a.k : Int) < (↑a.a.n : Int) → ∃ (rows_4 : List (List Int)), Ob (a.k = a.k ∧ rows_4.length = a.k ∧ (∀ (r : List Int), r ∈ rows_4 → r.length = (2
  : Nat)) ∧ ∀ (i : Nat), i < a.k → (El.fn (Rv.elemOf [IntKind.i64, IntKind.i64] (permR a.a.D a.O a.k))).at i = Rv.elemOf [IntKind.i64, IntKind.i64] rows_4 i) ∧ ∃ (rows_5 : List (List Int)), Ob (a.k = a.k ∧ rows_5.length =
  a.k ∧ (∀ (r : List Int), r ∈ rows_5 → r.length = (2 : Nat)) ∧ ∀ (i : Nat), i < a.k → (El.fn (Rv.elemOf [IntKind.i64, IntKind.i64] (permR a.a.L a.O a.k))).at i = Rv.elemOf [IntKind.i64, IntKind.i64] rows_5 i) ∧ Ob
  (rows_4.length ≤ (1000 : Nat) ∧ rows_5.length ≤ (1000 : Nat)) ∧ Ob (F_Below.named.pre ([Dat.z a.a.q] ++ [Dat.z (1000 : Int)])) ∧ ∀ (v_6 : Int), v_6 = belowA a.a.q (1000 : Int) → ∀ (v_7 : Int), v_7 = belowV a.a.q (1000 :
  Int) → Ob (InR IntKind.i64 (a.a.room + v_7)) ∧ ∃ (rows_6 : List (List Int)), Ob (a.a.n = a.a.n ∧ rows_6.length = a.a.n ∧ (∀ (r : List Int), r ∈ rows_6 → r.length = nat_lit 2) ∧ ∀ (i : Nat), i < a.a.n → (El.fn (Rv.elemOf
  [IntKind.i64, IntKind.i64] a.a.D)).at i = Rv.elemOf [IntKind.i64, IntKind.i64] rows_6 i) ∧ ∃ (rows_7 : List (List Int)), Ob (a.a.n = a.a.n ∧ rows_7.length = a.a.n ∧ (∀ (r : List Int), r ∈ rows_7 → r.length = nat_lit 2) ∧
  ∀ (i : Nat), i < a.a.n → (El.fn (Rv.elemOf [IntKind.i64, IntKind.i64] a.a.L)).at i = Rv.elemOf [IntKind.i64, IntKind.i64] rows_7 i) ∧ Ob (rows_6.length ≤ nat_lit 1000 ∧ rows_7.length ≤ nat_lit 1000) ∧ (¬¬(0 : Int) = (0 :
  Int) → (¬¬setErr a.a.lo a.a.hi a.a.rate a.a.room rows_4 rows_5 = (0 : Int) → (¬¬setErr a.a.lo a.a.hi a.a.rate (a.a.room + v_7) rows_6 rows_7 = (0 : Int) → (¬¬(a.a.x0 = setLo a.a.lo a.a.hi a.a.rate a.a.room rows_4 rows_5
  ∧ a.a.x1 = setHi a.a.lo a.a.hi a.a.rate a.a.room rows_4 rows_5 ∧ True) → (¬setLo a.a.lo a.a.hi a.a.rate (a.a.room + v_7) rows_6 rows_7 < a.a.x0 → (setHi a.a.lo a.a.hi a.a.rate (a.a.room + v_7) rows_6 rows_7 < a.a.x1 →
  False) ∧ (¬setHi a.a.lo a.a.hi a.a.rate (a.a.room + v_7) rows_6 rows_7 < a.a.x1 → (∃ (a_1 : NurR), Ob (a_1.r ≤ nat_lit 8 ∧ a_1.a.Is) ∧ Ob (a.a.n = a_1.a.n) ∧ Ob (a.a.n = a_1.a.n) ∧ Ob ((0 : Int) = (↑a_1.r : Int)) ∧ Ob
  (a.a.x0 = a_1.a.x0) ∧ Ob (a.a.x1 = a_1.a.x1) ∧ Ob (a.a.lo = a_1.a.lo) ∧ Ob (a.a.hi = a_1.a.hi) ∧ Ob (a.a.rate = a_1.a.rate) ∧ Ob (a.a.room = a_1.a.room) ∧ Ob (a.a.n = a_1.a.n ∧ ∀ (i : Nat), i < a_1.a.n → (El.fn
  (Rv.elemOf [IntKind.i64, IntKind.i64] a.a.L)).at i = (El.fn (Rv.elemOf [IntKind.i64, IntKind.i64] a_1.a.L)).at i) ∧ Ob (a.a.n = a_1.a.n ∧ ∀ (i : Nat), i < a_1.a.n → (El.fn (Rv.elemOf [IntKind.i64, IntKind.i64] a.a.D)).at
  i = (El.fn (Rv.elemOf [IntKind.i64, IntKind.i64] a_1.a.D)).at i) ∧ Ob (v_6 = a_1.a.q) ∧ Ob (PlainE a_1.a.n (El.fn (Rv.elemOf [IntKind.i64, IntKind.i64] a_1.a.L))) ∧ Ob (PlainE a_1.a.n (El.fn (Rv.elemOf [IntKind.i64,
  IntKind.i64] a_1.a.D))) ∧ True) ∧ ∀ (a_1 : NurR), a_1.r ≤ nat_lit 8 ∧ a_1.a.Is → ∀ (z_161 z_162 z_163 z_164 z_165 z_166 z_167 z_168 z_169 z_170 z_171 z_172 z_173 z_174 z_175 z_176 z_177 z_178 z_179 z_180 z_181 z_182
  z_183 z_184 z_185 z_186 z_187 z_188 z_189 z_190 z_191 z_192 z_193 z_194 z_195 z_196 z_197 z_198 z_199 z_200 z_201 z_202 z_203 z_204 z_205 z_206 z_207 z_208 z_209 z_210 z_211 z_212 z_213 z_214 z_215 z_216 z_217 z_218
  z_219 z_220 z_221 z_222 z_223 z_224 z_225 z_226 z_227 z_228 z_229 z_230 z_231 z_232 z_233 z_234 z_235 z_236 z_237 z_238 z_239 z_240 z_241 z_242 z_243 z_244 z_245 z_246 z_247 z_248 z_249 z_250 z_251 z_252 z_253 z_254
  z_255 z_256 z_257 z_258 z_259 z_260 z_261 z_262 z_263 z_264 z_265 z_266 z_267 z_268 z_269 z_270 z_271 z_272 z_273 z_274 z_275 z_276 z_277 z_278 z_279 z_280 z_281 z_282 z_283 z_284 z_285 z_286 z_287 z_288 z_289 z_290
  z_291 z_292 z_293 z_294 z_295 z_296 z_297 z_298 z_299 z_300 z_301 z_302 z_303 z_304 z_305 z_306 z_307 z_308 z_309 z_310 z_311 z_312 z_313 z_314 z_315 z_316 z_317 z_318 z_319 z_320 z_321 z_322 z_323 z_324 z_325 z_326 :
  Value), ((↑a_1.r : Int) < (8 : Int) → (∃ (a_2 : NurI), Ob (a_2.i ≤ a_2.a.n ∧ a_2.a.Is ∧ sumLo a_2.a.lo a_2.a.hi a_2.a.rate a_2.a.D a_2.a.L a_2.i ≤ a_2.s ∧ a_2.s ≤ sumHi a_2.a.lo a_2.a.hi a_2.a.rate a_2.a.D a_2.a.L a_2.i)
  ∧ Ob (a_1.a.n = a_2.a.n) ∧ Ob (a_1.a.n = a_2.a.n) ∧ Ob ((↑a_1.r : Int) = (↑a_1.r : Int)) ∧ Ob ((0 : Int) = a_2.s) ∧ Ob ((0 : Int) = (↑a_2.i : Int)) ∧ Ob (a_1.a.x0 = a_2.a.x0) ∧ Ob (a_1.a.x1 = a_2.a.x1) ∧ Ob (a_1.a.lo =
  a_2.a.lo) ∧ Ob (a_1.a.hi = a_2.a.hi) ∧ Ob (a_1.a.rate = a_2.a.rate) ∧ Ob (a_1.a.room = a_2.a.room) ∧ Ob (a_1.a.n = a_2.a.n ∧ ∀ (i : Nat), i < a_2.a.n → (El.fn (Rv.elemOf [IntKind.i64, IntKind.i64] a_1.a.L)).at i = (El.fn
  (Rv.elemOf [IntKind.i64, IntKind.i64] a_2.a.L)).at i) ∧ Ob (a_1.a.n = a_2.a.n ∧ ∀ (i : Nat), i < a_2.a.n → (El.fn (Rv.elemOf [IntKind.i64, IntKind.i64] a_1.a.D)).at i = (El.fn (Rv.elemOf [IntKind.i64, IntKind.i64]
  a_2.a.D)).at i) ∧ Ob (a_1.a.q = a_2.a.q) ∧ Ob (PlainE a_2.a.n (El.fn (Rv.elemOf [IntKind.i64, IntKind.i64] a_2.a.L))) ∧ Ob (PlainE a_2.a.n (El.fn (Rv.elemOf [IntKind.i64, IntKind.i64] a_2.a.D))) ∧ True) ∧ ∀ (a_2 : NurI),
  a_2.i ≤ a_2.a.n ∧ a_2.a.Is ∧ sumLo a_2.a.lo a_2.a.hi a_2.a.rate a_2.a.D a_2.a.L a_2.i ≤ a_2.s ∧ a_2.s ≤ sumHi a_2.a.lo a_2.a.hi a_2.a.rate a_2.a.D a_2.a.L a_2.i → ∀ (z_327 z_328 z_329 z_330 z_331 z_332 z_333 z_334 z_335
  z_336 z_337 z_338 z_339 z_340 z_341 z_342 z_343 z_344 z_345 z_346 z_347 z_348 z_349 z_350 z_351 z_352 z_353 z_354 z_355 z_356 z_357 z_358 z_359 z_360 z_361 z_362 z_363 z_364 z_365 z_366 z_367 z_368 z_369 z_370 z_371
  z_372 z_373 z_374 z_375 z_376 z_377 z_378 z_379 z_380 z_381 z_382 z_383 z_384 z_385 z_386 z_387 z_388 z_389 z_390 z_391 z_392 z_393 z_394 z_395 z_396 z_397 z_398 z_399 z_400 z_401 z_402 z_403 z_404 z_405 z_406 z_407
  z_408 z_409 z_410 z_411 z_412 z_413 z_414 z_415 z_416 z_417 z_418 z_419 z_420 z_421 z_422 z_423 z_424 z_425 z_426 z_427 z_428 z_429 z_430 z_431 z_432 z_433 z_434 z_435 z_436 z_437 z_438 z_439 z_440 z_441 z_442 z_443
  z_444 z_445 z_446 z_447 z_448 z_449 z_450 z_451 z_452 z_453 z_454 z_455 z_456 z_457 z_458 z_459 z_460 z_461 z_462 z_463 z_464 z_465 z_466 z_467 z_468 z_469 z_470 z_471 z_472 z_473 z_474 z_475 z_476 z_477 z_478 z_479
  z_480 z_481 z_482 z_483 z_484 z_485 z_486 z_487 z_488 z_489 z_490 : Value), ((↑a_2.i : Int) < (↑a_2.a.n : Int) → Ob ((0 : Int) ≤ (↑a_2.i : Int) ∧ (↑a_2.i : Int).toNat < a_2.a.n) ∧ Ob ((↑a_2.i : Int).toNat < a_2.a.n) ∧ Ob
  (F_In.named.pre ([Dat.z a_2.a.q] ++ ([Dat.z (cell a_2.a.D (↑a_2.i : Int).toNat (nat_lit 0)), Dat.z (cell a_2.a.D (↑a_2.i : Int).toNat (nat_lit 1))] ++ []))) ∧ ∀ (v_8 : Int), v_8 = inA a_2.a.q (cell a_2.a.D (↑a_2.i :
  Int).toNat (nat_lit 0)) (cell a_2.a.D (↑a_2.i : Int).toNat (nat_lit 1)) → ∀ (v_9 : Int), v_9 = inV a_2.a.q (cell a_2.a.D (↑a_2.i : Int).toNat (nat_lit 0)) (cell a_2.a.D (↑a_2.i : Int).toNat (nat_lit 1)) → (a_2.a.lo ≤ v_9
  → (v_9 ≤ a_2.a.hi → Ob ((0 : Int) ≤ (↑a_2.i : Int) ∧ (↑a_2.i : Int).toNat < a_2.a.n) ∧ Ob ((↑a_2.i : Int).toNat < a_2.a.n) ∧ Ob (F_In.named.pre ([Dat.z v_8] ++ ([Dat.z (cell a_2.a.L (↑a_2.i : Int).toNat (nat_lit 0)),
  Dat.z (cell a_2.a.L (↑a_2.i : Int).toNat (nat_lit 1))] ++ []))) ∧ ∀ (v_10 : Int), v_10 = inA v_8 (cell a_2.a.L (↑a_2.i : Int).toNat (nat_lit 0)) (cell a_2.a.L (↑a_2.i : Int).toNat (nat_lit 1)) → ∀ (v_11 : Int), v_11 =
  inV v_8 (cell a_2.a.L (↑a_2.i : Int).toNat (nat_lit 0)) (cell a_2.a.L (↑a_2.i : Int).toNat (nat_lit 1)) → Ob ((0 : Int) ≤ v_11 ∧ v_11 ≤ (1000000000 : Int) ∧ (0 : Int) ≤ a_2.a.rate ∧ a_2.a.rate ≤ (1000000 : Int)) ∧ Ob
  (F_Of.named.pre ([Dat.z v_10] ++ [Dat.l [[v_11 * a_2.a.rate / (1000000 : Int)], [(v_11 * a_2.a.rate + (999999 : Int)) / (1000000 : Int)]]])) ∧ ∀ (v_12 : Int), v_12 = ofA v_10 [[v_11 * a_2.a.rate / (1000000 : Int)],
  [(v_11 * a_2.a.rate + (999999 : Int)) / (1000000 : Int)]] → ∀ (v_13 : Int), v_13 = ofV v_10 [[v_11 * a_2.a.rate / (1000000 : Int)], [(v_11 * a_2.a.rate + (999999 : Int)) / (1000000 : Int)]] → Ob (InR IntKind.i64 (a_2.s +
  v_13)) ∧ Ob (InR IntKind.i64 ((↑a_2.i : Int) + (1 : Int))) ∧ ∃ (a' : NurI), Ob ((a'.i ≤ a'.a.n ∧ a'.a.Is ∧ sumLo a'.a.lo a'.a.hi a'.a.rate a'.a.D a'.a.L a'.i ≤ a'.s ∧ a'.s ≤ sumHi a'.a.lo a'.a.hi a'.a.rate a'.a.D a'.a.L
  a'.i) ∧ a'.a.n - a'.i < a_2.a.n - a_2.i) ∧ Ob (a_2.a.n = a'.a.n) ∧ Ob (a_2.a.n = a'.a.n) ∧ Ob ((↑a_1.r : Int) = (↑a_1.r : Int)) ∧ Ob (a_2.s + v_13 = a'.s) ∧ Ob ((↑a_2.i : Int) + (1 : Int) = (↑a'.i : Int)) ∧ Ob (a_2.a.x0
  = a'.a.x0) ∧ Ob (a_2.a.x1 = a'.a.x1) ∧ Ob (a_2.a.lo = a'.a.lo) ∧ Ob (a_2.a.hi = a'.a.hi) ∧ Ob (a_2.a.rate = a'.a.rate) ∧ Ob (a_2.a.room = a'.a.room) ∧ Ob (a_2.a.n = a'.a.n ∧ ∀ (i : Nat), i < a'.a.n → (El.fn (Rv.elemOf
  [IntKind.i64, IntKind.i64] a_2.a.L)).at i = (El.fn (Rv.elemOf [IntKind.i64, IntKind.i64] a'.a.L)).at i) ∧ Ob (a_2.a.n = a'.a.n ∧ ∀ (i : Nat), i < a'.a.n → (El.fn (Rv.elemOf [IntKind.i64, IntKind.i64] a_2.a.D)).at i =
  (El.fn (Rv.elemOf [IntKind.i64, IntKind.i64] a'.a.D)).at i) ∧ Ob (v_12 = a'.a.q) ∧ Ob (PlainE a'.a.n (El.fn (Rv.elemOf [IntKind.i64, IntKind.i64] a'.a.L))) ∧ Ob (PlainE a'.a.n (El.fn (Rv.elemOf [IntKind.i64, IntKind.i64]
  a'.a.D))) ∧ True) ∧ (¬v_9 ≤ a_2.a.hi → Ob (InR IntKind.i64 ((↑a_2.i : Int) + (1 : Int))) ∧ ∃ (a' : NurI), Ob ((a'.i ≤ a'.a.n ∧ a'.a.Is ∧ sumLo a'.a.lo a'.a.hi a'.a.rate a'.a.D a'.a.L a'.i ≤ a'.s ∧ a'.s ≤ sumHi a'.a.lo
  a'.a.hi a'.a.rate a'.a.D a'.a.L a'.i) ∧ a'.a.n - a'.i < a_2.a.n - a_2.i) ∧ Ob (a_2.a.n = a'.a.n) ∧ Ob (a_2.a.n = a'.a.n) ∧ Ob ((↑a_1.r : Int) = (↑a_1.r : Int)) ∧ Ob (a_2.s = a'.s) ∧ Ob ((↑a_2.i : Int) + (1 : Int) =
  (↑a'.i : Int)) ∧ Ob (a_2.a.x0 = a'.a.x0) ∧ Ob (a_2.a.x1 = a'.a.x1) ∧ Ob (a_2.a.lo = a'.a.lo) ∧ Ob (a_2.a.hi = a'.a.hi) ∧ Ob (a_2.a.rate = a'.a.rate) ∧ Ob (a_2.a.room = a'.a.room) ∧ Ob (a_2.a.n = a'.a.n ∧ ∀ (i : Nat), i <
  a'.a.n → (El.fn (Rv.elemOf [IntKind.i64, IntKind.i64] a_2.a.L)).at i = (El.fn (Rv.elemOf [IntKind.i64, IntKind.i64] a'.a.L)).at i) ∧ Ob (a_2.a.n = a'.a.n ∧ ∀ (i : Nat), i < a'.a.n → (El.fn (Rv.elemOf [IntKind.i64,
  IntKind.i64] a_2.a.D)).at i = (El.fn (Rv.elemOf [IntKind.i64, IntKind.i64] a'.a.D)).at i) ∧ Ob (v_8 = a'.a.q) ∧ Ob (PlainE a'.a.n (El.fn (Rv.elemOf [IntKind.i64, IntKind.i64] a'.a.L))) ∧ Ob (PlainE a'.a.n (El.fn
  (Rv.elemOf [IntKind.i64, IntKind.i64] a'.a.D))) ∧ True)) ∧ (¬a_2.a.lo ≤ v_9 → Ob (InR IntKind.i64 ((↑a_2.i : Int) + (1 : Int))) ∧ ∃ (a' : NurI), Ob ((a'.i ≤ a'.a.n ∧ a'.a.Is ∧ sumLo a'.a.lo a'.a.hi a'.a.rate a'.a.D
  a'.a.L a'.i ≤ a'.s ∧ a'.s ≤ sumHi a'.a.lo a'.a.hi a'.a.rate a'.a.D a'.a.L a'.i) ∧ a'.a.n - a'.i < a_2.a.n - a_2.i) ∧ Ob (a_2.a.n = a'.a.n) ∧ Ob (a_2.a.n = a'.a.n) ∧ Ob ((↑a_1.r : Int) = (↑a_1.r : Int)) ∧ Ob (a_2.s =
  a'.s) ∧ Ob ((↑a_2.i : Int) + (1 : Int) = (↑a'.i : Int)) ∧ Ob (a_2.a.x0 = a'.a.x0) ∧ Ob (a_2.a.x1 = a'.a.x1) ∧ Ob (a_2.a.lo = a'.a.lo) ∧ Ob (a_2.a.hi = a'.a.hi) ∧ Ob (a_2.a.rate = a'.a.rate) ∧ Ob (a_2.a.room = a'.a.room)
  ∧ Ob (a_2.a.n = a'.a.n ∧ ∀ (i : Nat), i < a'.a.n → (El.fn (Rv.elemOf [IntKind.i64, IntKind.i64] a_2.a.L)).at i = (El.fn (Rv.elemOf [IntKind.i64, IntKind.i64] a'.a.L)).at i) ∧ Ob (a_2.a.n = a'.a.n ∧ ∀ (i : Nat), i <
  a'.a.n → (El.fn (Rv.elemOf [IntKind.i64, IntKind.i64] a_2.a.D)).at i = (El.fn (Rv.elemOf [IntKind.i64, IntKind.i64] a'.a.D)).at i) ∧ Ob (v_8 = a'.a.q) ∧ Ob (PlainE a'.a.n (El.fn (Rv.elemOf [IntKind.i64, IntKind.i64]
  a'.a.L))) ∧ Ob (PlainE a'.a.n (El.fn (Rv.elemOf [IntKind.i64, IntKind.i64] a'.a.D))) ∧ True)) ∧ (¬(↑a_2.i : Int) < (↑a_2.a.n : Int) → Ob True ∧ (¬(a_2.a.x0 ≤ min a_2.s a_2.a.room ∧ min a_2.s a_2.a.room ≤ a_2.a.x1) →
  False) ∧ (¬¬(a_2.a.x0 ≤ min a_2.s a_2.a.room ∧ min a_2.s a_2.a.room ≤ a_2.a.x1) → Ob (InR IntKind.i64 ((↑a_1.r : Int) + (1 : Int))) ∧ ∃ (a' : NurR), Ob ((a'.r ≤ nat_lit 8 ∧ a'.a.Is) ∧ nat_lit 8 - a'.r < nat_lit 8 -
  a_1.r) ∧ Ob (a_2.a.n = a'.a.n) ∧ Ob (a_2.a.n = a'.a.n) ∧ Ob ((↑a_1.r : Int) + (1 : Int) = (↑a'.r : Int)) ∧ Ob (a_2.a.x0 = a'.a.x0) ∧ Ob (a_2.a.x1 = a'.a.x1) ∧ Ob (a_2.a.lo = a'.a.lo) ∧ Ob (a_2.a.hi = a'.a.hi) ∧ Ob
  (a_2.a.rate = a'.a.rate) ∧ Ob (a_2.a.room = a'.a.room) ∧ Ob (a_2.a.n = a'.a.n ∧ ∀ (i : Nat), i < a'.a.n → (El.fn (Rv.elemOf [IntKind.i64, IntKind.i64] a_2.a.L)).at i = (El.fn (Rv.elemOf [IntKind.i64, IntKind.i64]
  a'.a.L)).at i) ∧ Ob (a_2.a.n = a'.a.n ∧ ∀ (i : Nat), i < a'.a.n → (El.fn (Rv.elemOf [IntKind.i64, IntKind.i64] a_2.a.D)).at i = (El.fn (Rv.elemOf [IntKind.i64, IntKind.i64] a'.a.D)).at i) ∧ Ob (a_2.a.q = a'.a.q) ∧ Ob
  (PlainE a'.a.n (El.fn (Rv.elemOf [IntKind.i64, IntKind.i64] a'.a.L))) ∧ Ob (PlainE a'.a.n (El.fn (Rv.elemOf [IntKind.i64, IntKind.i64] a'.a.D))) ∧ True))) ∧ (¬(↑a_1.r : Int) < (8 : Int) → Ob (hasTabs tab1 B) ∧ True))) ∧
  (setLo a.a.lo a.a.hi a.a.rate (a.a.room + v_7) rows_6 rows_7 < a.a.x0 → False)) ∧ (¬(a.a.x0 = setLo a.a.lo a.a.hi a.a.rate a.a.room rows_4 rows_5 ∧ a.a.x1 = setHi a.a.lo a.a.hi a.a.rate a.a.room rows_4 rows_5 ∧ True) →
  False)) ∧ (¬setErr a.a.lo a.a.hi a.a.rate (a.a.room + v_7) rows_6 rows_7 = (0 : Int) → False)) ∧ (¬setErr a.a.lo a.a.hi a.a.rate a.a.room rows_4 rows_5 = (0 : Int) → False)) ∧ (¬(0 : Int) = (0 : Int) → False))

set_option linter.unusedSimpArgs false in
set_option maxRecDepth 4000 in
set_option maxHeartbeats 400000 in
theorem v_law : V_law := by
  unfold V_law
  intro B htab z N hz hoz hrz hN
  refine ⟨N, ⟨⟨hz, rfl, hrz, fun _ _ => rfl⟩⟩, ⟨hN⟩, ⟨by show (0 : Int) ≤ 10 ∧ (10 : Int) ≤ 12; omega⟩, ?_⟩
  obtain ⟨a, ha⟩ : ∃ a, tideK N N.length = a := ⟨_, rfl⟩
  rw [ha]
  clear ha
  intro v hv v1 hv1 v2 hv2 v3 hv3 v4 hv4
  have eD := nurD_len a 10 (nurN a 10).toNat
  have rD := nurD_row a 10 (nurN a 10).toNat
  have eL := nurL_len a 10 (nurN a 10).toNat
  have rL := nurL_row a 10 (nurN a 10).toNat
  have hn := nurN_le a (most := 10) (by omega)
  have hdays := nur_days a 10 (nurN a 10).toNat
  have hbd := nur_bd a
  rw [← hv1, ← hv2, ← hv3, ← hv4] at hbd
  clear hv hv1 hv2 hv3 hv4
  obtain ⟨GD, hGD⟩ : ∃ l, nurD a 10 (nurN a 10).toNat = l := ⟨_, rfl⟩
  obtain ⟨GL, hGL⟩ : ∃ l, nurL a 10 (nurN a 10).toNat = l := ⟨_, rfl⟩
  rw [hGD] at eD rD hdays
  rw [hGL] at eL rL hdays
  rw [hGD, hGL]
  clear hGD hGL
  obtain ⟨n, en⟩ : ∃ n, (nurN a 10).toNat = n := ⟨_, rfl⟩
  rw [en] at eD eL hn hdays
  rw [en]
  clear en
  replace hn : n ≤ 10 := hn
  obtain ⟨b1, b2, b3, b4, b5, b6, b7⟩ := hbd
  refine ⟨GD, ⟨⟨rfl, eD, rD, fun _ _ => rfl⟩⟩, GL, ⟨⟨rfl, eL, rL, fun _ _ => rfl⟩⟩, ⟨by omega⟩, ⟨by show (0 : Int) ≤ (n : Int) ∧ (n : Int) ≤ 1000; omega⟩, ?_⟩
  intro v5 hv5
  clear hv5
  have hIs : (⟨n, v5, v1, v2, v3, v4, setLo v1 v2 v3 v4 GD GL, setHi v1 v2 v3 v4 GD GL, GD, GL⟩ : Nur).Is := nurK_of (a := a) (v := v) hn b1 b2 b3 b4 b5 b6 b7 eD eL rD rL hdays
  have hE := (set_of b1 b2 b3 b4 b5 b6 (by omega) hn eD eL hdays).1
  constructor
  · refine ⟨⟨0, ⟨n, v5, v1, v2, v3, v4, setLo v1 v2 v3 v4 GD GL, setHi v1 v2 v3 v4 GD GL, GD, GL⟩, rowR v n⟩, ⟨Nat.zero_le _, hIs, rowR_perm v n⟩, ?_⟩
    simp only [Int.toNat_natCast]
    repeat' (with_reducible apply And.intro)
    all_goals first | exact ⟨trivial⟩ | exact ⟨hE⟩ | exact ⟨plain_elemOf _ _ _⟩ | exact ⟨rfl⟩ | exact ⟨⟨trivial, fun _ _ => trivial⟩⟩ | trivial
  intro ⟨k, ⟨n, q, lo, hi, rate, room, x0, x1, D, L⟩, O⟩ ⟨hk, hI, hO⟩
  clear b1 b2 b3 b4 b5 b6 b7 eD eL rD rL hdays hIs hE
  dsimp only at *
  intros
  have hI' := hI
  obtain ⟨c0, c1, c2, c3, c4, c5, c6, c7, c8, c9, c10, c11, c12, c13, c14⟩ := hI
  dsimp only at *
  constructor
  · intro h1
    have hkn : k < n := by omega
    obtain ⟨p1, p2⟩ := perm_get hO hkn
    have lD := permR_len D O k
    have lL := permR_len L O k
    have sn : ∀ (X : Rows) i, i < k + 1 → (behind k (.fn (Rv.elemOf [.i64, .i64] (permR X O k))) 1 (litEl [SV.i .i64 (cell X (cell O k 0).toNat 0), SV.i .i64 (cell X (cell O k 0).toNat 1)] 2 1)).at i = (El.fn (Rv.elemOf [.i64, .i64] (permR X O (k + 1)))).at i := fun X i hi => by
      have := snoc2_at (R := permR X O k) (j := .i64) (k := .i64) (a := cell X (cell O k 0).toNat 0) (b := cell X (cell O k 0).toNat 1) (i := i) (by rw [permR_len]; exact hi)
      rw [permR_len] at this
      exact this
    have pl : ∀ X : Rows, PlainE (k + 1) (behind k (.fn (Rv.elemOf [.i64, .i64] (permR X O k))) 1 (litEl [SV.i .i64 (cell X (cell O k 0).toNat 0), SV.i .i64 (cell X (cell O k 0).toNat 1)] 2 1)) := fun X i hi => by
      rw [sn X i hi]
      exact plain_elemOf _ _ (k + 1) i hi
    refine ⟨⟨by omega, hkn⟩, ⟨hkn⟩, ⟨p1, p2⟩, ⟨p2⟩, ⟨rfl, fun i hi => rfl⟩, ⟨by omega⟩, ⟨rfl⟩, ⟨pl D⟩, ⟨by omega, hkn⟩, ⟨hkn⟩, ⟨p1, p2⟩, ⟨p2⟩, ⟨rfl, fun i hi => rfl⟩, ⟨by omega⟩, ⟨rfl⟩, ⟨by simp only [InR]; omega⟩, ?_⟩
    refine ⟨⟨k + 1, ⟨n, q, lo, hi, rate, room, x0, x1, D, L⟩, O⟩, ⟨⟨hkn, hI', hO⟩, by show n - (k + 1) < n - k; omega⟩, ?_⟩
    repeat' (with_reducible apply And.intro)
    all_goals first | exact ⟨rfl⟩ | exact ⟨plain_elemOf _ _ _⟩ | exact ⟨⟨rfl, fun _ _ => rfl⟩⟩ | exact ⟨rfl, sn _⟩ | trivial
  intro h1
  have hkn : k = n := by omega
  subst hkn
  have hd2 := perm_days hO c12
  have lD := permR_len D O k
  have lL := permR_len L O k
  obtain ⟨e1, e2, e3⟩ := set_of c1 c2 c3 c4 c5 c6 (by omega) c0 lD lL hd2
  rw [perm_lo hO, ← c13] at e2
  rw [perm_hi hO, ← c14] at e3
  refine ⟨permR D O k, ⟨⟨rfl, lD, permR_row D O k, fun _ _ => rfl⟩⟩, permR L O k, ⟨⟨rfl, lL, permR_row L O k, fun _ _ => rfl⟩⟩, ⟨by omega⟩, ⟨by show (1000 : Int) ≤ 9223372036854775807; omega⟩, ?_⟩
  intro v6 hv6 v7 hv7
  have b7 : 0 ≤ v7 ∧ v7 < 1000 := by
    have := belowV_in q 1000
    omega
  obtain ⟨f1, f2, f3⟩ := set_of c1 c2 c3 c4 c5 (show 0 ≤ room + v7 by omega) (by omega) c0 c8 c9 c12
  refine ⟨⟨by simp only [InR]; omega⟩, D, ⟨⟨rfl, c8, c10, fun _ _ => rfl⟩⟩, L, ⟨⟨rfl, c9, c11, fun _ _ => rfl⟩⟩, ⟨by omega⟩, ?_⟩
  refine ⟨fun _ => ⟨fun _ => ⟨fun _ => ⟨fun _ => ⟨fun _ => ⟨fun h => by omega, fun _ => ?_⟩, fun h => by omega⟩, fun h => h ⟨e2.symm, e3.symm, trivial⟩⟩, fun h => h f1⟩, fun h => h e1⟩, fun h => h rfl⟩
  clear e1 e2 e3 f1 f2 f3 lD lL hd2 hO h1
  constructor
  · refine ⟨⟨0, ⟨k, v6, lo, hi, rate, room, x0, x1, D, L⟩⟩, ⟨⟨by show 0 ≤ 8; omega, ⟨c0, c1, c2, c3, c4, c5, c6, c7, c8, c9, c10, c11, c12, c13, c14⟩⟩⟩, ?_⟩
    repeat' (with_reducible apply And.intro)
    all_goals first | exact ⟨rfl⟩ | exact ⟨plain_elemOf _ _ _⟩ | exact ⟨⟨rfl, fun _ _ => rfl⟩⟩ | exact ⟨⟨rfl, fun _ _ => trivial⟩⟩ | exact ⟨⟨trivial, fun _ _ => trivial⟩⟩ | exact ⟨trivial⟩ | trivial
  clear hI' c0 c1 c2 c3 c4 c5 c6 c7 c8 c9 c10 c11 c12 c13 c14
  intro ⟨r, b⟩ ⟨hr, hI⟩
  replace hr : r ≤ 8 := hr
  replace hI : b.Is := hI
  dsimp only
  intros
  constructor
  · intro h1
    constructor
    · refine ⟨⟨0, 0, b⟩, ⟨⟨Nat.zero_le _, hI, Int.le_refl 0, Int.le_refl 0⟩⟩, ?_⟩
      repeat' (with_reducible apply And.intro)
      all_goals first | exact ⟨rfl⟩ | exact ⟨plain_elemOf _ _ _⟩ | exact ⟨⟨rfl, fun _ _ => rfl⟩⟩ | exact ⟨⟨rfl, fun _ _ => trivial⟩⟩ | exact ⟨⟨trivial, fun _ _ => trivial⟩⟩ | exact ⟨trivial⟩ | trivial
    intro ⟨i, s, c⟩ ⟨hi2, hI2, s1, s2⟩
    replace hi2 : i ≤ c.n := hi2
    replace s1 : sumLo c.lo c.hi c.rate c.D c.L i ≤ s := s1
    replace s2 : s ≤ sumHi c.lo c.hi c.rate c.D c.L i := s2
    replace hI2 : c.Is := hI2
    dsimp only
    intros
    simp only [Int.toNat_natCast]
    obtain ⟨t0, t1⟩ := sum_bd (lo := c.lo) (hi := c.hi) hI2.days hI2.r0 hI2.r1 i hi2
    have hn10 := hI2.n
    constructor
    · intro h2
      have hin : i < c.n := by omega
      have hd := hI2.days i hin
      have p0 : 0 ≤ cell c.L i 1 * c.rate := Int.mul_nonneg (by omega) hI2.r0
      have eLo : sumLo c.lo c.hi c.rate c.D c.L (i + 1) = sumLo c.lo c.hi c.rate c.D c.L i + (if c.lo ≤ cell c.D i 0 ∧ cell c.D i 1 ≤ c.hi then cell c.L i 0 * c.rate / 1000000 else 0) := rfl
      have eHi : sumHi c.lo c.hi c.rate c.D c.L (i + 1) = sumHi c.lo c.hi c.rate c.D c.L i + (if cell c.D i 0 ≤ c.hi ∧ c.lo ≤ cell c.D i 1 then (cell c.L i 1 * c.rate + 999999) / 1000000 else 0) := rfl
      have hout : ∀ (q w : Int), cell c.D i 0 ≤ w ∧ w ≤ cell c.D i 1 → ¬ (c.lo ≤ w ∧ w ≤ c.hi) → sumLo c.lo c.hi c.rate c.D c.L (i + 1) ≤ s ∧ s ≤ sumHi c.lo c.hi c.rate c.D c.L (i + 1) := fun q w h3 h4 => by
        obtain ⟨y1, y2⟩ := larva_out (x := cell c.L i 0 * c.rate / 1000000) h3 h4 (show 0 ≤ (cell c.L i 1 * c.rate + 999999) / 1000000 by omega)
        rw [eLo, eHi]
        omega
      refine ⟨⟨by omega, hin⟩, ⟨hin⟩, ⟨by show _ ∧ _ ∧ _ ∧ _; omega⟩, ?_⟩
      intro v8 hv8 v9 hv9
      have hw := inV_in (a := c.q) hd.2.1
      rw [← hv9] at hw
      clear hv8 hv9
      constructor
      · intro h3
        constructor
        · intro h4
          refine ⟨⟨by omega, hin⟩, ⟨hin⟩, ⟨by show _ ∧ _ ∧ _ ∧ _; omega⟩, ?_⟩
          intro v10 hv10 v11 hv11
          have hm := inV_in (a := v8) hd.2.2.2.2.1
          rw [← hv11] at hm
          clear hv10 hv11
          refine ⟨⟨by have := hI2.r0; have := hI2.r1; omega⟩, ⟨by show 2 ≤ 1000; omega⟩, ?_⟩
          intro v12 hv12 v13 hv13
          have hval := ofV_two v10 (v11 * c.rate / 1000000) ((v11 * c.rate + 999999) / 1000000)
          rw [← hv13] at hval
          clear hv12 hv13
          obtain ⟨y1, y2⟩ := larva_in hw ⟨h3, h4⟩ hd.2.2.2.1 hm hI2.r0 hval
          have z1 : sumLo c.lo c.hi c.rate c.D c.L (i + 1) ≤ s + v13 := by rw [eLo]; omega
          have z2 : s + v13 ≤ sumHi c.lo c.hi c.rate c.D c.L (i + 1) := by rw [eHi]; omega
          obtain ⟨u0, u1⟩ := sum_bd (lo := c.lo) (hi := c.hi) hI2.days hI2.r0 hI2.r1 (i + 1) hin
          refine ⟨⟨by simp only [InR]; omega⟩, ⟨by simp only [InR]; omega⟩, ⟨i + 1, s + v13, { c with q := v12 }⟩, ⟨⟨hin, hI2.q v12, z1, z2⟩, by show c.n - (i + 1) < c.n - i; omega⟩, ?_⟩
          repeat' (with_reducible apply And.intro)
          all_goals first | exact ⟨rfl⟩ | exact ⟨plain_elemOf _ _ _⟩ | exact ⟨⟨rfl, fun _ _ => rfl⟩⟩ | exact ⟨⟨rfl, fun _ _ => trivial⟩⟩ | exact ⟨⟨trivial, fun _ _ => trivial⟩⟩ | exact ⟨trivial⟩ | trivial
        · intro h4
          obtain ⟨z1, z2⟩ := hout 0 v9 hw (by omega)
          refine ⟨⟨by simp only [InR]; omega⟩, ⟨i + 1, s, { c with q := v8 }⟩, ⟨⟨hin, hI2.q v8, z1, z2⟩, by show c.n - (i + 1) < c.n - i; omega⟩, ?_⟩
          repeat' (with_reducible apply And.intro)
          all_goals first | exact ⟨rfl⟩ | exact ⟨plain_elemOf _ _ _⟩ | exact ⟨⟨rfl, fun _ _ => rfl⟩⟩ | exact ⟨⟨rfl, fun _ _ => trivial⟩⟩ | exact ⟨⟨trivial, fun _ _ => trivial⟩⟩ | exact ⟨trivial⟩ | trivial
      · intro h3
        obtain ⟨z1, z2⟩ := hout 0 v9 hw (by omega)
        refine ⟨⟨by simp only [InR]; omega⟩, ⟨i + 1, s, { c with q := v8 }⟩, ⟨⟨hin, hI2.q v8, z1, z2⟩, by show c.n - (i + 1) < c.n - i; omega⟩, ?_⟩
        repeat' (with_reducible apply And.intro)
        all_goals first | exact ⟨rfl⟩ | exact ⟨plain_elemOf _ _ _⟩ | exact ⟨⟨rfl, fun _ _ => rfl⟩⟩ | exact ⟨⟨rfl, fun _ _ => trivial⟩⟩ | exact ⟨⟨trivial, fun _ _ => trivial⟩⟩ | exact ⟨trivial⟩ | trivial
    · intro h2
      have e : i = c.n := by omega
      rw [e] at s1 s2
      have x0 := hI2.x0
      have x1 := hI2.x1
      refine ⟨⟨trivial⟩, fun h3 => h3 (by omega), fun _ => ?_⟩
      refine ⟨⟨by simp only [InR]; omega⟩, ⟨r + 1, c⟩, ⟨⟨by show r + 1 ≤ 8; omega, hI2⟩, by show 8 - (r + 1) < 8 - r; omega⟩, ?_⟩
      repeat' (with_reducible apply And.intro)
      all_goals first | exact ⟨rfl⟩ | exact ⟨plain_elemOf _ _ _⟩ | exact ⟨⟨rfl, fun _ _ => rfl⟩⟩ | exact ⟨⟨rfl, fun _ _ => trivial⟩⟩ | exact ⟨⟨trivial, fun _ _ => trivial⟩⟩ | exact ⟨trivial⟩ | trivial
  · intro h1
    exact ⟨⟨htab⟩, trivial⟩

theorem e_law : V_law = needL P [F_Settle, F_rPart, F_Covers] [F_TideOf.named, F_nurseryOf.named, F_Row.named, F_Below.named, F_In.named, F_Of.named] 6 tab1 A_law F_law := by kernel_rfl

theorem n_law : Ob (needL P [F_Settle, F_rPart, F_Covers] [F_TideOf.named, F_nurseryOf.named, F_Row.named, F_Below.named, F_In.named, F_Of.named] 6 tab1 A_law F_law) := by
  rw [← e_law]
  exact ⟨v_law⟩

theorem b_law : ((P.funcs[5]?).any fun fn => fn.body.isSome) = true := by kernel_rfl

theorem l_law : ([F_Settle, F_rPart, F_Covers].all fun G => !Nat.beq G.g 6) = true := rfl
theorem le_law : ([F_TideOf.named, F_nurseryOf.named, F_Row.named, F_Below.named, F_In.named, F_Of.named].all fun G => !Nat.beq G.g 6) = true := rfl
theorem c_law : ∀ F ∈ [F_Settle, F_rPart, F_Covers], F.Ok P := by
  intro F h
  simp only [List.mem_cons, List.not_mem_nil, or_false] at h
  rcases h with rfl | rfl | rfl
  · exact Settle_ok
  · exact rPart_ok
  · exact Covers_ok

theorem ce_law : ∀ F ∈ [F_TideOf.named, F_nurseryOf.named, F_Row.named, F_Below.named, F_In.named, F_Of.named], F.Ok P := by
  intro F h
  simp only [List.mem_cons, List.not_mem_nil, or_false] at h
  rcases h with rfl | rfl | rfl | rfl | rfl | rfl
  · exact TideOf_ok.named
  · exact nurseryOf_ok.named
  · exact Row_ok.named
  · exact Below_ok.named
  · exact In_ok.named
  · exact Of_ok.named


end Go.Proofs.YtgdnhmilhpnbjaaDoor.Sy
