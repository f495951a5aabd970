/- The law CatchNumbers. -/
import Derived.Test.YthlodlileecmdaaDoorSyP2
import Derived.Test.YthlodlileecmdaaDoorGrM
import Derived.Test.YthlodlileecmdaaDoorCtT
import Derived.Test.YthlodlileecmdaaDoorCtA
import Derived.Test.YthlodlileecmdaaDoorCtB
import Derived.Test.YthlodlileecmdaaDoorCtC
import Derived.Test.YthlodlileecmdaaDoorCtU
import Derived.Test.YthlodlileecmdaaDoorCtV
import Derived.Test.YthlodlileecmdaaDoorCtW
import Derived.KernelRfl
import Derived.Test.YthlodlileecmdaaDoorProg
namespace Go.Proofs.YthlodlileecmdaaDoor.Sy
open Go Go.Rv
set_option linter.unusedVariables false

def g32 : List Int := [0, 1, 28, 2, 29, 14, 24, 3, 30, 22, 20, 15, 25, 17, 4, 8, 31, 27, 13, 23, 21, 19, 16, 7, 26, 12, 18, 6, 11, 5, 10, 9]
def tab1 : Tabs := [(1, .u8, g32)]
/-- a catch: animals, edges and a bulk, and what the program says of them -/
structure Cn where
  n : Nat
  b : Int
  e2 : Int
  e5 : Int
  w0 : Int
  w1 : Int
  L : Rows
  C : Rows
def Cn.E (v : Cn) : Rows := [[790], [800], [v.e2], [835], [850], [v.e5]]
structure Cn.Is (v : Cn) : Prop where
  n : v.n ≤ 8
  l : v.L.length = v.n
  lr : ∀ r ∈ v.L, r.length = 6
  m : capTo v.L v.n = 0
  b0 : 1 ≤ v.b
  b1 : v.b ≤ 3000
  e2 : 810 ≤ v.e2 ∧ v.e2 < 830
  e5 : 1000 ≤ v.e5 ∧ v.e5 < 1200
  c : ∀ k, k < 5 → cell v.C k 0 = cntLo v.E v.L k v.n ∧ cell v.C k 1 = cntHi v.E v.L k v.n
  w0 : v.w0 = wgtLo v.b v.L v.n
  w1 : v.w1 = wgtHi v.b v.L v.n
def Fnd (a : Cn) (F : Rows) (i k : Nat) : Prop := ∀ j, j < 5 → cntLo a.E a.L j (if j < k then i + 1 else i) ≤ cell F j 0 ∧ cell F j 0 ≤ cntHi a.E a.L j (if j < k then i + 1 else i)
structure CnI where
  i : Nat
  q : Int
  w : Int
  F : Rows
  a : Cn
structure CnK where
  k : Nat
  i : Nat
  s : Int
  q : Int
  w : Int
  F : Rows
  a : Cn
structure CnZ where
  k : Nat
  q : Int
  w : Int
  F : Rows
  a : Cn
def Wgt (a : Cn) (w : Int) (i : Nat) : Prop := wgtLo a.b a.L i ≤ w ∧ w ≤ wgtHi a.b a.L i
theorem cube_mono {x y : Int} (h0 : 0 ≤ x) (h1 : x ≤ y) : x * x * x ≤ y * y * y := by
  have a1 : x * x ≤ y * y := Int.mul_le_mul h1 h1 h0 (by omega)
  have a0 : 0 ≤ y * y := Int.mul_nonneg (by omega) (by omega)
  exact Int.mul_le_mul a1 h1 h0 a0
theorem ceil_eq {x b : Int} (h0 : 0 ≤ x) (h1 : 1 ≤ b) : x / b + min 1 (x.tmod b) = (x + b - 1) / b := by
  rw [Int.tmod_eq_emod_of_nonneg h0]
  have e := Int.mul_ediv_add_emod x b
  have m0 := Int.emod_nonneg x (show b ≠ 0 by omega)
  have m1 := Int.emod_lt_of_pos x (show 0 < b by omega)
  generalize hq : x / b = q at *
  generalize hr : x % b = r at *
  have e2 : x + b - 1 = b * q + (r + b - 1) := by omega
  rw [e2, Int.mul_add_ediv_left _ _ (by omega)]
  by_cases hr0 : r = 0
  · subst hr0
    have : (0 + b - 1) / b = 0 := Int.ediv_eq_zero_of_lt (by omega) (by omega)
    rw [this]
    omega
  · have e3 : r + b - 1 = (r - 1) + b * 1 := by omega
    have : (r + b - 1) / b = 1 := by
      rw [e3, Int.add_mul_ediv_left _ _ (by omega), Int.ediv_eq_zero_of_lt (by omega) (by omega)]
      omega
    rw [this]
    omega
theorem put_one (R : Rows) (j : Nat) (y : Int) (i : Nat) : (updL (El.fn (Rv.elemOf [.i64] R)) j 0 [SV.i .i64 y]).at i = [SV.i .i64 (if i = j then y else cell R i 0)] := by
  by_cases e : i = j
  · subst e
    simp only [updL, El.at, if_true]
    rfl
  · simp only [updL, El.at, if_neg e]
    rfl
theorem el_one (R : Rows) (i : Nat) : (El.fn (Rv.elemOf [.i64] R)).at i = [SV.i .i64 (cell R i 0)] := rfl
def incR (F : Rows) (k : Nat) : Rows := (List.range 5).map fun j => [if j = k then cell F k 0 + 1 else cell F j 0]
theorem mapCell (f : Nat → Int) {n i : Nat} (h : i < n) : cell ((List.range n).map fun j => [f j]) i 0 = f i := by
  unfold cell
  simp [List.getD_eq_getElem?_getD, h]
theorem incR_cell (F : Rows) (k : Nat) {i : Nat} (h : i < 5) : cell (incR F k) i 0 = if i = k then cell F k 0 + 1 else cell F i 0 := mapCell (fun j => if j = k then cell F k 0 + 1 else cell F j 0) h
theorem edgTo_of {E : Rows} {n : Nat} (h : ∀ i, i < n → edgAt E i = 0) : edgTo E n = 0 := by
  induction n with
  | zero => rfl
  | succ n ih =>
    simp only [edgTo, ih fun i hi => h i (by omega), if_true]
    exact h n (by omega)
theorem edg_of {x y : Int} (h1 : 810 ≤ x ∧ x < 830) (h2 : 1000 ≤ y ∧ y < 1200) : edgErr [[790], [800], [x], [835], [850], [y]] = 0 := by
  have e : edgErr [[790], [800], [x], [835], [850], [y]] = edgTo [[790], [800], [x], [835], [850], [y]] 6 := by
    unfold edgErr
    rw [if_neg (by show ¬ 6 < 2; omega), if_neg (by show ¬ 21 < 6; omega)]
    rfl
  rw [e]
  refine edgTo_of fun i hi => ?_
  have c0 : cell [[790], [800], [x], [835], [850], [y]] 0 0 = 790 := rfl
  have c1 : cell [[790], [800], [x], [835], [850], [y]] 1 0 = 800 := rfl
  have c2 : cell [[790], [800], [x], [835], [850], [y]] 2 0 = x := rfl
  have c3 : cell [[790], [800], [x], [835], [850], [y]] 3 0 = 835 := rfl
  have c4 : cell [[790], [800], [x], [835], [850], [y]] 4 0 = 850 := rfl
  have c5 : cell [[790], [800], [x], [835], [850], [y]] 5 0 = y := rfl
  unfold edgAt inB
  have : i = 0 ∨ i = 1 ∨ i = 2 ∨ i = 3 ∨ i = 4 ∨ i = 5 := by omega
  rcases this with rfl | rfl | rfl | rfl | rfl | rfl <;> simp only [Nat.reduceSub, c0, c1, c2, c3, c4, c5] <;> rw [if_pos (by omega), if_neg (by omega)]
theorem E_cells (v : Cn) (h1 : 810 ≤ v.e2 ∧ v.e2 < 830) (h2 : 1000 ≤ v.e5 ∧ v.e5 < 1200) {k : Nat} (hk : k < 5) : 790 ≤ cell v.E k 0 ∧ cell v.E k 0 ≤ cell v.E (k + 1) 0 - 1 ∧ cell v.E (k + 1) 0 ≤ 1200 := by
  have c0 : cell v.E 0 0 = 790 := rfl
  have c1 : cell v.E 1 0 = 800 := rfl
  have c2 : cell v.E 2 0 = v.e2 := rfl
  have c3 : cell v.E 3 0 = 835 := rfl
  have c4 : cell v.E 4 0 = 850 := rfl
  have c5 : cell v.E 5 0 = v.e5 := rfl
  have : k = 0 ∨ k = 1 ∨ k = 2 ∨ k = 3 ∨ k = 4 := by omega
  rcases this with rfl | rfl | rfl | rfl | rfl <;> simp only [Nat.reduceAdd, c0, c1, c2, c3, c4, c5] <;> omega
theorem E_lit (v : Cn) : ∀ i, i < 6 → (litEl (symL [SV.v (.int .i64 790), SV.v (.int .i64 800), SV.i .i64 v.e2, SV.v (.int .i64 835), SV.v (.int .i64 850), SV.i .i64 v.e5]) 1 6).at i = (El.fn (Rv.elemOf [.i64] v.E)).at i := by
  intro i hi
  have : i = 0 ∨ i = 1 ∨ i = 2 ∨ i = 3 ∨ i = 4 ∨ i = 5 := by omega
  rcases this with rfl | rfl | rfl | rfl | rfl | rfl <;> rfl
theorem fnd_bd {a : Cn} {F : Rows} {i k j : Nat} (h : Fnd a F i k) (hj : j < 5) : 0 ≤ cell F j 0 ∧ cell F j 0 ≤ (i : Int) + 1 := by
  have h1 := h j hj
  have h2 := cnt_bd a.E a.L j (if j < k then i + 1 else i)
  split at h1 <;> rename_i h3 <;> simp only [h3, if_true, if_false] at h2 <;> omega
theorem fnd_step {a : Cn} {F F' : Rows} {i k : Nat} {s d : Int} (hk : k < 5) (h : Fnd a F i k) (s0 : cell a.L i 0 ≤ s) (s1 : s ≤ cell a.L i 1) (hd : d = 0 ∧ ¬ (cell a.E k 0 ≤ s ∧ s < cell a.E (k + 1) 0) ∨ d = 1 ∧ cell a.E k 0 ≤ s ∧ s < cell a.E (k + 1) 0)
    (hF : ∀ j, j < 5 → cell F' j 0 = if j = k then cell F k 0 + d else cell F j 0) : Fnd a F' i (k + 1) := by
  intro j hj
  rw [hF j hj]
  by_cases e : j = k
  · subst e
    have h1 := h j hk
    rw [if_neg (by omega)] at h1
    rw [if_pos rfl, if_pos (by omega)]
    simp only [cntLo, cntHi]
    unfold insV
    split <;> split <;> split at * <;> omega
  · have h1 := h j hj
    rw [if_neg e]
    by_cases e2 : j < k
    · rw [if_pos e2] at h1
      rw [if_pos (by omega)]
      exact h1
    · rw [if_neg e2] at h1
      rw [if_neg (by omega)]
      exact h1
theorem fnd_next {a : Cn} {F : Rows} {i : Nat} (h : Fnd a F i 5) : Fnd a F (i + 1) 0 := by
  intro j hj
  have h1 := h j hj
  rw [if_pos hj] at h1
  rw [if_neg (by omega)]
  exact h1
theorem wgt_two {b : Int} {L : Rows} (h : wgtErr b L = 0) : wgt b L 0 = wgtLo b L L.length ∧ wgt b L 1 = wgtHi b L L.length := by
  unfold wgt
  rw [if_pos h, if_pos h]
  exact ⟨rfl, rfl⟩
theorem wgt_next {a : Cn} {w s d : Int} {i : Nat} (h : Wgt a w i) (hb : 1 ≤ a.b) (h0 : 0 ≤ cell a.L i 0) (s0 : cell a.L i 0 ≤ s) (s1 : s ≤ cell a.L i 1) (hd : d = 0 ∨ d = 1) :
    Wgt a (w + s * s * s / a.b + d * min 1 ((s * s * s).tmod a.b)) (i + 1) := by
  obtain ⟨h1, h2⟩ := h
  have m1 := cube_mono h0 s0
  have m2 := cube_mono (show 0 ≤ s by omega) s1
  have x0 : 0 ≤ cell a.L i 0 * cell a.L i 0 * cell a.L i 0 := Int.mul_nonneg (Int.mul_nonneg h0 h0) h0
  have d1 := Int.ediv_le_ediv (show 0 < a.b by omega) m1
  have d2 := Int.ediv_le_ediv (show 0 < a.b by omega) (show s * s * s + a.b - 1 ≤ cell a.L i 1 * cell a.L i 1 * cell a.L i 1 + a.b - 1 by omega)
  have ce := ceil_eq (x := s * s * s) (by omega) hb
  have tm := Int.tmod_nonneg a.b (show 0 ≤ s * s * s by omega)
  unfold Wgt
  simp only [wgtLo, wgtHi]
  generalize cell a.L i 0 * cell a.L i 0 * cell a.L i 0 = x at *
  generalize cell a.L i 1 * cell a.L i 1 * cell a.L i 1 = y at *
  generalize s * s * s = z at *
  generalize z.tmod a.b = t at *
  generalize x / a.b = u at *
  generalize z / a.b = v at *
  generalize (z + a.b - 1) / a.b = p at *
  generalize (y + a.b - 1) / a.b = q at *
  rcases hd with rfl | rfl <;> omega

noncomputable def F_law : LawF := ⟨7, [.one (.l [.i64])], fun l => match l with | [.l N] => N.length ≤ 9223372036854775807 | _ => False⟩
noncomputable def A_law : List SV → List Dat → Nat → List SV → Ann := fun xs ds n ts => match xs with
  | [.lst z _ _ _] => match ds with
    | [.l N] => match n with
      | 10 => ⟨CnI, fun v => [none, none, some (SV.v (Value.bool false)), some (SV.ptr ((0 : Nat)) ((0 : Nat))), some (.gsl 1 v.a.n 6 true), some (.gsl 2 6 1 false), some (.i .i64 v.a.b), some (.gsl 3 5 2 false), none, some (SV.ptr ((4 : Nat)) ((0 : Nat))), none, some (.i .i64 v.w), some (.i .i64 (wgtLo v.a.b v.a.L v.i)), some (.i .i64 (wgtHi v.a.b v.a.L v.i)), some (.gsl 5 5 1 false), some (.i .i64 v.i), none, none, none, none, none, none, none, none, none, none, none, none, none, none, none, none, none, none, none, none, none, none, none, none, none, none, none, none, none, none, none, none, none, none, none, none, none, none, none, none, none, none, none, none, none, none, none, none, none, none, none, none, none, none, none, none, none, none, none, none, none, none, none, none, none, none, none, none, none, none, none, none, none, none, none, none, none, none, none, none, none, none, none, none, none, none, none, none, none, none, none, none, none, none, none, none, none, none, none, none, none, none, none, none, none, none, none, none, none, none, none, none, none, none, none, none, none, none, none, none, none, none, none, none, none, none, none, none, none, none, none, none, none, none, none, none, none, none, none, none, none, none, none, none, none, none, none, none, none, none, none, none, none, none, none, none, none, none, none, none, none, none, none, none, none, none, none, none, none, none, none, none, none, none, none, none, none, none, none, none, none, none, none, none, none, none, none, none, none, none, none, none, none, none, none, none, none, none, none, none, none, none, none, none, none, none, none, none, none, none, none, none, none, none, none, none], fun v => [.gr 5 1 (.fn (Rv.elemOf [.i64] v.F)) .ex false, .cells [.i .i64 v.a.w0, .i .i64 v.a.w1] .ex, .gr 5 2 (.fn (Rv.elemOf [.i64, .i64] v.a.C)) .ex false, .gr 6 1 (.fn (Rv.elemOf [.i64] v.a.E)) .ex false, .gr v.a.n 6 (.fn (Rv.elemOf [.i64, .i64, .i64, .i64, .i64, .i64] v.a.L)) .gr true, .cells [.i .u64 v.q] .ex], fun v => v.i ≤ v.a.n ∧ v.a.Is ∧ Fnd v.a v.F v.i 0 ∧ Wgt v.a v.w v.i, fun v => v.a.n - v.i, 0⟩
      | 14 => (match lget ts 4 with | some (SV.gsl _ n4 _ _) => (match lget ts 15 with | some (SV.i _ r15) => ⟨CnK, fun v => [none, none, some (SV.v (Value.bool false)), some (SV.ptr ((0 : Nat)) ((0 : Nat))), some (SV.gsl 1 n4 6 true), some (.gsl 2 6 1 false), some (.i .i64 v.a.b), some (.gsl 3 5 2 false), none, some (SV.ptr ((4 : Nat)) ((0 : Nat))), none, some (.i .i64 v.w), some (.i .i64 (wgtLo v.a.b v.a.L v.i)), some (.i .i64 (wgtHi v.a.b v.a.L v.i)), some (.gsl 5 5 1 false), some (SV.i .i64 r15), some (.i .i64 v.s), some (.i .i64 v.k), none, none, none, none, none, none, none, none, none, none, none, none, none, none, none, none, none, none, none, none, none, none, none, none, none, none, none, none, none, none, none, none, none, none, none, none, none, none, none, none, none, none, none, none, none, none, none, none, none, none, none, none, none, none, none, none, none, none, none, none, none, none, none, none, none, none, none, none, none, none, none, none, none, none, none, none, none, none, none, none, none, none, none, none, none, none, none, none, none, none, none, none, none, none, none, none, none, none, none, none, none, none, none, none, none, none, none, none, none, none, none, none, none, none, none, none, none, none, none, none, none, none, none, none, none, none, none, none, none, none, none, none, none, none, none, none, none, none, none, none, none, none, none, none, none, none, none, none, none, none, none, none, none, none, none, none, none, none, none, none, none, none, none, none, none, none, none, none, none, none, none, none, none, none, none, none, none, none, none, none, none, none, none, none, none, none, none, none, none, none, none, none, none, none, none, none, none, none, none, none, none, none, none, none, none, none, none, none, none, none, none, none, none, none], fun v => [.gr 5 1 (.fn (Rv.elemOf [.i64] v.F)) .ex false, .cells [.i .i64 v.a.w0, .i .i64 v.a.w1] .ex, .gr 5 2 (.fn (Rv.elemOf [.i64, .i64] v.a.C)) .ex false, .gr 6 1 (.fn (Rv.elemOf [.i64] v.a.E)) .ex false, .gr v.a.n 6 (.fn (Rv.elemOf [.i64, .i64, .i64, .i64, .i64, .i64] v.a.L)) .gr true, .cells [.i .u64 v.q] .ex], fun v => (v.i < v.a.n ∧ (v.i : Int) = r15 ∧ v.a.n = n4) ∧ v.k ≤ 5 ∧ v.a.Is ∧ Fnd v.a v.F v.i v.k ∧ Wgt v.a v.w v.i ∧ cell v.a.L v.i 0 ≤ v.s ∧ v.s ≤ cell v.a.L v.i 1, fun v => 5 - v.k, 0⟩ | _ => noAnn) | _ => noAnn)
      | 22 => ⟨CnZ, fun v => [none, none, none, none, some (.gsl 1 v.a.n 6 true), some (.gsl 2 6 1 false), some (.i .i64 v.a.b), some (.gsl 3 5 2 false), none, some (SV.ptr ((4 : Nat)) ((0 : Nat))), none, some (.i .i64 v.w), some (.i .i64 (wgtLo v.a.b v.a.L v.a.n)), some (.i .i64 (wgtHi v.a.b v.a.L v.a.n)), some (.gsl 5 5 1 false), none, none, none, none, none, some (.i .i64 v.k), none, none, none, none, none, none, none, none, none, none, none, none, none, none, none, none, none, none, none, none, none, none, none, none, none, none, none, none, none, none, none, none, none, none, none, none, none, none, none, none, none, none, none, none, none, none, none, none, none, none, none, none, none, none, none, none, none, none, none, none, none, none, none, none, none, none, none, none, none, none, none, none, none, none, none, none, none, none, none, none, none, none, none, none, none, none, none, none, none, none, none, none, none, none, none, none, none, none, none, none, none, none, none, none, none, none, none, none, none, none, none, none, none, none, none, none, none, none, none, none, none, none, none, none, none, none, none, none, none, none, none, none, none, none, none, none, none, none, none, none, none, none, none, none, none, none, none, none, none, none, none, none, none, none, none, none, none, none, none, none, none, none, none, none, none, none, none, none, none, none, none, none, none, none, none, none, none, none, none, none, none, none, none, none, none, none, none, none, none, none, none, none, none, none, none, none, none, none, none, none, none, none, none, none, none, none, none, none, none, none, none], fun v => [.gr 5 1 (.fn (Rv.elemOf [.i64] v.F)) .ex false, .cells [.i .i64 v.a.w0, .i .i64 v.a.w1] .ex, .gr 5 2 (.fn (Rv.elemOf [.i64, .i64] v.a.C)) .ex false, .gr 6 1 (.fn (Rv.elemOf [.i64] v.a.E)) .ex false, .gr v.a.n 6 (.fn (Rv.elemOf [.i64, .i64, .i64, .i64, .i64, .i64] v.a.L)) .gr true, .cells [.i .u64 v.q] .ex], fun v => v.k ≤ 5 ∧ v.a.Is ∧ Fnd v.a v.F v.a.n 0 ∧ Wgt v.a v.w v.a.n, fun v => 5 - v.k, 0⟩
      | _ => noAnn
    | _ => noAnn
  | _ => noAnn

set_option maxRecDepth 10000 in
def V_law : Prop :=
  ∀ (B : RW), hasTabs tab1 B → ∀ (x : RV) (rows : List (List Int)), IsLst B x rows.length ((1 : Nat)) (Rv.elemOf [IntKind.i64] rows) → oneB x = true → (∀ (row : List Int), row ∈ rows → row.length = (1 : Nat)) → rows.length
  ≤ (9223372036854775807 : Nat) → ∃ (rows_1 : List (List Int)), Ob (IsLst B x rows.length ((1 : Nat)) (Rv.elemOf [IntKind.i64] rows) ∧ rows_1.length = rows.length ∧ (∀ (r : List Int), r ∈ rows_1 → r.length = (1 : Nat)) ∧ ∀
  (i : Nat), i < rows.length → Rv.elemOf [IntKind.i64] rows i = Rv.elemOf [IntKind.i64] rows_1 i) ∧ Ob (F_TideOf.named.pre [Dat.l rows_1]) ∧ Ob (F_Herded.named.pre ([Dat.z (tideK rows_1 rows_1.length)] ++ [Dat.z (8 :
  Int)])) ∧ ∀ (v : Int), v = hdQ (hdA (tideK rows_1 rows_1.length) (8 : Int)) (hdN (tideK rows_1 rows_1.length) (8 : Int)).toNat → Ob (F_Below.named.pre ([Dat.z v] ++ [Dat.z (20 : Int)])) ∧ ∀ (v_1 : Int), v_1 = belowA v
  (20 : Int) → ∀ (v_2 : Int), v_2 = belowV v (20 : Int) → Ob (InR IntKind.i64 ((810 : Int) + v_2)) ∧ Ob (F_Below.named.pre ([Dat.z v_1] ++ [Dat.z (200 : Int)])) ∧ ∀ (v_3 : Int), v_3 = belowA v_1 (200 : Int) → ∀ (v_4 :
  Int), v_4 = belowV v_1 (200 : Int) → Ob (InR IntKind.i64 ((1000 : Int) + v_4)) ∧ Ob (F_From.named.pre ([Dat.z v_3] ++ [Dat.z (1 : Int), Dat.z (3000 : Int)])) ∧ ∀ (v_5 : Int), v_5 = belowA v_3 ((3000 : Int) - (1 : Int) +
  (1 : Int)) → ∀ (v_6 : Int), v_6 = (1 : Int) + belowV v_3 ((3000 : Int) - (1 : Int) + (1 : Int)) → ∃ (rows_2 : List (List Int)), Ob ((hdN (tideK rows_1 rows_1.length) (8 : Int)).toNat = (hdN (tideK rows_1 rows_1.length)
  (8 : Int)).toNat ∧ rows_2.length = (hdN (tideK rows_1 rows_1.length) (8 : Int)).toNat ∧ (∀ (r : List Int), r ∈ rows_2 → r.length = (6 : Nat)) ∧ ∀ (i : Nat), i < (hdN (tideK rows_1 rows_1.length) (8 : Int)).toNat → (El.fn
  (Rv.elemOf [IntKind.i64, IntKind.i64, IntKind.i64, IntKind.i64, IntKind.i64, IntKind.i64] (hdR (hdA (tideK rows_1 rows_1.length) (8 : Int)) (hdN (tideK rows_1 rows_1.length) (8 : Int)).toNat))).at i = Rv.elemOf
  [IntKind.i64, IntKind.i64, IntKind.i64, IntKind.i64, IntKind.i64, IntKind.i64] rows_2 i) ∧ Ob (F_Counts.named.pre [Dat.l [[(790 : Int)], [(800 : Int)], [(810 : Int) + v_2], [(835 : Int)], [(850 : Int)], [(1000 : Int) +
  v_4]], Dat.l rows_2]) ∧ ∀ (v_7 : Int), v_7 = (0 : Int) → ∃ (rows_3 : List (List Int)), Ob ((hdN (tideK rows_1 rows_1.length) (8 : Int)).toNat = (hdN (tideK rows_1 rows_1.length) (8 : Int)).toNat ∧ rows_3.length = (hdN
  (tideK rows_1 rows_1.length) (8 : Int)).toNat ∧ (∀ (r : List Int), r ∈ rows_3 → r.length = (6 : Nat)) ∧ ∀ (i : Nat), i < (hdN (tideK rows_1 rows_1.length) (8 : Int)).toNat → (El.fn (Rv.elemOf [IntKind.i64, IntKind.i64,
  IntKind.i64, IntKind.i64, IntKind.i64, IntKind.i64] (hdR (hdA (tideK rows_1 rows_1.length) (8 : Int)) (hdN (tideK rows_1 rows_1.length) (8 : Int)).toNat))).at i = Rv.elemOf [IntKind.i64, IntKind.i64, IntKind.i64,
  IntKind.i64, IntKind.i64, IntKind.i64] rows_3 i) ∧ Ob True ∧ (¬¬v_7 = (0 : Int) → (¬¬wgtErr v_6 rows_3 = (0 : Int) → (¬(↑([[(790 : Int)], [(800 : Int)], [(810 : Int) + v_2], [(835 : Int)], [(850 : Int)], [(1000 : Int) +
  v_4]].length - (1 : Nat)) : Int) = Int.ofNat ((5 : Nat)) → False) ∧ (¬¬(↑([[(790 : Int)], [(800 : Int)], [(810 : Int) + v_2], [(835 : Int)], [(850 : Int)], [(1000 : Int) + v_4]].length - (1 : Nat)) : Int) = Int.ofNat ((5
  : Nat)) → Ob ((↑([[(790 : Int)], [(800 : Int)], [(810 : Int) + v_2], [(835 : Int)], [(850 : Int)], [(1000 : Int) + v_4]].length - (1 : Nat)) : Int) = (↑([[(790 : Int)], [(800 : Int)], [(810 : Int) + v_2], [(835 : Int)],
  [(850 : Int)], [(1000 : Int) + v_4]].length - (1 : Nat)) : Int) ∧ (0 : Int) < (↑([[(790 : Int)], [(800 : Int)], [(810 : Int) + v_2], [(835 : Int)], [(850 : Int)], [(1000 : Int) + v_4]].length - (1 : Nat)) : Int) ∧
  (↑([[(790 : Int)], [(800 : Int)], [(810 : Int) + v_2], [(835 : Int)], [(850 : Int)], [(1000 : Int) + v_4]].length - (1 : Nat)) : Int).toNat * (9 : Nat) ≤ nat_lit 1099511627776) ∧ (∃ (a : CnI), Ob (a.i ≤ a.a.n ∧ a.a.Is ∧
  Fnd a.a a.F a.i ((0 : Nat)) ∧ Wgt a.a a.w a.i) ∧ Ob (SV.v (Value.bool false) = SV.v (Value.bool false)) ∧ Ob ((hdN (tideK rows_1 rows_1.length) (8 : Int)).toNat = a.a.n) ∧ Ob ((6 : Nat) = (6 : Nat)) ∧ Ob (v_6 = a.a.b) ∧
  Ob ([[(790 : Int)], [(800 : Int)], [(810 : Int) + v_2], [(835 : Int)], [(850 : Int)], [(1000 : Int) + v_4]].length - nat_lit 1 = nat_lit 5) ∧ Ob ((0 : Int) = a.w) ∧ Ob ((0 : Int) = wgtLo a.a.b a.a.L a.i) ∧ Ob ((0 : Int)
  = wgtHi a.a.b a.a.L a.i) ∧ Ob ((↑([[(790 : Int)], [(800 : Int)], [(810 : Int) + v_2], [(835 : Int)], [(850 : Int)], [(1000 : Int) + v_4]].length - nat_lit 1) : Int).toNat = nat_lit 5) ∧ Ob ((0 : Int) = (↑a.i : Int)) ∧ Ob
  ((↑([[(790 : Int)], [(800 : Int)], [(810 : Int) + v_2], [(835 : Int)], [(850 : Int)], [(1000 : Int) + v_4]].length - nat_lit 1) : Int).toNat = nat_lit 5 ∧ ∀ (i : Nat), i < nat_lit 5 → (El.fn fun (x : Nat) ↦ symL
  (List.map SV.v (Value.int IntKind.i64 (0 : Int)).cells.toList)).at i = (El.fn (Rv.elemOf [IntKind.i64] a.F)).at i) ∧ Ob (wgt v_6 rows_3 (nat_lit 0) = a.a.w0) ∧ Ob (wgt v_6 rows_3 (nat_lit 1) = a.a.w1) ∧ Ob ([[(790 :
  Int)], [(800 : Int)], [(810 : Int) + v_2], [(835 : Int)], [(850 : Int)], [(1000 : Int) + v_4]].length - nat_lit 1 = nat_lit 5 ∧ ∀ (i : Nat), i < nat_lit 5 → (El.fn (Rv.elemOf [IntKind.i64, IntKind.i64] (cntR [[(790 :
  Int)], [(800 : Int)], [(810 : Int) + v_2], [(835 : Int)], [(850 : Int)], [(1000 : Int) + v_4]] rows_2 rows_2.length))).at i = (El.fn (Rv.elemOf [IntKind.i64, IntKind.i64] a.a.C)).at i) ∧ Ob (nat_lit 6 = nat_lit 6 ∧ ∀ (i
  : Nat), i < nat_lit 6 → (litEl (symL [SV.v (Value.int IntKind.i64 (790 : Int)), SV.v (Value.int IntKind.i64 (800 : Int)), SV.i IntKind.i64 ((810 : Int) + v_2), SV.v (Value.int IntKind.i64 (835 : Int)), SV.v (Value.int
  IntKind.i64 (850 : Int)), SV.i IntKind.i64 ((1000 : Int) + v_4)]) (nat_lit 1) (nat_lit 6)).at i = (El.fn (Rv.elemOf [IntKind.i64] a.a.E)).at i) ∧ Ob ((hdN (tideK rows_1 rows_1.length) (8 : Int)).toNat = a.a.n ∧ ∀ (i :
  Nat), i < a.a.n → (El.fn (Rv.elemOf [IntKind.i64, IntKind.i64, IntKind.i64, IntKind.i64, IntKind.i64, IntKind.i64] (hdR (hdA (tideK rows_1 rows_1.length) (8 : Int)) (hdN (tideK rows_1 rows_1.length) (8 :
  Int)).toNat))).at i = (El.fn (Rv.elemOf [IntKind.i64, IntKind.i64, IntKind.i64, IntKind.i64, IntKind.i64, IntKind.i64] a.a.L)).at i) ∧ Ob (v_5 = a.q) ∧ Ob (PlainE (nat_lit 5) (El.fn (Rv.elemOf [IntKind.i64] a.F))) ∧ Ob
  (PlainE (nat_lit 5) (El.fn (Rv.elemOf [IntKind.i64, IntKind.i64] a.a.C))) ∧ Ob (PlainE (nat_lit 6) (El.fn (Rv.elemOf [IntKind.i64] a.a.E))) ∧ Ob (PlainE a.a.n (El.fn (Rv.elemOf [IntKind.i64, IntKind.i64, IntKind.i64,
  IntKind.i64, IntKind.i64, IntKind.i64] a.a.L))) ∧ True) ∧ ∀ (a : CnI), a.i ≤ a.a.n ∧ a.a.Is ∧ Fnd a.a a.F a.i ((0 : Nat)) ∧ Wgt a.a a.w a.i → ∀ (z z_1 z_2 z_3 z_4 z_5 z_6 z_7 z_8 z_9 z_10 z_11 z_12 z_13 z_14 z_15 z_16
  z_17 z_18 z_19 z_20 z_21 z_22 z_23 z_24 z_25 z_26 z_27 z_28 z_29 z_30 z_31 z_32 z_33 z_34 z_35 z_36 z_37 z_38 z_39 z_40 z_41 z_42 z_43 z_44 z_45 z_46 z_47 z_48 z_49 z_50 z_51 z_52 z_53 z_54 z_55 z_56 z_57 z_58 z_59 z_60
  z_61 z_62 z_63 z_64 z_65 z_66 z_67 z_68 z_69 z_70 z_71 z_72 z_73 z_74 z_75 z_76 z_77 z_78 z_79 z_80 z_81 z_82 z_83 z_84 z_85 z_86 z_87 z_88 z_89 z_90 z_91 z_92 z_93 z_94 z_95 z_96 z_97 z_98 z_99 z_100 z_101 z_102 z_103
  z_104 z_105 z_106 z_107 z_108 z_109 z_110 z_111 z_112 z_113 z_114 z_115 z_116 z_117 z_118 z_119 z_120 z_121 z_122 z_123 z_124 z_125 z_126 z_127 z_128 z_129 z_130 z_131 z_132 z_133 z_134 z_135 z_136 z_137 z_138 z_139
  z_140 z_141 z_142 z_143 z_144 z_145 z_146 z_147 z_148 z_149 z_150 z_151 z_152 z_153 z_154 z_155 z_156 z_157 z_158 z_159 z_160 z_161 z_162 z_163 z_164 z_165 z_166 z_167 z_168 z_169 z_170 z_171 z_172 z_173 z_174 z_175
  z_176 z_177 z_178 z_179 z_180 z_181 z_182 z_183 z_184 z_185 z_186 z_187 z_188 z_189 z_190 z_191 z_192 z_193 z_194 z_195 z_196 z_197 z_198 z_199 z_200 z_201 z_202 z_203 z_204 z_205 z_206 z_207 z_208 z_209 z_210 z_211
  z_212 z_213 z_214 z_215 z_216 z_217 z_218 z_219 : Value), ((↑a.i : Int) < (↑a.a.n : Int) → Ob ((0 : Int) ≤ (↑a.i : Int) ∧ a.i < a.a.n) ∧ Ob (a.i < a.a.n) ∧ Ob (F_In.named.pre ([Dat.z a.q] ++ ([Dat.z (cell a.a.L a.i
  (nat_lit 0)), Dat.z (cell a.a.L a.i (nat_lit 1))] ++ []))) ∧ ∀ (v_8 : Int), v_8 = inA a.q (cell a.a.L a.i (nat_lit 0)) (cell a.a.L a.i (nat_lit 1)) → ∀ (v_9 : Int), v_9 = inV a.q (cell a.a.L a.i (nat_lit 0)) (cell a.a.L
  a.i (nat_lit 1)) → (∃ (a_1 : CnK), Ob ((a_1.i < a_1.a.n ∧ (↑a_1.i : Int) = (↑a.i : Int) ∧ a_1.a.n = a.a.n) ∧ a_1.k ≤ nat_lit 5 ∧ a_1.a.Is ∧ Fnd a_1.a a_1.F a_1.i a_1.k ∧ Wgt a_1.a a_1.w a_1.i ∧ cell a_1.a.L a_1.i
  (nat_lit 0) ≤ a_1.s ∧ a_1.s ≤ cell a_1.a.L a_1.i (nat_lit 1)) ∧ Ob (SV.v (Value.bool false) = SV.v (Value.bool false)) ∧ Ob (a.a.n = a.a.n) ∧ Ob (nat_lit 6 = nat_lit 6) ∧ Ob (a.a.b = a_1.a.b) ∧ Ob (nat_lit 5 = nat_lit 5)
  ∧ Ob (a.w = a_1.w) ∧ Ob (wgtLo a.a.b a.a.L a.i = wgtLo a_1.a.b a_1.a.L a_1.i) ∧ Ob (wgtHi a.a.b a.a.L a.i = wgtHi a_1.a.b a_1.a.L a_1.i) ∧ Ob (nat_lit 5 = nat_lit 5) ∧ Ob ((↑a.i : Int) = (↑a.i : Int)) ∧ Ob (v_9 = a_1.s)
  ∧ Ob ((0 : Int) = (↑a_1.k : Int)) ∧ Ob (nat_lit 5 = nat_lit 5 ∧ ∀ (i : Nat), i < nat_lit 5 → (El.fn (Rv.elemOf [IntKind.i64] a.F)).at i = (El.fn (Rv.elemOf [IntKind.i64] a_1.F)).at i) ∧ Ob (a.a.w0 = a_1.a.w0) ∧ Ob
  (a.a.w1 = a_1.a.w1) ∧ Ob (nat_lit 5 = nat_lit 5 ∧ ∀ (i : Nat), i < nat_lit 5 → (El.fn (Rv.elemOf [IntKind.i64, IntKind.i64] a.a.C)).at i = (El.fn (Rv.elemOf [IntKind.i64, IntKind.i64] a_1.a.C)).at i) ∧ Ob (nat_lit 6 =
  nat_lit 6 ∧ ∀ (i : Nat), i < nat_lit 6 → (El.fn (Rv.elemOf [IntKind.i64] a.a.E)).at i = (El.fn (Rv.elemOf [IntKind.i64] a_1.a.E)).at i) ∧ Ob (a.a.n = a_1.a.n ∧ ∀ (i : Nat), i < a_1.a.n → (El.fn (Rv.elemOf [IntKind.i64,
  IntKind.i64, IntKind.i64, IntKind.i64, IntKind.i64, IntKind.i64] a.a.L)).at i = (El.fn (Rv.elemOf [IntKind.i64, IntKind.i64, IntKind.i64, IntKind.i64, IntKind.i64, IntKind.i64] a_1.a.L)).at i) ∧ Ob (v_8 = a_1.q) ∧ Ob
  (PlainE (nat_lit 5) (El.fn (Rv.elemOf [IntKind.i64] a_1.F))) ∧ Ob (PlainE (nat_lit 5) (El.fn (Rv.elemOf [IntKind.i64, IntKind.i64] a_1.a.C))) ∧ Ob (PlainE (nat_lit 6) (El.fn (Rv.elemOf [IntKind.i64] a_1.a.E))) ∧ Ob
  (PlainE a_1.a.n (El.fn (Rv.elemOf [IntKind.i64, IntKind.i64, IntKind.i64, IntKind.i64, IntKind.i64, IntKind.i64] a_1.a.L))) ∧ True) ∧ ∀ (a_1 : CnK), (a_1.i < a_1.a.n ∧ (↑a_1.i : Int) = (↑a.i : Int) ∧ a_1.a.n = a.a.n) ∧
  a_1.k ≤ nat_lit 5 ∧ a_1.a.Is ∧ Fnd a_1.a a_1.F a_1.i a_1.k ∧ Wgt a_1.a a_1.w a_1.i ∧ cell a_1.a.L a_1.i (nat_lit 0) ≤ a_1.s ∧ a_1.s ≤ cell a_1.a.L a_1.i (nat_lit 1) → ∀ (z_220 z_221 z_222 z_223 z_224 z_225 z_226 z_227
  z_228 z_229 z_230 z_231 z_232 z_233 z_234 z_235 z_236 z_237 z_238 z_239 z_240 z_241 z_242 z_243 z_244 z_245 z_246 z_247 z_248 z_249 z_250 z_251 z_252 z_253 z_254 z_255 z_256 z_257 z_258 z_259 z_260 z_261 z_262 z_263
  z_264 z_265 z_266 z_267 z_268 z_269 z_270 z_271 z_272 z_273 z_274 z_275 z_276 z_277 z_278 z_279 z_280 z_281 z_282 z_283 z_284 z_285 z_286 z_287 z_288 z_289 z_290 z_291 z_292 z_293 z_294 z_295 z_296 z_297 z_298 z_299
  z_300 z_301 z_302 z_303 z_304 z_305 z_306 z_307 z_308 z_309 z_310 z_311 z_312 z_313 z_314 z_315 z_316 z_317 z_318 z_319 z_320 z_321 z_322 z_323 z_324 z_325 z_326 z_327 z_328 z_329 z_330 z_331 z_332 z_333 z_334 z_335
  z_336 z_337 z_338 z_339 z_340 z_341 z_342 z_343 z_344 z_345 z_346 z_347 z_348 z_349 z_350 z_351 z_352 z_353 z_354 z_355 z_356 z_357 z_358 z_359 z_360 z_361 z_362 z_363 z_364 z_365 z_366 z_367 z_368 z_369 z_370 z_371
  z_372 z_373 z_374 z_375 z_376 z_377 z_378 z_379 z_380 z_381 z_382 z_383 z_384 z_385 z_386 z_387 z_388 z_389 z_390 z_391 z_392 z_393 z_394 z_395 z_396 z_397 z_398 z_399 z_400 z_401 z_402 z_403 z_404 z_405 z_406 z_407
  z_408 z_409 z_410 z_411 z_412 z_413 z_414 z_415 z_416 z_417 z_418 z_419 z_420 z_421 z_422 z_423 z_424 z_425 z_426 z_427 z_428 z_429 z_430 z_431 z_432 z_433 z_434 z_435 z_436 z_437 : Value), ((↑a_1.k : Int) < (↑(nat_lit
  5) : Int) → Ob ((0 : Int) ≤ (↑a_1.k : Int) ∧ a_1.k < nat_lit 6) ∧ Ob (a_1.k < nat_lit 6) ∧ (cell a_1.a.E a_1.k (nat_lit 0) ≤ a_1.s → Ob (InR IntKind.i64 ((↑a_1.k : Int) + (1 : Int))) ∧ Ob ((0 : Int) ≤ (↑a_1.k : Int) + (1
  : Int) ∧ ((↑a_1.k : Int) + (1 : Int)).toNat < nat_lit 6) ∧ Ob (((↑a_1.k : Int) + (1 : Int)).toNat < nat_lit 6) ∧ (a_1.s < cell a_1.a.E ((↑a_1.k : Int) + (1 : Int)).toNat (nat_lit 0) → Ob ((0 : Int) ≤ (↑a_1.k : Int) ∧
  a_1.k < nat_lit 5) ∧ Ob (a_1.k < nat_lit 5) ∧ Ob (InR IntKind.i64 (cell a_1.F a_1.k (nat_lit 0) + (1 : Int))) ∧ Ob ((0 : Int) ≤ (↑a_1.k : Int) ∧ a_1.k < nat_lit 5) ∧ Ob (a_1.k < nat_lit 5 ∧ ((El.fn (Rv.elemOf
  [IntKind.i64] a_1.F)).at a_1.k).length = nat_lit 1) ∧ Ob (InR IntKind.i64 ((↑a_1.k : Int) + (1 : Int))) ∧ ∃ (a' : CnK), Ob (((a'.i < a'.a.n ∧ (↑a'.i : Int) = (↑a.i : Int) ∧ a'.a.n = a.a.n) ∧ a'.k ≤ nat_lit 5 ∧ a'.a.Is ∧
  Fnd a'.a a'.F a'.i a'.k ∧ Wgt a'.a a'.w a'.i ∧ cell a'.a.L a'.i (nat_lit 0) ≤ a'.s ∧ a'.s ≤ cell a'.a.L a'.i (nat_lit 1)) ∧ nat_lit 5 - a'.k < nat_lit 5 - a_1.k) ∧ Ob (SV.v (Value.bool false) = SV.v (Value.bool false)) ∧
  Ob (a.a.n = a.a.n) ∧ Ob (nat_lit 6 = nat_lit 6) ∧ Ob (a_1.a.b = a'.a.b) ∧ Ob (nat_lit 5 = nat_lit 5) ∧ Ob (a_1.w = a'.w) ∧ Ob (wgtLo a_1.a.b a_1.a.L a_1.i = wgtLo a'.a.b a'.a.L a'.i) ∧ Ob (wgtHi a_1.a.b a_1.a.L a_1.i =
  wgtHi a'.a.b a'.a.L a'.i) ∧ Ob (nat_lit 5 = nat_lit 5) ∧ Ob ((↑a.i : Int) = (↑a.i : Int)) ∧ Ob (a_1.s = a'.s) ∧ Ob ((↑a_1.k : Int) + (1 : Int) = (↑a'.k : Int)) ∧ Ob (nat_lit 5 = nat_lit 5 ∧ ∀ (i : Nat), i < nat_lit 5 →
  (updL (El.fn (Rv.elemOf [IntKind.i64] a_1.F)) a_1.k (nat_lit 0) [SV.i IntKind.i64 (cell a_1.F a_1.k (nat_lit 0) + (1 : Int))]).at i = (El.fn (Rv.elemOf [IntKind.i64] a'.F)).at i) ∧ Ob (a_1.a.w0 = a'.a.w0) ∧ Ob (a_1.a.w1
  = a'.a.w1) ∧ Ob (nat_lit 5 = nat_lit 5 ∧ ∀ (i : Nat), i < nat_lit 5 → (El.fn (Rv.elemOf [IntKind.i64, IntKind.i64] a_1.a.C)).at i = (El.fn (Rv.elemOf [IntKind.i64, IntKind.i64] a'.a.C)).at i) ∧ Ob (nat_lit 6 = nat_lit 6
  ∧ ∀ (i : Nat), i < nat_lit 6 → (El.fn (Rv.elemOf [IntKind.i64] a_1.a.E)).at i = (El.fn (Rv.elemOf [IntKind.i64] a'.a.E)).at i) ∧ Ob (a_1.a.n = a'.a.n ∧ ∀ (i : Nat), i < a'.a.n → (El.fn (Rv.elemOf [IntKind.i64,
  IntKind.i64, IntKind.i64, IntKind.i64, IntKind.i64, IntKind.i64] a_1.a.L)).at i = (El.fn (Rv.elemOf [IntKind.i64, IntKind.i64, IntKind.i64, IntKind.i64, IntKind.i64, IntKind.i64] a'.a.L)).at i) ∧ Ob (a_1.q = a'.q) ∧ Ob
  (PlainE (nat_lit 5) (El.fn (Rv.elemOf [IntKind.i64] a'.F))) ∧ Ob (PlainE (nat_lit 5) (El.fn (Rv.elemOf [IntKind.i64, IntKind.i64] a'.a.C))) ∧ Ob (PlainE (nat_lit 6) (El.fn (Rv.elemOf [IntKind.i64] a'.a.E))) ∧ Ob (PlainE
  a'.a.n (El.fn (Rv.elemOf [IntKind.i64, IntKind.i64, IntKind.i64, IntKind.i64, IntKind.i64, IntKind.i64] a'.a.L))) ∧ True) ∧ (¬a_1.s < cell a_1.a.E ((↑a_1.k : Int) + (1 : Int)).toNat (nat_lit 0) → Ob (InR IntKind.i64
  ((↑a_1.k : Int) + (1 : Int))) ∧ ∃ (a' : CnK), Ob (((a'.i < a'.a.n ∧ (↑a'.i : Int) = (↑a.i : Int) ∧ a'.a.n = a.a.n) ∧ a'.k ≤ nat_lit 5 ∧ a'.a.Is ∧ Fnd a'.a a'.F a'.i a'.k ∧ Wgt a'.a a'.w a'.i ∧ cell a'.a.L a'.i (nat_lit
  0) ≤ a'.s ∧ a'.s ≤ cell a'.a.L a'.i (nat_lit 1)) ∧ nat_lit 5 - a'.k < nat_lit 5 - a_1.k) ∧ Ob (SV.v (Value.bool false) = SV.v (Value.bool false)) ∧ Ob (a.a.n = a.a.n) ∧ Ob (nat_lit 6 = nat_lit 6) ∧ Ob (a_1.a.b = a'.a.b)
  ∧ Ob (nat_lit 5 = nat_lit 5) ∧ Ob (a_1.w = a'.w) ∧ Ob (wgtLo a_1.a.b a_1.a.L a_1.i = wgtLo a'.a.b a'.a.L a'.i) ∧ Ob (wgtHi a_1.a.b a_1.a.L a_1.i = wgtHi a'.a.b a'.a.L a'.i) ∧ Ob (nat_lit 5 = nat_lit 5) ∧ Ob ((↑a.i : Int)
  = (↑a.i : Int)) ∧ Ob (a_1.s = a'.s) ∧ Ob ((↑a_1.k : Int) + (1 : Int) = (↑a'.k : Int)) ∧ Ob (nat_lit 5 = nat_lit 5 ∧ ∀ (i : Nat), i < nat_lit 5 → (El.fn (Rv.elemOf [IntKind.i64] a_1.F)).at i = (El.fn (Rv.elemOf
  [IntKind.i64] a'.F)).at i) ∧ Ob (a_1.a.w0 = a'.a.w0) ∧ Ob (a_1.a.w1 = a'.a.w1) ∧ Ob (nat_lit 5 = nat_lit 5 ∧ ∀ (i : Nat), i < nat_lit 5 → (El.fn (Rv.elemOf [IntKind.i64, IntKind.i64] a_1.a.C)).at i = (El.fn (Rv.elemOf
  [IntKind.i64, IntKind.i64] a'.a.C)).at i) ∧ Ob (nat_lit 6 = nat_lit 6 ∧ ∀ (i : Nat), i < nat_lit 6 → (El.fn (Rv.elemOf [IntKind.i64] a_1.a.E)).at i = (El.fn (Rv.elemOf [IntKind.i64] a'.a.E)).at i) ∧ Ob (a_1.a.n = a'.a.n
  ∧ ∀ (i : Nat), i < a'.a.n → (El.fn (Rv.elemOf [IntKind.i64, IntKind.i64, IntKind.i64, IntKind.i64, IntKind.i64, IntKind.i64] a_1.a.L)).at i = (El.fn (Rv.elemOf [IntKind.i64, IntKind.i64, IntKind.i64, IntKind.i64,
  IntKind.i64, IntKind.i64] a'.a.L)).at i) ∧ Ob (a_1.q = a'.q) ∧ Ob (PlainE (nat_lit 5) (El.fn (Rv.elemOf [IntKind.i64] a'.F))) ∧ Ob (PlainE (nat_lit 5) (El.fn (Rv.elemOf [IntKind.i64, IntKind.i64] a'.a.C))) ∧ Ob (PlainE
  (nat_lit 6) (El.fn (Rv.elemOf [IntKind.i64] a'.a.E))) ∧ Ob (PlainE a'.a.n (El.fn (Rv.elemOf [IntKind.i64, IntKind.i64, IntKind.i64, IntKind.i64, IntKind.i64, IntKind.i64] a'.a.L))) ∧ True)) ∧ (¬cell a_1.a.E a_1.k
  (nat_lit 0) ≤ a_1.s → Ob (InR IntKind.i64 ((↑a_1.k : Int) + (1 : Int))) ∧ ∃ (a' : CnK), Ob (((a'.i < a'.a.n ∧ (↑a'.i : Int) = (↑a.i : Int) ∧ a'.a.n = a.a.n) ∧ a'.k ≤ nat_lit 5 ∧ a'.a.Is ∧ Fnd a'.a a'.F a'.i a'.k ∧ Wgt
  a'.a a'.w a'.i ∧ cell a'.a.L a'.i (nat_lit 0) ≤ a'.s ∧ a'.s ≤ cell a'.a.L a'.i (nat_lit 1)) ∧ nat_lit 5 - a'.k < nat_lit 5 - a_1.k) ∧ Ob (SV.v (Value.bool false) = SV.v (Value.bool false)) ∧ Ob (a.a.n = a.a.n) ∧ Ob
  (nat_lit 6 = nat_lit 6) ∧ Ob (a_1.a.b = a'.a.b) ∧ Ob (nat_lit 5 = nat_lit 5) ∧ Ob (a_1.w = a'.w) ∧ Ob (wgtLo a_1.a.b a_1.a.L a_1.i = wgtLo a'.a.b a'.a.L a'.i) ∧ Ob (wgtHi a_1.a.b a_1.a.L a_1.i = wgtHi a'.a.b a'.a.L a'.i)
  ∧ Ob (nat_lit 5 = nat_lit 5) ∧ Ob ((↑a.i : Int) = (↑a.i : Int)) ∧ Ob (a_1.s = a'.s) ∧ Ob ((↑a_1.k : Int) + (1 : Int) = (↑a'.k : Int)) ∧ Ob (nat_lit 5 = nat_lit 5 ∧ ∀ (i : Nat), i < nat_lit 5 → (El.fn (Rv.elemOf
  [IntKind.i64] a_1.F)).at i = (El.fn (Rv.elemOf [IntKind.i64] a'.F)).at i) ∧ Ob (a_1.a.w0 = a'.a.w0) ∧ Ob (a_1.a.w1 = a'.a.w1) ∧ Ob (nat_lit 5 = nat_lit 5 ∧ ∀ (i : Nat), i < nat_lit 5 → (El.fn (Rv.elemOf [IntKind.i64,
  IntKind.i64] a_1.a.C)).at i = (El.fn (Rv.elemOf [IntKind.i64, IntKind.i64] a'.a.C)).at i) ∧ Ob (nat_lit 6 = nat_lit 6 ∧ ∀ (i : Nat), i < nat_lit 6 → (El.fn (Rv.elemOf [IntKind.i64] a_1.a.E)).at i = (El.fn (Rv.elemOf
  [IntKind.i64] a'.a.E)).at i) ∧ Ob (a_1.a.n = a'.a.n ∧ ∀ (i : Nat), i < a'.a.n → (El.fn (Rv.elemOf [IntKind.i64, IntKind.i64, IntKind.i64, IntKind.i64, IntKind.i64, IntKind.i64] a_1.a.L)).at i = (El.fn (Rv.elemOf
  [IntKind.i64, IntKind.i64, IntKind.i64, IntKind.i64, IntKind.i64, IntKind.i64] a'.a.L)).at i) ∧ Ob (a_1.q = a'.q) ∧ Ob (PlainE (nat_lit 5) (El.fn (Rv.elemOf [IntKind.i64] a'.F))) ∧ Ob (PlainE (nat_lit 5) (El.fn
  (Rv.elemOf [IntKind.i64, IntKind.i64] a'.a.C))) ∧ Ob (PlainE (nat_lit 6) (El.fn (Rv.elemOf [IntKind.i64] a'.a.E))) ∧ Ob (PlainE a'.a.n (El.fn (Rv.elemOf [IntKind.i64, IntKind.i64, IntKind.i64, IntKind.i64, IntKind.i64,
  IntKind.i64] a'.a.L))) ∧ True)) ∧ (¬(↑a_1.k : Int) < (↑(nat_lit 5) : Int) → Ob (InR IntKind.i64 (a_1.s * a_1.s)) ∧ Ob (InR IntKind.i64 (a_1.s * a_1.s * a_1.s)) ∧ Ob ((0 : Int) ≤ a_1.s * a_1.s * a_1.s ∧ (0 : Int) <
  a_1.a.b ∧ InR IntKind.i64 (a_1.s * a_1.s * a_1.s / a_1.a.b)) ∧ Ob (InR IntKind.i64 (a_1.w + a_1.s * a_1.s * a_1.s / a_1.a.b)) ∧ Ob (F_Below.named.pre ([Dat.z a_1.q] ++ [Dat.z (2 : Int)])) ∧ ∀ (v_10 : Int), v_10 = belowA
  a_1.q (2 : Int) → ∀ (v_11 : Int), v_11 = belowV a_1.q (2 : Int) → Ob (InR IntKind.i64 (a_1.s * a_1.s)) ∧ Ob (InR IntKind.i64 (a_1.s * a_1.s * a_1.s)) ∧ Ob ((0 : Int) < a_1.a.b ∧ InR IntKind.i64 ((a_1.s * a_1.s *
  a_1.s).tmod a_1.a.b)) ∧ Ob (InR IntKind.i64 (v_11 * min (1 : Int) ((a_1.s * a_1.s * a_1.s).tmod a_1.a.b))) ∧ Ob (InR IntKind.i64 (a_1.w + a_1.s * a_1.s * a_1.s / a_1.a.b + v_11 * min (1 : Int) ((a_1.s * a_1.s *
  a_1.s).tmod a_1.a.b))) ∧ Ob ((0 : Int) ≤ (↑a.i : Int) ∧ a.i < a.a.n) ∧ Ob (a.i < a_1.a.n) ∧ Ob ((0 : Int) ≤ (↑a.i : Int) ∧ a.i < a.a.n) ∧ Ob (a.i < a_1.a.n) ∧ Ob (InR IntKind.i64 (cell a_1.a.L a.i (nat_lit 0) * cell
  a_1.a.L a.i (nat_lit 0))) ∧ Ob (InR IntKind.i64 (cell a_1.a.L a.i (nat_lit 0) * cell a_1.a.L a.i (nat_lit 0) * cell a_1.a.L a.i (nat_lit 0))) ∧ Ob ((0 : Int) ≤ cell a_1.a.L a.i (nat_lit 0) * cell a_1.a.L a.i (nat_lit 0)
  * cell a_1.a.L a.i (nat_lit 0) ∧ (0 : Int) < a_1.a.b ∧ InR IntKind.i64 (cell a_1.a.L a.i (nat_lit 0) * cell a_1.a.L a.i (nat_lit 0) * cell a_1.a.L a.i (nat_lit 0) / a_1.a.b)) ∧ Ob (InR IntKind.i64 (wgtLo a_1.a.b a_1.a.L
  a_1.i + cell a_1.a.L a.i (nat_lit 0) * cell a_1.a.L a.i (nat_lit 0) * cell a_1.a.L a.i (nat_lit 0) / a_1.a.b)) ∧ Ob (InR IntKind.i64 (cell a_1.a.L a.i (nat_lit 1) * cell a_1.a.L a.i (nat_lit 1))) ∧ Ob (InR IntKind.i64
  (cell a_1.a.L a.i (nat_lit 1) * cell a_1.a.L a.i (nat_lit 1) * cell a_1.a.L a.i (nat_lit 1))) ∧ Ob ((0 : Int) ≤ cell a_1.a.L a.i (nat_lit 1) * cell a_1.a.L a.i (nat_lit 1) * cell a_1.a.L a.i (nat_lit 1) ∧ (0 : Int) <
  a_1.a.b ∧ InR IntKind.i64 (cell a_1.a.L a.i (nat_lit 1) * cell a_1.a.L a.i (nat_lit 1) * cell a_1.a.L a.i (nat_lit 1) / a_1.a.b)) ∧ Ob (InR IntKind.i64 (wgtHi a_1.a.b a_1.a.L a_1.i + cell a_1.a.L a.i (nat_lit 1) * cell
  a_1.a.L a.i (nat_lit 1) * cell a_1.a.L a.i (nat_lit 1) / a_1.a.b)) ∧ Ob (InR IntKind.i64 (cell a_1.a.L a.i (nat_lit 1) * cell a_1.a.L a.i (nat_lit 1))) ∧ Ob (InR IntKind.i64 (cell a_1.a.L a.i (nat_lit 1) * cell a_1.a.L
  a.i (nat_lit 1) * cell a_1.a.L a.i (nat_lit 1))) ∧ Ob ((0 : Int) < a_1.a.b ∧ InR IntKind.i64 ((cell a_1.a.L a.i (nat_lit 1) * cell a_1.a.L a.i (nat_lit 1) * cell a_1.a.L a.i (nat_lit 1)).tmod a_1.a.b)) ∧ Ob (InR
  IntKind.i64 (wgtHi a_1.a.b a_1.a.L a_1.i + cell a_1.a.L a.i (nat_lit 1) * cell a_1.a.L a.i (nat_lit 1) * cell a_1.a.L a.i (nat_lit 1) / a_1.a.b + min (1 : Int) ((cell a_1.a.L a.i (nat_lit 1) * cell a_1.a.L a.i (nat_lit
  1) * cell a_1.a.L a.i (nat_lit 1)).tmod a_1.a.b))) ∧ Ob (InR IntKind.i64 ((↑a.i : Int) + (1 : Int))) ∧ ∃ (a' : CnI), Ob ((a'.i ≤ a'.a.n ∧ a'.a.Is ∧ Fnd a'.a a'.F a'.i (nat_lit 0) ∧ Wgt a'.a a'.w a'.i) ∧ a'.a.n - a'.i <
  a.a.n - a.i) ∧ Ob (SV.v (Value.bool false) = SV.v (Value.bool false)) ∧ Ob (a.a.n = a'.a.n) ∧ Ob (nat_lit 6 = nat_lit 6) ∧ Ob (a_1.a.b = a'.a.b) ∧ Ob (nat_lit 5 = nat_lit 5) ∧ Ob (a_1.w + a_1.s * a_1.s * a_1.s / a_1.a.b
  + v_11 * min (1 : Int) ((a_1.s * a_1.s * a_1.s).tmod a_1.a.b) = a'.w) ∧ Ob (wgtLo a_1.a.b a_1.a.L a_1.i + cell a_1.a.L a.i (nat_lit 0) * cell a_1.a.L a.i (nat_lit 0) * cell a_1.a.L a.i (nat_lit 0) / a_1.a.b = wgtLo
  a'.a.b a'.a.L a'.i) ∧ Ob (wgtHi a_1.a.b a_1.a.L a_1.i + cell a_1.a.L a.i (nat_lit 1) * cell a_1.a.L a.i (nat_lit 1) * cell a_1.a.L a.i (nat_lit 1) / a_1.a.b + min (1 : Int) ((cell a_1.a.L a.i (nat_lit 1) * cell a_1.a.L
  a.i (nat_lit 1) * cell a_1.a.L a.i (nat_lit 1)).tmod a_1.a.b) = wgtHi a'.a.b a'.a.L a'.i) ∧ Ob (nat_lit 5 = nat_lit 5) ∧ Ob ((↑a.i : Int) + (1 : Int) = (↑a'.i : Int)) ∧ Ob (nat_lit 5 = nat_lit 5 ∧ ∀ (i : Nat), i <
  nat_lit 5 → (El.fn (Rv.elemOf [IntKind.i64] a_1.F)).at i = (El.fn (Rv.elemOf [IntKind.i64] a'.F)).at i) ∧ Ob (a_1.a.w0 = a'.a.w0) ∧ Ob (a_1.a.w1 = a'.a.w1) ∧ Ob (nat_lit 5 = nat_lit 5 ∧ ∀ (i : Nat), i < nat_lit 5 →
  (El.fn (Rv.elemOf [IntKind.i64, IntKind.i64] a_1.a.C)).at i = (El.fn (Rv.elemOf [IntKind.i64, IntKind.i64] a'.a.C)).at i) ∧ Ob (nat_lit 6 = nat_lit 6 ∧ ∀ (i : Nat), i < nat_lit 6 → (El.fn (Rv.elemOf [IntKind.i64]
  a_1.a.E)).at i = (El.fn (Rv.elemOf [IntKind.i64] a'.a.E)).at i) ∧ Ob (a_1.a.n = a'.a.n ∧ ∀ (i : Nat), i < a'.a.n → (El.fn (Rv.elemOf [IntKind.i64, IntKind.i64, IntKind.i64, IntKind.i64, IntKind.i64, IntKind.i64]
  a_1.a.L)).at i = (El.fn (Rv.elemOf [IntKind.i64, IntKind.i64, IntKind.i64, IntKind.i64, IntKind.i64, IntKind.i64] a'.a.L)).at i) ∧ Ob (v_10 = a'.q) ∧ Ob (PlainE (nat_lit 5) (El.fn (Rv.elemOf [IntKind.i64] a'.F))) ∧ Ob
  (PlainE (nat_lit 5) (El.fn (Rv.elemOf [IntKind.i64, IntKind.i64] a'.a.C))) ∧ Ob (PlainE (nat_lit 6) (El.fn (Rv.elemOf [IntKind.i64] a'.a.E))) ∧ Ob (PlainE a'.a.n (El.fn (Rv.elemOf [IntKind.i64, IntKind.i64, IntKind.i64,
  IntKind.i64, IntKind.i64, IntKind.i64] a'.a.L))) ∧ True)) ∧ (¬(↑a.i : Int) < (↑a.a.n : Int) → (∃ (a_1 : CnZ), Ob (a_1.k ≤ nat_lit 5 ∧ a_1.a.Is ∧ Fnd a_1.a a_1.F a_1.a.n (nat_lit 0) ∧ Wgt a_1.a a_1.w a_1.a.n) ∧ Ob (a.a.n
  = a_1.a.n) ∧ Ob (nat_lit 6 = nat_lit 6) ∧ Ob (a.a.b = a_1.a.b) ∧ Ob (nat_lit 5 = nat_lit 5) ∧ Ob (a.w = a_1.w) ∧ Ob (wgtLo a.a.b a.a.L a.i = wgtLo a_1.a.b a_1.a.L a_1.a.n) ∧ Ob (wgtHi a.a.b a.a.L a.i = wgtHi a_1.a.b
  a_1.a.L a_1.a.n) ∧ Ob (nat_lit 5 = nat_lit 5) ∧ Ob ((0 : Int) = (↑a_1.k : Int)) ∧ Ob (nat_lit 5 = nat_lit 5 ∧ ∀ (i : Nat), i < nat_lit 5 → (El.fn (Rv.elemOf [IntKind.i64] a.F)).at i = (El.fn (Rv.elemOf [IntKind.i64]
  a_1.F)).at i) ∧ Ob (a.a.w0 = a_1.a.w0) ∧ Ob (a.a.w1 = a_1.a.w1) ∧ Ob (nat_lit 5 = nat_lit 5 ∧ ∀ (i : Nat), i < nat_lit 5 → (El.fn (Rv.elemOf [IntKind.i64, IntKind.i64] a.a.C)).at i = (El.fn (Rv.elemOf [IntKind.i64,
  IntKind.i64] a_1.a.C)).at i) ∧ Ob (nat_lit 6 = nat_lit 6 ∧ ∀ (i : Nat), i < nat_lit 6 → (El.fn (Rv.elemOf [IntKind.i64] a.a.E)).at i = (El.fn (Rv.elemOf [IntKind.i64] a_1.a.E)).at i) ∧ Ob (a.a.n = a_1.a.n ∧ ∀ (i : Nat),
  i < a_1.a.n → (El.fn (Rv.elemOf [IntKind.i64, IntKind.i64, IntKind.i64, IntKind.i64, IntKind.i64, IntKind.i64] a.a.L)).at i = (El.fn (Rv.elemOf [IntKind.i64, IntKind.i64, IntKind.i64, IntKind.i64, IntKind.i64,
  IntKind.i64] a_1.a.L)).at i) ∧ Ob (a.q = a_1.q) ∧ Ob (PlainE (nat_lit 5) (El.fn (Rv.elemOf [IntKind.i64] a_1.F))) ∧ Ob (PlainE (nat_lit 5) (El.fn (Rv.elemOf [IntKind.i64, IntKind.i64] a_1.a.C))) ∧ Ob (PlainE (nat_lit 6)
  (El.fn (Rv.elemOf [IntKind.i64] a_1.a.E))) ∧ Ob (PlainE a_1.a.n (El.fn (Rv.elemOf [IntKind.i64, IntKind.i64, IntKind.i64, IntKind.i64, IntKind.i64, IntKind.i64] a_1.a.L))) ∧ True) ∧ ∀ (a_1 : CnZ), a_1.k ≤ nat_lit 5 ∧
  a_1.a.Is ∧ Fnd a_1.a a_1.F a_1.a.n (nat_lit 0) ∧ Wgt a_1.a a_1.w a_1.a.n → ∀ (z_220 z_221 z_222 z_223 z_224 z_225 z_226 z_227 z_228 z_229 z_230 z_231 z_232 z_233 z_234 z_235 z_236 z_237 z_238 z_239 z_240 z_241 z_242
  z_243 z_244 z_245 z_246 z_247 z_248 z_249 z_250 z_251 z_252 z_253 z_254 z_255 z_256 z_257 z_258 z_259 z_260 z_261 z_262 z_263 z_264 z_265 z_266 z_267 z_268 z_269 z_270 z_271 z_272 z_273 z_274 z_275 z_276 z_277 z_278
  z_279 z_280 z_281 z_282 z_283 z_284 z_285 z_286 z_287 z_288 z_289 z_290 z_291 z_292 z_293 z_294 z_295 z_296 z_297 z_298 z_299 z_300 z_301 z_302 z_303 z_304 z_305 z_306 z_307 z_308 z_309 z_310 z_311 z_312 z_313 z_314
  z_315 z_316 z_317 z_318 z_319 z_320 z_321 z_322 z_323 z_324 z_325 z_326 z_327 z_328 z_329 z_330 z_331 z_332 z_333 z_334 z_335 z_336 z_337 z_338 z_339 z_340 z_341 z_342 z_343 z_344 z_345 z_346 z_347 z_348 z_349 z_350
  z_351 z_352 z_353 z_354 z_355 z_356 z_357 z_358 z_359 z_360 z_361 z_362 z_363 z_364 z_365 z_366 z_367 z_368 z_369 z_370 z_371 z_372 z_373 z_374 z_375 z_376 z_377 z_378 z_379 z_380 z_381 z_382 z_383 z_384 z_385 z_386
  z_387 z_388 z_389 z_390 z_391 z_392 z_393 z_394 z_395 z_396 z_397 z_398 z_399 z_400 z_401 z_402 z_403 z_404 z_405 z_406 z_407 z_408 z_409 z_410 z_411 z_412 z_413 z_414 z_415 z_416 z_417 z_418 z_419 z_420 z_421 z_422
  z_423 z_424 z_425 z_426 z_427 z_428 z_429 z_430 z_431 z_432 z_433 z_434 z_435 z_436 z_437 z_438 z_439 z_440 z_441 : Value), ((↑a_1.k : Int) < (↑(nat_lit 5) : Int) → Ob ((0 : Int) ≤ (↑a_1.k : Int) ∧ a_1.k < nat_lit 5) ∧
  Ob (a_1.k < nat_lit 5) ∧ Ob ((0 : Int) ≤ (↑a_1.k : Int) ∧ a_1.k < nat_lit 5) ∧ Ob (a_1.k < nat_lit 5) ∧ Ob True ∧ (¬¬(cell a_1.a.C a_1.k (nat_lit 0) ≤ cell a_1.F a_1.k (nat_lit 0) ∧ cell a_1.F a_1.k (nat_lit 0) ≤ cell
  a_1.a.C a_1.k (nat_lit 1)) → Ob ((0 : Int) ≤ (↑a_1.k : Int) ∧ a_1.k < nat_lit 5) ∧ Ob (a_1.k < nat_lit 5) ∧ Ob ((0 : Int) ≤ (↑a_1.k : Int) ∧ a_1.k < nat_lit 6) ∧ Ob (a_1.k < nat_lit 6) ∧ Ob (InR IntKind.i64 ((↑a_1.k :
  Int) + (1 : Int))) ∧ Ob ((0 : Int) ≤ (↑a_1.k : Int) + (1 : Int) ∧ ((↑a_1.k : Int) + (1 : Int)).toNat < nat_lit 6) ∧ Ob (((↑a_1.k : Int) + (1 : Int)).toNat < nat_lit 6) ∧ Ob (InR IntKind.i64 (cell a_1.a.E ((↑a_1.k : Int)
  + (1 : Int)).toNat (nat_lit 0) - (1 : Int))) ∧ ∃ (rows_4 : List (List Int)), Ob (a_1.a.n = a_1.a.n ∧ rows_4.length = a_1.a.n ∧ (∀ (r : List Int), r ∈ rows_4 → r.length = nat_lit 6) ∧ ∀ (i : Nat), i < a_1.a.n → (El.fn
  (Rv.elemOf [IntKind.i64, IntKind.i64, IntKind.i64, IntKind.i64, IntKind.i64, IntKind.i64] a_1.a.L)).at i = Rv.elemOf [IntKind.i64, IntKind.i64, IntKind.i64, IntKind.i64, IntKind.i64, IntKind.i64] rows_4 i) ∧ Ob (manyErr
  rows_4 = (0 : Int)) ∧ (¬¬cell a_1.a.C a_1.k (nat_lit 0) = endN rows_4 (cell a_1.a.E a_1.k (nat_lit 0)) (cell a_1.a.E ((↑a_1.k : Int) + (1 : Int)).toNat (nat_lit 0) - (1 : Int)) (false = true) rows_4.length → Ob ((0 :
  Int) ≤ (↑a_1.k : Int) ∧ a_1.k < nat_lit 5) ∧ Ob (a_1.k < nat_lit 5) ∧ Ob ((0 : Int) ≤ (↑a_1.k : Int) ∧ a_1.k < nat_lit 6) ∧ Ob (a_1.k < nat_lit 6) ∧ Ob (InR IntKind.i64 ((↑a_1.k : Int) + (1 : Int))) ∧ Ob ((0 : Int) ≤
  (↑a_1.k : Int) + (1 : Int) ∧ ((↑a_1.k : Int) + (1 : Int)).toNat < nat_lit 6) ∧ Ob (((↑a_1.k : Int) + (1 : Int)).toNat < nat_lit 6) ∧ Ob (InR IntKind.i64 (cell a_1.a.E ((↑a_1.k : Int) + (1 : Int)).toNat (nat_lit 0) - (1 :
  Int))) ∧ ∃ (rows_5 : List (List Int)), Ob (a_1.a.n = a_1.a.n ∧ rows_5.length = a_1.a.n ∧ (∀ (r : List Int), r ∈ rows_5 → r.length = nat_lit 6) ∧ ∀ (i : Nat), i < a_1.a.n → (El.fn (Rv.elemOf [IntKind.i64, IntKind.i64,
  IntKind.i64, IntKind.i64, IntKind.i64, IntKind.i64] a_1.a.L)).at i = Rv.elemOf [IntKind.i64, IntKind.i64, IntKind.i64, IntKind.i64, IntKind.i64, IntKind.i64] rows_5 i) ∧ Ob (manyErr rows_5 = (0 : Int)) ∧ (¬cell a_1.a.C
  a_1.k (nat_lit 1) = endN rows_5 (cell a_1.a.E a_1.k (nat_lit 0)) (cell a_1.a.E ((↑a_1.k : Int) + (1 : Int)).toNat (nat_lit 0) - (1 : Int)) (true = true) rows_5.length → False) ∧ (¬¬cell a_1.a.C a_1.k (nat_lit 1) = endN
  rows_5 (cell a_1.a.E a_1.k (nat_lit 0)) (cell a_1.a.E ((↑a_1.k : Int) + (1 : Int)).toNat (nat_lit 0) - (1 : Int)) (true = true) rows_5.length → Ob (InR IntKind.i64 ((↑a_1.k : Int) + (1 : Int))) ∧ ∃ (a' : CnZ), Ob ((a'.k
  ≤ nat_lit 5 ∧ a'.a.Is ∧ Fnd a'.a a'.F a'.a.n (nat_lit 0) ∧ Wgt a'.a a'.w a'.a.n) ∧ nat_lit 5 - a'.k < nat_lit 5 - a_1.k) ∧ Ob (a_1.a.n = a'.a.n) ∧ Ob (nat_lit 6 = nat_lit 6) ∧ Ob (a_1.a.b = a'.a.b) ∧ Ob (nat_lit 5 =
  nat_lit 5) ∧ Ob (a_1.w = a'.w) ∧ Ob (wgtLo a_1.a.b a_1.a.L a_1.a.n = wgtLo a'.a.b a'.a.L a'.a.n) ∧ Ob (wgtHi a_1.a.b a_1.a.L a_1.a.n = wgtHi a'.a.b a'.a.L a'.a.n) ∧ Ob (nat_lit 5 = nat_lit 5) ∧ Ob ((↑a_1.k : Int) + (1 :
  Int) = (↑a'.k : Int)) ∧ Ob (nat_lit 5 = nat_lit 5 ∧ ∀ (i : Nat), i < nat_lit 5 → (El.fn (Rv.elemOf [IntKind.i64] a_1.F)).at i = (El.fn (Rv.elemOf [IntKind.i64] a'.F)).at i) ∧ Ob (a_1.a.w0 = a'.a.w0) ∧ Ob (a_1.a.w1 =
  a'.a.w1) ∧ Ob (nat_lit 5 = nat_lit 5 ∧ ∀ (i : Nat), i < nat_lit 5 → (El.fn (Rv.elemOf [IntKind.i64, IntKind.i64] a_1.a.C)).at i = (El.fn (Rv.elemOf [IntKind.i64, IntKind.i64] a'.a.C)).at i) ∧ Ob (nat_lit 6 = nat_lit 6 ∧
  ∀ (i : Nat), i < nat_lit 6 → (El.fn (Rv.elemOf [IntKind.i64] a_1.a.E)).at i = (El.fn (Rv.elemOf [IntKind.i64] a'.a.E)).at i) ∧ Ob (a_1.a.n = a'.a.n ∧ ∀ (i : Nat), i < a'.a.n → (El.fn (Rv.elemOf [IntKind.i64, IntKind.i64,
  IntKind.i64, IntKind.i64, IntKind.i64, IntKind.i64] a_1.a.L)).at i = (El.fn (Rv.elemOf [IntKind.i64, IntKind.i64, IntKind.i64, IntKind.i64, IntKind.i64, IntKind.i64] a'.a.L)).at i) ∧ Ob (a_1.q = a'.q) ∧ Ob (PlainE
  (nat_lit 5) (El.fn (Rv.elemOf [IntKind.i64] a'.F))) ∧ Ob (PlainE (nat_lit 5) (El.fn (Rv.elemOf [IntKind.i64, IntKind.i64] a'.a.C))) ∧ Ob (PlainE (nat_lit 6) (El.fn (Rv.elemOf [IntKind.i64] a'.a.E))) ∧ Ob (PlainE a'.a.n
  (El.fn (Rv.elemOf [IntKind.i64, IntKind.i64, IntKind.i64, IntKind.i64, IntKind.i64, IntKind.i64] a'.a.L))) ∧ True)) ∧ (¬cell a_1.a.C a_1.k (nat_lit 0) = endN rows_4 (cell a_1.a.E a_1.k (nat_lit 0)) (cell a_1.a.E ((↑a_1.k
  : Int) + (1 : Int)).toNat (nat_lit 0) - (1 : Int)) (false = true) rows_4.length → False)) ∧ (¬(cell a_1.a.C a_1.k (nat_lit 0) ≤ cell a_1.F a_1.k (nat_lit 0) ∧ cell a_1.F a_1.k (nat_lit 0) ≤ cell a_1.a.C a_1.k (nat_lit
  1)) → False)) ∧ (¬(↑a_1.k : Int) < (↑(nat_lit 5) : Int) → Ob True ∧ (a_1.a.w0 ≤ a_1.w ∧ a_1.w ≤ a_1.a.w1 → Ob True ∧ (a_1.a.w0 = wgtLo a_1.a.b a_1.a.L a_1.a.n ∧ a_1.a.w1 = wgtHi a_1.a.b a_1.a.L a_1.a.n ∧ True → Ob
  (hasTabs tab1 B) ∧ True) ∧ (¬(a_1.a.w0 = wgtLo a_1.a.b a_1.a.L a_1.a.n ∧ a_1.a.w1 = wgtHi a_1.a.b a_1.a.L a_1.a.n ∧ True) → False)) ∧ (¬(a_1.a.w0 ≤ a_1.w ∧ a_1.w ≤ a_1.a.w1) → False))))) ∧ (¬wgtErr v_6 rows_3 = (0 : Int)
  → False)) ∧ (¬v_7 = (0 : Int) → False)

set_option linter.unusedSimpArgs false in
set_option maxRecDepth 4000 in
set_option maxHeartbeats 400000 in
theorem v_law : V_law := by
  unfold V_law
  intro B htab z N hz hoz hrz hN
  refine ⟨N, ⟨⟨hz, rfl, hrz, fun _ _ => rfl⟩⟩, ⟨hN⟩, ⟨by show (0 : Int) ≤ 8 ∧ (8 : Int) ≤ 100; omega⟩, ?_⟩
  obtain ⟨a, ha⟩ : ∃ a, tideK N N.length = a := ⟨_, rfl⟩
  rw [ha]
  clear ha
  have hn := hdN_in a (most := 8) (by omega)
  obtain ⟨n, en⟩ : ∃ n, (hdN a 8).toNat = n := ⟨_, rfl⟩
  replace hn : n ≤ 8 := by rw [← en]; omega
  rw [en]
  clear en
  obtain ⟨L, eL⟩ : ∃ L, hdR (hdA a 8) n = L := ⟨_, rfl⟩
  have lL : L.length = n := by rw [← eL]; exact hdR_len _ _
  have rL : ∀ r ∈ L, r.length = 6 := by rw [← eL]; exact hdR_row _ _
  have mL : manyErr L = 0 := by rw [← eL]; exact hdR_many _ (by omega)
  rw [eL]
  clear eL
  intro v hv
  clear hv
  refine ⟨⟨by show (20 : Int) ≤ 9223372036854775807; omega⟩, ?_⟩
  intro v1 hv1 v2 hv2
  have b2 : 0 ≤ v2 ∧ v2 < 20 := by
    have := belowV_in v 20
    rw [← hv2] at this
    omega
  clear hv1 hv2
  refine ⟨⟨by simp only [InR]; omega⟩, ⟨by show (200 : Int) ≤ 9223372036854775807; omega⟩, ?_⟩
  intro v3 hv3 v4 hv4
  have b4 : 0 ≤ v4 ∧ v4 < 200 := by
    have := belowV_in v1 200
    rw [← hv4] at this
    omega
  clear hv3 hv4
  refine ⟨⟨by simp only [InR]; omega⟩, ⟨by show (-1000000000000 : Int) ≤ 1 ∧ (1 : Int) ≤ 1000000000000 ∧ (-1000000000000 : Int) ≤ 3000 ∧ (3000 : Int) ≤ 1000000000000; omega⟩, ?_⟩
  intro v5 hv5 v6 hv6
  have b6 : 1 ≤ v6 ∧ v6 ≤ 3000 := by
    have := belowV_in v3 (3000 - 1 + 1)
    omega
  clear hv5 hv6
  have hE := edg_of (x := 810 + v2) (y := 1000 + v4) (by omega) (by omega)
  refine ⟨L, ⟨⟨rfl, lL, rL, fun _ _ => rfl⟩⟩, ⟨⟨hE, mL⟩⟩, ?_⟩
  intro v7 hv7
  have hW : wgtErr v6 L = 0 := by
    unfold wgtErr inB
    rw [if_pos (by omega)]
    exact mL
  subst lL
  obtain ⟨w0, w1⟩ := wgt_two hW
  have hm := (many_ok mL).2
  refine ⟨L, ⟨⟨rfl, rfl, rL, fun _ _ => rfl⟩⟩, ⟨trivial⟩, ?_⟩
  refine ⟨fun _ => ⟨fun _ => ⟨fun h => h rfl, fun _ => ⟨⟨by show (5 : Int) = 5 ∧ (0 : Int) < 5 ∧ 5 * 9 ≤ 1099511627776; omega⟩, ?_, ?_⟩⟩, fun h => h hW⟩, fun h => h hv7⟩
  · refine ⟨⟨0, v5, 0, [], ⟨L.length, v6, 810 + v2, 1000 + v4, wgtLo v6 L L.length, wgtHi v6 L L.length, L, cntR [[790], [800], [810 + v2], [835], [850], [1000 + v4]] L L.length⟩⟩, ⟨⟨Nat.zero_le _, ⟨hn, rfl, rL, hm, b6.1, b6.2, show 810 ≤ 810 + v2 ∧ 810 + v2 < 830 by omega, show 1000 ≤ 1000 + v4 ∧ 1000 + v4 < 1200 by omega, fun k hk => cntR_cell _ L L.length hk, rfl, rfl⟩, ?_, ⟨Int.le_refl 0, Int.le_refl 0⟩⟩⟩, ?_⟩
    · intro j hj
      rw [if_neg (by omega)]
      exact ⟨Int.le_refl 0, Int.le_refl 0⟩
    rw [w0, w1]
    repeat' (with_reducible apply And.intro)
    all_goals first | exact ⟨trivial⟩ | exact ⟨rfl⟩ | exact ⟨e2.symm⟩ | exact ⟨plain_elemOf _ _ _⟩ | exact ⟨⟨trivial, fun _ _ => trivial⟩⟩ | exact ⟨⟨trivial, fun _ _ => rfl⟩⟩ | exact ⟨⟨trivial, fun i hi => by rw [put_one, el_one, incR_cell _ _ hi]⟩⟩ | exact ⟨⟨rfl, fun _ _ => rfl⟩⟩ | exact ⟨⟨rfl, E_lit ⟨L.length, v6, 810 + v2, 1000 + v4, 0, 0, L, []⟩⟩⟩ | trivial
  clear w0 w1 hm hW hv7 hE mL rL b2 b4 b6 hn
  intro ⟨i, q, w, F, a⟩ ⟨hi, hI, hF, hWg⟩
  replace hi : i ≤ a.n := hi
  dsimp only at *
  intros
  constructor
  · intro h1
    have hin : i < a.n := by omega
    have hs := cap_size (cap_all hI.m i hin)
    refine ⟨⟨by omega, hin⟩, ⟨hin⟩, ⟨by show _ ∧ _ ∧ _ ∧ _; omega⟩, ?_⟩
    intro v8 hv8 v9 hv9
    have hv := inV_in (a := q) hs.2.1
    rw [← hv9] at hv
    clear hv8 hv9
    constructor
    · refine ⟨⟨0, i, v9, v8, w, F, a⟩, ⟨⟨hin, rfl, rfl⟩, Nat.zero_le _, hI, hF, hWg, hv.1, hv.2⟩, ?_⟩
      repeat' (with_reducible apply And.intro)
      all_goals first | exact ⟨trivial⟩ | exact ⟨rfl⟩ | exact ⟨e2.symm⟩ | exact ⟨plain_elemOf _ _ _⟩ | exact ⟨⟨trivial, fun _ _ => trivial⟩⟩ | exact ⟨⟨trivial, fun _ _ => rfl⟩⟩ | exact ⟨⟨trivial, fun i hi => by rw [put_one, el_one, incR_cell _ _ hi]⟩⟩ | exact ⟨⟨rfl, fun _ _ => rfl⟩⟩ | trivial
    clear hv
    intro ⟨k, i2, s, q2, w2, F2, c⟩ ⟨⟨hin2, e1, e2⟩, hk, hI2, hF2, hW2, s0, s1⟩
    dsimp only at *
    have e1 : i2 = i := by omega
    subst e1
    intros
    have hk1 : ((k : Int) + 1).toNat = k + 1 := by omega
    simp only [hk1]
    have hs2 := cap_size (cap_all hI2.m i2 hin2)
    have hn8 := hI2.n
    constructor
    · intro h2
      have hk5 : k < 5 := by
        have : ((5 : Nat) : Int) = 5 := rfl
        omega
      have bE := E_cells c hI2.e2 hI2.e5 hk5
      have bF := fnd_bd hF2 hk5
      have el0 : ((El.fn (Rv.elemOf [.i64] F2)).at k).length = 1 := rfl
      have iF : InR .i64 (cell F2 k 0 + 1) := by simp only [InR]; omega
      have iK : InR .i64 ((k : Int) + 1) := by simp only [InR]; omega
      have no : ¬ (cell c.E k 0 ≤ s ∧ s < cell c.E (k + 1) 0) → Fnd c F2 i2 (k + 1) := fun h => fnd_step hk5 hF2 s0 s1 (.inl ⟨rfl, h⟩) fun j hj => by
        by_cases e : j = k
        · subst e
          rw [if_pos rfl, Int.add_zero]
        · rw [if_neg e]
      refine ⟨⟨by omega, by omega⟩, ⟨by omega⟩, fun h3 => ⟨⟨iK⟩, ⟨by omega, by omega⟩, ⟨by omega⟩, fun h4 => ?_, fun h4 => ?_⟩, fun h3 => ?_⟩
      · have yes : Fnd c (incR F2 k) i2 (k + 1) := fnd_step hk5 hF2 s0 s1 (.inr ⟨rfl, h3, h4⟩) fun j hj => incR_cell F2 k hj
        refine ⟨⟨by omega, hk5⟩, ⟨hk5⟩, ⟨iF⟩, ⟨by omega, hk5⟩, ⟨hk5, el0⟩, ⟨iK⟩, ⟨k + 1, i2, s, q2, w2, incR F2 k, c⟩, ⟨⟨⟨hin2, rfl, e2⟩, hk5, hI2, yes, hW2, s0, s1⟩, by show 5 - (k + 1) < 5 - k; omega⟩, ?_⟩
        repeat' (with_reducible apply And.intro)
        all_goals first | exact ⟨trivial⟩ | exact ⟨rfl⟩ | exact ⟨e2.symm⟩ | exact ⟨plain_elemOf _ _ _⟩ | exact ⟨⟨trivial, fun _ _ => trivial⟩⟩ | exact ⟨⟨trivial, fun _ _ => rfl⟩⟩ | exact ⟨⟨trivial, fun i hi => by rw [put_one, el_one, incR_cell _ _ hi]⟩⟩ | exact ⟨⟨rfl, fun i hi => by rw [put_one, el_one, incR_cell _ _ hi]⟩⟩ | exact ⟨⟨rfl, fun _ _ => rfl⟩⟩ | trivial
      · refine ⟨⟨iK⟩, ⟨k + 1, i2, s, q2, w2, F2, c⟩, ⟨⟨⟨hin2, rfl, e2⟩, hk5, hI2, no (by omega), hW2, s0, s1⟩, by show 5 - (k + 1) < 5 - k; omega⟩, ?_⟩
        repeat' (with_reducible apply And.intro)
        all_goals first | exact ⟨trivial⟩ | exact ⟨rfl⟩ | exact ⟨e2.symm⟩ | exact ⟨plain_elemOf _ _ _⟩ | exact ⟨⟨trivial, fun _ _ => trivial⟩⟩ | exact ⟨⟨trivial, fun _ _ => rfl⟩⟩ | exact ⟨⟨trivial, fun i hi => by rw [put_one, el_one, incR_cell _ _ hi]⟩⟩ | exact ⟨⟨rfl, fun _ _ => rfl⟩⟩ | trivial
      · refine ⟨⟨iK⟩, ⟨k + 1, i2, s, q2, w2, F2, c⟩, ⟨⟨⟨hin2, rfl, e2⟩, hk5, hI2, no (by omega), hW2, s0, s1⟩, by show 5 - (k + 1) < 5 - k; omega⟩, ?_⟩
        repeat' (with_reducible apply And.intro)
        all_goals first | exact ⟨trivial⟩ | exact ⟨rfl⟩ | exact ⟨e2.symm⟩ | exact ⟨plain_elemOf _ _ _⟩ | exact ⟨⟨trivial, fun _ _ => trivial⟩⟩ | exact ⟨⟨trivial, fun _ _ => rfl⟩⟩ | exact ⟨⟨trivial, fun i hi => by rw [put_one, el_one, incR_cell _ _ hi]⟩⟩ | exact ⟨⟨rfl, fun _ _ => rfl⟩⟩ | trivial
    · intro h2
      have hk5 : k = 5 := by
        have : ((5 : Nat) : Int) = 5 := rfl
        omega
      subst hk5
      have hb0 := hI2.b0
      have hb1 := hI2.b1
      have nx := fun d hd => wgt_next (d := d) hW2 hb0 hs2.1 s0 s1 hd
      have bW := wgt_bd hb0 (by omega) hI2.m i2 (by omega)
      have bW1 := wgt_bd hb0 (by omega) hI2.m (i2 + 1) hin2
      have c1 := cube_bd (show 0 ≤ s by omega) (by omega)
      have c0 := cube_bd hs2.1 (by omega)
      have c2 := cube_bd (show 0 ≤ cell c.L i2 1 by omega) hs2.2.2
      have d1 := div_bd (m := 15625000000) c1.2.2.1 c1.2.2.2 hb0
      have d0 := div_bd (m := 15625000000) c0.2.2.1 c0.2.2.2 hb0
      have d2 := div_bd (m := 15625000000) c2.2.2.1 c2.2.2.2 hb0
      have t1 := Int.tmod_nonneg c.b (show 0 ≤ s * s * s by omega)
      have t2 := Int.tmod_nonneg c.b (show 0 ≤ cell c.L i2 1 * cell c.L i2 1 * cell c.L i2 1 by omega)
      have u1 := Int.tmod_lt_of_pos (s * s * s) (show 0 < c.b by omega)
      have u2 := Int.tmod_lt_of_pos (cell c.L i2 1 * cell c.L i2 1 * cell c.L i2 1) (show 0 < c.b by omega)
      have ce := ceil_eq (x := cell c.L i2 1 * cell c.L i2 1 * cell c.L i2 1) (by omega) hb0
      have eLo : wgtLo c.b c.L i2 + cell c.L i2 0 * cell c.L i2 0 * cell c.L i2 0 / c.b = wgtLo c.b c.L (i2 + 1) := rfl
      have eHi : wgtHi c.b c.L i2 + cell c.L i2 1 * cell c.L i2 1 * cell c.L i2 1 / c.b + min 1 ((cell c.L i2 1 * cell c.L i2 1 * cell c.L i2 1).tmod c.b) = wgtHi c.b c.L (i2 + 1) := by
        rw [Int.add_assoc, ce]
        rfl
      obtain ⟨hw1, hw2⟩ := hW2
      simp only [eLo, eHi]
      clear eLo ce
      have fn := fnd_next hF2
      have g1 : InR .i64 (s * s) ∧ InR .i64 (s * s * s) := by simp only [InR]; omega
      have g2 : 0 ≤ s * s * s ∧ 0 < c.b ∧ InR .i64 (s * s * s / c.b) := by simp only [InR]; omega
      have g3 : InR .i64 (w2 + s * s * s / c.b) := by
        simp only [InR]
        clear nx hF2 eHi
        omega
      refine ⟨⟨g1.1⟩, ⟨g1.2⟩, ⟨g2⟩, ⟨g3⟩, ⟨by show (2 : Int) ≤ 9223372036854775807; omega⟩, ?_⟩
      intro v10 hv10 v11 hv11
      have hv := belowV_in q2 2
      rw [← hv11] at hv
      clear hv10 hv11
      have hd : v11 = 0 ∨ v11 = 1 := by omega
      have nw := nx v11 hd
      clear nx
      have g4 : 0 < c.b ∧ InR .i64 ((s * s * s).tmod c.b) := by simp only [InR]; omega
      have g5 : InR .i64 (v11 * min 1 ((s * s * s).tmod c.b)) ∧ InR .i64 (w2 + s * s * s / c.b + v11 * min 1 ((s * s * s).tmod c.b)) := by
        clear eHi nw
        simp only [InR]
        rcases hd with rfl | rfl <;> omega
      have g6 : InR .i64 (cell c.L i2 0 * cell c.L i2 0) ∧ InR .i64 (cell c.L i2 0 * cell c.L i2 0 * cell c.L i2 0) ∧ InR .i64 (cell c.L i2 1 * cell c.L i2 1) ∧ InR .i64 (cell c.L i2 1 * cell c.L i2 1 * cell c.L i2 1) := by simp only [InR]; omega
      have g7 : 0 ≤ cell c.L i2 0 * cell c.L i2 0 * cell c.L i2 0 ∧ 0 < c.b ∧ InR .i64 (cell c.L i2 0 * cell c.L i2 0 * cell c.L i2 0 / c.b) := by simp only [InR]; omega
      have g8 : 0 ≤ cell c.L i2 1 * cell c.L i2 1 * cell c.L i2 1 ∧ 0 < c.b ∧ InR .i64 (cell c.L i2 1 * cell c.L i2 1 * cell c.L i2 1 / c.b) := by simp only [InR]; omega
      have g9 : InR .i64 (wgtLo c.b c.L (i2 + 1)) ∧ InR .i64 (wgtHi c.b c.L i2 + cell c.L i2 1 * cell c.L i2 1 * cell c.L i2 1 / c.b) ∧ 0 < c.b ∧ InR .i64 ((cell c.L i2 1 * cell c.L i2 1 * cell c.L i2 1).tmod c.b) ∧ InR .i64 (wgtHi c.b c.L (i2 + 1)) := by
        clear eHi nw g1 g2 g3 g4 g5 g6 g7 g8
        simp only [InR]
        omega
      refine ⟨⟨g1.1⟩, ⟨g1.2⟩, ⟨g4⟩, ⟨g5.1⟩, ⟨g5.2⟩, ⟨by omega, by omega⟩, ⟨by omega⟩, ⟨by omega, by omega⟩, ⟨by omega⟩, ⟨g6.1⟩, ⟨g6.2.1⟩, ⟨g7⟩, ⟨g9.1⟩, ⟨g6.2.2.1⟩, ⟨g6.2.2.2⟩, ⟨g8⟩, ⟨g9.2.1⟩, ⟨g6.2.2.1⟩, ⟨g6.2.2.2⟩, ⟨g9.2.2.1, g9.2.2.2.1⟩, ⟨g9.2.2.2.2⟩, ⟨by simp only [InR]; omega⟩, ⟨i2 + 1, v10, w2 + s * s * s / c.b + v11 * min 1 ((s * s * s).tmod c.b), F2, c⟩, ⟨⟨hin2, hI2, fn, nw⟩, by show c.n - (i2 + 1) < a.n - i2; omega⟩, ?_⟩
      repeat' (with_reducible apply And.intro)
      all_goals first | exact ⟨trivial⟩ | exact ⟨rfl⟩ | exact ⟨e2.symm⟩ | exact ⟨plain_elemOf _ _ _⟩ | exact ⟨⟨trivial, fun _ _ => trivial⟩⟩ | exact ⟨⟨trivial, fun _ _ => rfl⟩⟩ | exact ⟨⟨trivial, fun i hi => by rw [put_one, el_one, incR_cell _ _ hi]⟩⟩ | exact ⟨⟨rfl, fun _ _ => rfl⟩⟩ | trivial
  · intro h1
    have e : i = a.n := by omega
    subst e
    constructor
    · refine ⟨⟨0, q, w, F, a⟩, ⟨Nat.zero_le _, hI, hF, hWg⟩, ?_⟩
      repeat' (with_reducible apply And.intro)
      all_goals first | exact ⟨trivial⟩ | exact ⟨rfl⟩ | exact ⟨e2.symm⟩ | exact ⟨plain_elemOf _ _ _⟩ | exact ⟨⟨trivial, fun _ _ => trivial⟩⟩ | exact ⟨⟨trivial, fun _ _ => rfl⟩⟩ | exact ⟨⟨trivial, fun i hi => by rw [put_one, el_one, incR_cell _ _ hi]⟩⟩ | exact ⟨⟨rfl, fun _ _ => rfl⟩⟩ | trivial
    clear hi hI hF hWg h1
    intro ⟨k, q2, w2, F2, c⟩ ⟨hk, hI2, hF2, hW2⟩
    dsimp only at *
    intros
    have hk1 : ((k : Int) + 1).toNat = k + 1 := by omega
    simp only [hk1]
    have hn8 := hI2.n
    constructor
    · intro h2
      have hk5 : k < 5 := by
        have : ((5 : Nat) : Int) = 5 := rfl
        omega
      have bE := E_cells c hI2.e2 hI2.e5 hk5
      have hC := hI2.c k hk5
      have hFk := hF2 k hk5
      rw [if_neg (by omega)] at hFk
      have mm : manyErr c.L = 0 := by
        unfold manyErr
        rw [hI2.l, if_neg (by omega)]
        exact hI2.m
      have x0 := end_lo (E := c.E) (i := k) bE.2.1 hI2.m c.n (Nat.le_refl _)
      have x1 := end_hi (E := c.E) (i := k) bE.2.1 hI2.m c.n (Nat.le_refl _)
      have p0 : (false = true) = False := by simp
      have p1 : (true = true) = True := by simp
      have y0 : cell c.C k 0 = endN c.L (cell c.E k 0) (cell c.E (k + 1) 0 - 1) (false = true) c.L.length := by
        rw [p0, hI2.l, x0]
        exact hC.1
      have y1 : cell c.C k 1 = endN c.L (cell c.E k 0) (cell c.E (k + 1) 0 - 1) (true = true) c.L.length := by
        rw [p1, hI2.l, x1]
        exact hC.2
      have cov : cell c.C k 0 ≤ cell F2 k 0 ∧ cell F2 k 0 ≤ cell c.C k 1 := by
        rw [hC.1, hC.2]
        exact hFk
      clear x0 x1 p0 hC hFk
      have iK : InR .i64 ((k : Int) + 1) := by simp only [InR]; omega
      have iE : InR .i64 (cell c.E (k + 1) 0 - 1) := by simp only [InR]; omega
      refine ⟨⟨by omega, hk5⟩, ⟨hk5⟩, ⟨by omega, hk5⟩, ⟨hk5⟩, ⟨trivial⟩, fun _ => ?_, fun h => h cov⟩
      refine ⟨⟨by omega, hk5⟩, ⟨hk5⟩, ⟨by omega, by omega⟩, ⟨by omega⟩, ⟨iK⟩, ⟨by omega, by omega⟩, ⟨by omega⟩, ⟨iE⟩, c.L, ⟨trivial, hI2.l, hI2.lr, fun _ _ => rfl⟩, ⟨mm⟩, fun _ => ?_, fun h => h y0⟩
      refine ⟨⟨by omega, hk5⟩, ⟨hk5⟩, ⟨by omega, by omega⟩, ⟨by omega⟩, ⟨iK⟩, ⟨by omega, by omega⟩, ⟨by omega⟩, ⟨iE⟩, c.L, ⟨trivial, hI2.l, hI2.lr, fun _ _ => rfl⟩, ⟨mm⟩, fun h => h (by rw [← p1]; exact y1), fun _ => ?_⟩
      refine ⟨⟨iK⟩, ⟨k + 1, q2, w2, F2, c⟩, ⟨⟨hk5, hI2, hF2, hW2⟩, by show 5 - (k + 1) < 5 - k; omega⟩, ?_⟩
      repeat' (with_reducible apply And.intro)
      all_goals first | exact ⟨trivial⟩ | exact ⟨rfl⟩ | exact ⟨e2.symm⟩ | exact ⟨plain_elemOf _ _ _⟩ | exact ⟨⟨trivial, fun _ _ => trivial⟩⟩ | exact ⟨⟨trivial, fun _ _ => rfl⟩⟩ | exact ⟨⟨trivial, fun i hi => by rw [put_one, el_one, incR_cell _ _ hi]⟩⟩ | exact ⟨⟨rfl, fun _ _ => rfl⟩⟩ | trivial
    · intro h2
      obtain ⟨g1, g2⟩ := hW2
      have w0 := hI2.w0
      have w1 := hI2.w1
      refine ⟨⟨trivial⟩, fun _ => ⟨⟨trivial⟩, fun _ => ⟨⟨htab⟩, trivial⟩, fun h => h ⟨w0, w1, trivial⟩⟩, fun h => h ⟨by rw [w0]; exact g1, by rw [w1]; exact g2⟩⟩

theorem e_law : V_law = needL P [F_Weight, F_Covers, F_spanL, F_ending] [F_TideOf.named, F_Herded.named, F_Counts.named, F_Below.named, F_From.named, F_In.named] 20 tab1 A_law F_law := by kernel_rfl

theorem n_law : Ob (needL P [F_Weight, F_Covers, F_spanL, F_ending] [F_TideOf.named, F_Herded.named, F_Counts.named, F_Below.named, F_From.named, F_In.named] 20 tab1 A_law F_law) := by
  rw [← e_law]
  exact ⟨v_law⟩

theorem b_law : ((P.funcs[7]?).any fun fn => fn.body.isSome) = true := by kernel_rfl

theorem l_law : ([F_Weight, F_Covers, F_spanL, F_ending].all fun G => !Nat.beq G.g 20) = true := rfl
theorem le_law : ([F_TideOf.named, F_Herded.named, F_Counts.named, F_Below.named, F_From.named, F_In.named].all fun G => !Nat.beq G.g 20) = true := rfl
theorem c_law : ∀ F ∈ [F_Weight, F_Covers, F_spanL, F_ending], F.Ok P := by
  intro F h
  simp only [List.mem_cons, List.not_mem_nil, or_false] at h
  rcases h with rfl | rfl | rfl | rfl
  · exact Weight_ok
  · exact Covers_ok
  · exact spanL_ok
  · exact ending_ok

theorem ce_law : ∀ F ∈ [F_TideOf.named, F_Herded.named, F_Counts.named, F_Below.named, F_From.named, F_In.named], F.Ok P := by
  intro F h
  simp only [List.mem_cons, List.not_mem_nil, or_false] at h
  rcases h with rfl | rfl | rfl | rfl | rfl | rfl
  · exact TideOf_ok.named
  · exact Herded_ok.named
  · exact Counts_ok.named
  · exact Below_ok.named
  · exact From_ok.named
  · exact In_ok.named


end Go.Proofs.YthlodlileecmdaaDoor.Sy
