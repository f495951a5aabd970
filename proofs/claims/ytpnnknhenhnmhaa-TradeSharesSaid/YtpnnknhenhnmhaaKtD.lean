/- Boxes that are given away one by one: the program. -/
import Derived.Test.YtpnnknhenhnmhaaSyP2
import Derived.Test.YtpnnknhenhnmhaaGrM
import Derived.Test.YtpnnknhenhnmhaaStM
import Derived.Test.YtpnnknhenhnmhaaVtM
import Derived.Test.YtpnnknhenhnmhaaDhM
import Derived.Test.YtpnnknhenhnmhaaKtT
import Derived.Test.YtpnnknhenhnmhaaKtA
import Derived.Test.YtpnnknhenhnmhaaKtB
import Derived.Test.YtpnnknhenhnmhaaSyP2
import Derived.KernelRfl
import Derived.Test.YtpnnknhenhnmhaaProg
namespace Go.Proofs.Ytpnnknhenhnmhaa.Sy
open Go Go.Rv
set_option linter.unusedVariables false

theorem plain_fn1' (n : Nat) (f : Nat → Int) : PlainE n (.fn fun i => [SV.i .i64 (f i)]) := by
  intro i _ y hy
  simp only [El.at, List.mem_cons, List.not_mem_nil, or_false] at hy
  subst hy
  trivial
theorem dh_upd (T : Rows) (s i : Nat) : (updL (El.fn fun i => [SV.i .i64 (dh T s i)]) (bst T (dh T s) T.length) 0 [SV.i .i64 (dh T s (bst T (dh T s) T.length) + 1)]).at i = (El.fn fun i => [SV.i .i64 (dh T (s + 1) i)]).at i := by
  simp only [updL, El.at, dh]
  by_cases e : i = bst T (dh T s) T.length
  · rw [if_pos e, if_pos e, ← e]
    simp
  · rw [if_neg e, if_neg e]
    simp
theorem prod_in {x y : Int} (h0 : 0 ≤ x) (h1 : x ≤ 40) (h2 : 0 ≤ y) (h3 : y ≤ 6000) : InR .i64 (x * y) := by
  have m0 : 0 ≤ x * y := Int.mul_nonneg h0 h2
  have m1 : x * y ≤ 40 * 6000 := Int.mul_le_mul h1 h3 h2 (by omega)
  simp only [InR]
  omega
theorem tot_bd {L : Rows} {M : Int} : ∀ {k : Nat}, (∀ i, i < k → 0 ≤ cell L i 0 ∧ cell L i 0 ≤ M) → 0 ≤ totTo L k ∧ totTo L k ≤ k * M
  | 0, _ => by simp [totTo]
  | k + 1, h => by
    have ih := tot_bd (L := L) (M := M) (k := k) fun i hi => h i (by omega)
    have h0 := h k (by omega)
    have e : ((k + 1 : Nat) : Int) * M = k * M + M := by rw [Int.natCast_add, Int.add_mul]; simp
    rw [e]
    simp only [totTo]
    generalize (k : Int) * M = x at *
    omega
def listD (f : Nat → Int) (n : Nat) : Rows := (List.range n).map fun i => [f i]
theorem listD_len (f : Nat → Int) (n : Nat) : (listD f n).length = n := by simp [listD]
theorem listD_row (f : Nat → Int) (n : Nat) : ∀ r ∈ listD f n, r.length = 1 := by
  intro r hr
  obtain ⟨i, _, rfl⟩ := List.mem_map.1 hr
  rfl
theorem listD_cell (f : Nat → Int) {n i : Nat} (h : i < n) : cell (listD f n) i 0 = f i := by
  unfold cell listD
  simp [List.getD_eq_getElem?_getD, h]
theorem listD_at (f : Nat → Int) {n i : Nat} (h : i < n) : (El.fn fun i => [SV.i .i64 (f i)]).at i = Rv.elemOf [.i64] (listD f n) i := by
  show [SV.i .i64 (f i)] = [SV.i .i64 (cell (listD f n) i 0)]
  rw [listD_cell f h]

theorem bst_congr {T : Rows} {g h : Nat → Int} : ∀ k, (∀ i, i < k → g i = h i) → bst T g k = bst T h k
  | 0, _ => rfl
  | k + 1, e => by
    have ih := bst_congr (T := T) k fun i hi => e i (by omega)
    simp only [bst]
    by_cases hk : k = 0
    · simp [hk]
    · have hb := bst_lt T h k (by omega)
      rw [if_neg hk, if_neg hk, ih, e k (by omega), e _ (show bst T h k < k + 1 by omega)]
theorem bst_listD (T : Rows) (s : Nat) : bst T (fun i => cell (listD (dh T s) T.length) i 0) T.length = bst T (dh T s) T.length :=
  bst_congr _ fun i hi => listD_cell _ hi
theorem tot_mx {T : Rows} : ∀ {k : Nat}, (∀ i, i < k → 0 ≤ cell T i 0) → 0 ≤ totTo T k ∧ (totTo T k = 0 ↔ mxTo T k = 0)
  | 0, _ => by simp [totTo, mxTo]
  | k + 1, h => by
    have ih := tot_mx (T := T) (k := k) fun i hi => h i (by omega)
    have h0 := h k (by omega)
    have hm := mx_nn T k
    simp only [totTo, mxTo]
    constructor
    · omega
    · constructor
      · intro e; have := ih.2.1 (by omega); omega
      · intro e; have := ih.2.2 (by omega); omega
structure NxtOk (T G : Rows) : Prop where
  l : 1 ≤ T.length ∧ T.length ≤ 12
  g : G.length = T.length
  t : ∀ i, i < T.length → 0 ≤ cell T i 0 ∧ cell T i 0 ≤ 40
  b : ∀ i, i < T.length → 0 ≤ cell G i 0 ∧ cell G i 0 ≤ 5000

noncomputable def F_withinT : Fn0 := ⟨22, [i64, i64, i64], fun _ => True, fun l => match l with | [.z n, .z lo, .z hi] => .p (lo ≤ n ∧ n ≤ hi) | _ => .v undef⟩
def V_withinT : Prop :=
  ∀ (B : RW) (n n_1 n_2 : Int), True → (n_1 ≤ n → Ob (n ≤ n_2 ↔ n_1 ≤ n ∧ n ≤ n_2) ∧ True) ∧ (¬n_1 ≤ n → Ob (false = true ↔ n_1 ≤ n ∧ n ≤ n_2) ∧ True)

set_option linter.unusedSimpArgs false in
set_option maxRecDepth 4000 in
set_option maxHeartbeats 400000 in
theorem v_withinT : V_withinT := by
  unfold V_withinT
  intros
  simp only [Ob_iff, and_true, true_and, InR] at *
  all_goals grind

noncomputable def F_nextBoat : Fn0 := ⟨23, [.one (.l [.i64]), .one (.l [.i64])], fun l => match l with | [.l T, .l G] => NxtOk T G | _ => False, fun l => match l with | [.l T, .l G] => .i .i64 (bst T (fun i => cell G i 0) T.length : Nat) | _ => .v undef⟩
noncomputable def A_nextBoat : List SV → List Dat → Nat → List SV → Ann := fun xs ds n ts => match xs with
  | [.lst x _ _ _, .lst y _ _ _] => match ds with
    | [.l T, .l G] => match n with
      | 3 => ⟨Nat, fun k => [some (SV.lst x T.length ((1 : Nat)) (Rv.elemOf [IntKind.i64] T)), some (SV.lst y G.length ((1 : Nat)) (Rv.elemOf [IntKind.i64] G)), none, none, some (SV.v (Value.int IntKind.i64 (0 : Int))), some (.i .i64 (bst T (fun i => cell G i 0) k : Nat)), none, none, some (SV.i IntKind.i64 (↑T.length : Int)), some (.i .i64 k), none, none, none, none, none, none, none, none, none, none, none, none, none, none, none, none, none, none, none, none, none, none, none, none, none, none], fun k => [], fun k => k ≤ T.length, fun k => T.length - k, 0⟩
      | _ => noAnn
    | _ => noAnn
  | _ => noAnn

def V_nextBoat : Prop :=
  ∀ (B : RW) (x : RV) (rows : List (List Int)), IsLst B x rows.length 1 (Rv.elemOf [.i64] rows) → oneB x = true → (∀ (row : List Int), row ∈ rows → row.length = (1 : Nat)) → ∀ (x_1 : RV) (rows_1 : List (List Int)), IsLst B
  x_1 rows_1.length 1 (Rv.elemOf [.i64] rows_1) → oneB x_1 = true → (∀ (row : List Int), row ∈ rows_1 → row.length = (1 : Nat)) → NxtOk rows rows_1 → Ob (IsLst B x rows.length 1 (Rv.elemOf [.i64] rows)) ∧ (∃ (a : Nat), Ob
  (a ≤ rows.length) ∧ Ob (SV.lst x rows.length 1 (Rv.elemOf [.i64] rows) = SV.lst x rows.length 1 (Rv.elemOf [.i64] rows)) ∧ Ob (SV.lst x_1 rows_1.length 1 (Rv.elemOf [.i64] rows_1) = SV.lst x_1 rows_1.length 1 (Rv.elemOf
  [.i64] rows_1)) ∧ Ob (Value.int .i64 (0 : Int) = Value.int .i64 (0 : Int)) ∧ Ob ((0 : Int) = (↑(bst rows (fun (i : Nat) ↦ cell rows_1 i 0) a) : Int)) ∧ Ob ((↑rows.length : Int) = (↑rows.length : Int)) ∧ Ob ((0 : Int) =
  (↑a : Int)) ∧ Ob (IsLst B x rows.length 1 (Rv.elemOf [.i64] rows)) ∧ Ob (IsLst B x_1 rows_1.length 1 (Rv.elemOf [.i64] rows_1)) ∧ True) ∧ ∀ (a : Nat), a ≤ rows.length → ∀ (z z_1 z_2 z_3 z_4 z_5 z_6 z_7 z_8 z_9 z_10 z_11
  z_12 z_13 z_14 z_15 z_16 z_17 z_18 z_19 z_20 z_21 z_22 z_23 z_24 z_25 z_26 z_27 z_28 z_29 : Value), ((↑a : Int) < (↑rows.length : Int) → Ob (IsLst B x rows.length 1 (Rv.elemOf [.i64] rows)) ∧ Ob ((0 : Int) ≤ (↑a : Int) ∧
  a < rows.length ∧ IsLst B x rows.length 1 (Rv.elemOf [.i64] rows)) ∧ Ob (IsLst B x rows.length 1 (Rv.elemOf [.i64] rows) ∧ a < rows.length) ∧ Ob (IsLst B x rows.length 1 (Rv.elemOf [.i64] rows) ∧ a < rows.length) ∧ Ob
  (IsLst B x_1 rows_1.length 1 (Rv.elemOf [.i64] rows_1)) ∧ Ob ((0 : Int) ≤ (↑(bst rows (fun (i : Nat) ↦ cell rows_1 i 0) a) : Int) ∧ (↑(bst rows (fun (i : Nat) ↦ cell rows_1 i 0) a) : Int).toNat < rows_1.length ∧ IsLst B
  x_1 rows_1.length 1 (Rv.elemOf [.i64] rows_1)) ∧ Ob (IsLst B x_1 rows_1.length 1 (Rv.elemOf [.i64] rows_1) ∧ (↑(bst rows (fun (i : Nat) ↦ cell rows_1 i 0) a) : Int).toNat < rows_1.length) ∧ Ob (IsLst B x_1 rows_1.length
  1 (Rv.elemOf [.i64] rows_1) ∧ (↑(bst rows (fun (i : Nat) ↦ cell rows_1 i 0) a) : Int).toNat < rows_1.length) ∧ Ob (InR .i64 (cell rows_1 (↑(bst rows (fun (i : Nat) ↦ cell rows_1 i 0) a) : Int).toNat 0 + (1 : Int))) ∧ Ob
  (InR .i64 (cell rows a 0 * (cell rows_1 (↑(bst rows (fun (i : Nat) ↦ cell rows_1 i 0) a) : Int).toNat 0 + (1 : Int)))) ∧ Ob (IsLst B x rows.length 1 (Rv.elemOf [.i64] rows)) ∧ Ob ((0 : Int) ≤ (↑(bst rows (fun (i : Nat) ↦
  cell rows_1 i 0) a) : Int) ∧ (↑(bst rows (fun (i : Nat) ↦ cell rows_1 i 0) a) : Int).toNat < rows.length ∧ IsLst B x rows.length 1 (Rv.elemOf [.i64] rows)) ∧ Ob (IsLst B x rows.length 1 (Rv.elemOf [.i64] rows) ∧ (↑(bst
  rows (fun (i : Nat) ↦ cell rows_1 i 0) a) : Int).toNat < rows.length) ∧ Ob (IsLst B x rows.length 1 (Rv.elemOf [.i64] rows) ∧ (↑(bst rows (fun (i : Nat) ↦ cell rows_1 i 0) a) : Int).toNat < rows.length) ∧ Ob (IsLst B x_1
  rows_1.length 1 (Rv.elemOf [.i64] rows_1)) ∧ Ob ((0 : Int) ≤ (↑a : Int) ∧ a < rows_1.length ∧ IsLst B x_1 rows_1.length 1 (Rv.elemOf [.i64] rows_1)) ∧ Ob (IsLst B x_1 rows_1.length 1 (Rv.elemOf [.i64] rows_1) ∧ a <
  rows_1.length) ∧ Ob (IsLst B x_1 rows_1.length 1 (Rv.elemOf [.i64] rows_1) ∧ a < rows_1.length) ∧ Ob (InR .i64 (cell rows_1 a 0 + (1 : Int))) ∧ Ob (InR .i64 (cell rows (↑(bst rows (fun (i : Nat) ↦ cell rows_1 i 0) a) :
  Int).toNat 0 * (cell rows_1 a 0 + (1 : Int)))) ∧ (cell rows (↑(bst rows (fun (i : Nat) ↦ cell rows_1 i 0) a) : Int).toNat 0 * (cell rows_1 a 0 + (1 : Int)) < cell rows a 0 * (cell rows_1 (↑(bst rows (fun (i : Nat) ↦ cell
  rows_1 i 0) a) : Int).toNat 0 + (1 : Int)) → Ob (InR .i64 ((↑a : Int) + (1 : Int))) ∧ ∃ (a' : Nat), Ob (a' ≤ rows.length ∧ rows.length - a' < rows.length - a) ∧ Ob (SV.lst x rows.length 1 (Rv.elemOf [.i64] rows) = SV.lst
  x rows.length 1 (Rv.elemOf [.i64] rows)) ∧ Ob (SV.lst x_1 rows_1.length 1 (Rv.elemOf [.i64] rows_1) = SV.lst x_1 rows_1.length 1 (Rv.elemOf [.i64] rows_1)) ∧ Ob (Value.int .i64 (0 : Int) = Value.int .i64 (0 : Int)) ∧ Ob
  ((↑a : Int) = (↑(bst rows (fun (i : Nat) ↦ cell rows_1 i 0) a') : Int)) ∧ Ob ((↑rows.length : Int) = (↑rows.length : Int)) ∧ Ob ((↑a : Int) + (1 : Int) = (↑a' : Int)) ∧ Ob (IsLst B x rows.length 1 (Rv.elemOf [.i64]
  rows)) ∧ Ob (IsLst B x_1 rows_1.length 1 (Rv.elemOf [.i64] rows_1)) ∧ True) ∧ (¬cell rows (↑(bst rows (fun (i : Nat) ↦ cell rows_1 i 0) a) : Int).toNat 0 * (cell rows_1 a 0 + (1 : Int)) < cell rows a 0 * (cell rows_1
  (↑(bst rows (fun (i : Nat) ↦ cell rows_1 i 0) a) : Int).toNat 0 + (1 : Int)) → Ob (InR .i64 ((↑a : Int) + (1 : Int))) ∧ ∃ (a' : Nat), Ob (a' ≤ rows.length ∧ rows.length - a' < rows.length - a) ∧ Ob (SV.lst x rows.length
  1 (Rv.elemOf [.i64] rows) = SV.lst x rows.length 1 (Rv.elemOf [.i64] rows)) ∧ Ob (SV.lst x_1 rows_1.length 1 (Rv.elemOf [.i64] rows_1) = SV.lst x_1 rows_1.length 1 (Rv.elemOf [.i64] rows_1)) ∧ Ob (Value.int .i64 (0 :
  Int) = Value.int .i64 (0 : Int)) ∧ Ob ((↑(bst rows (fun (i : Nat) ↦ cell rows_1 i 0) a) : Int) = (↑(bst rows (fun (i : Nat) ↦ cell rows_1 i 0) a') : Int)) ∧ Ob ((↑rows.length : Int) = (↑rows.length : Int)) ∧ Ob ((↑a :
  Int) + (1 : Int) = (↑a' : Int)) ∧ Ob (IsLst B x rows.length 1 (Rv.elemOf [.i64] rows)) ∧ Ob (IsLst B x_1 rows_1.length 1 (Rv.elemOf [.i64] rows_1)) ∧ True)) ∧ (¬(↑a : Int) < (↑rows.length : Int) → Ob ((↑(bst rows (fun (i
  : Nat) ↦ cell rows_1 i 0) a) : Int) = (↑(bst rows (fun (i : Nat) ↦ cell rows_1 i 0) rows.length) : Int)) ∧ True)

set_option linter.unusedSimpArgs false in
set_option maxRecDepth 4000 in
set_option maxHeartbeats 400000 in
theorem v_nextBoat : V_nextBoat := by
  unfold V_nextBoat
  intro B x T hx hox hrx y G hy hoy hry hok
  simp only [Ob_iff, and_true, true_and, Int.toNat_natCast]
  have hl := hok.l
  have hg := hok.g
  refine ⟨hx, ⟨0, by omega, rfl, rfl, hx, hy⟩, ?_⟩
  intro k hk
  intros
  refine ⟨fun h1 => ?_, fun h1 => ?_⟩
  · have hk' : k < T.length := by omega
    obtain ⟨b, eb⟩ : ∃ b, bst T (fun i => cell G i 0) k = b := ⟨_, rfl⟩
    have es : bst T (fun i => cell G i 0) (k + 1) = if cell T b 0 * (cell G k 0 + 1) < cell T k 0 * (cell G b 0 + 1) then k else b := by
      simp only [bst, eb]
      by_cases e : k = 0
      · subst e
        have e0 : b = 0 := by rw [← eb]; rfl
        subst e0
        simp
      · rw [if_neg e]
    have hbT : b < T.length := by
      by_cases e : k = 0
      · subst e
        have e0 : b = 0 := by rw [← eb]; rfl
        omega
      · have := bst_lt T (fun i => cell G i 0) k (by omega)
        omega
    rw [eb]
    have cb := hok.t b hbT
    have ck := hok.t k hk'
    have gb := hok.b b hbT
    have gk := hok.b k hk'
    have rb : InR .i64 (cell G b 0 + 1) := by simp only [InR]; omega
    have rg : InR .i64 (cell G k 0 + 1) := by simp only [InR]; omega
    have rk : InR .i64 ((k : Int) + 1) := by simp only [InR]; omega
    have pb : InR .i64 (cell T k 0 * (cell G b 0 + 1)) := prod_in ck.1 ck.2 (by omega) (by omega)
    have pk : InR .i64 (cell T b 0 * (cell G k 0 + 1)) := prod_in cb.1 cb.2 (by omega) (by omega)
    have hbG : b < G.length := by omega
    have hkG : k < G.length := by omega
    refine ⟨hx, ⟨by omega, hk', hx⟩, ⟨hx, hk'⟩, ⟨hx, hk'⟩, hy, ⟨by omega, hbG, hy⟩, ⟨hy, hbG⟩, ⟨hy, hbG⟩, rb, pb, hx, ⟨by omega, hbT, hx⟩, ⟨hx, hbT⟩, ⟨hx, hbT⟩, hy, ⟨by omega, hkG, hy⟩, ⟨hy, hkG⟩, ⟨hy, hkG⟩, rg, pk, fun h8 => ?_, fun h8 => ?_⟩
    · exact ⟨rk, k + 1, ⟨hk', by omega⟩, by rw [es, if_pos h8], by omega, hx, hy⟩
    · exact ⟨rk, k + 1, ⟨hk', by omega⟩, by rw [es, if_neg h8], by omega, hx, hy⟩
  have e : k = T.length := by omega
  rw [e]

theorem e_nextBoat : V_nextBoat = needF P [] A_nextBoat F_nextBoat := by kernel_rfl

theorem n_nextBoat : Ob (needF P [] A_nextBoat F_nextBoat) := by
  rw [← e_nextBoat]
  exact ⟨v_nextBoat⟩

theorem b_nextBoat : ((P.funcs[23]?).any fun fn => fn.body.isSome) = true := by kernel_rfl

theorem nextBoat_ok : Fn0.Ok P F_nextBoat := Fn0.ok named (l := []) (A := A_nextBoat) (by rfl) (by
  intro F h; simp at h) b_nextBoat (by
  intro ds N
  simp only [F_nextBoat]
  split <;> rfl) n_nextBoat

end Go.Proofs.Ytpnnknhenhnmhaa.Sy
