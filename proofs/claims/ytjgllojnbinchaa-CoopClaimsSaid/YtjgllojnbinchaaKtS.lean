/- Claims that are settled. -/
import Derived.Test.YtjgllojnbinchaaSyP2
import Derived.Test.YtjgllojnbinchaaGrM
import Derived.Test.YtjgllojnbinchaaStM
import Derived.Test.YtjgllojnbinchaaKtT
import Derived.Test.YtjgllojnbinchaaKtA
import Derived.Test.YtjgllojnbinchaaKtB
import Derived.Test.YtjgllojnbinchaaSyP2
import Derived.KernelRfl
import Derived.Test.YtjgllojnbinchaaProg
namespace Go.Proofs.Ytjgllojnbinchaa.Sy
open Go Go.Rv
set_option linter.unusedVariables false

theorem net_upd {C : Rows} {k a b : Nat} (ha : cell C k 0 = a) (hb : cell C k 1 = b) (hab : a ≠ b) (i : Nat) : (updL (updL (El.fn fun i => [SV.i .i64 (netTo C k i)]) a 0 [SV.i .i64 (netTo C k a - cell C k 2)]) b 0 [SV.i .i64 (netTo C k b + cell C k 2)]).at i = (El.fn fun i => [SV.i .i64 (netTo C (k + 1) i)]).at i := by
  simp only [updL, El.at, netTo, ha, hb]
  by_cases e1 : i = b
  · subst e1
    rw [if_pos rfl, if_neg (Ne.symm hab), if_neg (by omega), if_pos rfl]
    simp
  · rw [if_neg e1]
    by_cases e2 : i = a
    · subst e2
      rw [if_pos rfl, if_pos rfl, if_neg (by omega)]
      simp
    · rw [if_neg e2, if_neg (by omega), if_neg (by omega)]
      simp
theorem plain_fn1 (n : Nat) (f : Nat → Int) : PlainE n (.fn fun i => [SV.i .i64 (f i)]) := by
  intro i _ y hy
  simp only [El.at, List.mem_cons, List.not_mem_nil, or_false] at hy
  subst hy
  trivial
theorem plain_upd1 {n : Nat} {f : Nat → Int} {a : Nat} {x : Int} : PlainE n (updL (.fn fun i => [SV.i .i64 (f i)]) a 0 [SV.i .i64 x]) := by
  intro i _ y hy
  simp only [updL, El.at] at hy
  split at hy
  · simp only [List.set_cons_zero, List.mem_cons, List.not_mem_nil, or_false] at hy
    subst hy
    trivial
  · simp only [List.mem_cons, List.not_mem_nil, or_false] at hy
    subst hy
    trivial
theorem len_upd1 (f : Nat → Int) (a i : Nat) (x : Int) : ((updL (.fn fun i => [SV.i .i64 (f i)]) a 0 [SV.i .i64 x]).at i).length = 1 := by
  simp only [updL, El.at]
  split <;> simp

noncomputable def F_withinR : Fn0 := ⟨48, [i64, i64, i64], fun _ => True, fun l => match l with | [.z n, .z lo, .z hi] => .p (lo ≤ n ∧ n ≤ hi) | _ => .v undef⟩
noncomputable def A_withinR : List SV → List Dat → Nat → List SV → Ann := fun _ _ _ _ => noAnn

def V_withinR : Prop :=
  ∀ (B : RW) (n n_1 n_2 : Int), True → (n_1 ≤ n → Ob (n ≤ n_2 ↔ n_1 ≤ n ∧ n ≤ n_2) ∧ True) ∧ (¬n_1 ≤ n → Ob (false = true ↔ n_1 ≤ n ∧ n ≤ n_2) ∧ True)

set_option linter.unusedSimpArgs false in
set_option maxRecDepth 4000 in
set_option maxHeartbeats 400000 in
theorem v_withinR : V_withinR := by
  unfold V_withinR
  intros
  simp only [Ob_iff, and_true, true_and, InR] at *
  all_goals grind

theorem e_withinR : V_withinR = needF P [] A_withinR F_withinR := by kernel_rfl

theorem n_withinR : Ob (needF P [] A_withinR F_withinR) := by
  rw [← e_withinR]
  exact ⟨v_withinR⟩

theorem b_withinR : ((P.funcs[48]?).any fun fn => fn.body.isSome) = true := by kernel_rfl

theorem withinR_ok : Fn0.Ok P F_withinR := Fn0.ok named (l := []) (A := A_withinR) (by rfl) (by
  intro F h; simp at h) b_withinR (by
  intro ds N
  simp only [F_withinR]
  split <;> rfl) n_withinR

noncomputable def F_within : Fn0 := ⟨53, [i64, i64, i64], fun _ => True, fun l => match l with | [.z n, .z lo, .z hi] => .p (lo ≤ n ∧ n ≤ hi) | _ => .v undef⟩
noncomputable def A_within : List SV → List Dat → Nat → List SV → Ann := fun _ _ _ _ => noAnn

def V_within : Prop :=
  ∀ (B : RW) (n n_1 n_2 : Int), True → (n_1 ≤ n → Ob (n ≤ n_2 ↔ n_1 ≤ n ∧ n ≤ n_2) ∧ True) ∧ (¬n_1 ≤ n → Ob (false = true ↔ n_1 ≤ n ∧ n ≤ n_2) ∧ True)

set_option linter.unusedSimpArgs false in
set_option maxRecDepth 4000 in
set_option maxHeartbeats 400000 in
theorem v_within : V_within := by
  unfold V_within
  intros
  simp only [Ob_iff, and_true, true_and, InR] at *
  all_goals grind

theorem e_within : V_within = needF P [] A_within F_within := by kernel_rfl

theorem n_within : Ob (needF P [] A_within F_within) := by
  rw [← e_within]
  exact ⟨v_within⟩

theorem b_within : ((P.funcs[53]?).any fun fn => fn.body.isSome) = true := by kernel_rfl

theorem within_ok : Fn0.Ok P F_within := Fn0.ok named (l := []) (A := A_within) (by rfl) (by
  intro F h; simp at h) b_within (by
  intro ds N
  simp only [F_within]
  split <;> rfl) n_within

noncomputable def F_NetsR : FnE := ⟨34, none, [i64, .one (.l [.i64, .i64, .i64])], fun l => match l with | [.z N, .l C] => 1 ≤ N ∧ N ≤ 12 ∧ C.length ≤ 100 ∧ ∀ j, j < C.length → Clm N.toNat C j ∧ cell C j 2 ≤ 1000000000000 | _ => False, fun l => match l with | [.z N, .l C] => [.gsl 0 N.toNat 1 false] | _ => [], fun l => match l with | [.z N, .l C] => [.gr N.toNat 1 (.fn fun i => [.i .i64 (netTo C C.length i)]) .ex false] | _ => [], fun l => match l with | [.z N, .l C] => [] | _ => [], false, none⟩
noncomputable def A_NetsR : List SV → List Dat → Nat → List SV → Ann := fun xs ds n ts => match xs with
  | [.i _ _, .lst x _ _ _] => match ds with
    | [.z N, .l C] => match n with
      | 3 => ⟨Nat, fun k => [none, some (SV.lst x C.length ((3 : Nat)) (Rv.elemOf [IntKind.i64, IntKind.i64, IntKind.i64] C)), none, none, some (SV.v (Value.slice none ((0 : Nat)) ((0 : Nat)))), some (.gsl 0 N.toNat 1 false), some (.i .i64 k), none, none, none, none, none, none, none, none, none, none, none, none, none, none, none, none, none, none, none, none, none, none, none, none, none, none, none, none, none, none, none, none, none, none, none, none, none, none], fun k => [.gr N.toNat 1 (.fn fun i => [.i .i64 (netTo C k i)]) .ex false], fun k => k ≤ C.length, fun k => C.length - k, 0⟩
      | _ => noAnn
    | _ => noAnn
  | _ => noAnn

def V_NetsR : Prop :=
  ∀ (B : RW) (n : Int) (x : RV) (rows : List (List Int)), IsLst B x rows.length 3 (Rv.elemOf [.i64, .i64, .i64] rows) → oneB x = true → (∀ (row : List Int), row ∈ rows → row.length = (3 : Nat)) → F_NetsR.pre ([Dat.z n] ++
  ([Dat.l rows] ++ [])) → Ob (n = n ∧ (0 : Int) ≤ n ∧ n.toNat * (9 : Nat) ≤ (1099511627776 : Nat)) ∧ (∃ (a : Nat), Ob (a ≤ rows.length) ∧ Ob (SV.lst x rows.length 3 (Rv.elemOf [.i64, .i64, .i64] rows) = SV.lst x
  rows.length 3 (Rv.elemOf [.i64, .i64, .i64] rows)) ∧ Ob (SV.v (Value.slice none 0 0) = SV.v (Value.slice none 0 0)) ∧ Ob (n.toNat = n.toNat) ∧ Ob ((0 : Int) = (↑a : Int)) ∧ Ob (n.toNat = n.toNat ∧ ∀ (i : Nat), i <
  n.toNat → (El.fn fun (x : Nat) ↦ symL (List.map SV.v (Value.int .i64 (0 : Int)).cells.toList)).at i = (El.fn fun (i : Nat) ↦ [SV.i .i64 (netTo rows a i)]).at i) ∧ Ob (IsLst B x rows.length 3 (Rv.elemOf [.i64, .i64, .i64]
  rows)) ∧ Ob (PlainE n.toNat (El.fn fun (i : Nat) ↦ [SV.i .i64 (netTo rows a i)])) ∧ True) ∧ ∀ (a : Nat), a ≤ rows.length → ∀ (z z_1 z_2 z_3 z_4 z_5 z_6 z_7 z_8 z_9 z_10 z_11 z_12 z_13 z_14 z_15 z_16 z_17 z_18 z_19 z_20
  z_21 z_22 z_23 z_24 z_25 z_26 z_27 z_28 z_29 z_30 z_31 z_32 z_33 z_34 z_35 z_36 z_37 z_38 z_39 z_40 : Value), Ob (IsLst B x rows.length 3 (Rv.elemOf [.i64, .i64, .i64] rows)) ∧ ((↑a : Int) < (↑rows.length : Int) → Ob ((0
  : Int) ≤ (↑a : Int) ∧ a < rows.length ∧ IsLst B x rows.length 3 (Rv.elemOf [.i64, .i64, .i64] rows)) ∧ Ob (IsLst B x rows.length 3 (Rv.elemOf [.i64, .i64, .i64] rows) ∧ a < rows.length) ∧ Ob ((0 : Int) ≤ cell rows a 0 ∧
  (cell rows a 0).toNat < n.toNat) ∧ Ob ((cell rows a 0).toNat < n.toNat) ∧ Ob (InR .i64 (netTo rows a (cell rows a 0).toNat - cell rows a 2)) ∧ Ob ((0 : Int) ≤ cell rows a 1 ∧ (cell rows a 1).toNat < n.toNat) ∧ Ob ((cell
  rows a 1).toNat < n.toNat) ∧ Ob (InR .i64 (netTo rows a (cell rows a 1).toNat + cell rows a 2)) ∧ Ob ((0 : Int) ≤ cell rows a 0 ∧ (cell rows a 0).toNat < n.toNat) ∧ Ob ((cell rows a 0).toNat < n.toNat ∧ ((El.fn fun (i :
  Nat) ↦ [SV.i .i64 (netTo rows a i)]).at (cell rows a 0).toNat).length = (1 : Nat)) ∧ Ob (PlainE n.toNat (updL (El.fn fun (i : Nat) ↦ [SV.i .i64 (netTo rows a i)]) (cell rows a 0).toNat 0 [SV.i .i64 (netTo rows a (cell
  rows a 0).toNat - cell rows a 2)])) ∧ Ob ((0 : Int) ≤ cell rows a 1 ∧ (cell rows a 1).toNat < n.toNat) ∧ Ob ((cell rows a 1).toNat < n.toNat ∧ ((updL (El.fn fun (i : Nat) ↦ [SV.i .i64 (netTo rows a i)]) (cell rows a
  0).toNat 0 [SV.i .i64 (netTo rows a (cell rows a 0).toNat - cell rows a 2)]).at (cell rows a 1).toNat).length = (1 : Nat)) ∧ Ob (InR .i64 ((↑a : Int) + (1 : Int))) ∧ ∃ (a' : Nat), Ob (a' ≤ rows.length ∧ rows.length - a'
  < rows.length - a) ∧ Ob (SV.lst x rows.length 3 (Rv.elemOf [.i64, .i64, .i64] rows) = SV.lst x rows.length 3 (Rv.elemOf [.i64, .i64, .i64] rows)) ∧ Ob (SV.v (Value.slice none 0 0) = SV.v (Value.slice none 0 0)) ∧ Ob
  (n.toNat = n.toNat) ∧ Ob ((↑a : Int) + (1 : Int) = (↑a' : Int)) ∧ Ob (n.toNat = n.toNat ∧ ∀ (i : Nat), i < n.toNat → (updL (updL (El.fn fun (i : Nat) ↦ [SV.i .i64 (netTo rows a i)]) (cell rows a 0).toNat 0 [SV.i .i64
  (netTo rows a (cell rows a 0).toNat - cell rows a 2)]) (cell rows a 1).toNat 0 [SV.i .i64 (netTo rows a (cell rows a 1).toNat + cell rows a 2)]).at i = (El.fn fun (i : Nat) ↦ [SV.i .i64 (netTo rows a' i)]).at i) ∧ Ob
  (IsLst B x rows.length 3 (Rv.elemOf [.i64, .i64, .i64] rows)) ∧ Ob (PlainE n.toNat (El.fn fun (i : Nat) ↦ [SV.i .i64 (netTo rows a' i)])) ∧ True) ∧ (¬(↑a : Int) < (↑rows.length : Int) → Ob (n.toNat = n.toNat) ∧ Ob
  (n.toNat = n.toNat ∧ ∀ (i : Nat), i < n.toNat → (El.fn fun (i : Nat) ↦ [SV.i .i64 (netTo rows a i)]).at i = (El.fn fun (i : Nat) ↦ [SV.i .i64 (netTo rows rows.length i)]).at i) ∧ Ob (PlainE n.toNat (El.fn fun (i : Nat) ↦
  [SV.i .i64 (netTo rows rows.length i)])) ∧ True)

set_option linter.unusedSimpArgs false in
set_option maxRecDepth 4000 in
set_option maxHeartbeats 400000 in
theorem v_NetsR : V_NetsR := by
  unfold V_NetsR
  intro B N x C hx hox hrx ⟨h1, h2, h3, h4⟩
  simp only [Ob_iff, and_true, true_and]
  refine ⟨⟨by omega, by omega⟩, ⟨0, by omega, by omega, fun i _ => rfl, hx, plain_fn1 _ _⟩, ?_⟩
  intro k hk
  intros
  refine ⟨hx, fun h5 => ?_, fun h5 => ?_⟩
  · have hk' : k < C.length := by omega
    obtain ⟨c, c6⟩ := h4 k hk'
    obtain ⟨a, ea⟩ := Int.eq_ofNat_of_zero_le c.a0
    obtain ⟨b, eb⟩ := Int.eq_ofNat_of_zero_le c.b0
    have hab : a ≠ b := by
      have := c.ne
      omega
    have ha : a < N.toNat := by
      have := c.a1
      omega
    have hb : b < N.toNat := by
      have := c.b1
      omega
    have u := net_upd ea eb hab
    have na := net_bd (n := N.toNat) (C := C) (M := 1000000000000) (by omega) (k := k) (fun j hj => h4 j (by omega)) a
    have nb := net_bd (n := N.toNat) (C := C) (M := 1000000000000) (by omega) (k := k) (fun j hj => h4 j (by omega)) b
    have ta : (cell C k 0).toNat = a := by rw [ea]; rfl
    have tb : (cell C k 1).toNat = b := by rw [eb]; rfl
    have c0 := c.c0
    rw [ta, tb]
    have hkM : (k : Int) * 1000000000000 ≤ 100 * 1000000000000 := Int.mul_le_mul_of_nonneg_right (by omega) (by omega)
    have ra : InR .i64 (netTo C k a - cell C k 2) := by
      simp only [InR]
      omega
    have rb : InR .i64 (netTo C k b + cell C k 2) := by
      simp only [InR]
      omega
    have rk : InR .i64 ((k : Int) + 1) := by simp only [InR]; omega
    exact ⟨⟨by omega, hk', hx⟩, ⟨hx, hk'⟩, ⟨c.a0, ha⟩, ha, ra, ⟨c.b0, hb⟩, hb, rb, ⟨c.a0, ha⟩, ⟨ha, rfl⟩, plain_upd1, ⟨c.b0, hb⟩, ⟨hb, len_upd1 _ _ _ _⟩, rk, k + 1, ⟨by omega, by omega⟩, by omega, fun i _ => u i, hx, plain_fn1 _ _⟩
  · have e : k = C.length := by omega
    subst e
    exact ⟨fun _ _ => rfl, plain_fn1 _ _⟩

theorem e_NetsR : V_NetsR = needE P [] [] A_NetsR F_NetsR := by kernel_rfl

theorem n_NetsR : Ob (needE P [] [] A_NetsR F_NetsR) := by
  rw [← e_NetsR]
  exact ⟨v_NetsR⟩

theorem b_NetsR : ((P.funcs[34]?).any fun fn => fn.body.isSome) = true := by kernel_rfl

theorem NetsR_ok : FnE.Ok P F_NetsR := FnE.ok named (l := []) (es := []) (A := A_NetsR) (by rfl) (by rfl) (by rfl) (by
  intro F h; simp at h) (by
  intro F h; simp at h) b_NetsR (by
  intro ds h o ho n sz e k z he
  subst he
  simp only [F_NetsR] at ho
  split at ho
  · simp only [List.mem_cons, List.not_mem_nil, or_false, SObj.gr.injEq] at ho
    obtain ⟨rfl, rfl, rfl, rfl, rfl⟩ := ho
    exact plain_fn1 _ _
  · simp at ho) n_NetsR

end Go.Proofs.Ytjgllojnbinchaa.Sy
