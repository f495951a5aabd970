/- Claims that are settled: the program. -/
import Derived.Test.YthgpjpjflgeokaaSyP2
import Derived.Test.YthgpjpjflgeokaaGrM
import Derived.Test.YthgpjpjflgeokaaStM
import Derived.Test.YthgpjpjflgeokaaKtT
import Derived.Test.YthgpjpjflgeokaaKtA
import Derived.Test.YthgpjpjflgeokaaKtB
import Derived.Test.YthgpjpjflgeokaaKtS
import Derived.Test.YthgpjpjflgeokaaKtV
import Derived.Test.YthgpjpjflgeokaaSyP2
import Derived.KernelRfl
import Derived.Test.YthgpjpjflgeokaaProg
namespace Go.Proofs.Ythgpjpjflgeokaa.Sy
open Go Go.Rv
set_option linter.unusedVariables false

def valAt (e : El) (j : Nat) : Int := match e.at j with
  | [SV.i _ x] => x
  | _ => 0
def sgnP (g : Nat) (x : Int) : Prop := match g with
  | 19 => x < 0
  | _ => 0 < x

noncomputable def F_isIndex : Fn0 := ⟨27, [i64, i64], fun l => match l with | [.z n, .z m] => -1000 ≤ m ∧ m ≤ 1000 | _ => False, fun l => match l with | [.z n, .z m] => .p (0 ≤ n ∧ n ≤ m - 1) | _ => .v undef⟩
noncomputable def A_isIndex : List SV → List Dat → Nat → List SV → Ann := fun _ _ _ _ => noAnn

def V_isIndex : Prop :=
  ∀ (B : RW) (n n_1 : Int), (-1000 : Int) ≤ n_1 ∧ n_1 ≤ (1000 : Int) → Ob (InR .i64 (n_1 - (1 : Int))) ∧ Ob True ∧ Ob ((0 : Int) ≤ n ∧ n ≤ n_1 - (1 : Int) ↔ (0 : Int) ≤ n ∧ n ≤ n_1 - (1 : Int)) ∧ True

set_option linter.unusedSimpArgs false in
set_option maxRecDepth 4000 in
set_option maxHeartbeats 400000 in
theorem v_isIndex : V_isIndex := by
  unfold V_isIndex
  intro B n m h
  simp only [Ob_iff, and_true, true_and, InR]
  omega

theorem e_isIndex : V_isIndex = needF P [F_within] A_isIndex F_isIndex := by kernel_rfl

theorem n_isIndex : Ob (needF P [F_within] A_isIndex F_isIndex) := by
  rw [← e_isIndex]
  exact ⟨v_isIndex⟩

theorem b_isIndex : ((P.funcs[27]?).any fun fn => fn.body.isSome) = true := by kernel_rfl

theorem isIndex_ok : Fn0.Ok P F_isIndex := Fn0.ok named (l := [F_within]) (A := A_isIndex) (by rfl) (by
  intro F h
  simp only [List.mem_cons, List.not_mem_nil, or_false] at h
  rcases h with rfl
  · exact within_ok
) b_isIndex (by
  intro ds N
  simp only [F_isIndex]
  split <;> rfl) n_isIndex

noncomputable def F_ltz : Fn0 := ⟨19, [i64], fun _ => True, fun l => match l with | [.z n] => .p (n < 0) | _ => .v undef⟩
noncomputable def A_ltz : List SV → List Dat → Nat → List SV → Ann := fun _ _ _ _ => noAnn

def V_ltz : Prop :=
  ∀ (B : RW) (n : Int), True → Ob (n < (0 : Int) ↔ n < (0 : Int)) ∧ True

set_option linter.unusedSimpArgs false in
set_option maxRecDepth 4000 in
set_option maxHeartbeats 400000 in
theorem v_ltz : V_ltz := by
  unfold V_ltz
  intros
  exact ⟨⟨Iff.rfl⟩, trivial⟩

theorem e_ltz : V_ltz = needF P [] A_ltz F_ltz := by kernel_rfl

theorem n_ltz : Ob (needF P [] A_ltz F_ltz) := by
  rw [← e_ltz]
  exact ⟨v_ltz⟩

theorem b_ltz : ((P.funcs[19]?).any fun fn => fn.body.isSome) = true := by kernel_rfl

theorem ltz_ok : Fn0.Ok P F_ltz := Fn0.ok named (l := []) (A := A_ltz) (by rfl) (by
  intro F h; simp at h) b_ltz (by
  intro ds N
  simp only [F_ltz]
  split <;> rfl) n_ltz

noncomputable def F_gtz : Fn0 := ⟨20, [i64], fun _ => True, fun l => match l with | [.z n] => .p (0 < n) | _ => .v undef⟩
noncomputable def A_gtz : List SV → List Dat → Nat → List SV → Ann := fun _ _ _ _ => noAnn

def V_gtz : Prop :=
  ∀ (B : RW) (n : Int), True → Ob ((0 : Int) < n ↔ (0 : Int) < n) ∧ True

set_option linter.unusedSimpArgs false in
set_option maxRecDepth 4000 in
set_option maxHeartbeats 400000 in
theorem v_gtz : V_gtz := by
  unfold V_gtz
  intros
  exact ⟨⟨Iff.rfl⟩, trivial⟩

theorem e_gtz : V_gtz = needF P [] A_gtz F_gtz := by kernel_rfl

theorem n_gtz : Ob (needF P [] A_gtz F_gtz) := by
  rw [← e_gtz]
  exact ⟨v_gtz⟩

theorem b_gtz : ((P.funcs[20]?).any fun fn => fn.body.isSome) = true := by kernel_rfl

theorem gtz_ok : Fn0.Ok P F_gtz := Fn0.ok named (l := []) (A := A_gtz) (by rfl) (by
  intro F h; simp at h) b_gtz (by
  intro ds N
  simp only [F_gtz]
  split <;> rfl) n_gtz

noncomputable def F_netOf : FnE := ⟨17, none, [i64, .one (.l [.i64, .i64, .i64])], fun l => match l with | [.z N, .l C] => 1 ≤ N ∧ N ≤ 12 ∧ C.length ≤ 100 ∧ ∀ j, j < C.length → Clm N.toNat C j ∧ cell C j 2 ≤ 1000000000000 | _ => False, fun l => match l with | [.z N, .l C] => [.gsl 0 N.toNat 1 false] | _ => [], fun l => match l with | [.z N, .l C] => [.gr N.toNat 1 (.fn fun i => [.i .i64 (netTo C C.length i)]) .ex false] | _ => [], fun l => match l with | [.z N, .l C] => [] | _ => [], false, none⟩
noncomputable def A_netOf : List SV → List Dat → Nat → List SV → Ann := fun xs ds n ts => match xs with
  | [.i _ _, .lst x _ _ _] => match ds with
    | [.z N, .l C] => match n with
      | 3 => ⟨Nat, fun k => [none, none, none, none, some (SV.v (Value.slice none ((0 : Nat)) ((0 : Nat)))), some (.gsl 0 N.toNat 1 false), none, none, none, none, some (SV.lst x C.length ((3 : Nat)) (Rv.elemOf [IntKind.i64, IntKind.i64, IntKind.i64] C)), some (SV.i IntKind.i64 (↑C.length : Int)), some (.i .i64 k), none, none, none, none, none, none, none, none, none, none, none, none, none, none, none, none, none, none, none, none, none, none, none], fun k => [.gr N.toNat 1 (.fn fun i => [.i .i64 (netTo C k i)]) .ex false], fun k => k ≤ C.length, fun k => C.length - k, 0⟩
      | _ => noAnn
    | _ => noAnn
  | _ => noAnn

def V_netOf : Prop :=
  ∀ (B : RW) (n : Int) (x : RV) (rows : List (List Int)), IsLst B x rows.length 3 (Rv.elemOf [.i64, .i64, .i64] rows) → oneB x = true → (∀ (row : List Int), row ∈ rows → row.length = (3 : Nat)) → F_netOf.pre ([Dat.z n] ++
  ([Dat.l rows] ++ [])) → Ob (n = n ∧ (0 : Int) ≤ n ∧ n.toNat * (9 : Nat) ≤ (1099511627776 : Nat)) ∧ Ob (IsLst B x rows.length 3 (Rv.elemOf [.i64, .i64, .i64] rows)) ∧ (∃ (a : Nat), Ob (a ≤ rows.length) ∧ Ob (SV.v
  (Value.slice none 0 0) = SV.v (Value.slice none 0 0)) ∧ Ob (n.toNat = n.toNat) ∧ Ob (SV.lst x rows.length 3 (Rv.elemOf [.i64, .i64, .i64] rows) = SV.lst x rows.length 3 (Rv.elemOf [.i64, .i64, .i64] rows)) ∧ Ob
  ((↑rows.length : Int) = (↑rows.length : Int)) ∧ Ob ((0 : Int) = (↑a : Int)) ∧ Ob (n.toNat = n.toNat ∧ ∀ (i : Nat), i < n.toNat → (El.fn fun (x : Nat) ↦ symL (List.map SV.v (Value.int .i64 (0 : Int)).cells.toList)).at i =
  (El.fn fun (i : Nat) ↦ [SV.i .i64 (netTo rows a i)]).at i) ∧ Ob (IsLst B x rows.length 3 (Rv.elemOf [.i64, .i64, .i64] rows)) ∧ Ob (PlainE n.toNat (El.fn fun (i : Nat) ↦ [SV.i .i64 (netTo rows a i)])) ∧ True) ∧ ∀ (a :
  Nat), a ≤ rows.length → ∀ (z z_1 z_2 z_3 z_4 z_5 z_6 z_7 z_8 z_9 z_10 z_11 z_12 z_13 z_14 z_15 z_16 z_17 z_18 z_19 z_20 z_21 z_22 z_23 z_24 z_25 z_26 z_27 z_28 z_29 z_30 : Value), ((↑a : Int) < (↑rows.length : Int) → Ob
  ((0 : Int) ≤ (↑a : Int) ∧ a < rows.length ∧ IsLst B x rows.length 3 (Rv.elemOf [.i64, .i64, .i64] rows)) ∧ Ob (IsLst B x rows.length 3 (Rv.elemOf [.i64, .i64, .i64] rows) ∧ a < rows.length) ∧ Ob ((0 : Int) ≤ cell rows a
  0 ∧ (cell rows a 0).toNat < n.toNat) ∧ Ob ((cell rows a 0).toNat < n.toNat) ∧ Ob (InR .i64 (netTo rows a (cell rows a 0).toNat - cell rows a 2)) ∧ Ob ((0 : Int) ≤ cell rows a 0 ∧ (cell rows a 0).toNat < n.toNat) ∧ Ob
  ((cell rows a 0).toNat < n.toNat ∧ ((El.fn fun (i : Nat) ↦ [SV.i .i64 (netTo rows a i)]).at (cell rows a 0).toNat).length = (1 : Nat)) ∧ Ob ((0 : Int) ≤ cell rows a 1 ∧ (cell rows a 1).toNat < n.toNat) ∧ Ob ((cell rows a
  1).toNat < n.toNat) ∧ ((cell rows a 1).toNat = (cell rows a 0).toNat → Ob (InR .i64 (netTo rows a (cell rows a 0).toNat - cell rows a 2 + cell rows a 2)) ∧ Ob ((0 : Int) ≤ cell rows a 1 ∧ (cell rows a 1).toNat < n.toNat)
  ∧ Ob ((cell rows a 1).toNat < n.toNat ∧ ((updL (El.fn fun (i : Nat) ↦ [SV.i .i64 (netTo rows a i)]) (cell rows a 0).toNat 0 [SV.i .i64 (netTo rows a (cell rows a 0).toNat - cell rows a 2)]).at (cell rows a
  1).toNat).length = (1 : Nat)) ∧ Ob (InR .i64 ((↑a : Int) + (1 : Int))) ∧ ∃ (a' : Nat), Ob (a' ≤ rows.length ∧ rows.length - a' < rows.length - a) ∧ Ob (SV.v (Value.slice none 0 0) = SV.v (Value.slice none 0 0)) ∧ Ob
  (n.toNat = n.toNat) ∧ Ob (SV.lst x rows.length 3 (Rv.elemOf [.i64, .i64, .i64] rows) = SV.lst x rows.length 3 (Rv.elemOf [.i64, .i64, .i64] rows)) ∧ Ob ((↑rows.length : Int) = (↑rows.length : Int)) ∧ Ob ((↑a : Int) + (1
  : Int) = (↑a' : Int)) ∧ Ob (n.toNat = n.toNat ∧ ∀ (i : Nat), i < n.toNat → (updL (updL (El.fn fun (i : Nat) ↦ [SV.i .i64 (netTo rows a i)]) (cell rows a 0).toNat 0 [SV.i .i64 (netTo rows a (cell rows a 0).toNat - cell
  rows a 2)]) (cell rows a 1).toNat 0 [SV.i .i64 (netTo rows a (cell rows a 0).toNat - cell rows a 2 + cell rows a 2)]).at i = (El.fn fun (i : Nat) ↦ [SV.i .i64 (netTo rows a' i)]).at i) ∧ Ob (IsLst B x rows.length 3
  (Rv.elemOf [.i64, .i64, .i64] rows)) ∧ Ob (PlainE n.toNat (El.fn fun (i : Nat) ↦ [SV.i .i64 (netTo rows a' i)])) ∧ True) ∧ (¬(cell rows a 1).toNat = (cell rows a 0).toNat → Ob (InR .i64 (netTo rows a (cell rows a
  1).toNat + cell rows a 2)) ∧ Ob ((0 : Int) ≤ cell rows a 1 ∧ (cell rows a 1).toNat < n.toNat) ∧ Ob ((cell rows a 1).toNat < n.toNat ∧ ((updL (El.fn fun (i : Nat) ↦ [SV.i .i64 (netTo rows a i)]) (cell rows a 0).toNat 0
  [SV.i .i64 (netTo rows a (cell rows a 0).toNat - cell rows a 2)]).at (cell rows a 1).toNat).length = (1 : Nat)) ∧ Ob (InR .i64 ((↑a : Int) + (1 : Int))) ∧ ∃ (a' : Nat), Ob (a' ≤ rows.length ∧ rows.length - a' <
  rows.length - a) ∧ Ob (SV.v (Value.slice none 0 0) = SV.v (Value.slice none 0 0)) ∧ Ob (n.toNat = n.toNat) ∧ Ob (SV.lst x rows.length 3 (Rv.elemOf [.i64, .i64, .i64] rows) = SV.lst x rows.length 3 (Rv.elemOf [.i64, .i64,
  .i64] rows)) ∧ Ob ((↑rows.length : Int) = (↑rows.length : Int)) ∧ Ob ((↑a : Int) + (1 : Int) = (↑a' : Int)) ∧ Ob (n.toNat = n.toNat ∧ ∀ (i : Nat), i < n.toNat → (updL (updL (El.fn fun (i : Nat) ↦ [SV.i .i64 (netTo rows a
  i)]) (cell rows a 0).toNat 0 [SV.i .i64 (netTo rows a (cell rows a 0).toNat - cell rows a 2)]) (cell rows a 1).toNat 0 [SV.i .i64 (netTo rows a (cell rows a 1).toNat + cell rows a 2)]).at i = (El.fn fun (i : Nat) ↦ [SV.i
  .i64 (netTo rows a' i)]).at i) ∧ Ob (IsLst B x rows.length 3 (Rv.elemOf [.i64, .i64, .i64] rows)) ∧ Ob (PlainE n.toNat (El.fn fun (i : Nat) ↦ [SV.i .i64 (netTo rows a' i)])) ∧ True)) ∧ (¬(↑a : Int) < (↑rows.length : Int)
  → Ob (n.toNat = n.toNat) ∧ Ob (n.toNat = n.toNat ∧ ∀ (i : Nat), i < n.toNat → (El.fn fun (i : Nat) ↦ [SV.i .i64 (netTo rows a i)]).at i = (El.fn fun (i : Nat) ↦ [SV.i .i64 (netTo rows rows.length i)]).at i) ∧ Ob (PlainE
  n.toNat (El.fn fun (i : Nat) ↦ [SV.i .i64 (netTo rows rows.length i)])) ∧ True)

set_option linter.unusedSimpArgs false in
set_option maxRecDepth 4000 in
set_option maxHeartbeats 400000 in
theorem v_netOf : V_netOf := by
  unfold V_netOf
  intro B N x C hx hox hrx ⟨h1, h2, h3, h4⟩
  simp only [Ob_iff, and_true, true_and]
  refine ⟨⟨by omega, by omega⟩, hx, ⟨0, by omega, by omega, fun i _ => rfl, hx, plain_fn1 _ _⟩, ?_⟩
  intro k hk
  intros
  refine ⟨fun h5 => ?_, fun h5 => ?_⟩
  · have hk' : k < C.length := by omega
    obtain ⟨c, c6⟩ := h4 k hk'
    obtain ⟨a, ea⟩ := Int.eq_ofNat_of_zero_le c.a0
    obtain ⟨b, eb⟩ := Int.eq_ofNat_of_zero_le c.b0
    have hab : a ≠ b := by
      have := c.ne
      omega
    have ha : a < N.toNat := by
      have := c.a1
      omega
    have hb : b < N.toNat := by
      have := c.b1
      omega
    have u := net_upd ea eb hab
    have na := net_bd (n := N.toNat) (C := C) (M := 1000000000000) (by omega) (k := k) (fun j hj => h4 j (by omega)) a
    have nb := net_bd (n := N.toNat) (C := C) (M := 1000000000000) (by omega) (k := k) (fun j hj => h4 j (by omega)) b
    have ta : (cell C k 0).toNat = a := by rw [ea]; rfl
    have tb : (cell C k 1).toNat = b := by rw [eb]; rfl
    have c0 := c.c0
    rw [ta, tb]
    have hkM : (k : Int) * 1000000000000 ≤ 100 * 1000000000000 := Int.mul_le_mul_of_nonneg_right (by omega) (by omega)
    have ra : InR .i64 (netTo C k a - cell C k 2) := by
      simp only [InR]
      omega
    have rb : InR .i64 (netTo C k b + cell C k 2) := by
      simp only [InR]
      omega
    have rk : InR .i64 ((k : Int) + 1) := by simp only [InR]; omega
    exact ⟨⟨by omega, hk', hx⟩, ⟨hx, hk'⟩, ⟨c.a0, ha⟩, ha, ra, ⟨c.a0, ha⟩, ⟨ha, rfl⟩, ⟨c.b0, hb⟩, hb, fun e => absurd e.symm hab, fun _ => ⟨rb, ⟨c.b0, hb⟩, ⟨hb, len_upd1 _ _ _ _⟩, rk, k + 1, ⟨by omega, by omega⟩, by omega, fun i _ => u i, hx, plain_fn1 _ _⟩⟩
  · have e : k = C.length := by omega
    subst e
    exact ⟨fun _ _ => rfl, plain_fn1 _ _⟩

theorem e_netOf : V_netOf = needE P [] [] A_netOf F_netOf := by kernel_rfl

theorem n_netOf : Ob (needE P [] [] A_netOf F_netOf) := by
  rw [← e_netOf]
  exact ⟨v_netOf⟩

theorem b_netOf : ((P.funcs[17]?).any fun fn => fn.body.isSome) = true := by kernel_rfl

theorem netOf_ok : FnE.Ok P F_netOf := FnE.ok named (l := []) (es := []) (A := A_netOf) (by rfl) (by rfl) (by rfl) (by
  intro F h; simp at h) (by
  intro F h; simp at h) b_netOf (by
  intro ds h o ho n sz e k z he
  subst he
  simp only [F_netOf] at ho
  split at ho
  · simp only [List.mem_cons, List.not_mem_nil, or_false, SObj.gr.injEq] at ho
    obtain ⟨rfl, rfl, rfl, rfl, rfl⟩ := ho
    exact plain_fn1 _ _
  · simp at ho) n_netOf

noncomputable def F_checkClaims : Fn0 := ⟨16, [i64, .one (.l [.i64, .i64, .i64])], fun l => match l with | [.z N, .l C] => C.length ≤ 4000000 | _ => False, fun l => match l with | [.z N, .l C] => .i .i64 (clmErr N C) | _ => .v undef⟩
noncomputable def A_checkClaims : List SV → List Dat → Nat → List SV → Ann := fun xs ds n ts => match xs with
  | [.i _ _, .lst x _ _ _] => match ds with
    | [.z N, .l C] => match n with
      | 6 => ⟨Nat, fun k => [some (SV.i IntKind.i64 N), none, none, none, none, none, none, none, none, none, none, none, none, none, none, some (SV.lst x C.length ((3 : Nat)) (Rv.elemOf [IntKind.i64, IntKind.i64, IntKind.i64] C)), some (SV.i IntKind.i64 (↑C.length : Int)), some (.i .i64 k), none, none, none, none, none, none, none, none, none, none, none, none, none, none, none, none, none, none, none, none, none, none, none, none, none, none, none, none], fun k => [], fun k => k ≤ C.length ∧ clmTo N C k = 0, fun k => C.length - k, 0⟩
      | _ => noAnn
    | _ => noAnn
  | _ => noAnn

def V_checkClaims : Prop :=
  ∀ (B : RW) (n : Int) (x : RV) (rows : List (List Int)), IsLst B x rows.length 3 (Rv.elemOf [.i64, .i64, .i64] rows) → oneB x = true → (∀ (row : List Int), row ∈ rows → row.length = (3 : Nat)) → rows.length ≤ (4000000 :
  Nat) → Ob True ∧ (¬((1 : Int) ≤ n ∧ n ≤ (12 : Int)) → Ob ((1 : Int) = clmErr n rows) ∧ True) ∧ (¬¬((1 : Int) ≤ n ∧ n ≤ (12 : Int)) → Ob (IsLst B x rows.length 3 (Rv.elemOf [.i64, .i64, .i64] rows)) ∧ ((40 : Int) <
  (↑rows.length : Int) → Ob ((5 : Int) = clmErr n rows) ∧ True) ∧ (¬(40 : Int) < (↑rows.length : Int) → Ob (IsLst B x rows.length 3 (Rv.elemOf [.i64, .i64, .i64] rows)) ∧ (∃ (a : Nat), Ob (a ≤ rows.length ∧ clmTo n rows a
  = (0 : Int)) ∧ Ob (n = n) ∧ Ob (SV.lst x rows.length 3 (Rv.elemOf [.i64, .i64, .i64] rows) = SV.lst x rows.length 3 (Rv.elemOf [.i64, .i64, .i64] rows)) ∧ Ob ((↑rows.length : Int) = (↑rows.length : Int)) ∧ Ob ((0 : Int)
  = (↑a : Int)) ∧ Ob (IsLst B x rows.length 3 (Rv.elemOf [.i64, .i64, .i64] rows)) ∧ True) ∧ ∀ (a : Nat), a ≤ rows.length ∧ clmTo n rows a = (0 : Int) → ∀ (z z_1 z_2 z_3 z_4 z_5 z_6 z_7 z_8 z_9 z_10 z_11 z_12 z_13 z_14
  z_15 z_16 z_17 z_18 z_19 z_20 z_21 z_22 z_23 z_24 z_25 z_26 z_27 z_28 z_29 z_30 z_31 z_32 z_33 z_34 z_35 z_36 z_37 z_38 z_39 z_40 z_41 : Value), ((↑a : Int) < (↑rows.length : Int) → Ob ((0 : Int) ≤ (↑a : Int) ∧ a <
  rows.length ∧ IsLst B x rows.length 3 (Rv.elemOf [.i64, .i64, .i64] rows)) ∧ Ob (IsLst B x rows.length 3 (Rv.elemOf [.i64, .i64, .i64] rows) ∧ a < rows.length) ∧ Ob ((-1000 : Int) ≤ n ∧ n ≤ (1000 : Int)) ∧ (¬¬((0 : Int)
  ≤ cell rows a 0 ∧ cell rows a 0 ≤ n - (1 : Int)) → Ob ((-1000 : Int) ≤ n ∧ n ≤ (1000 : Int)) ∧ (¬((0 : Int) ≤ cell rows a 1 ∧ cell rows a 1 ≤ n - (1 : Int)) → Ob ((6 : Int) = clmErr n rows) ∧ True) ∧ (¬¬((0 : Int) ≤ cell
  rows a 1 ∧ cell rows a 1 ≤ n - (1 : Int)) → (cell rows a 0 = cell rows a 1 → Ob ((2 : Int) = clmErr n rows) ∧ True) ∧ (¬cell rows a 0 = cell rows a 1 → Ob True ∧ (¬((1 : Int) ≤ cell rows a 2 ∧ cell rows a 2 ≤ (1000000000
  : Int)) → Ob ((1 : Int) = clmErr n rows) ∧ True) ∧ (¬¬((1 : Int) ≤ cell rows a 2 ∧ cell rows a 2 ≤ (1000000000 : Int)) → Ob (InR .i64 ((↑a : Int) + (1 : Int))) ∧ ∃ (a' : Nat), Ob ((a' ≤ rows.length ∧ clmTo n rows a' = (0
  : Int)) ∧ rows.length - a' < rows.length - a) ∧ Ob (n = n) ∧ Ob (SV.lst x rows.length 3 (Rv.elemOf [.i64, .i64, .i64] rows) = SV.lst x rows.length 3 (Rv.elemOf [.i64, .i64, .i64] rows)) ∧ Ob ((↑rows.length : Int) =
  (↑rows.length : Int)) ∧ Ob ((↑a : Int) + (1 : Int) = (↑a' : Int)) ∧ Ob (IsLst B x rows.length 3 (Rv.elemOf [.i64, .i64, .i64] rows)) ∧ True)))) ∧ (¬((0 : Int) ≤ cell rows a 0 ∧ cell rows a 0 ≤ n - (1 : Int)) → Ob ((6 :
  Int) = clmErr n rows) ∧ True)) ∧ (¬(↑a : Int) < (↑rows.length : Int) → Ob ((0 : Int) = clmErr n rows) ∧ True)))

set_option linter.unusedSimpArgs false in
set_option maxRecDepth 4000 in
set_option maxHeartbeats 400000 in
theorem v_checkClaims : V_checkClaims := by
  unfold V_checkClaims
  intro B N x C hx hox hrx hC
  have hC : C.length ≤ 4000000 := hC
  simp only [Ob_iff, and_true, true_and]
  refine ⟨fun h1 => by unfold clmErr; rw [if_neg h1], fun h1 => ?_⟩
  have hN : 1 ≤ N ∧ N ≤ 12 := Classical.not_not.1 h1
  refine ⟨hx, fun h2 => by unfold clmErr; rw [if_pos hN, if_pos (by omega)], fun h2 => ?_⟩
  have hl : ¬ 40 < C.length := by omega
  refine ⟨hx, ⟨0, ⟨by omega, rfl⟩, rfl, hx⟩, ?_⟩
  intro k ⟨hk, hk0⟩
  intros
  refine ⟨fun h3 => ?_, fun h3 => ?_⟩
  · have hk' : k < C.length := by omega
    have at6 : ¬ (0 ≤ cell C k 0 ∧ cell C k 0 ≤ N - 1 ∧ 0 ≤ cell C k 1 ∧ cell C k 1 ≤ N - 1) → clmAt N C k = 6 := fun h => by unfold clmAt; rw [if_neg h]
    refine ⟨⟨by omega, hk', hx⟩, ⟨hx, hk'⟩, by omega, fun h4 => ?_, fun h4 => (clm_err_at hN hl hk' hk0 (at6 fun h => h4 ⟨h.1, h.2.1⟩) (by decide)).symm⟩
    have h4 := Classical.not_not.1 h4
    refine ⟨by omega, fun h5 => (clm_err_at hN hl hk' hk0 (at6 fun h => h5 h.2.2) (by decide)).symm, fun h5 => ?_⟩
    have h5 := Classical.not_not.1 h5
    have hin : 0 ≤ cell C k 0 ∧ cell C k 0 ≤ N - 1 ∧ 0 ≤ cell C k 1 ∧ cell C k 1 ≤ N - 1 := ⟨h4.1, h4.2, h5⟩
    refine ⟨fun h6 => (clm_err_at hN hl hk' hk0 (by unfold clmAt; rw [if_pos hin, if_pos h6]) (by decide)).symm, fun h6 => ?_⟩
    refine ⟨fun h7 => (clm_err_at hN hl hk' hk0 (by unfold clmAt; rw [if_pos hin, if_neg h6, if_neg h7]) (by decide)).symm, fun h7 => ?_⟩
    have h7 := Classical.not_not.1 h7
    have e0 : clmTo N C (k + 1) = 0 := by
      show (if clmTo N C k = 0 then clmAt N C k else clmTo N C k) = 0
      rw [if_pos hk0]
      unfold clmAt
      rw [if_pos hin, if_neg h6, if_pos h7]
    exact ⟨by simp only [InR]; omega, k + 1, ⟨⟨by omega, e0⟩, by omega⟩, by omega, hx⟩
  have ek : k = C.length := by omega
  subst ek
  unfold clmErr
  rw [if_pos hN, if_neg hl]
  exact hk0.symm

theorem e_checkClaims : V_checkClaims = needF P [F_within, F_isIndex] A_checkClaims F_checkClaims := by kernel_rfl

theorem n_checkClaims : Ob (needF P [F_within, F_isIndex] A_checkClaims F_checkClaims) := by
  rw [← e_checkClaims]
  exact ⟨v_checkClaims⟩

theorem b_checkClaims : ((P.funcs[16]?).any fun fn => fn.body.isSome) = true := by kernel_rfl

theorem checkClaims_ok : Fn0.Ok P F_checkClaims := Fn0.ok named (l := [F_within, F_isIndex]) (A := A_checkClaims) (by rfl) (by
  intro F h
  simp only [List.mem_cons, List.not_mem_nil, or_false] at h
  rcases h with rfl | rfl
  · exact within_ok
  · exact isIndex_ok
) b_checkClaims (by
  intro ds N
  simp only [F_checkClaims]
  split <;> rfl) n_checkClaims

noncomputable def F_Settle : FnE := ⟨8, none, [i64, .one (.l [.i64, .i64, .i64])], fun l => match l with | [.z N, .l C] => C.length ≤ 4000000 | _ => False, fun l => match l with | [.z N, .l C] => [.gsl 0 (stlR N C).length 3 true, .i .i64 (clmErr N C)] | _ => [], fun l => match l with | [.z N, .l C] => [.gr (stlR N C).length 3 (.fn (Rv.elemOf [.i64, .i64, .i64] (stlR N C))) .gr true] | _ => [], fun l => match l with | [.z N, .l C] => [] | _ => [], false, none⟩
noncomputable def A_Settle : List SV → List Dat → Nat → List SV → Ann := fun xs ds n ts => match xs with
  | [.i _ _, .lst x _ _ _] => match ds with
    | [.z N, .l C] => match n with
      | 6 => ⟨Rows, fun R => [none, none, none, none, none, none, none, some (.gsl 0 N.toNat 1 false), some (.gsl 1 R.length 3 true), none, none, none, none, none, none, none, none, none, none, none, none, none, none, none, none, none, none, none, none, none, none, none, none, none, none, none, none, none, none, none, none, none, none, none, none, none, none, none, none, none, none, none, none, none, none, none, none, none, none], fun R => [.gr R.length 3 (.fn (Rv.elemOf [.i64, .i64, .i64] R)) .gr true, .gr N.toNat 1 (.fn fun i => [.i .i64 (lft (netTo C C.length) R R.length i)]) .ex false], fun R => PayTo N.toNat (netTo C C.length) R, fun R => nzF (lft (netTo C C.length) R R.length) N.toNat, 0⟩
      | _ => noAnn
    | _ => noAnn
  | _ => noAnn
noncomputable def A_Settle_1 : List SV → List Dat → List SV → List SObj → Nat → List SV → Ann := fun xs ds ar bs n ts => match xs with
  | [.i _ _, .lst x _ _ _] => match ds with
    | [.z N, .l C] => match n with
      | 2 => (match lget ts 1 with | some (SV.v (Value.func (.func g) fa fc)) => (match lget bs.reverse 1 with | some (b1) => (match lget bs.reverse 0 with | some (.gr n0 1 e0 k0 z0) => ⟨Nat, fun i => [some (SV.gsl ((0 : Nat)) N.toNat ((1 : Nat)) false), some (SV.v (Value.func (.func g) fa fc)), none, none, none, none, none, some (SV.i IntKind.i64 (↑N.toNat : Int)), some (.i .i64 i), none, none, none, none, none, none, none, none, none, none], fun i => [b1, .gr n0 1 e0 k0 z0], fun i => i ≤ n0 ∧ ∀ j, j < i → ¬ sgnP g (valAt e0 j), fun i => n0 - i, 0⟩ | _ => noAnn) | _ => noAnn) | _ => noAnn)
      | _ => noAnn
    | _ => noAnn
  | _ => noAnn
noncomputable def I_Settle : List SV → List Dat → List In := fun xs ds => [⟨18, A_Settle_1 xs ds⟩]

def V_Settle : Prop :=
  ∀ (B : RW) (n : Int) (x : RV) (rows : List (List Int)), IsLst B x rows.length 3 (Rv.elemOf [.i64, .i64, .i64] rows) → oneB x = true → (∀ (row : List Int), row ∈ rows → row.length = (3 : Nat)) → F_Settle.pre ([Dat.z n] ++
  ([Dat.l rows] ++ [])) → ∃ (rows_1 : List (List Int)), Ob (IsLst B x rows.length 3 (Rv.elemOf [.i64, .i64, .i64] rows) ∧ rows_1.length = rows.length ∧ (∀ (r : List Int), r ∈ rows_1 → r.length = (3 : Nat)) ∧ ∀ (i : Nat), i
  < rows.length → Rv.elemOf [.i64, .i64, .i64] rows i = Rv.elemOf [.i64, .i64, .i64] rows_1 i) ∧ Ob (rows_1.length ≤ (4000000 : Nat)) ∧ (¬clmErr n rows_1 = (0 : Int) → Ob (List.length (stlR n rows) = (0 : Nat)) ∧ Ob
  (clmErr n rows_1 = clmErr n rows) ∧ Ob (List.length (stlR n rows) = (0 : Nat)) ∧ Ob (PlainE (List.length (stlR n rows)) (El.fn (Rv.elemOf [.i64, .i64, .i64] (stlR n rows)))) ∧ True) ∧ (¬¬clmErr n rows_1 = (0 : Int) → ∃
  (rows_2 : List (List Int)), Ob (IsLst B x rows.length 3 (Rv.elemOf [.i64, .i64, .i64] rows) ∧ rows_2.length = rows.length ∧ (∀ (r : List Int), r ∈ rows_2 → r.length = (3 : Nat)) ∧ ∀ (i : Nat), i < rows.length → Rv.elemOf
  [.i64, .i64, .i64] rows i = Rv.elemOf [.i64, .i64, .i64] rows_2 i) ∧ Ob (F_netOf.pre [Dat.z n, Dat.l rows_2]) ∧ (∃ (a : Rows), Ob (PayTo n.toNat (netTo rows rows.length) a) ∧ Ob (n.toNat = n.toNat) ∧ Ob (List.length a =
  (0 : Nat)) ∧ Ob (List.length a = (0 : Nat)) ∧ Ob (n.toNat = n.toNat ∧ ∀ (i : Nat), i < n.toNat → (El.fn fun (i : Nat) ↦ [SV.i .i64 (netTo rows_2 rows_2.length i)]).at i = (El.fn fun (i : Nat) ↦ [SV.i .i64 (lft (netTo
  rows rows.length) a (List.length a) i)]).at i) ∧ Ob (PlainE (List.length a) (El.fn (Rv.elemOf [.i64, .i64, .i64] a))) ∧ Ob (PlainE n.toNat (El.fn fun (i : Nat) ↦ [SV.i .i64 (lft (netTo rows rows.length) a (List.length a)
  i)])) ∧ True) ∧ ∀ (a : Rows), PayTo n.toNat (netTo rows rows.length) a → ∀ (z z_1 z_2 z_3 z_4 z_5 z_6 z_7 z_8 z_9 z_10 z_11 z_12 z_13 z_14 z_15 z_16 z_17 z_18 z_19 z_20 z_21 z_22 z_23 z_24 z_25 z_26 z_27 z_28 z_29 z_30
  z_31 z_32 z_33 z_34 z_35 z_36 z_37 z_38 z_39 z_40 z_41 z_42 z_43 z_44 z_45 z_46 z_47 z_48 z_49 z_50 z_51 z_52 z_53 z_54 z_55 z_56 : Value), (∃ (a_1 : Nat), Ob (a_1 ≤ n.toNat ∧ ∀ (j : Nat), j < a_1 → ¬sgnP 19 (valAt
  (El.fn fun (i : Nat) ↦ [SV.i .i64 (lft (netTo rows rows.length) a (List.length a) i)]) j)) ∧ Ob (n.toNat = n.toNat) ∧ Ob (SV.v (Value.func (Fn.func 19) #[] #[]) = SV.v (Value.func (Fn.func 19) #[] #[])) ∧ Ob ((↑n.toNat :
  Int) = (↑n.toNat : Int)) ∧ Ob ((0 : Int) = (↑a_1 : Int)) ∧ Ob (List.length a = List.length a ∧ ∀ (i : Nat), i < List.length a → (El.fn (Rv.elemOf [.i64, .i64, .i64] a)).at i = (El.fn (Rv.elemOf [.i64, .i64, .i64] a)).at
  i) ∧ Ob (n.toNat = n.toNat ∧ ∀ (i : Nat), i < n.toNat → (El.fn fun (i : Nat) ↦ [SV.i .i64 (lft (netTo rows rows.length) a (List.length a) i)]).at i = (El.fn fun (i : Nat) ↦ [SV.i .i64 (lft (netTo rows rows.length) a
  (List.length a) i)]).at i) ∧ Ob (PlainE (List.length a) (El.fn (Rv.elemOf [.i64, .i64, .i64] a))) ∧ Ob (PlainE n.toNat (El.fn fun (i : Nat) ↦ [SV.i .i64 (lft (netTo rows rows.length) a (List.length a) i)])) ∧ True) ∧ ∀
  (a_1 : Nat), (a_1 ≤ n.toNat ∧ ∀ (j : Nat), j < a_1 → ¬sgnP 19 (valAt (El.fn fun (i : Nat) ↦ [SV.i .i64 (lft (netTo rows rows.length) a (List.length a) i)]) j)) → ∀ (z_57 z_58 z_59 z_60 z_61 z_62 z_63 z_64 z_65 z_66 z_67
  z_68 z_69 z_70 z_71 : Value), ((↑a_1 : Int) < (↑n.toNat : Int) → Ob ((0 : Int) ≤ (↑a_1 : Int) ∧ a_1 < n.toNat) ∧ Ob (a_1 < n.toNat) ∧ Ob True ∧ (lft (netTo rows rows.length) a (List.length a) a_1 < (0 : Int) → ((↑a_1 :
  Int) < (0 : Int) → Ob (List.length a = List.length (stlR n rows)) ∧ Ob ((0 : Int) = clmErr n rows) ∧ Ob (List.length a = List.length (stlR n rows) ∧ ∀ (i : Nat), i < List.length (stlR n rows) → (El.fn (Rv.elemOf [.i64,
  .i64, .i64] a)).at i = (El.fn (Rv.elemOf [.i64, .i64, .i64] (stlR n rows))).at i) ∧ Ob (PlainE (List.length (stlR n rows)) (El.fn (Rv.elemOf [.i64, .i64, .i64] (stlR n rows)))) ∧ True) ∧ (¬(↑a_1 : Int) < (0 : Int) → (∃
  (a_2 : Nat), Ob (a_2 ≤ n.toNat ∧ ∀ (j : Nat), j < a_2 → ¬sgnP 20 (valAt (El.fn fun (i : Nat) ↦ [SV.i .i64 (lft (netTo rows rows.length) a (List.length a) i)]) j)) ∧ Ob (n.toNat = n.toNat) ∧ Ob (SV.v (Value.func (Fn.func
  20) #[] #[]) = SV.v (Value.func (Fn.func 20) #[] #[])) ∧ Ob ((↑n.toNat : Int) = (↑n.toNat : Int)) ∧ Ob ((0 : Int) = (↑a_2 : Int)) ∧ Ob (List.length a = List.length a ∧ ∀ (i : Nat), i < List.length a → (El.fn (Rv.elemOf
  [.i64, .i64, .i64] a)).at i = (El.fn (Rv.elemOf [.i64, .i64, .i64] a)).at i) ∧ Ob (n.toNat = n.toNat ∧ ∀ (i : Nat), i < n.toNat → (El.fn fun (i : Nat) ↦ [SV.i .i64 (lft (netTo rows rows.length) a (List.length a) i)]).at
  i = (El.fn fun (i : Nat) ↦ [SV.i .i64 (lft (netTo rows rows.length) a (List.length a) i)]).at i) ∧ Ob (PlainE (List.length a) (El.fn (Rv.elemOf [.i64, .i64, .i64] a))) ∧ Ob (PlainE n.toNat (El.fn fun (i : Nat) ↦ [SV.i
  .i64 (lft (netTo rows rows.length) a (List.length a) i)])) ∧ True) ∧ ∀ (a_2 : Nat), (a_2 ≤ n.toNat ∧ ∀ (j : Nat), j < a_2 → ¬sgnP 20 (valAt (El.fn fun (i : Nat) ↦ [SV.i .i64 (lft (netTo rows rows.length) a (List.length
  a) i)]) j)) → ∀ (z_72 z_73 z_74 z_75 z_76 z_77 z_78 z_79 z_80 z_81 z_82 z_83 z_84 z_85 z_86 : Value), ((↑a_2 : Int) < (↑n.toNat : Int) → Ob ((0 : Int) ≤ (↑a_2 : Int) ∧ a_2 < n.toNat) ∧ Ob (a_2 < n.toNat) ∧ Ob True ∧ ((0
  : Int) < lft (netTo rows rows.length) a (List.length a) a_2 → Ob ((0 : Int) ≤ (↑a_1 : Int) ∧ a_1 < n.toNat) ∧ Ob (a_1 < n.toNat) ∧ Ob (InR .i64 ((0 : Int) - lft (netTo rows rows.length) a (List.length a) a_1)) ∧ Ob ((0 :
  Int) ≤ (↑a_2 : Int) ∧ a_2 < n.toNat) ∧ Ob (a_2 < n.toNat) ∧ Ob ((0 : Int) ≤ (↑a_1 : Int) ∧ a_1 < n.toNat) ∧ Ob (a_1 < n.toNat) ∧ Ob (InR .i64 (lft (netTo rows rows.length) a (List.length a) a_1 + min ((0 : Int) - lft
  (netTo rows rows.length) a (List.length a) a_1) (lft (netTo rows rows.length) a (List.length a) a_2))) ∧ Ob ((0 : Int) ≤ (↑a_1 : Int) ∧ a_1 < n.toNat) ∧ Ob (a_1 < n.toNat ∧ ((El.fn fun (i : Nat) ↦ [SV.i .i64 (lft (netTo
  rows rows.length) a (List.length a) i)]).at a_1).length = (1 : Nat)) ∧ Ob ((0 : Int) ≤ (↑a_2 : Int) ∧ a_2 < n.toNat) ∧ Ob (a_2 < n.toNat) ∧ (a_2 = a_1 → Ob (InR .i64 (lft (netTo rows rows.length) a (List.length a) a_1 +
  min ((0 : Int) - lft (netTo rows rows.length) a (List.length a) a_1) (lft (netTo rows rows.length) a (List.length a) a_2) - min ((0 : Int) - lft (netTo rows rows.length) a (List.length a) a_1) (lft (netTo rows
  rows.length) a (List.length a) a_2))) ∧ Ob ((0 : Int) ≤ (↑a_2 : Int) ∧ a_2 < n.toNat) ∧ Ob (a_2 < n.toNat ∧ ((updL (El.fn fun (i : Nat) ↦ [SV.i .i64 (lft (netTo rows rows.length) a (List.length a) i)]) a_1 0 [SV.i .i64
  (lft (netTo rows rows.length) a (List.length a) a_1 + min ((0 : Int) - lft (netTo rows rows.length) a (List.length a) a_1) (lft (netTo rows rows.length) a (List.length a) a_2))]).at a_2).length = (1 : Nat)) ∧ Ob
  (List.length a = List.length a ∧ ∀ (i : Nat), i < List.length a → ((El.fn (Rv.elemOf [.i64, .i64, .i64] a)).at i).length = (3 : Nat)) ∧ Ob ((List.length a + (1 : Nat)) * (2 : Nat) * (25 : Nat) ≤ (1099511627776 : Nat)) ∧
  Ob (List.length a = List.length a) ∧ ∃ (a' : Rows), Ob (PayTo n.toNat (netTo rows rows.length) a' ∧ nzF (lft (netTo rows rows.length) a' (List.length a')) n.toNat < nzF (lft (netTo rows rows.length) a (List.length a))
  n.toNat) ∧ Ob (n.toNat = n.toNat) ∧ Ob (List.length a + (1 : Nat) = List.length a') ∧ Ob (List.length a + (1 : Nat) = List.length a' ∧ ∀ (i : Nat), i < List.length a' → (behind (List.length a) (El.fn (Rv.elemOf [.i64,
  .i64, .i64] a)) 1 (litEl (symL [SV.i .i64 (↑a_1 : Int), SV.i .i64 (↑a_2 : Int), SV.i .i64 (min ((0 : Int) - lft (netTo rows rows.length) a (List.length a) a_1) (lft (netTo rows rows.length) a (List.length a) a_2))]) 3
  1)).at i = (El.fn (Rv.elemOf [.i64, .i64, .i64] a')).at i) ∧ Ob (n.toNat = n.toNat ∧ ∀ (i : Nat), i < n.toNat → (updL (updL (El.fn fun (i : Nat) ↦ [SV.i .i64 (lft (netTo rows rows.length) a (List.length a) i)]) a_1 0
  [SV.i .i64 (lft (netTo rows rows.length) a (List.length a) a_1 + min ((0 : Int) - lft (netTo rows rows.length) a (List.length a) a_1) (lft (netTo rows rows.length) a (List.length a) a_2))]) a_2 0 [SV.i .i64 (lft (netTo
  rows rows.length) a (List.length a) a_1 + min ((0 : Int) - lft (netTo rows rows.length) a (List.length a) a_1) (lft (netTo rows rows.length) a (List.length a) a_2) - min ((0 : Int) - lft (netTo rows rows.length) a
  (List.length a) a_1) (lft (netTo rows rows.length) a (List.length a) a_2))]).at i = (El.fn fun (i : Nat) ↦ [SV.i .i64 (lft (netTo rows rows.length) a' (List.length a') i)]).at i) ∧ Ob (PlainE (List.length a') (El.fn
  (Rv.elemOf [.i64, .i64, .i64] a'))) ∧ Ob (PlainE n.toNat (El.fn fun (i : Nat) ↦ [SV.i .i64 (lft (netTo rows rows.length) a' (List.length a') i)])) ∧ True) ∧ (¬a_2 = a_1 → Ob (InR .i64 (lft (netTo rows rows.length) a
  (List.length a) a_2 - min ((0 : Int) - lft (netTo rows rows.length) a (List.length a) a_1) (lft (netTo rows rows.length) a (List.length a) a_2))) ∧ Ob ((0 : Int) ≤ (↑a_2 : Int) ∧ a_2 < n.toNat) ∧ Ob (a_2 < n.toNat ∧
  ((updL (El.fn fun (i : Nat) ↦ [SV.i .i64 (lft (netTo rows rows.length) a (List.length a) i)]) a_1 0 [SV.i .i64 (lft (netTo rows rows.length) a (List.length a) a_1 + min ((0 : Int) - lft (netTo rows rows.length) a
  (List.length a) a_1) (lft (netTo rows rows.length) a (List.length a) a_2))]).at a_2).length = (1 : Nat)) ∧ Ob (List.length a = List.length a ∧ ∀ (i : Nat), i < List.length a → ((El.fn (Rv.elemOf [.i64, .i64, .i64] a)).at
  i).length = (3 : Nat)) ∧ Ob ((List.length a + (1 : Nat)) * (2 : Nat) * (25 : Nat) ≤ (1099511627776 : Nat)) ∧ Ob (List.length a = List.length a) ∧ ∃ (a' : Rows), Ob (PayTo n.toNat (netTo rows rows.length) a' ∧ nzF (lft
  (netTo rows rows.length) a' (List.length a')) n.toNat < nzF (lft (netTo rows rows.length) a (List.length a)) n.toNat) ∧ Ob (n.toNat = n.toNat) ∧ Ob (List.length a + (1 : Nat) = List.length a') ∧ Ob (List.length a + (1 :
  Nat) = List.length a' ∧ ∀ (i : Nat), i < List.length a' → (behind (List.length a) (El.fn (Rv.elemOf [.i64, .i64, .i64] a)) 1 (litEl (symL [SV.i .i64 (↑a_1 : Int), SV.i .i64 (↑a_2 : Int), SV.i .i64 (min ((0 : Int) - lft
  (netTo rows rows.length) a (List.length a) a_1) (lft (netTo rows rows.length) a (List.length a) a_2))]) 3 1)).at i = (El.fn (Rv.elemOf [.i64, .i64, .i64] a')).at i) ∧ Ob (n.toNat = n.toNat ∧ ∀ (i : Nat), i < n.toNat →
  (updL (updL (El.fn fun (i : Nat) ↦ [SV.i .i64 (lft (netTo rows rows.length) a (List.length a) i)]) a_1 0 [SV.i .i64 (lft (netTo rows rows.length) a (List.length a) a_1 + min ((0 : Int) - lft (netTo rows rows.length) a
  (List.length a) a_1) (lft (netTo rows rows.length) a (List.length a) a_2))]) a_2 0 [SV.i .i64 (lft (netTo rows rows.length) a (List.length a) a_2 - min ((0 : Int) - lft (netTo rows rows.length) a (List.length a) a_1)
  (lft (netTo rows rows.length) a (List.length a) a_2))]).at i = (El.fn fun (i : Nat) ↦ [SV.i .i64 (lft (netTo rows rows.length) a' (List.length a') i)]).at i) ∧ Ob (PlainE (List.length a') (El.fn (Rv.elemOf [.i64, .i64,
  .i64] a'))) ∧ Ob (PlainE n.toNat (El.fn fun (i : Nat) ↦ [SV.i .i64 (lft (netTo rows rows.length) a' (List.length a') i)])) ∧ True)) ∧ (¬(0 : Int) < lft (netTo rows rows.length) a (List.length a) a_2 → Ob (InR .i64 ((↑a_2
  : Int) + (1 : Int))) ∧ ∃ (a' : Nat), Ob ((a' ≤ n.toNat ∧ ∀ (j : Nat), j < a' → ¬sgnP 20 (valAt (El.fn fun (i : Nat) ↦ [SV.i .i64 (lft (netTo rows rows.length) a (List.length a) i)]) j)) ∧ n.toNat - a' < n.toNat - a_2) ∧
  Ob (n.toNat = n.toNat) ∧ Ob (SV.v (Value.func (Fn.func 20) #[] #[]) = SV.v (Value.func (Fn.func 20) #[] #[])) ∧ Ob ((↑n.toNat : Int) = (↑n.toNat : Int)) ∧ Ob ((↑a_2 : Int) + (1 : Int) = (↑a' : Int)) ∧ Ob (List.length a =
  List.length a ∧ ∀ (i : Nat), i < List.length a → (El.fn (Rv.elemOf [.i64, .i64, .i64] a)).at i = (El.fn (Rv.elemOf [.i64, .i64, .i64] a)).at i) ∧ Ob (n.toNat = n.toNat ∧ ∀ (i : Nat), i < n.toNat → (El.fn fun (i : Nat) ↦
  [SV.i .i64 (lft (netTo rows rows.length) a (List.length a) i)]).at i = (El.fn fun (i : Nat) ↦ [SV.i .i64 (lft (netTo rows rows.length) a (List.length a) i)]).at i) ∧ Ob (PlainE (List.length a) (El.fn (Rv.elemOf [.i64,
  .i64, .i64] a))) ∧ Ob (PlainE n.toNat (El.fn fun (i : Nat) ↦ [SV.i .i64 (lft (netTo rows rows.length) a (List.length a) i)])) ∧ True)) ∧ (¬(↑a_2 : Int) < (↑n.toNat : Int) → Ob ((0 : Int) ≤ (↑a_1 : Int) ∧ a_1 < n.toNat) ∧
  Ob (a_1 < n.toNat) ∧ Ob (InR .i64 ((0 : Int) - lft (netTo rows rows.length) a (List.length a) a_1)) ∧ False))) ∧ (¬lft (netTo rows rows.length) a (List.length a) a_1 < (0 : Int) → Ob (InR .i64 ((↑a_1 : Int) + (1 : Int)))
  ∧ ∃ (a' : Nat), Ob ((a' ≤ n.toNat ∧ ∀ (j : Nat), j < a' → ¬sgnP 19 (valAt (El.fn fun (i : Nat) ↦ [SV.i .i64 (lft (netTo rows rows.length) a (List.length a) i)]) j)) ∧ n.toNat - a' < n.toNat - a_1) ∧ Ob (n.toNat =
  n.toNat) ∧ Ob (SV.v (Value.func (Fn.func 19) #[] #[]) = SV.v (Value.func (Fn.func 19) #[] #[])) ∧ Ob ((↑n.toNat : Int) = (↑n.toNat : Int)) ∧ Ob ((↑a_1 : Int) + (1 : Int) = (↑a' : Int)) ∧ Ob (List.length a = List.length a
  ∧ ∀ (i : Nat), i < List.length a → (El.fn (Rv.elemOf [.i64, .i64, .i64] a)).at i = (El.fn (Rv.elemOf [.i64, .i64, .i64] a)).at i) ∧ Ob (n.toNat = n.toNat ∧ ∀ (i : Nat), i < n.toNat → (El.fn fun (i : Nat) ↦ [SV.i .i64
  (lft (netTo rows rows.length) a (List.length a) i)]).at i = (El.fn fun (i : Nat) ↦ [SV.i .i64 (lft (netTo rows rows.length) a (List.length a) i)]).at i) ∧ Ob (PlainE (List.length a) (El.fn (Rv.elemOf [.i64, .i64, .i64]
  a))) ∧ Ob (PlainE n.toNat (El.fn fun (i : Nat) ↦ [SV.i .i64 (lft (netTo rows rows.length) a (List.length a) i)])) ∧ True)) ∧ (¬(↑a_1 : Int) < (↑n.toNat : Int) → Ob (List.length a = List.length (stlR n rows)) ∧ Ob ((0 :
  Int) = clmErr n rows) ∧ Ob (List.length a = List.length (stlR n rows) ∧ ∀ (i : Nat), i < List.length (stlR n rows) → (El.fn (Rv.elemOf [.i64, .i64, .i64] a)).at i = (El.fn (Rv.elemOf [.i64, .i64, .i64] (stlR n rows))).at
  i) ∧ Ob (PlainE (List.length (stlR n rows)) (El.fn (Rv.elemOf [.i64, .i64, .i64] (stlR n rows)))) ∧ True))

set_option linter.unusedSimpArgs false in
set_option maxRecDepth 4000 in
set_option maxHeartbeats 1000000 in
theorem v_Settle : V_Settle := by
  unfold V_Settle
  intro B N x C hx hox hrx hC
  have hC : C.length ≤ 4000000 := hC
  simp only [Ob_iff, and_true, true_and]
  refine ⟨C, ⟨hx, rfl, hrx, fun _ _ => rfl⟩, hC, fun h1 => ⟨(err_leaf rfl h1).1, rfl, (err_leaf rfl h1).1, plain_elemOf _ _ _⟩, fun h1 => ?_⟩
  have h0 := Classical.not_not.1 h1
  have hN : 1 ≤ N ∧ N ≤ 12 := by
    by_cases h : 1 ≤ N ∧ N ≤ 12
    · exact h
    · unfold clmErr at h0
      rw [if_neg h] at h0
      omega
  have hl : ¬ 40 < C.length := by
    intro h
    unfold clmErr at h0
    rw [if_pos hN, if_pos h] at h0
    omega
  have hk0 : clmTo N C C.length = 0 := by
    unfold clmErr at h0
    rwa [if_pos hN, if_neg hl] at h0
  clear h1
  have hc : ∀ j, j < C.length → Clm N.toNat C j ∧ cell C j 2 ≤ 1000000000 := fun j hj => by
    have := clm_all hk0 j hj
    rw [show N = ((N.toNat : Nat) : Int) by omega] at this
    exact clm_is this
  have hst : stlR N C = payR N.toNat (netTo C C.length) := by unfold stlR; rw [if_pos h0]
  refine ⟨C, ⟨hx, rfl, hrx, fun _ _ => rfl⟩, ⟨hN.1, hN.2, by omega, fun j hj => ⟨(hc j hj).1, by have := (hc j hj).2; omega⟩⟩, ⟨[], pay_nil _ _, rfl, rfl, fun i _ => ?_, plain_elemOf _ _ _, plain_fn1 _ _⟩, ?_⟩
  · show [SV.i .i64 (netTo C C.length i)] = [SV.i .i64 (lft (netTo C C.length) [] 0 i)]
    unfold lft
    simp [netTo]
  intro R hR
  intros
  obtain ⟨f, hf⟩ : ∃ f, netTo C C.length = f := ⟨_, rfl⟩
  have hS : StE N.toNat f R := by rw [← hf]; exact ste_of hl hc hR
  rw [hf] at hR hst ⊢
  clear hc hk0 hf
  have v0 : ∀ j, valAt (El.fn fun (i : Nat) => [SV.i .i64 (lft f R R.length i)]) j = lft f R R.length j := fun _ => rfl
  simp only [v0]
  have sN : ∀ z : Int, sgnP 19 z = (z < 0) := fun _ => rfl
  have sP : ∀ z : Int, sgnP 20 z = (0 < z) := fun _ => rfl
  simp only [sN, sP]
  obtain ⟨g, hg⟩ : ∃ g, lft f R R.length = g := ⟨_, rfl⟩
  refine ⟨⟨0, ?_⟩, ?_⟩
  · repeat' (first | exact plain_elemOf _ _ _ | exact plain_fn1 _ _ | with_reducible apply And.intro | intro _)
    all_goals first | rfl | trivial | omega | exact plain_elemOf _ _ _ | exact plain_fn1 _ _
  intro a ⟨ha, hn⟩
  intros
  refine ⟨fun h5 => ?_, fun h5 => ?_⟩
  rotate_left
  · -- none is below 0
    have ea : a = N.toNat := by omega
    subst ea
    have hP : Paid N.toNat f R := ⟨hR, sum_none hS.sum fun j hj => by have := hn j hj; omega⟩
    rw [hst, payR_eq hP]
    repeat' (first | exact plain_elemOf _ _ _ | exact plain_fn1 _ _ | with_reducible apply And.intro | intro _)
    all_goals first | exact h0.symm | exact plain_elemOf _ _ _ | rfl | trivial | omega
  have ha' : a < N.toNat := by omega
  refine ⟨⟨by omega, ha'⟩, ha', fun h6 => ?_, fun h6 => ?_⟩
  rotate_left
  · refine ⟨by simp only [InR]; omega, a + 1, ⟨⟨by omega, fun j hj => ?_⟩, by omega⟩, ?_⟩
    · by_cases e : j = a
      · subst e; exact h6
      · exact hn j (by omega)
    · repeat' (first | exact plain_elemOf _ _ _ | exact plain_fn1 _ _ | with_reducible apply And.intro | intro _)
      all_goals first | rfl | trivial | omega | exact plain_elemOf _ _ _ | exact plain_fn1 _ _
  refine ⟨fun h7 => absurd h7 (by omega), fun h7 => ?_⟩
  have hA : FNeg (lft f R R.length) N.toNat a := ⟨ha', h6, fun j hj => by have := hn j hj; omega⟩
  obtain ⟨b0, hB0⟩ := sum_pos hS.sum ha' h6
  refine ⟨⟨0, ?_⟩, ?_⟩
  · repeat' (first | exact plain_elemOf _ _ _ | exact plain_fn1 _ _ | with_reducible apply And.intro | intro _)
    all_goals first | rfl | trivial | omega | exact plain_elemOf _ _ _ | exact plain_fn1 _ _
  intro b ⟨hb, hm⟩
  intros
  refine ⟨fun h8 => ?_, fun h8 => ?_⟩
  rotate_left
  · exfalso
    have := hm b0 (by have := hB0.1; omega)
    exact this hB0.2.1
  have hb' : b < N.toNat := by omega
  refine ⟨⟨by omega, hb'⟩, hb', fun h9 => ?_, fun h9 => ?_⟩
  rotate_left
  · refine ⟨by simp only [InR]; omega, b + 1, ⟨⟨by omega, fun j hj => ?_⟩, by omega⟩, ?_⟩
    · by_cases e : j = b
      · subst e; exact h9
      · exact hm j (by omega)
    · repeat' (first | exact plain_elemOf _ _ _ | exact plain_fn1 _ _ | with_reducible apply And.intro | intro _)
      all_goals first | rfl | trivial | omega | exact plain_elemOf _ _ _ | exact plain_fn1 _ _
  have hB : FPos (lft f R R.length) N.toNat b := ⟨hb', h9, fun j hj => by have := hm j hj; omega⟩
  clear hn hm hB0 b0
  have hab : a ≠ b := by
    rintro rfl
    omega
  obtain ⟨c, hc⟩ : ∃ c, c = min (0 - lft f R R.length a) (lft f R R.length b) := ⟨_, rfl⟩
  simp only [← hc]
  have hc' : c = min (-(lft f R R.length a)) (lft f R R.length b) := by rw [hc, Int.zero_sub]
  have ba := hS.bd a hA.1
  have bb := hS.bd b hB.1
  have hst2 := pay_stp hA hB hc'
  have hpn := pay_next hR hA hB
  rw [← hc'] at hpn
  have hu := lft_upd (f := f) (R := R) (c := c) hab
  have hsn := snoc3 (R := R) (x := (a : Int)) (y := (b : Int)) (z := c) rfl
  have hln : nzF (lft f (R ++ [[(a : Int), (b : Int), c]]) (R ++ [[(a : Int), (b : Int), c]]).length) N.toNat < nzF (lft f R R.length) N.toNat := hst2.nz
  have hRl : R.length ≤ N.toNat := by
    have := (pay_k hR (Nat.le_refl _)).nz
    omega
  have r1 : InR .i64 (0 - lft f R R.length a) := by simp only [InR]; omega
  have r2 : InR .i64 (lft f R R.length a + c) := by simp only [InR]; omega
  have r3 : InR .i64 (lft f R R.length b - c) := by simp only [InR]; omega
  have a0 : (0 : Int) ≤ (a : Int) ∧ a < N.toNat := ⟨by omega, hA.1⟩
  have b0 : (0 : Int) ≤ (b : Int) ∧ b < N.toNat := ⟨by omega, hB.1⟩
  have hlen : (R ++ [[(a : Int), (b : Int), c]]).length = R.length + 1 := by simp
  rw [← hlen] at hsn
  exact ⟨a0, a0.2, r1, b0, b0.2, a0, a0.2, r2, a0, ⟨a0.2, rfl⟩, b0, b0.2, fun e => absurd e.symm hab, fun _ => ⟨r3, b0, ⟨b0.2, len_upd1 _ _ _ _⟩, fun i hi => rfl, by omega, R ++ [[(a : Int), (b : Int), c]], ⟨hpn, hln⟩, hlen.symm, ⟨hlen.symm, hsn⟩, fun i _ => hu i, plain_elemOf _ _ _, plain_fn1 _ _⟩⟩

theorem e_Settle : V_Settle = needEI P [F_checkClaims, F_ltz, F_gtz] [F_netOf] I_Settle A_Settle F_Settle := by kernel_rfl

theorem n_Settle : Ob (needEI P [F_checkClaims, F_ltz, F_gtz] [F_netOf] I_Settle A_Settle F_Settle) := by
  rw [← e_Settle]
  exact ⟨v_Settle⟩

theorem b_Settle : ((P.funcs[8]?).any fun fn => fn.body.isSome) = true := by kernel_rfl

theorem Settle_ok : FnE.Ok P F_Settle := FnE.okI named (l := [F_checkClaims, F_ltz, F_gtz]) (es := [F_netOf]) (I := I_Settle) (A := A_Settle) (by rfl) (by rfl) (by rfl) (by
  intro F h
  simp only [List.mem_cons, List.not_mem_nil, or_false] at h
  rcases h with rfl | rfl | rfl
  · exact checkClaims_ok
  · exact ltz_ok
  · exact gtz_ok
) (by
  intro F h
  simp only [List.mem_cons, List.not_mem_nil, or_false] at h
  rcases h with rfl
  · exact netOf_ok
) b_Settle (by
  intro ds h o ho n sz e k z he
  subst he
  simp only [F_Settle] at ho
  split at ho
  · simp only [List.mem_cons, List.not_mem_nil, or_false, SObj.gr.injEq] at ho
    obtain ⟨rfl, rfl, rfl, rfl, rfl⟩ := ho
    exact plain_elemOf _ _ _
  · simp at ho) n_Settle

end Go.Proofs.Ythgpjpjflgeokaa.Sy
