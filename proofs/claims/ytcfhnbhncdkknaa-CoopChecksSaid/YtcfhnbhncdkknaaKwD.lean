/- Shares of a bonus (the reference). -/
import Derived.Test.YtcfhnbhncdkknaaSyP2
import Derived.Test.YtcfhnbhncdkknaaGrM
import Derived.Test.YtcfhnbhncdkknaaStM
import Derived.Test.YtcfhnbhncdkknaaLrM
import Derived.Test.YtcfhnbhncdkknaaDhM
import Derived.Test.YtcfhnbhncdkknaaKtT
import Derived.Test.YtcfhnbhncdkknaaKtA
import Derived.Test.YtcfhnbhncdkknaaKtB
import Derived.Test.YtcfhnbhncdkknaaKwA
import Derived.Test.YtcfhnbhncdkknaaKwB
import Derived.Test.YtcfhnbhncdkknaaKwC
import Derived.Test.YtcfhnbhncdkknaaSyP2
import Derived.KernelRfl
import Derived.Test.YtcfhnbhncdkknaaProg
namespace Go.Proofs.Ytcfhnbhncdkknaa.Sy
open Go Go.Rv
set_option linter.unusedVariables false
theorem plain_fnD (n : Nat) (f : Nat → Int) : PlainE n (.fn fun i => [SV.i .i64 (f i)]) := by
  intro i _ y hy
  simp only [El.at, List.mem_cons, List.not_mem_nil, or_false] at hy
  subst hy
  trivial
structure ShOk (d : Int) (A : Rows) : Prop where
  l : A.length ≤ 12
  c : ∀ i, i < A.length → 0 ≤ cell A i 2 ∧ cell A i 2 ≤ 1000000000
  d : 0 ≤ d ∧ d ≤ 1000000000
  z : colS 2 A A.length ≠ 0
def cA (A : Rows) (i : Nat) : Int := cell A i 2
def cN (A : Rows) : Int := colS 2 A A.length
def cR (d : Int) (A : Rows) : Nat → Int := rst d (cN A) (cA A)
def cL (d : Int) (A : Rows) : Int := lef d (cN A) (cA A) A.length
def cFl (d : Int) (A : Rows) : Nat → Int := flo d (cN A) (cA A)
def cF (d : Int) (A : Rows) (k i : Nat) : Int := if i < k then cFl d A i else 0
noncomputable def cK (d : Int) (A : Rows) (i : Nat) : Int := (rk (cR d A) A.length i : Nat)
def cG (d : Int) (A : Rows) (s : Int) (i : Nat) : Prop := cK d A i < s
noncomputable def cO (d : Int) (A : Rows) (s : Int) (i : Nat) : Int := cFl d A i + (if cK d A i < s then 1 else 0)
noncomputable def cS (d : Int) (A : Rows) : Nat → Int := shr d (cN A) (cA A) A.length
structure Bq where
  k : Nat
  b : Int
structure Bq.Ok (v : Bq) (d : Int) (A : Rows) (s : Int) : Prop where
  k : v.k ≤ A.length
  b : (v.b = -1 ∧ ∀ i, i < v.k → cK d A i < s) ∨ ∃ b : Nat, v.b = b ∧ b < v.k ∧ s ≤ cK d A b ∧ ∀ i, i < v.k → s ≤ cK d A i → i ≠ b → bfr (cR d A) b i
theorem plain_p (n : Nat) (f : Nat → Prop) : PlainE n (.fn fun i => [SV.p (f i)]) := by
  intro i _ y hy
  simp only [El.at, List.mem_cons, List.not_mem_nil, or_false] at hy
  subst hy
  trivial
theorem cS_bd {A : Rows} (h : ∀ i, i < A.length → 0 ≤ cell A i 2 ∧ cell A i 2 ≤ 1000000000) : ∀ {k : Nat}, k ≤ A.length → 0 ≤ colS 2 A k ∧ colS 2 A k ≤ k * 1000000000
  | 0, _ => by simp [colS, sumF]
  | k + 1, hk => by
    have ih := cS_bd h (k := k) (by omega)
    have hc := h k (by omega)
    have e : colS 2 A (k + 1) = colS 2 A k + cell A k 2 := rfl
    have e2 : ((k + 1 : Nat) : Int) * 1000000000 = k * 1000000000 + 1000000000 := by rw [Int.natCast_add, Int.add_mul]; simp
    rw [e, e2]
    omega
theorem ShOk.n {d : Int} {A : Rows} (h : ShOk d A) : 0 < cN A ∧ cN A ≤ 12000000000 := by
  have := cS_bd h.c (Nat.le_refl _)
  have z := h.z
  have hl := h.l
  unfold cN
  omega
theorem ShOk.sh {d : Int} {A : Rows} (h : ShOk d A) : ShA d (cN A) (cA A) A.length :=
  ⟨h.d.1, fun i hi => (h.c i hi).1, rfl, h.n.1⟩
theorem bq_skip {v : Bq} {d : Int} {A : Rows} {s : Int} (h : v.Ok d A s) (hk : v.k < A.length) (hg : cK d A v.k < s) : Bq.Ok ⟨v.k + 1, v.b⟩ d A s := by
  refine ⟨hk, ?_⟩
  rcases h.b with ⟨h1, h2⟩ | ⟨b, h1, h2, h3, h4⟩
  · refine .inl ⟨h1, fun i hi => ?_⟩
    have hi : i < v.k + 1 := hi
    by_cases e : i = v.k
    · subst e; exact hg
    · exact h2 i (by omega)
  · refine .inr ⟨b, h1, Nat.lt_succ_of_lt h2, h3, fun i hi h5 h6 => ?_⟩
    have hi : i < v.k + 1 := hi
    by_cases e : i = v.k
    · subst e; omega
    · exact h4 i (by omega) h5 h6
theorem bq_keep {v : Bq} {d : Int} {A : Rows} {s : Int} (h : v.Ok d A s) (hk : v.k < A.length) (hb : 0 ≤ v.b) (hr : ¬ cR d A v.b.toNat < cR d A v.k) : Bq.Ok ⟨v.k + 1, v.b⟩ d A s := by
  refine ⟨hk, ?_⟩
  rcases h.b with ⟨h1, h2⟩ | ⟨b, h1, h2, h3, h4⟩
  · omega
  · refine .inr ⟨b, h1, Nat.lt_succ_of_lt h2, h3, fun i hi h5 h6 => ?_⟩
    have hi : i < v.k + 1 := hi
    by_cases e : i = v.k
    · subst e
      rw [h1, Int.toNat_natCast] at hr
      unfold bfr
      omega
    · exact h4 i (by omega) h5 h6
theorem bq_new {v : Bq} {d : Int} {A : Rows} {s : Int} (h : v.Ok d A s) (hk : v.k < A.length) (hn : ¬ cK d A v.k < s) (hc : v.b < 0 ∨ cR d A v.b.toNat < cR d A v.k) : Bq.Ok ⟨v.k + 1, v.k⟩ d A s := by
  refine ⟨hk, .inr ⟨v.k, rfl, Nat.lt_succ_self _, by omega, fun i hi h5 h6 => ?_⟩⟩
  have hi : i < v.k + 1 := hi
  rcases h.b with ⟨h1, h2⟩ | ⟨b, h1, h2, h3, h4⟩
  · have := h2 i (by omega)
    omega
  · have hc : cR d A b < cR d A v.k := by
      rcases hc with hc | hc
      · omega
      · rwa [h1, Int.toNat_natCast] at hc
    by_cases e : i = b
    · subst e
      exact .inl hc
    · have := h4 i (by omega) h5 e
      unfold bfr at *
      omega
theorem cK_nn (d : Int) (A : Rows) (i : Nat) : 0 ≤ cK d A i := by unfold cK; omega
theorem cK_inj {d : Int} {A : Rows} {i j : Nat} (hi : i < A.length) (hj : j < A.length) (h : cK d A i = cK d A j) : i = j := rk_inj (R := cR d A) hi hj (by unfold cK at h; omega)
theorem best_is {d : Int} {A : Rows} {s : Int} (hs : 0 ≤ s) (h1 : s < cL d A) (sh : ShA d (cN A) (cA A) A.length) {v : Bq} (hk : v.k = A.length) (h : v.Ok d A s) : ∃ b : Nat, v.b = b ∧ b < A.length ∧ cK d A b = s := by
  have hl : cL d A ≤ A.length := sh.lt
  obtain ⟨s', rfl⟩ := Int.eq_ofNat_of_zero_le hs
  have hsn : s' ≤ A.length := by omega
  rcases h.b with ⟨h2, h3⟩ | ⟨b, h2, h3, h4, h5⟩
  · have e1 := rk_cnt (cR d A) A.length s' hsn
    rw [cnt_all fun i hi => by have := h3 i (by omega); unfold cK at this; omega] at e1
    omega
  · refine ⟨b, h2, by omega, ?_⟩
    have := rk_next (R := cR d A) (n := A.length) (s := s') (b := b) (by omega) hsn (by unfold cK at h4; omega) fun i hi h6 h7 => h5 i (by omega) (by unfold cK; omega) h7
    unfold cK
    omega
theorem cFl_bd {d : Int} {A : Rows} (h : ShOk d A) {i : Nat} (hi : i < A.length) : 0 ≤ cFl d A i ∧ cFl d A i ≤ 1000000000000000000 ∧ 0 ≤ d * cell A i 2 ∧ d * cell A i 2 ≤ 1000000000000000000 := by
  have c := h.c i hi
  have hd := h.d
  have m0 : 0 ≤ d * cell A i 2 := Int.mul_nonneg hd.1 c.1
  have m1 : d * cell A i 2 ≤ 1000000000 * 1000000000 := Int.mul_le_mul hd.2 c.2 c.1 (by omega)
  have hN := h.n.1
  have e : cFl d A i = d * cell A i 2 / cN A := rfl
  rw [e]
  exact ⟨Int.ediv_nonneg m0 (by omega), by have := Int.ediv_le_self (cN A) m0; omega, m0, by omega⟩
theorem sumF_mono {f : Nat → Int} : ∀ {n k : Nat}, k ≤ n → (∀ i, i < n → 0 ≤ f i) → 0 ≤ sumF f k ∧ sumF f k ≤ sumF f n
  | 0, k, hk, _ => by
    have : k = 0 := by omega
    subst this
    simp [sumF]
  | n + 1, k, hk, h => by
    have hn := sumF_nn (n := n) (f := f) fun i hi => h i (by omega)
    have h1 := h n (by omega)
    by_cases e : k = n + 1
    · subst e
      simp only [sumF]
      omega
    · have := sumF_mono (n := n) (k := k) (by omega) fun i hi => h i (by omega)
      simp only [sumF]
      omega
theorem sFl_bd {d : Int} {A : Rows} (h : ShOk d A) {k : Nat} (hk : k ≤ A.length) : 0 ≤ sumF (cFl d A) k ∧ sumF (cFl d A) k ≤ d := by
  have h1 := sumF_mono (f := cFl d A) hk fun i hi => (cFl_bd h hi).1
  have h2 := h.sh.lefB.1
  have e : lef d (cN A) (cA A) A.length = d - sumF (cFl d A) A.length := rfl
  omega
theorem cF_upd (d : Int) (A : Rows) (k i : Nat) : (updL (El.fn fun i => [SV.i .i64 (cF d A k i)]) k 0 [SV.i .i64 (cFl d A k)]).at i = (El.fn fun i => [SV.i .i64 (cF d A (k + 1) i)]).at i := by
  simp only [updL, El.at, cF]
  by_cases e : i = k
  · subst e
    have n1 : i < i + 1 := by omega
    rw [if_pos rfl]
    show [SV.i .i64 (cFl d A i)] = [SV.i .i64 (if i < i + 1 then cFl d A i else 0)]
    rw [if_pos n1]
  · rw [if_neg e]
    by_cases h : i < k
    · have n1 : i < k + 1 := by omega
      rw [if_pos h, if_pos n1]
    · have n1 : ¬ i < k + 1 := by omega
      rw [if_neg h, if_neg n1]
theorem cG_upd {d : Int} {A : Rows} {b i : Nat} {s : Int} (hb : b < A.length) (hi : i < A.length) (e : cK d A b = s) : (updL (El.fn fun i => [SV.p (cG d A s i)]) b 0 [SV.p True]).at i = (El.fn fun i => [SV.p (cG d A (s + 1) i)]).at i := by
  simp only [updL, El.at]
  by_cases h : i = b
  · rw [if_pos h, h]
    show [SV.p True] = [SV.p (cG d A (s + 1) b)]
    have : True = cG d A (s + 1) b := propext ⟨fun _ => by unfold cG; omega, fun _ => trivial⟩
    rw [this]
  · rw [if_neg h]
    have : cG d A s i = cG d A (s + 1) i := propext (by
      unfold cG
      constructor
      · intro h1; omega
      · intro h1
        by_cases e2 : cK d A i = s
        · exact absurd (cK_inj (d := d) hi hb (by omega)) h
        · omega)
    show [SV.p (cG d A s i)] = _
    rw [this]
theorem cO_upd {d : Int} {A : Rows} {b i : Nat} {s : Int} (hb : b < A.length) (hi : i < A.length) (e : cK d A b = s) : (updL (El.fn fun i => [SV.i .i64 (cO d A s i)]) b 0 [SV.i .i64 (cO d A s b + 1)]).at i = (El.fn fun i => [SV.i .i64 (cO d A (s + 1) i)]).at i := by
  simp only [updL, El.at]
  by_cases h : i = b
  · rw [if_pos h, h]
    show [SV.i .i64 (cO d A s b + 1)] = [SV.i .i64 (cO d A (s + 1) b)]
    have n1 : ¬ cK d A b < s := by omega
    have n2 : cK d A b < s + 1 := by omega
    unfold cO
    rw [if_neg n1, if_pos n2]
    simp
  · rw [if_neg h]
    show [SV.i .i64 (cO d A s i)] = [SV.i .i64 (cO d A (s + 1) i)]
    unfold cO
    by_cases e2 : cK d A i < s
    · have n1 : cK d A i < s + 1 := by omega
      rw [if_pos e2, if_pos n1]
    · have n1 : ¬ cK d A i < s + 1 := fun h1 => h (cK_inj (d := d) hi hb (by omega))
      rw [if_neg e2, if_neg n1]

noncomputable def F_sharesR : FnE := ⟨42, none, [.one (.l [.i64, .i64, .i64]), i64], fun l => match l with | [.l A, .z d] => ShOk d A | _ => False, fun l => match l with | [.l A, .z d] => [.gsl 0 A.length 1 false] | _ => [], fun l => match l with | [.l A, .z d] => [.gr A.length 1 (.fn fun i => [.i .i64 (cS d A i)]) .ex false] | _ => [], fun l => match l with | [.l A, .z d] => [] | _ => [], false, none⟩
noncomputable def A_sharesR : List SV → List Dat → Nat → List SV → Ann := fun xs ds n ts => match xs with
  | [.lst x _ _ _, .i _ _] => match ds with
    | [.l A, .z d] => match n with
      | 3 => ⟨Nat, fun k => [some (SV.lst x A.length ((3 : Nat)) (Rv.elemOf [IntKind.i64, IntKind.i64, IntKind.i64] A)), some (SV.i IntKind.i64 d), none, none, some (SV.v (Value.slice none ((0 : Nat)) ((0 : Nat)))), some (.i .i64 (colS 2 A k)), some (.i .i64 k), none, none, none, none, none, none, none, none, none, none, none, none, none, none, none, none, none, none, none, none, none, none, none, none, none, none, none, none, none, none, none, none, none, none, none, none, none, none, none, none, none, none, none, none, none, none, none, none, none, none, none, none, none, none, none, none, none, none, none, none, none, none, none, none, none, none, none, none, none, none, none, none, none, none, none, none, none, none, none, none, none, none, none, none, none, none, none, none, none, none, none, none, none, none, none, none, none, none, none, none, none], fun k => [], fun k => k ≤ A.length, fun k => A.length - k, 0⟩
      | 9 => ⟨Nat, fun k => [some (SV.lst x A.length ((3 : Nat)) (Rv.elemOf [IntKind.i64, IntKind.i64, IntKind.i64] A)), some (SV.i IntKind.i64 d), none, none, some (SV.v (Value.slice none ((0 : Nat)) ((0 : Nat)))), some (.i .i64 (cN A)), none, some (.gsl 0 A.length 1 false), some (.i .i64 (d - sumF (cFl d A) k)), some (.i .i64 k), none, none, none, none, none, none, none, none, none, none, none, none, none, none, none, none, none, none, none, none, none, none, none, none, none, none, none, none, none, none, none, none, none, none, none, none, none, none, none, none, none, none, none, none, none, none, none, none, none, none, none, none, none, none, none, none, none, none, none, none, none, none, none, none, none, none, none, none, none, none, none, none, none, none, none, none, none, none, none, none, none, none, none, none, none, none, none, none, none, none, none, none, none, none, none, none, none, none], fun k => [.gr A.length 1 (.fn fun i => [.i .i64 (cF d A k i)]) .ex false], fun k => k ≤ A.length, fun k => A.length - k, 0⟩
      | 14 => ⟨Int, fun r => [some (SV.lst x A.length ((3 : Nat)) (Rv.elemOf [IntKind.i64, IntKind.i64, IntKind.i64] A)), some (SV.i IntKind.i64 d), none, none, some (SV.v (Value.slice none ((0 : Nat)) ((0 : Nat)))), some (.i .i64 (cN A)), none, some (.gsl 0 A.length 1 false), some (.i .i64 r), none, some (.gsl 1 A.length 1 false), none, none, none, none, none, none, none, none, none, none, none, none, none, none, none, none, none, none, none, none, none, none, none, none, none, none, none, none, none, none, none, none, none, none, none, none, none, none, none, none, none, none, none, none, none, none, none, none, none, none, none, none, none, none, none, none, none, none, none, none, none, none, none, none, none, none, none, none, none, none, none, none, none, none, none, none, none, none, none, none, none, none, none, none, none, none, none, none, none, none, none, none, none, none, none, none, none], fun r => [.gr A.length 1 (.fn fun i => [.p (cG d A (cL d A - r) i)]) .ex false, .gr A.length 1 (.fn fun i => [.i .i64 (cO d A (cL d A - r) i)]) .ex false], fun r => 0 ≤ r ∧ r ≤ cL d A, fun r => r.toNat, 0⟩
      | 18 => (match lget ts 8 with | some (SV.i _ r8) => ⟨Bq, fun v => [some (SV.lst x A.length ((3 : Nat)) (Rv.elemOf [IntKind.i64, IntKind.i64, IntKind.i64] A)), some (SV.i IntKind.i64 d), none, none, some (SV.v (Value.slice none ((0 : Nat)) ((0 : Nat)))), some (.i .i64 (cN A)), none, some (.gsl 0 A.length 1 false), some (SV.i .i64 r8), none, some (.gsl 1 A.length 1 false), some (.i .i64 v.b), some (.i .i64 v.k), none, none, none, none, none, none, none, none, none, none, none, none, none, none, none, none, none, none, none, none, none, none, none, none, none, none, none, none, none, none, none, none, none, none, none, none, none, none, none, none, none, none, none, none, none, none, none, none, none, none, none, none, none, none, none, none, none, none, none, none, none, none, none, none, none, none, none, none, none, none, none, none, none, none, none, none, none, none, none, none, none, none, none, none, none, none, none, none, none, none, none, none, none, none, none], fun v => [.gr A.length 1 (.fn fun i => [.p (cG d A (cL d A - r8) i)]) .ex false, .gr A.length 1 (.fn fun i => [.i .i64 (cO d A (cL d A - r8) i)]) .ex false], fun v => v.Ok d A (cL d A - r8), fun v => A.length - v.k, 0⟩ | _ => noAnn)
      | _ => noAnn
    | _ => noAnn
  | _ => noAnn

def V_sharesR : Prop :=
  ∀ (B : RW) (x : RV) (rows : List (List Int)), IsLst B x rows.length 3 (Rv.elemOf [.i64, .i64, .i64] rows) → oneB x = true → (∀ (row : List Int), row ∈ rows → row.length = (3 : Nat)) → ∀ (n : Int), F_sharesR.pre ([Dat.l
  rows] ++ ([Dat.z n] ++ [])) → (∃ (a : Nat), Ob (a ≤ rows.length) ∧ Ob (SV.lst x rows.length 3 (Rv.elemOf [.i64, .i64, .i64] rows) = SV.lst x rows.length 3 (Rv.elemOf [.i64, .i64, .i64] rows)) ∧ Ob (n = n) ∧ Ob (SV.v
  (Value.slice none 0 0) = SV.v (Value.slice none 0 0)) ∧ Ob ((0 : Int) = colS 2 rows a) ∧ Ob ((0 : Int) = (↑a : Int)) ∧ Ob (IsLst B x rows.length 3 (Rv.elemOf [.i64, .i64, .i64] rows)) ∧ True) ∧ ∀ (a : Nat), a ≤
  rows.length → ∀ (z z_1 z_2 z_3 z_4 z_5 z_6 z_7 z_8 z_9 z_10 z_11 z_12 z_13 z_14 z_15 z_16 z_17 z_18 z_19 z_20 z_21 z_22 z_23 z_24 z_25 z_26 z_27 z_28 z_29 z_30 z_31 z_32 z_33 z_34 z_35 z_36 z_37 z_38 z_39 z_40 z_41 z_42
  z_43 z_44 z_45 z_46 z_47 z_48 z_49 z_50 z_51 z_52 z_53 z_54 z_55 z_56 z_57 z_58 z_59 z_60 z_61 z_62 z_63 z_64 z_65 z_66 z_67 z_68 z_69 z_70 z_71 z_72 z_73 z_74 z_75 z_76 z_77 z_78 z_79 z_80 z_81 z_82 z_83 z_84 z_85 z_86
  z_87 z_88 z_89 z_90 z_91 z_92 z_93 z_94 z_95 z_96 z_97 z_98 z_99 z_100 z_101 z_102 : Value), Ob (IsLst B x rows.length 3 (Rv.elemOf [.i64, .i64, .i64] rows)) ∧ ((↑a : Int) < (↑rows.length : Int) → Ob ((0 : Int) ≤ (↑a :
  Int) ∧ a < rows.length ∧ IsLst B x rows.length 3 (Rv.elemOf [.i64, .i64, .i64] rows)) ∧ Ob (IsLst B x rows.length 3 (Rv.elemOf [.i64, .i64, .i64] rows) ∧ a < rows.length) ∧ Ob (InR .i64 (colS 2 rows a + cell rows a 2)) ∧
  Ob (InR .i64 ((↑a : Int) + (1 : Int))) ∧ ∃ (a' : Nat), Ob (a' ≤ rows.length ∧ rows.length - a' < rows.length - a) ∧ Ob (SV.lst x rows.length 3 (Rv.elemOf [.i64, .i64, .i64] rows) = SV.lst x rows.length 3 (Rv.elemOf
  [.i64, .i64, .i64] rows)) ∧ Ob (n = n) ∧ Ob (SV.v (Value.slice none 0 0) = SV.v (Value.slice none 0 0)) ∧ Ob (colS 2 rows a + cell rows a 2 = colS 2 rows a') ∧ Ob ((↑a : Int) + (1 : Int) = (↑a' : Int)) ∧ Ob (IsLst B x
  rows.length 3 (Rv.elemOf [.i64, .i64, .i64] rows)) ∧ True) ∧ (¬(↑a : Int) < (↑rows.length : Int) → Ob (IsLst B x rows.length 3 (Rv.elemOf [.i64, .i64, .i64] rows)) ∧ Ob ((↑rows.length : Int) = (↑rows.length : Int) ∧ (0 :
  Int) ≤ (↑rows.length : Int) ∧ rows.length * (9 : Nat) ≤ (1099511627776 : Nat)) ∧ (∃ (a_1 : Nat), Ob (a_1 ≤ rows.length) ∧ Ob (SV.lst x rows.length 3 (Rv.elemOf [.i64, .i64, .i64] rows) = SV.lst x rows.length 3 (Rv.elemOf
  [.i64, .i64, .i64] rows)) ∧ Ob (n = n) ∧ Ob (SV.v (Value.slice none 0 0) = SV.v (Value.slice none 0 0)) ∧ Ob (colS 2 rows a = cN rows) ∧ Ob (rows.length = rows.length) ∧ Ob (n = n - sumF (cFl n rows) a_1) ∧ Ob ((0 : Int)
  = (↑a_1 : Int)) ∧ Ob (rows.length = rows.length ∧ ∀ (i : Nat), i < rows.length → (El.fn fun (x : Nat) ↦ symL (List.map SV.v (Value.int .i64 (0 : Int)).cells.toList)).at i = (El.fn fun (i : Nat) ↦ [SV.i .i64 (cF n rows
  a_1 i)]).at i) ∧ Ob (IsLst B x rows.length 3 (Rv.elemOf [.i64, .i64, .i64] rows)) ∧ Ob (PlainE rows.length (El.fn fun (i : Nat) ↦ [SV.i .i64 (cF n rows a_1 i)])) ∧ True) ∧ ∀ (a_1 : Nat), a_1 ≤ rows.length → ∀ (z_103
  z_104 z_105 z_106 z_107 z_108 z_109 z_110 z_111 z_112 z_113 z_114 z_115 z_116 z_117 z_118 z_119 z_120 z_121 z_122 z_123 z_124 z_125 z_126 z_127 z_128 z_129 z_130 z_131 z_132 z_133 z_134 z_135 z_136 z_137 z_138 z_139
  z_140 z_141 z_142 z_143 z_144 z_145 z_146 z_147 z_148 z_149 z_150 z_151 z_152 z_153 z_154 z_155 z_156 z_157 z_158 z_159 z_160 z_161 z_162 z_163 z_164 z_165 z_166 z_167 z_168 z_169 z_170 z_171 z_172 z_173 z_174 z_175
  z_176 z_177 z_178 z_179 z_180 z_181 z_182 z_183 z_184 z_185 z_186 z_187 z_188 z_189 z_190 z_191 z_192 z_193 z_194 z_195 z_196 z_197 z_198 z_199 z_200 z_201 z_202 z_203 : Value), Ob (IsLst B x rows.length 3 (Rv.elemOf
  [.i64, .i64, .i64] rows)) ∧ ((↑a_1 : Int) < (↑rows.length : Int) → Ob ((0 : Int) ≤ (↑a_1 : Int) ∧ a_1 < rows.length ∧ IsLst B x rows.length 3 (Rv.elemOf [.i64, .i64, .i64] rows)) ∧ Ob (IsLst B x rows.length 3 (Rv.elemOf
  [.i64, .i64, .i64] rows) ∧ a_1 < rows.length) ∧ Ob (InR .i64 (n * cell rows a_1 2)) ∧ Ob ((0 : Int) < cN rows ∧ InR .i64 ((n * cell rows a_1 2).tdiv (cN rows))) ∧ Ob ((0 : Int) ≤ (↑a_1 : Int) ∧ a_1 < rows.length) ∧ Ob
  (a_1 < rows.length ∧ ((El.fn fun (i : Nat) ↦ [SV.i .i64 (cF n rows a_1 i)]).at a_1).length = (1 : Nat)) ∧ Ob ((0 : Int) ≤ (↑a_1 : Int) ∧ a_1 < rows.length) ∧ Ob (a_1 < rows.length) ∧ (a_1 = a_1 → Ob (InR .i64 (n - sumF
  (cFl n rows) a_1 - (n * cell rows a_1 2).tdiv (cN rows))) ∧ Ob (InR .i64 ((↑a_1 : Int) + (1 : Int))) ∧ ∃ (a' : Nat), Ob (a' ≤ rows.length ∧ rows.length - a' < rows.length - a_1) ∧ Ob (SV.lst x rows.length 3 (Rv.elemOf
  [.i64, .i64, .i64] rows) = SV.lst x rows.length 3 (Rv.elemOf [.i64, .i64, .i64] rows)) ∧ Ob (n = n) ∧ Ob (SV.v (Value.slice none 0 0) = SV.v (Value.slice none 0 0)) ∧ Ob (cN rows = cN rows) ∧ Ob (rows.length =
  rows.length) ∧ Ob (n - sumF (cFl n rows) a_1 - (n * cell rows a_1 2).tdiv (cN rows) = n - sumF (cFl n rows) a') ∧ Ob ((↑a_1 : Int) + (1 : Int) = (↑a' : Int)) ∧ Ob (rows.length = rows.length ∧ ∀ (i : Nat), i < rows.length
  → (updL (El.fn fun (i : Nat) ↦ [SV.i .i64 (cF n rows a_1 i)]) a_1 0 [SV.i .i64 ((n * cell rows a_1 2).tdiv (cN rows))]).at i = (El.fn fun (i : Nat) ↦ [SV.i .i64 (cF n rows a' i)]).at i) ∧ Ob (IsLst B x rows.length 3
  (Rv.elemOf [.i64, .i64, .i64] rows)) ∧ Ob (PlainE rows.length (El.fn fun (i : Nat) ↦ [SV.i .i64 (cF n rows a' i)])) ∧ True) ∧ (¬a_1 = a_1 → Ob (InR .i64 (n - sumF (cFl n rows) a_1 - cF n rows a_1 a_1)) ∧ Ob (InR .i64
  ((↑a_1 : Int) + (1 : Int))) ∧ ∃ (a' : Nat), Ob (a' ≤ rows.length ∧ rows.length - a' < rows.length - a_1) ∧ Ob (SV.lst x rows.length 3 (Rv.elemOf [.i64, .i64, .i64] rows) = SV.lst x rows.length 3 (Rv.elemOf [.i64, .i64,
  .i64] rows)) ∧ Ob (n = n) ∧ Ob (SV.v (Value.slice none 0 0) = SV.v (Value.slice none 0 0)) ∧ Ob (cN rows = cN rows) ∧ Ob (rows.length = rows.length) ∧ Ob (n - sumF (cFl n rows) a_1 - cF n rows a_1 a_1 = n - sumF (cFl n
  rows) a') ∧ Ob ((↑a_1 : Int) + (1 : Int) = (↑a' : Int)) ∧ Ob (rows.length = rows.length ∧ ∀ (i : Nat), i < rows.length → (updL (El.fn fun (i : Nat) ↦ [SV.i .i64 (cF n rows a_1 i)]) a_1 0 [SV.i .i64 ((n * cell rows a_1
  2).tdiv (cN rows))]).at i = (El.fn fun (i : Nat) ↦ [SV.i .i64 (cF n rows a' i)]).at i) ∧ Ob (IsLst B x rows.length 3 (Rv.elemOf [.i64, .i64, .i64] rows)) ∧ Ob (PlainE rows.length (El.fn fun (i : Nat) ↦ [SV.i .i64 (cF n
  rows a' i)])) ∧ True)) ∧ (¬(↑a_1 : Int) < (↑rows.length : Int) → Ob (IsLst B x rows.length 3 (Rv.elemOf [.i64, .i64, .i64] rows)) ∧ Ob ((↑rows.length : Int) = (↑rows.length : Int) ∧ (0 : Int) ≤ (↑rows.length : Int) ∧
  rows.length * (2 : Nat) ≤ (1099511627776 : Nat)) ∧ (∃ (a_2 : Int), Ob ((0 : Int) ≤ a_2 ∧ a_2 ≤ cL n rows) ∧ Ob (SV.lst x rows.length 3 (Rv.elemOf [.i64, .i64, .i64] rows) = SV.lst x rows.length 3 (Rv.elemOf [.i64, .i64,
  .i64] rows)) ∧ Ob (n = n) ∧ Ob (SV.v (Value.slice none 0 0) = SV.v (Value.slice none 0 0)) ∧ Ob (cN rows = cN rows) ∧ Ob (rows.length = rows.length) ∧ Ob (n - sumF (cFl n rows) a_1 = a_2) ∧ Ob (rows.length = rows.length)
  ∧ Ob (rows.length = rows.length ∧ ∀ (i : Nat), i < rows.length → (El.fn fun (x : Nat) ↦ symL (List.map SV.v (Value.bool false).cells.toList)).at i = (El.fn fun (i : Nat) ↦ [SV.p (cG n rows (cL n rows - a_2) i)]).at i) ∧
  Ob (rows.length = rows.length ∧ ∀ (i : Nat), i < rows.length → (El.fn fun (i : Nat) ↦ [SV.i .i64 (cF n rows a_1 i)]).at i = (El.fn fun (i : Nat) ↦ [SV.i .i64 (cO n rows (cL n rows - a_2) i)]).at i) ∧ Ob (IsLst B x
  rows.length 3 (Rv.elemOf [.i64, .i64, .i64] rows)) ∧ Ob (PlainE rows.length (El.fn fun (i : Nat) ↦ [SV.p (cG n rows (cL n rows - a_2) i)])) ∧ Ob (PlainE rows.length (El.fn fun (i : Nat) ↦ [SV.i .i64 (cO n rows (cL n rows
  - a_2) i)])) ∧ True) ∧ ∀ (a_2 : Int), (0 : Int) ≤ a_2 ∧ a_2 ≤ cL n rows → ∀ (z_204 z_205 z_206 z_207 z_208 z_209 z_210 z_211 z_212 z_213 z_214 z_215 z_216 z_217 z_218 z_219 z_220 z_221 z_222 z_223 z_224 z_225 z_226 z_227
  z_228 z_229 z_230 z_231 z_232 z_233 z_234 z_235 z_236 z_237 z_238 z_239 z_240 z_241 z_242 z_243 z_244 z_245 z_246 z_247 z_248 z_249 z_250 z_251 z_252 z_253 z_254 z_255 z_256 z_257 z_258 z_259 z_260 z_261 z_262 z_263
  z_264 z_265 z_266 z_267 z_268 z_269 z_270 z_271 z_272 z_273 z_274 z_275 z_276 z_277 z_278 z_279 z_280 z_281 z_282 z_283 z_284 z_285 z_286 z_287 z_288 z_289 z_290 z_291 z_292 z_293 z_294 z_295 z_296 z_297 z_298 z_299
  z_300 z_301 z_302 z_303 z_304 : Value), ((0 : Int) < a_2 → (∃ (a_3 : Bq), Ob (a_3.Ok n rows (cL n rows - a_2)) ∧ Ob (SV.lst x rows.length 3 (Rv.elemOf [.i64, .i64, .i64] rows) = SV.lst x rows.length 3 (Rv.elemOf [.i64,
  .i64, .i64] rows)) ∧ Ob (n = n) ∧ Ob (SV.v (Value.slice none 0 0) = SV.v (Value.slice none 0 0)) ∧ Ob (cN rows = cN rows) ∧ Ob (rows.length = rows.length) ∧ Ob (a_2 = a_2) ∧ Ob (rows.length = rows.length) ∧ Ob ((-1 :
  Int) = a_3.b) ∧ Ob ((0 : Int) = (↑a_3.k : Int)) ∧ Ob (rows.length = rows.length ∧ ∀ (i : Nat), i < rows.length → (El.fn fun (i : Nat) ↦ [SV.p (cG n rows (cL n rows - a_2) i)]).at i = (El.fn fun (i : Nat) ↦ [SV.p (cG n
  rows (cL n rows - a_2) i)]).at i) ∧ Ob (rows.length = rows.length ∧ ∀ (i : Nat), i < rows.length → (El.fn fun (i : Nat) ↦ [SV.i .i64 (cO n rows (cL n rows - a_2) i)]).at i = (El.fn fun (i : Nat) ↦ [SV.i .i64 (cO n rows
  (cL n rows - a_2) i)]).at i) ∧ Ob (IsLst B x rows.length 3 (Rv.elemOf [.i64, .i64, .i64] rows)) ∧ Ob (PlainE rows.length (El.fn fun (i : Nat) ↦ [SV.p (cG n rows (cL n rows - a_2) i)])) ∧ Ob (PlainE rows.length (El.fn fun
  (i : Nat) ↦ [SV.i .i64 (cO n rows (cL n rows - a_2) i)])) ∧ True) ∧ ∀ (a_3 : Bq), a_3.Ok n rows (cL n rows - a_2) → ∀ (z_305 z_306 z_307 z_308 z_309 z_310 z_311 z_312 z_313 z_314 z_315 z_316 z_317 z_318 z_319 z_320 z_321
  z_322 z_323 z_324 z_325 z_326 z_327 z_328 z_329 z_330 z_331 z_332 z_333 z_334 z_335 z_336 z_337 z_338 z_339 z_340 z_341 z_342 z_343 z_344 z_345 z_346 z_347 z_348 z_349 z_350 z_351 z_352 z_353 z_354 z_355 z_356 z_357
  z_358 z_359 z_360 z_361 z_362 z_363 z_364 z_365 z_366 z_367 z_368 z_369 z_370 z_371 z_372 z_373 z_374 z_375 z_376 z_377 z_378 z_379 z_380 z_381 z_382 z_383 z_384 z_385 z_386 z_387 z_388 z_389 z_390 z_391 z_392 z_393
  z_394 z_395 z_396 z_397 z_398 z_399 z_400 z_401 z_402 z_403 : Value), Ob (IsLst B x rows.length 3 (Rv.elemOf [.i64, .i64, .i64] rows)) ∧ ((↑a_3.k : Int) < (↑rows.length : Int) → Ob ((0 : Int) ≤ (↑a_3.k : Int) ∧ a_3.k <
  rows.length) ∧ Ob (a_3.k < rows.length) ∧ (¬cG n rows (cL n rows - a_2) a_3.k → (¬a_3.b < (0 : Int) → Ob (IsLst B x rows.length 3 (Rv.elemOf [.i64, .i64, .i64] rows)) ∧ Ob ((0 : Int) ≤ (↑a_3.k : Int) ∧ a_3.k <
  rows.length ∧ IsLst B x rows.length 3 (Rv.elemOf [.i64, .i64, .i64] rows)) ∧ Ob (IsLst B x rows.length 3 (Rv.elemOf [.i64, .i64, .i64] rows) ∧ a_3.k < rows.length) ∧ Ob (IsLst B x rows.length 3 (Rv.elemOf [.i64, .i64,
  .i64] rows) ∧ a_3.k < rows.length) ∧ Ob (IsLst B x rows.length 3 (Rv.elemOf [.i64, .i64, .i64] rows) ∧ a_3.k < rows.length) ∧ Ob (InR .i64 (n * cell rows a_3.k 2)) ∧ Ob ((0 : Int) < cN rows ∧ InR .i64 ((n * cell rows
  a_3.k 2).tmod (cN rows))) ∧ Ob (IsLst B x rows.length 3 (Rv.elemOf [.i64, .i64, .i64] rows)) ∧ Ob ((0 : Int) ≤ a_3.b ∧ a_3.b.toNat < rows.length ∧ IsLst B x rows.length 3 (Rv.elemOf [.i64, .i64, .i64] rows)) ∧ Ob (IsLst
  B x rows.length 3 (Rv.elemOf [.i64, .i64, .i64] rows) ∧ a_3.b.toNat < rows.length) ∧ Ob (IsLst B x rows.length 3 (Rv.elemOf [.i64, .i64, .i64] rows) ∧ a_3.b.toNat < rows.length) ∧ Ob (IsLst B x rows.length 3 (Rv.elemOf
  [.i64, .i64, .i64] rows) ∧ a_3.b.toNat < rows.length) ∧ Ob (InR .i64 (n * cell rows a_3.b.toNat 2)) ∧ Ob ((0 : Int) < cN rows ∧ InR .i64 ((n * cell rows a_3.b.toNat 2).tmod (cN rows))) ∧ ((n * cell rows a_3.b.toNat
  2).tmod (cN rows) < (n * cell rows a_3.k 2).tmod (cN rows) → Ob (InR .i64 ((↑a_3.k : Int) + (1 : Int))) ∧ ∃ (a' : Bq), Ob (a'.Ok n rows (cL n rows - a_2) ∧ rows.length - a'.k < rows.length - a_3.k) ∧ Ob (SV.lst x
  rows.length 3 (Rv.elemOf [.i64, .i64, .i64] rows) = SV.lst x rows.length 3 (Rv.elemOf [.i64, .i64, .i64] rows)) ∧ Ob (n = n) ∧ Ob (SV.v (Value.slice none 0 0) = SV.v (Value.slice none 0 0)) ∧ Ob (cN rows = cN rows) ∧ Ob
  (rows.length = rows.length) ∧ Ob (a_2 = a_2) ∧ Ob (rows.length = rows.length) ∧ Ob ((↑a_3.k : Int) = a'.b) ∧ Ob ((↑a_3.k : Int) + (1 : Int) = (↑a'.k : Int)) ∧ Ob (rows.length = rows.length ∧ ∀ (i : Nat), i < rows.length
  → (El.fn fun (i : Nat) ↦ [SV.p (cG n rows (cL n rows - a_2) i)]).at i = (El.fn fun (i : Nat) ↦ [SV.p (cG n rows (cL n rows - a_2) i)]).at i) ∧ Ob (rows.length = rows.length ∧ ∀ (i : Nat), i < rows.length → (El.fn fun (i
  : Nat) ↦ [SV.i .i64 (cO n rows (cL n rows - a_2) i)]).at i = (El.fn fun (i : Nat) ↦ [SV.i .i64 (cO n rows (cL n rows - a_2) i)]).at i) ∧ Ob (IsLst B x rows.length 3 (Rv.elemOf [.i64, .i64, .i64] rows)) ∧ Ob (PlainE
  rows.length (El.fn fun (i : Nat) ↦ [SV.p (cG n rows (cL n rows - a_2) i)])) ∧ Ob (PlainE rows.length (El.fn fun (i : Nat) ↦ [SV.i .i64 (cO n rows (cL n rows - a_2) i)])) ∧ True) ∧ (¬(n * cell rows a_3.b.toNat 2).tmod (cN
  rows) < (n * cell rows a_3.k 2).tmod (cN rows) → Ob (InR .i64 ((↑a_3.k : Int) + (1 : Int))) ∧ ∃ (a' : Bq), Ob (a'.Ok n rows (cL n rows - a_2) ∧ rows.length - a'.k < rows.length - a_3.k) ∧ Ob (SV.lst x rows.length 3
  (Rv.elemOf [.i64, .i64, .i64] rows) = SV.lst x rows.length 3 (Rv.elemOf [.i64, .i64, .i64] rows)) ∧ Ob (n = n) ∧ Ob (SV.v (Value.slice none 0 0) = SV.v (Value.slice none 0 0)) ∧ Ob (cN rows = cN rows) ∧ Ob (rows.length =
  rows.length) ∧ Ob (a_2 = a_2) ∧ Ob (rows.length = rows.length) ∧ Ob (a_3.b = a'.b) ∧ Ob ((↑a_3.k : Int) + (1 : Int) = (↑a'.k : Int)) ∧ Ob (rows.length = rows.length ∧ ∀ (i : Nat), i < rows.length → (El.fn fun (i : Nat) ↦
  [SV.p (cG n rows (cL n rows - a_2) i)]).at i = (El.fn fun (i : Nat) ↦ [SV.p (cG n rows (cL n rows - a_2) i)]).at i) ∧ Ob (rows.length = rows.length ∧ ∀ (i : Nat), i < rows.length → (El.fn fun (i : Nat) ↦ [SV.i .i64 (cO n
  rows (cL n rows - a_2) i)]).at i = (El.fn fun (i : Nat) ↦ [SV.i .i64 (cO n rows (cL n rows - a_2) i)]).at i) ∧ Ob (IsLst B x rows.length 3 (Rv.elemOf [.i64, .i64, .i64] rows)) ∧ Ob (PlainE rows.length (El.fn fun (i :
  Nat) ↦ [SV.p (cG n rows (cL n rows - a_2) i)])) ∧ Ob (PlainE rows.length (El.fn fun (i : Nat) ↦ [SV.i .i64 (cO n rows (cL n rows - a_2) i)])) ∧ True)) ∧ (a_3.b < (0 : Int) → Ob (InR .i64 ((↑a_3.k : Int) + (1 : Int))) ∧ ∃
  (a' : Bq), Ob (a'.Ok n rows (cL n rows - a_2) ∧ rows.length - a'.k < rows.length - a_3.k) ∧ Ob (SV.lst x rows.length 3 (Rv.elemOf [.i64, .i64, .i64] rows) = SV.lst x rows.length 3 (Rv.elemOf [.i64, .i64, .i64] rows)) ∧
  Ob (n = n) ∧ Ob (SV.v (Value.slice none 0 0) = SV.v (Value.slice none 0 0)) ∧ Ob (cN rows = cN rows) ∧ Ob (rows.length = rows.length) ∧ Ob (a_2 = a_2) ∧ Ob (rows.length = rows.length) ∧ Ob ((↑a_3.k : Int) = a'.b) ∧ Ob
  ((↑a_3.k : Int) + (1 : Int) = (↑a'.k : Int)) ∧ Ob (rows.length = rows.length ∧ ∀ (i : Nat), i < rows.length → (El.fn fun (i : Nat) ↦ [SV.p (cG n rows (cL n rows - a_2) i)]).at i = (El.fn fun (i : Nat) ↦ [SV.p (cG n rows
  (cL n rows - a_2) i)]).at i) ∧ Ob (rows.length = rows.length ∧ ∀ (i : Nat), i < rows.length → (El.fn fun (i : Nat) ↦ [SV.i .i64 (cO n rows (cL n rows - a_2) i)]).at i = (El.fn fun (i : Nat) ↦ [SV.i .i64 (cO n rows (cL n
  rows - a_2) i)]).at i) ∧ Ob (IsLst B x rows.length 3 (Rv.elemOf [.i64, .i64, .i64] rows)) ∧ Ob (PlainE rows.length (El.fn fun (i : Nat) ↦ [SV.p (cG n rows (cL n rows - a_2) i)])) ∧ Ob (PlainE rows.length (El.fn fun (i :
  Nat) ↦ [SV.i .i64 (cO n rows (cL n rows - a_2) i)])) ∧ True)) ∧ (¬¬cG n rows (cL n rows - a_2) a_3.k → Ob (InR .i64 ((↑a_3.k : Int) + (1 : Int))) ∧ ∃ (a' : Bq), Ob (a'.Ok n rows (cL n rows - a_2) ∧ rows.length - a'.k <
  rows.length - a_3.k) ∧ Ob (SV.lst x rows.length 3 (Rv.elemOf [.i64, .i64, .i64] rows) = SV.lst x rows.length 3 (Rv.elemOf [.i64, .i64, .i64] rows)) ∧ Ob (n = n) ∧ Ob (SV.v (Value.slice none 0 0) = SV.v (Value.slice none
  0 0)) ∧ Ob (cN rows = cN rows) ∧ Ob (rows.length = rows.length) ∧ Ob (a_2 = a_2) ∧ Ob (rows.length = rows.length) ∧ Ob (a_3.b = a'.b) ∧ Ob ((↑a_3.k : Int) + (1 : Int) = (↑a'.k : Int)) ∧ Ob (rows.length = rows.length ∧ ∀
  (i : Nat), i < rows.length → (El.fn fun (i : Nat) ↦ [SV.p (cG n rows (cL n rows - a_2) i)]).at i = (El.fn fun (i : Nat) ↦ [SV.p (cG n rows (cL n rows - a_2) i)]).at i) ∧ Ob (rows.length = rows.length ∧ ∀ (i : Nat), i <
  rows.length → (El.fn fun (i : Nat) ↦ [SV.i .i64 (cO n rows (cL n rows - a_2) i)]).at i = (El.fn fun (i : Nat) ↦ [SV.i .i64 (cO n rows (cL n rows - a_2) i)]).at i) ∧ Ob (IsLst B x rows.length 3 (Rv.elemOf [.i64, .i64,
  .i64] rows)) ∧ Ob (PlainE rows.length (El.fn fun (i : Nat) ↦ [SV.p (cG n rows (cL n rows - a_2) i)])) ∧ Ob (PlainE rows.length (El.fn fun (i : Nat) ↦ [SV.i .i64 (cO n rows (cL n rows - a_2) i)])) ∧ True)) ∧ (¬(↑a_3.k :
  Int) < (↑rows.length : Int) → Ob ((0 : Int) ≤ a_3.b ∧ a_3.b.toNat < rows.length) ∧ Ob (a_3.b.toNat < rows.length ∧ ((El.fn fun (i : Nat) ↦ [SV.p (cG n rows (cL n rows - a_2) i)]).at a_3.b.toNat).length = (1 : Nat)) ∧ Ob
  ((0 : Int) ≤ a_3.b ∧ a_3.b.toNat < rows.length) ∧ Ob (a_3.b.toNat < rows.length) ∧ Ob (InR .i64 (cO n rows (cL n rows - a_2) a_3.b.toNat + (1 : Int))) ∧ Ob ((0 : Int) ≤ a_3.b ∧ a_3.b.toNat < rows.length) ∧ Ob
  (a_3.b.toNat < rows.length ∧ ((El.fn fun (i : Nat) ↦ [SV.i .i64 (cO n rows (cL n rows - a_2) i)]).at a_3.b.toNat).length = (1 : Nat)) ∧ Ob (InR .i64 (a_2 - (1 : Int))) ∧ ∃ (a' : Int), Ob (((0 : Int) ≤ a' ∧ a' ≤ cL n
  rows) ∧ a'.toNat < a_2.toNat) ∧ Ob (SV.lst x rows.length 3 (Rv.elemOf [.i64, .i64, .i64] rows) = SV.lst x rows.length 3 (Rv.elemOf [.i64, .i64, .i64] rows)) ∧ Ob (n = n) ∧ Ob (SV.v (Value.slice none 0 0) = SV.v
  (Value.slice none 0 0)) ∧ Ob (cN rows = cN rows) ∧ Ob (rows.length = rows.length) ∧ Ob (a_2 - (1 : Int) = a') ∧ Ob (rows.length = rows.length) ∧ Ob (rows.length = rows.length ∧ ∀ (i : Nat), i < rows.length → (updL (El.fn
  fun (i : Nat) ↦ [SV.p (cG n rows (cL n rows - a_2) i)]) a_3.b.toNat 0 [SV.p (true = true)]).at i = (El.fn fun (i : Nat) ↦ [SV.p (cG n rows (cL n rows - a') i)]).at i) ∧ Ob (rows.length = rows.length ∧ ∀ (i : Nat), i <
  rows.length → (updL (El.fn fun (i : Nat) ↦ [SV.i .i64 (cO n rows (cL n rows - a_2) i)]) a_3.b.toNat 0 [SV.i .i64 (cO n rows (cL n rows - a_2) a_3.b.toNat + (1 : Int))]).at i = (El.fn fun (i : Nat) ↦ [SV.i .i64 (cO n rows
  (cL n rows - a') i)]).at i) ∧ Ob (IsLst B x rows.length 3 (Rv.elemOf [.i64, .i64, .i64] rows)) ∧ Ob (PlainE rows.length (El.fn fun (i : Nat) ↦ [SV.p (cG n rows (cL n rows - a') i)])) ∧ Ob (PlainE rows.length (El.fn fun
  (i : Nat) ↦ [SV.i .i64 (cO n rows (cL n rows - a') i)])) ∧ True)) ∧ (¬(0 : Int) < a_2 → Ob (rows.length = rows.length) ∧ Ob (rows.length = rows.length ∧ ∀ (i : Nat), i < rows.length → (El.fn fun (i : Nat) ↦ [SV.i .i64
  (cO n rows (cL n rows - a_2) i)]).at i = (El.fn fun (i : Nat) ↦ [SV.i .i64 (cS n rows i)]).at i) ∧ Ob (PlainE rows.length (El.fn fun (i : Nat) ↦ [SV.i .i64 (cS n rows i)])) ∧ True)))

set_option linter.unusedSimpArgs false in
set_option maxRecDepth 4000 in
set_option maxHeartbeats 2000000 in
theorem v_sharesR : V_sharesR := by
  unfold V_sharesR
  intro B x A hx hox hrx d hok
  have hok : ShOk d A := hok
  have hl := hok.l
  have hc := hok.c
  have hd := hok.d
  have tb : ∀ k, k ≤ A.length → 0 ≤ colS 2 A k ∧ colS 2 A k ≤ k * 1000000000 := fun k hk => cS_bd hc hk
  have sh := hok.sh
  have hN := hok.n.1
  have nb := hok.n.2
  have h0 : cN A ≠ 0 := hok.z
  simp only [Ob_iff, and_true, true_and, implies_true, true_implies, not_true_eq_false, false_implies]
  refine ⟨⟨0, by omega, rfl, rfl, hx⟩, ?_⟩
  intro k hk
  intros
  refine ⟨hx, fun h => ?_, fun h => ?_⟩
  · have hk' : k < A.length := by omega
    have t := tb k (by omega)
    have c := hc k hk'
    exact ⟨⟨by omega, hk', hx⟩, ⟨hx, hk'⟩, by simp only [InR]; omega, by simp only [InR]; omega, k + 1, ⟨hk', by omega⟩, rfl, by omega, hx⟩
  have ek : k = A.length := by omega
  subst ek
  clear h hk
  refine ⟨hx, ⟨by omega, by omega⟩, ⟨0, by omega, rfl, by simp [sumF], rfl, fun i _ => ?_, hx, plain_fnD _ _⟩, ?_⟩
  · show [SV.i .i64 0] = [SV.i .i64 (cF d A 0 i)]
    simp [cF]
  intro k hk
  intros
  refine ⟨hx, fun h => ?_, fun h => ?_⟩
  · have hk' : k < A.length := by omega
    have c := cFl_bd hok hk'
    have s := sFl_bd hok (k := k) (by omega)
    have tl := tb A.length (Nat.le_refl _)
    have e : (d * cell A k 2).tdiv (cN A) = cFl d A k := by rw [Int.tdiv_eq_ediv_of_nonneg c.2.2.1]; rfl
    rw [e]
    exact ⟨⟨by omega, hk', hx⟩, ⟨hx, hk'⟩, by simp only [InR]; omega, ⟨hN, by simp only [InR]; omega⟩, ⟨by omega, hk'⟩, ⟨hk', rfl⟩, ⟨by omega, hk'⟩, hk', by simp only [InR]; omega, by simp only [InR]; omega, k + 1, ⟨hk', by omega⟩, by simp only [sumF]; omega, by omega, fun i _ => cF_upd d A k i, hx, plain_fnD _ _⟩
  have ek : k = A.length := by omega
  subst ek
  clear h hk
  have lb := sh.lefB
  have ll : cL d A ≤ A.length := sh.lt
  refine ⟨hx, ⟨by omega, by omega⟩, ⟨cL d A, ⟨lb.1, Int.le_refl _⟩, rfl, fun i _ => ?_, fun i hi => ?_, hx, plain_p _ _, plain_fnD _ _⟩, ?_⟩
  · show [SV.p (false = true)] = [SV.p (cG d A (cL d A - cL d A) i)]
    have : (false = true) = cG d A (cL d A - cL d A) i := propext ⟨fun h => by simp at h, fun h => by
      have := cK_nn d A i
      unfold cG at h
      omega⟩
    rw [this]
  · show [SV.i .i64 (cF d A A.length i)] = [SV.i .i64 (cO d A (cL d A - cL d A) i)]
    have := cK_nn d A i
    unfold cF cO
    rw [if_pos hi, if_neg (by omega)]
    simp
  intro r hr
  intros
  refine ⟨fun h1 => ⟨⟨⟨0, -1⟩, ⟨Nat.zero_le _, .inl ⟨rfl, fun i hi => absurd hi (Nat.not_lt_zero i)⟩⟩, rfl, rfl, hx, plain_p _ _, plain_fnD _ _⟩, ?_⟩, fun h1 => ?_⟩
  · intro v hv
    intros
    have hvk := hv.k
    refine ⟨hx, fun h2 => ?_, fun h2 => ?_⟩
    · have hk' : v.k < A.length := by omega
      have rk1 : InR .i64 ((v.k : Int) + 1) := by simp only [InR]; omega
      have c := cFl_bd hok hk'
      refine ⟨⟨by omega, hk'⟩, hk', fun h3 => ⟨fun h4 => ?_, fun h4 => ?_⟩, fun h3 => ?_⟩
      · have hb : v.b.toNat < A.length := by
          rcases hv.b with ⟨h5, _⟩ | ⟨b, h5, h6, _⟩ <;> omega
        have cb := cFl_bd hok hb
        have e1 : (d * cell A v.k 2).tmod (cN A) = cR d A v.k := by rw [Int.tmod_eq_emod_of_nonneg c.2.2.1]; rfl
        have e2 : (d * cell A v.b.toNat 2).tmod (cN A) = cR d A v.b.toNat := by rw [Int.tmod_eq_emod_of_nonneg cb.2.2.1]; rfl
        rw [e1, e2]
        have r1 := sh.rstB v.k
        have r2 := sh.rstB v.b.toNat
        have r1 : 0 ≤ cR d A v.k ∧ cR d A v.k ≤ cN A - 1 := r1
        have r2 : 0 ≤ cR d A v.b.toNat ∧ cR d A v.b.toNat ≤ cN A - 1 := r2
        refine ⟨hx, ⟨by omega, hk', hx⟩, ⟨hx, hk'⟩, ⟨hx, hk'⟩, ⟨hx, hk'⟩, by simp only [InR]; omega, ⟨hN, by simp only [InR]; omega⟩, hx, ⟨by omega, hb, hx⟩, ⟨hx, hb⟩, ⟨hx, hb⟩, ⟨hx, hb⟩, by simp only [InR]; omega, ⟨hN, by simp only [InR]; omega⟩, fun h5 => ?_, fun h5 => ?_⟩
        · exact ⟨rk1, ⟨v.k + 1, v.k⟩, ⟨bq_new hv hk' h3 (.inr h5), by show A.length - (v.k + 1) < A.length - v.k; omega⟩, rfl, rfl, hx, plain_p _ _, plain_fnD _ _⟩
        · exact ⟨rk1, ⟨v.k + 1, v.b⟩, ⟨bq_keep hv hk' (by omega) h5, by show A.length - (v.k + 1) < A.length - v.k; omega⟩, rfl, rfl, hx, plain_p _ _, plain_fnD _ _⟩
      · exact ⟨rk1, ⟨v.k + 1, v.k⟩, ⟨bq_new hv hk' h3 (.inl h4), by show A.length - (v.k + 1) < A.length - v.k; omega⟩, rfl, rfl, hx, plain_p _ _, plain_fnD _ _⟩
      · exact ⟨rk1, ⟨v.k + 1, v.b⟩, ⟨bq_skip hv hk' (Classical.not_not.1 h3), by show A.length - (v.k + 1) < A.length - v.k; omega⟩, rfl, rfl, hx, plain_p _ _, plain_fnD _ _⟩
    · obtain ⟨b, eb, hb, hK⟩ := best_is (d := d) (A := A) (s := cL d A - r) (by omega) (by omega) sh (by omega) hv
      have et : v.b.toNat = b := by omega
      rw [et]
      have cb := cFl_bd hok hb
      have ob : 0 ≤ cO d A (cL d A - r) b ∧ cO d A (cL d A - r) b ≤ 1000000000000000001 := by
        unfold cO
        split <;> omega
      have es : cL d A - (r - 1) = cL d A - r + 1 := by omega
      refine ⟨⟨by omega, hb⟩, ⟨hb, rfl⟩, ⟨by omega, hb⟩, hb, by simp only [InR]; omega, ⟨by omega, hb⟩, ⟨hb, rfl⟩, by simp only [InR]; omega, r - 1, ⟨⟨by omega, by omega⟩, by omega⟩, rfl, fun i hi => ?_, fun i hi => ?_, hx, plain_p _ _, plain_fnD _ _⟩
      · rw [es]; exact cG_upd hb hi hK
      · rw [es]; exact cO_upd hb hi hK
  · have er : r = 0 := by omega
    subst er
    refine ⟨fun i hi => ?_, plain_fnD _ _⟩
    show [SV.i .i64 (cO d A (cL d A - 0) i)] = [SV.i .i64 (cS d A i)]
    have : cO d A (cL d A - 0) i = cS d A i := by
      unfold cO cS shr
      rw [if_neg h0, Int.sub_zero]
      rfl
    rw [this]

theorem e_sharesR : V_sharesR = needE P [] [] A_sharesR F_sharesR := by kernel_rfl

theorem n_sharesR : Ob (needE P [] [] A_sharesR F_sharesR) := by
  rw [← e_sharesR]
  exact ⟨v_sharesR⟩

theorem b_sharesR : ((P.funcs[42]?).any fun fn => fn.body.isSome) = true := by kernel_rfl

theorem sharesR_ok : FnE.Ok P F_sharesR := FnE.ok named (l := []) (es := []) (A := A_sharesR) (by rfl) (by rfl) (by rfl) (by
  intro F h; simp at h) (by
  intro F h; simp at h) b_sharesR (by
  intro ds h o ho n sz e k z he
  subst he
  simp only [F_sharesR] at ho
  split at ho
  · simp only [List.mem_cons, List.not_mem_nil, or_false, SObj.gr.injEq] at ho
    obtain ⟨rfl, rfl, rfl, rfl, rfl⟩ := ho
    exact plain_fnD _ _
  · simp at ho) n_sharesR

end Go.Proofs.Ytcfhnbhncdkknaa.Sy
