/- A number that is shared among some (the reference). -/
import Derived.Test.YtlnldabgbfcdcaaSyP2
import Derived.Test.YtlnldabgbfcdcaaGrM
import Derived.Test.YtlnldabgbfcdcaaStM
import Derived.Test.YtlnldabgbfcdcaaLrM
import Derived.Test.YtlnldabgbfcdcaaDhM
import Derived.Test.YtlnldabgbfcdcaaKtT
import Derived.Test.YtlnldabgbfcdcaaKtA
import Derived.Test.YtlnldabgbfcdcaaKtB
import Derived.Test.YtlnldabgbfcdcaaKtD
import Derived.Test.YtlnldabgbfcdcaaKtW
import Derived.Test.YtlnldabgbfcdcaaSyP2
import Derived.KernelRfl
import Derived.Test.YtlnldabgbfcdcaaProg
namespace Go.Proofs.Ytlnldabgbfcdcaa.Sy
open Go Go.Rv
set_option linter.unusedVariables false

structure PrtOk (d : Int) (L : Rows) : Prop where
  l : L.length ≤ 20
  c : ∀ i, i < L.length → 0 ≤ cell L i 0 ∧ cell L i 0 ≤ 10000
  d : 0 ≤ d ∧ d ≤ totTo L L.length
def pA (L : Rows) (i : Nat) : Int := cell L i 0
def pN (L : Rows) : Int := totTo L L.length
def pR (d : Int) (L : Rows) : Nat → Int := rst d (pN L) (pA L)
def pL (d : Int) (L : Rows) : Int := lef d (pN L) (pA L) L.length
def pFl (d : Int) (L : Rows) : Nat → Int := flo d (pN L) (pA L)
def pF (d : Int) (L : Rows) (k i : Nat) : Int := if i < k then pFl d L i else 0
noncomputable def pK (d : Int) (L : Rows) (i : Nat) : Int := (rk (pR d L) L.length i : Nat)
def pG (d : Int) (L : Rows) (s : Int) (i : Nat) : Prop := pK d L i < s
noncomputable def pO (d : Int) (L : Rows) (s : Int) (i : Nat) : Int := pFl d L i + (if pK d L i < s then 1 else 0)
noncomputable def pS (d : Int) (L : Rows) : Nat → Int := shr d (pN L) (pA L) L.length
structure Bq where
  k : Nat
  b : Int
structure Bq.Ok (v : Bq) (d : Int) (L : Rows) (s : Int) : Prop where
  k : v.k ≤ L.length
  b : (v.b = -1 ∧ ∀ i, i < v.k → pK d L i < s) ∨ ∃ b : Nat, v.b = b ∧ b < v.k ∧ s ≤ pK d L b ∧ ∀ i, i < v.k → s ≤ pK d L i → i ≠ b → bfr (pR d L) b i
theorem plain_p (n : Nat) (f : Nat → Prop) : PlainE n (.fn fun i => [SV.p (f i)]) := by
  intro i _ y hy
  simp only [El.at, List.mem_cons, List.not_mem_nil, or_false] at hy
  subst hy
  trivial
theorem tot_sum (L : Rows) : ∀ k, totTo L k = sumF (pA L) k
  | 0 => rfl
  | k + 1 => by simp only [totTo, sumF, tot_sum L k, pA]
theorem PrtOk.sh {d : Int} {L : Rows} (h : PrtOk d L) (h0 : pN L ≠ 0) : ShA d (pN L) (pA L) L.length :=
  ⟨h.d.1, fun i hi => (h.c i hi).1, (tot_sum L _).symm, by
    have : 0 ≤ sumF (pA L) L.length := sumF_nn fun i hi => (h.c i hi).1
    have e := tot_sum L L.length
    unfold pN at *
    omega⟩
theorem bq_skip {v : Bq} {d : Int} {L : Rows} {s : Int} (h : v.Ok d L s) (hk : v.k < L.length) (hg : pK d L v.k < s) : Bq.Ok ⟨v.k + 1, v.b⟩ d L s := by
  refine ⟨hk, ?_⟩
  rcases h.b with ⟨h1, h2⟩ | ⟨b, h1, h2, h3, h4⟩
  · refine .inl ⟨h1, fun i hi => ?_⟩
    have hi : i < v.k + 1 := hi
    by_cases e : i = v.k
    · subst e; exact hg
    · exact h2 i (by omega)
  · refine .inr ⟨b, h1, Nat.lt_succ_of_lt h2, h3, fun i hi h5 h6 => ?_⟩
    have hi : i < v.k + 1 := hi
    by_cases e : i = v.k
    · subst e; omega
    · exact h4 i (by omega) h5 h6
theorem bq_keep {v : Bq} {d : Int} {L : Rows} {s : Int} (h : v.Ok d L s) (hk : v.k < L.length) (hb : 0 ≤ v.b) (hr : ¬ pR d L v.b.toNat < pR d L v.k) : Bq.Ok ⟨v.k + 1, v.b⟩ d L s := by
  refine ⟨hk, ?_⟩
  rcases h.b with ⟨h1, h2⟩ | ⟨b, h1, h2, h3, h4⟩
  · omega
  · refine .inr ⟨b, h1, Nat.lt_succ_of_lt h2, h3, fun i hi h5 h6 => ?_⟩
    have hi : i < v.k + 1 := hi
    by_cases e : i = v.k
    · subst e
      rw [h1, Int.toNat_natCast] at hr
      unfold bfr
      omega
    · exact h4 i (by omega) h5 h6
theorem bq_new {v : Bq} {d : Int} {L : Rows} {s : Int} (h : v.Ok d L s) (hk : v.k < L.length) (hn : ¬ pK d L v.k < s) (hc : v.b < 0 ∨ pR d L v.b.toNat < pR d L v.k) : Bq.Ok ⟨v.k + 1, v.k⟩ d L s := by
  refine ⟨hk, .inr ⟨v.k, rfl, Nat.lt_succ_self _, by omega, fun i hi h5 h6 => ?_⟩⟩
  have hi : i < v.k + 1 := hi
  rcases h.b with ⟨h1, h2⟩ | ⟨b, h1, h2, h3, h4⟩
  · have := h2 i (by omega)
    omega
  · have hc : pR d L b < pR d L v.k := by
      rcases hc with hc | hc
      · omega
      · rwa [h1, Int.toNat_natCast] at hc
    by_cases e : i = b
    · subst e
      exact .inl hc
    · have := h4 i (by omega) h5 e
      unfold bfr at *
      omega
theorem pK_nn (d : Int) (L : Rows) (i : Nat) : 0 ≤ pK d L i := by unfold pK; omega
theorem pK_inj {d : Int} {L : Rows} {i j : Nat} (hi : i < L.length) (hj : j < L.length) (h : pK d L i = pK d L j) : i = j := rk_inj (R := pR d L) hi hj (by unfold pK at h; omega)
theorem best_is {d : Int} {L : Rows} {s : Int} (hs : 0 ≤ s) (h1 : s < pL d L) (sh : ShA d (pN L) (pA L) L.length) {v : Bq} (hk : v.k = L.length) (h : v.Ok d L s) : ∃ b : Nat, v.b = b ∧ b < L.length ∧ pK d L b = s := by
  have hl : pL d L ≤ L.length := sh.lt
  obtain ⟨s', rfl⟩ := Int.eq_ofNat_of_zero_le hs
  have hsn : s' ≤ L.length := by omega
  rcases h.b with ⟨h2, h3⟩ | ⟨b, h2, h3, h4, h5⟩
  · have e1 := rk_cnt (pR d L) L.length s' hsn
    rw [cnt_all fun i hi => by have := h3 i (by omega); unfold pK at this; omega] at e1
    omega
  · refine ⟨b, h2, by omega, ?_⟩
    have := rk_next (R := pR d L) (n := L.length) (s := s') (b := b) (by omega) hsn (by unfold pK at h4; omega) fun i hi h6 h7 => h5 i (by omega) (by unfold pK; omega) h7
    unfold pK
    omega
theorem pFl_bd {d : Int} {L : Rows} (h : PrtOk d L) (h0 : pN L ≠ 0) {i : Nat} (hi : i < L.length) : 0 ≤ pFl d L i ∧ pFl d L i ≤ 2000000000 ∧ 0 ≤ d * cell L i 0 ∧ d * cell L i 0 ≤ 2000000000 := by
  have tb := tot_bd (L := L) (M := 10000) (k := L.length) h.c
  have c := h.c i hi
  have hd := h.d
  have hl := h.l
  have m0 : 0 ≤ d * cell L i 0 := Int.mul_nonneg hd.1 c.1
  have m1 : d * cell L i 0 ≤ 200000 * 10000 := Int.mul_le_mul (by omega) c.2 c.1 (by omega)
  have hN : 0 < pN L := by unfold pN at *; omega
  have e : pFl d L i = d * cell L i 0 / pN L := rfl
  rw [e]
  exact ⟨Int.ediv_nonneg m0 (by omega), by have := Int.ediv_le_self (pN L) m0; omega, m0, by omega⟩
theorem sFl_bd {d : Int} {L : Rows} (h : PrtOk d L) (h0 : pN L ≠ 0) : ∀ {k : Nat}, k ≤ L.length → 0 ≤ sumF (pFl d L) k ∧ sumF (pFl d L) k ≤ k * 2000000000
  | 0, _ => by simp [sumF]
  | k + 1, hk => by
    have ih := sFl_bd h h0 (k := k) (by omega)
    have hc := pFl_bd h h0 (i := k) (by omega)
    have e : ((k + 1 : Nat) : Int) * 2000000000 = k * 2000000000 + 2000000000 := by rw [Int.natCast_add, Int.add_mul]; simp
    rw [e]
    simp only [sumF]
    omega
theorem pF_upd (d : Int) (L : Rows) (k i : Nat) : (updL (El.fn fun i => [SV.i .i64 (pF d L k i)]) k 0 [SV.i .i64 (pFl d L k)]).at i = (El.fn fun i => [SV.i .i64 (pF d L (k + 1) i)]).at i := by
  simp only [updL, El.at, pF]
  by_cases e : i = k
  · subst e
    have n1 : i < i + 1 := by omega
    rw [if_pos rfl]
    show [SV.i .i64 (pFl d L i)] = [SV.i .i64 (if i < i + 1 then pFl d L i else 0)]
    rw [if_pos n1]
  · rw [if_neg e]
    by_cases h : i < k
    · have n1 : i < k + 1 := by omega
      rw [if_pos h, if_pos n1]
    · have n1 : ¬ i < k + 1 := by omega
      rw [if_neg h, if_neg n1]
theorem pG_upd {d : Int} {L : Rows} {b i : Nat} {s : Int} (hb : b < L.length) (hi : i < L.length) (e : pK d L b = s) : (updL (El.fn fun i => [SV.p (pG d L s i)]) b 0 [SV.p True]).at i = (El.fn fun i => [SV.p (pG d L (s + 1) i)]).at i := by
  simp only [updL, El.at]
  by_cases h : i = b
  · rw [if_pos h, h]
    show [SV.p True] = [SV.p (pG d L (s + 1) b)]
    have : True = pG d L (s + 1) b := propext ⟨fun _ => by unfold pG; omega, fun _ => trivial⟩
    rw [this]
  · rw [if_neg h]
    have : pG d L s i = pG d L (s + 1) i := propext (by
      unfold pG
      constructor
      · intro h1; omega
      · intro h1
        by_cases e2 : pK d L i = s
        · exact absurd (pK_inj (d := d) hi hb (by omega)) h
        · omega)
    show [SV.p (pG d L s i)] = _
    rw [this]
theorem pO_upd {d : Int} {L : Rows} {b i : Nat} {s : Int} (hb : b < L.length) (hi : i < L.length) (e : pK d L b = s) : (updL (El.fn fun i => [SV.i .i64 (pO d L s i)]) b 0 [SV.i .i64 (pO d L s b + 1)]).at i = (El.fn fun i => [SV.i .i64 (pO d L (s + 1) i)]).at i := by
  simp only [updL, El.at]
  by_cases h : i = b
  · rw [if_pos h, h]
    show [SV.i .i64 (pO d L s b + 1)] = [SV.i .i64 (pO d L (s + 1) b)]
    have n1 : ¬ pK d L b < s := by omega
    have n2 : pK d L b < s + 1 := by omega
    unfold pO
    rw [if_neg n1, if_pos n2]
    simp
  · rw [if_neg h]
    show [SV.i .i64 (pO d L s i)] = [SV.i .i64 (pO d L (s + 1) i)]
    unfold pO
    by_cases e2 : pK d L i < s
    · have n1 : pK d L i < s + 1 := by omega
      rw [if_pos e2, if_pos n1]
    · have n1 : ¬ pK d L i < s + 1 := fun h1 => h (pK_inj (d := d) hi hb (by omega))
      rw [if_neg e2, if_neg n1]

noncomputable def F_shareS : FnE := ⟨27, none, [i64, .one (.l [.i64])], fun l => match l with | [.z d, .l L] => PrtOk d L | _ => False, fun l => match l with | [.z d, .l L] => [.gsl 0 L.length 1 false] | _ => [], fun l => match l with | [.z d, .l L] => [.gr L.length 1 (.fn fun i => [.i .i64 (pS d L i)]) .ex false] | _ => [], fun l => match l with | [.z d, .l L] => [] | _ => [], false, none⟩
noncomputable def A_shareS : List SV → List Dat → Nat → List SV → Ann := fun xs ds n ts => match xs with
  | [.i _ _, .lst x _ _ _] => match ds with
    | [.z d, .l L] => match n with
      | 3 => ⟨Nat, fun k => [some (SV.i IntKind.i64 d), some (SV.lst x L.length ((1 : Nat)) (Rv.elemOf [IntKind.i64] L)), none, none, some (SV.v (Value.slice none ((0 : Nat)) ((0 : Nat)))), some (.i .i64 (totTo L k)), some (.i .i64 k), none, none, none, none, none, none, none, none, none, none, none, none, none, none, none, none, none, none, none, none, none, none, none, none, none, none, none, none, none, none, none, none, none, none, none, none, none, none, none, none, none, none, none, none, none, none, none, none, none, none, none, none, none, none, none, none, none, none, none, none, none, none, none, none, none, none, none, none, none, none, none, none, none, none, none, none, none, none, none, none, none, none, none, none, none, none, none, none, none, none, none, none, none, none, none, none, none, none, none, none], fun k => [], fun k => k ≤ L.length, fun k => L.length - k, 0⟩
      | 11 => ⟨Nat, fun k => [some (SV.i IntKind.i64 d), some (SV.lst x L.length ((1 : Nat)) (Rv.elemOf [IntKind.i64] L)), none, none, some (SV.v (Value.slice none ((0 : Nat)) ((0 : Nat)))), some (.i .i64 (pN L)), none, some (.gsl 0 L.length 1 false), some (.i .i64 (d - sumF (pFl d L) k)), some (.i .i64 k), none, none, none, none, none, none, none, none, none, none, none, none, none, none, none, none, none, none, none, none, none, none, none, none, none, none, none, none, none, none, none, none, none, none, none, none, none, none, none, none, none, none, none, none, none, none, none, none, none, none, none, none, none, none, none, none, none, none, none, none, none, none, none, none, none, none, none, none, none, none, none, none, none, none, none, none, none, none, none, none, none, none, none, none, none, none, none, none, none, none, none, none, none, none, none, none, none], fun k => [.gr L.length 1 (.fn fun i => [.i .i64 (pF d L k i)]) .ex false], fun k => k ≤ L.length, fun k => L.length - k, 0⟩
      | 16 => ⟨Int, fun r => [some (SV.i IntKind.i64 d), some (SV.lst x L.length ((1 : Nat)) (Rv.elemOf [IntKind.i64] L)), none, none, some (SV.v (Value.slice none ((0 : Nat)) ((0 : Nat)))), some (.i .i64 (pN L)), none, some (.gsl 0 L.length 1 false), some (.i .i64 r), none, some (.gsl 1 L.length 1 false), none, none, none, none, none, none, none, none, none, none, none, none, none, none, none, none, none, none, none, none, none, none, none, none, none, none, none, none, none, none, none, none, none, none, none, none, none, none, none, none, none, none, none, none, none, none, none, none, none, none, none, none, none, none, none, none, none, none, none, none, none, none, none, none, none, none, none, none, none, none, none, none, none, none, none, none, none, none, none, none, none, none, none, none, none, none, none, none, none, none, none, none, none, none, none, none], fun r => [.gr L.length 1 (.fn fun i => [.p (pG d L (pL d L - r) i)]) .ex false, .gr L.length 1 (.fn fun i => [.i .i64 (pO d L (pL d L - r) i)]) .ex false], fun r => 0 ≤ r ∧ r ≤ pL d L, fun r => r.toNat, 0⟩
      | 20 => (match lget ts 8 with | some (SV.i _ r8) => ⟨Bq, fun v => [some (SV.i IntKind.i64 d), some (SV.lst x L.length ((1 : Nat)) (Rv.elemOf [IntKind.i64] L)), none, none, some (SV.v (Value.slice none ((0 : Nat)) ((0 : Nat)))), some (.i .i64 (pN L)), none, some (.gsl 0 L.length 1 false), some (SV.i .i64 r8), none, some (.gsl 1 L.length 1 false), some (.i .i64 v.b), some (.i .i64 v.k), none, none, none, none, none, none, none, none, none, none, none, none, none, none, none, none, none, none, none, none, none, none, none, none, none, none, none, none, none, none, none, none, none, none, none, none, none, none, none, none, none, none, none, none, none, none, none, none, none, none, none, none, none, none, none, none, none, none, none, none, none, none, none, none, none, none, none, none, none, none, none, none, none, none, none, none, none, none, none, none, none, none, none, none, none, none, none, none, none, none, none, none, none, none], fun v => [.gr L.length 1 (.fn fun i => [.p (pG d L (pL d L - r8) i)]) .ex false, .gr L.length 1 (.fn fun i => [.i .i64 (pO d L (pL d L - r8) i)]) .ex false], fun v => v.Ok d L (pL d L - r8), fun v => L.length - v.k, 0⟩ | _ => noAnn)
      | _ => noAnn
    | _ => noAnn
  | _ => noAnn

def V_shareS : Prop :=
  ∀ (B : RW) (n : Int) (x : RV) (rows : List (List Int)), IsLst B x rows.length ((1 : Nat)) (Rv.elemOf [IntKind.i64] rows) → oneB x = true → (∀ (row : List Int), row ∈ rows → row.length = (1 : Nat)) → F_shareS.pre ([Dat.z
  n] ++ ([Dat.l rows] ++ [])) → (∃ (a : Nat), Ob (a ≤ rows.length) ∧ Ob (n = n) ∧ Ob (SV.lst x rows.length ((1 : Nat)) (Rv.elemOf [IntKind.i64] rows) = SV.lst x rows.length ((1 : Nat)) (Rv.elemOf [IntKind.i64] rows)) ∧ Ob
  (SV.v (Value.slice none ((0 : Nat)) ((0 : Nat))) = SV.v (Value.slice none ((0 : Nat)) ((0 : Nat)))) ∧ Ob ((0 : Int) = totTo rows a) ∧ Ob ((0 : Int) = (↑a : Int)) ∧ Ob (IsLst B x rows.length ((1 : Nat)) (Rv.elemOf
  [IntKind.i64] rows)) ∧ True) ∧ ∀ (a : Nat), a ≤ rows.length → ∀ (z z_1 z_2 z_3 z_4 z_5 z_6 z_7 z_8 z_9 z_10 z_11 z_12 z_13 z_14 z_15 z_16 z_17 z_18 z_19 z_20 z_21 z_22 z_23 z_24 z_25 z_26 z_27 z_28 z_29 z_30 z_31 z_32
  z_33 z_34 z_35 z_36 z_37 z_38 z_39 z_40 z_41 z_42 z_43 z_44 z_45 z_46 z_47 z_48 z_49 z_50 z_51 z_52 z_53 z_54 z_55 z_56 z_57 z_58 z_59 z_60 z_61 z_62 z_63 z_64 z_65 z_66 z_67 z_68 z_69 z_70 z_71 z_72 z_73 z_74 z_75 z_76
  z_77 z_78 z_79 z_80 z_81 z_82 z_83 z_84 z_85 z_86 z_87 z_88 z_89 z_90 z_91 z_92 z_93 z_94 z_95 z_96 z_97 z_98 z_99 z_100 z_101 : Value), Ob (IsLst B x rows.length ((1 : Nat)) (Rv.elemOf [IntKind.i64] rows)) ∧ ((↑a : Int)
  < (↑rows.length : Int) → Ob ((0 : Int) ≤ (↑a : Int) ∧ a < rows.length ∧ IsLst B x rows.length ((1 : Nat)) (Rv.elemOf [IntKind.i64] rows)) ∧ Ob (IsLst B x rows.length ((1 : Nat)) (Rv.elemOf [IntKind.i64] rows) ∧ a <
  rows.length) ∧ Ob (InR IntKind.i64 (totTo rows a + cell rows a ((0 : Nat)))) ∧ Ob (InR IntKind.i64 ((↑a : Int) + (1 : Int))) ∧ ∃ (a' : Nat), Ob (a' ≤ rows.length ∧ rows.length - a' < rows.length - a) ∧ Ob (n = n) ∧ Ob
  (SV.lst x rows.length ((1 : Nat)) (Rv.elemOf [IntKind.i64] rows) = SV.lst x rows.length ((1 : Nat)) (Rv.elemOf [IntKind.i64] rows)) ∧ Ob (SV.v (Value.slice none ((0 : Nat)) ((0 : Nat))) = SV.v (Value.slice none ((0 :
  Nat)) ((0 : Nat)))) ∧ Ob (totTo rows a + cell rows a ((0 : Nat)) = totTo rows a') ∧ Ob ((↑a : Int) + (1 : Int) = (↑a' : Int)) ∧ Ob (IsLst B x rows.length ((1 : Nat)) (Rv.elemOf [IntKind.i64] rows)) ∧ True) ∧ (¬(↑a : Int)
  < (↑rows.length : Int) → Ob (IsLst B x rows.length ((1 : Nat)) (Rv.elemOf [IntKind.i64] rows)) ∧ Ob ((↑rows.length : Int) = (↑rows.length : Int) ∧ (0 : Int) ≤ (↑rows.length : Int) ∧ rows.length * (9 : Nat) ≤
  (1099511627776 : Nat)) ∧ (totTo rows a = (0 : Int) → Ob (rows.length = rows.length) ∧ Ob (rows.length = rows.length ∧ ∀ (i : Nat), i < rows.length → (El.fn fun (x : Nat) ↦ symL (List.map SV.v (Value.int IntKind.i64 (0 :
  Int)).cells.toList)).at i = (El.fn fun (i : Nat) ↦ [SV.i IntKind.i64 (pS n rows i)]).at i) ∧ Ob (PlainE rows.length (El.fn fun (i : Nat) ↦ [SV.i IntKind.i64 (pS n rows i)])) ∧ True) ∧ (¬totTo rows a = (0 : Int) → (∃ (a_1
  : Nat), Ob (a_1 ≤ rows.length) ∧ Ob (n = n) ∧ Ob (SV.lst x rows.length ((1 : Nat)) (Rv.elemOf [IntKind.i64] rows) = SV.lst x rows.length ((1 : Nat)) (Rv.elemOf [IntKind.i64] rows)) ∧ Ob (SV.v (Value.slice none ((0 :
  Nat)) ((0 : Nat))) = SV.v (Value.slice none ((0 : Nat)) ((0 : Nat)))) ∧ Ob (totTo rows a = pN rows) ∧ Ob (rows.length = rows.length) ∧ Ob (n = n - sumF (pFl n rows) a_1) ∧ Ob ((0 : Int) = (↑a_1 : Int)) ∧ Ob (rows.length
  = rows.length ∧ ∀ (i : Nat), i < rows.length → (El.fn fun (x : Nat) ↦ symL (List.map SV.v (Value.int IntKind.i64 (0 : Int)).cells.toList)).at i = (El.fn fun (i : Nat) ↦ [SV.i IntKind.i64 (pF n rows a_1 i)]).at i) ∧ Ob
  (IsLst B x rows.length ((1 : Nat)) (Rv.elemOf [IntKind.i64] rows)) ∧ Ob (PlainE rows.length (El.fn fun (i : Nat) ↦ [SV.i IntKind.i64 (pF n rows a_1 i)])) ∧ True) ∧ ∀ (a_1 : Nat), a_1 ≤ rows.length → ∀ (z_102 z_103 z_104
  z_105 z_106 z_107 z_108 z_109 z_110 z_111 z_112 z_113 z_114 z_115 z_116 z_117 z_118 z_119 z_120 z_121 z_122 z_123 z_124 z_125 z_126 z_127 z_128 z_129 z_130 z_131 z_132 z_133 z_134 z_135 z_136 z_137 z_138 z_139 z_140
  z_141 z_142 z_143 z_144 z_145 z_146 z_147 z_148 z_149 z_150 z_151 z_152 z_153 z_154 z_155 z_156 z_157 z_158 z_159 z_160 z_161 z_162 z_163 z_164 z_165 z_166 z_167 z_168 z_169 z_170 z_171 z_172 z_173 z_174 z_175 z_176
  z_177 z_178 z_179 z_180 z_181 z_182 z_183 z_184 z_185 z_186 z_187 z_188 z_189 z_190 z_191 z_192 z_193 z_194 z_195 z_196 z_197 z_198 z_199 z_200 z_201 : Value), Ob (IsLst B x rows.length ((1 : Nat)) (Rv.elemOf
  [IntKind.i64] rows)) ∧ ((↑a_1 : Int) < (↑rows.length : Int) → Ob ((0 : Int) ≤ (↑a_1 : Int) ∧ a_1 < rows.length ∧ IsLst B x rows.length ((1 : Nat)) (Rv.elemOf [IntKind.i64] rows)) ∧ Ob (IsLst B x rows.length ((1 : Nat))
  (Rv.elemOf [IntKind.i64] rows) ∧ a_1 < rows.length) ∧ Ob (InR IntKind.i64 (n * cell rows a_1 ((0 : Nat)))) ∧ Ob ((0 : Int) < pN rows ∧ InR IntKind.i64 ((n * cell rows a_1 ((0 : Nat))).tdiv (pN rows))) ∧ Ob ((0 : Int) ≤
  (↑a_1 : Int) ∧ a_1 < rows.length) ∧ Ob (a_1 < rows.length ∧ ((El.fn fun (i : Nat) ↦ [SV.i IntKind.i64 (pF n rows a_1 i)]).at a_1).length = (1 : Nat)) ∧ Ob ((0 : Int) ≤ (↑a_1 : Int) ∧ a_1 < rows.length) ∧ Ob (a_1 <
  rows.length) ∧ (a_1 = a_1 → Ob (InR IntKind.i64 (n - sumF (pFl n rows) a_1 - (n * cell rows a_1 ((0 : Nat))).tdiv (pN rows))) ∧ Ob (InR IntKind.i64 ((↑a_1 : Int) + (1 : Int))) ∧ ∃ (a' : Nat), Ob (a' ≤ rows.length ∧
  rows.length - a' < rows.length - a_1) ∧ Ob (n = n) ∧ Ob (SV.lst x rows.length ((1 : Nat)) (Rv.elemOf [IntKind.i64] rows) = SV.lst x rows.length ((1 : Nat)) (Rv.elemOf [IntKind.i64] rows)) ∧ Ob (SV.v (Value.slice none ((0
  : Nat)) ((0 : Nat))) = SV.v (Value.slice none ((0 : Nat)) ((0 : Nat)))) ∧ Ob (pN rows = pN rows) ∧ Ob (rows.length = rows.length) ∧ Ob (n - sumF (pFl n rows) a_1 - (n * cell rows a_1 ((0 : Nat))).tdiv (pN rows) = n -
  sumF (pFl n rows) a') ∧ Ob ((↑a_1 : Int) + (1 : Int) = (↑a' : Int)) ∧ Ob (rows.length = rows.length ∧ ∀ (i : Nat), i < rows.length → (updL (El.fn fun (i : Nat) ↦ [SV.i IntKind.i64 (pF n rows a_1 i)]) a_1 ((0 : Nat))
  [SV.i IntKind.i64 ((n * cell rows a_1 ((0 : Nat))).tdiv (pN rows))]).at i = (El.fn fun (i : Nat) ↦ [SV.i IntKind.i64 (pF n rows a' i)]).at i) ∧ Ob (IsLst B x rows.length ((1 : Nat)) (Rv.elemOf [IntKind.i64] rows)) ∧ Ob
  (PlainE rows.length (El.fn fun (i : Nat) ↦ [SV.i IntKind.i64 (pF n rows a' i)])) ∧ True) ∧ (¬a_1 = a_1 → Ob (InR IntKind.i64 (n - sumF (pFl n rows) a_1 - pF n rows a_1 a_1)) ∧ Ob (InR IntKind.i64 ((↑a_1 : Int) + (1 :
  Int))) ∧ ∃ (a' : Nat), Ob (a' ≤ rows.length ∧ rows.length - a' < rows.length - a_1) ∧ Ob (n = n) ∧ Ob (SV.lst x rows.length ((1 : Nat)) (Rv.elemOf [IntKind.i64] rows) = SV.lst x rows.length ((1 : Nat)) (Rv.elemOf
  [IntKind.i64] rows)) ∧ Ob (SV.v (Value.slice none ((0 : Nat)) ((0 : Nat))) = SV.v (Value.slice none ((0 : Nat)) ((0 : Nat)))) ∧ Ob (pN rows = pN rows) ∧ Ob (rows.length = rows.length) ∧ Ob (n - sumF (pFl n rows) a_1 - pF
  n rows a_1 a_1 = n - sumF (pFl n rows) a') ∧ Ob ((↑a_1 : Int) + (1 : Int) = (↑a' : Int)) ∧ Ob (rows.length = rows.length ∧ ∀ (i : Nat), i < rows.length → (updL (El.fn fun (i : Nat) ↦ [SV.i IntKind.i64 (pF n rows a_1 i)])
  a_1 ((0 : Nat)) [SV.i IntKind.i64 ((n * cell rows a_1 ((0 : Nat))).tdiv (pN rows))]).at i = (El.fn fun (i : Nat) ↦ [SV.i IntKind.i64 (pF n rows a' i)]).at i) ∧ Ob (IsLst B x rows.length ((1 : Nat)) (Rv.elemOf
  [IntKind.i64] rows)) ∧ Ob (PlainE rows.length (El.fn fun (i : Nat) ↦ [SV.i IntKind.i64 (pF n rows a' i)])) ∧ True)) ∧ (¬(↑a_1 : Int) < (↑rows.length : Int) → Ob (IsLst B x rows.length ((1 : Nat)) (Rv.elemOf [IntKind.i64]
  rows)) ∧ Ob ((↑rows.length : Int) = (↑rows.length : Int) ∧ (0 : Int) ≤ (↑rows.length : Int) ∧ rows.length * (2 : Nat) ≤ (1099511627776 : Nat)) ∧ (∃ (a_2 : Int), Ob ((0 : Int) ≤ a_2 ∧ a_2 ≤ pL n rows) ∧ Ob (n = n) ∧ Ob
  (SV.lst x rows.length ((1 : Nat)) (Rv.elemOf [IntKind.i64] rows) = SV.lst x rows.length ((1 : Nat)) (Rv.elemOf [IntKind.i64] rows)) ∧ Ob (SV.v (Value.slice none ((0 : Nat)) ((0 : Nat))) = SV.v (Value.slice none ((0 :
  Nat)) ((0 : Nat)))) ∧ Ob (pN rows = pN rows) ∧ Ob (rows.length = rows.length) ∧ Ob (n - sumF (pFl n rows) a_1 = a_2) ∧ Ob (rows.length = rows.length) ∧ Ob (rows.length = rows.length ∧ ∀ (i : Nat), i < rows.length →
  (El.fn fun (x : Nat) ↦ symL (List.map SV.v (Value.bool false).cells.toList)).at i = (El.fn fun (i : Nat) ↦ [SV.p (pG n rows (pL n rows - a_2) i)]).at i) ∧ Ob (rows.length = rows.length ∧ ∀ (i : Nat), i < rows.length →
  (El.fn fun (i : Nat) ↦ [SV.i IntKind.i64 (pF n rows a_1 i)]).at i = (El.fn fun (i : Nat) ↦ [SV.i IntKind.i64 (pO n rows (pL n rows - a_2) i)]).at i) ∧ Ob (IsLst B x rows.length ((1 : Nat)) (Rv.elemOf [IntKind.i64] rows))
  ∧ Ob (PlainE rows.length (El.fn fun (i : Nat) ↦ [SV.p (pG n rows (pL n rows - a_2) i)])) ∧ Ob (PlainE rows.length (El.fn fun (i : Nat) ↦ [SV.i IntKind.i64 (pO n rows (pL n rows - a_2) i)])) ∧ True) ∧ ∀ (a_2 : Int), (0 :
  Int) ≤ a_2 ∧ a_2 ≤ pL n rows → ∀ (z_202 z_203 z_204 z_205 z_206 z_207 z_208 z_209 z_210 z_211 z_212 z_213 z_214 z_215 z_216 z_217 z_218 z_219 z_220 z_221 z_222 z_223 z_224 z_225 z_226 z_227 z_228 z_229 z_230 z_231 z_232
  z_233 z_234 z_235 z_236 z_237 z_238 z_239 z_240 z_241 z_242 z_243 z_244 z_245 z_246 z_247 z_248 z_249 z_250 z_251 z_252 z_253 z_254 z_255 z_256 z_257 z_258 z_259 z_260 z_261 z_262 z_263 z_264 z_265 z_266 z_267 z_268
  z_269 z_270 z_271 z_272 z_273 z_274 z_275 z_276 z_277 z_278 z_279 z_280 z_281 z_282 z_283 z_284 z_285 z_286 z_287 z_288 z_289 z_290 z_291 z_292 z_293 z_294 z_295 z_296 z_297 z_298 z_299 z_300 z_301 : Value), ((0 : Int) <
  a_2 → (∃ (a_3 : Bq), Ob (a_3.Ok n rows (pL n rows - a_2)) ∧ Ob (n = n) ∧ Ob (SV.lst x rows.length ((1 : Nat)) (Rv.elemOf [IntKind.i64] rows) = SV.lst x rows.length ((1 : Nat)) (Rv.elemOf [IntKind.i64] rows)) ∧ Ob (SV.v
  (Value.slice none ((0 : Nat)) ((0 : Nat))) = SV.v (Value.slice none ((0 : Nat)) ((0 : Nat)))) ∧ Ob (pN rows = pN rows) ∧ Ob (rows.length = rows.length) ∧ Ob (a_2 = a_2) ∧ Ob (rows.length = rows.length) ∧ Ob ((-1 : Int) =
  a_3.b) ∧ Ob ((0 : Int) = (↑a_3.k : Int)) ∧ Ob (rows.length = rows.length ∧ ∀ (i : Nat), i < rows.length → (El.fn fun (i : Nat) ↦ [SV.p (pG n rows (pL n rows - a_2) i)]).at i = (El.fn fun (i : Nat) ↦ [SV.p (pG n rows (pL
  n rows - a_2) i)]).at i) ∧ Ob (rows.length = rows.length ∧ ∀ (i : Nat), i < rows.length → (El.fn fun (i : Nat) ↦ [SV.i IntKind.i64 (pO n rows (pL n rows - a_2) i)]).at i = (El.fn fun (i : Nat) ↦ [SV.i IntKind.i64 (pO n
  rows (pL n rows - a_2) i)]).at i) ∧ Ob (IsLst B x rows.length ((1 : Nat)) (Rv.elemOf [IntKind.i64] rows)) ∧ Ob (PlainE rows.length (El.fn fun (i : Nat) ↦ [SV.p (pG n rows (pL n rows - a_2) i)])) ∧ Ob (PlainE rows.length
  (El.fn fun (i : Nat) ↦ [SV.i IntKind.i64 (pO n rows (pL n rows - a_2) i)])) ∧ True) ∧ ∀ (a_3 : Bq), a_3.Ok n rows (pL n rows - a_2) → ∀ (z_302 z_303 z_304 z_305 z_306 z_307 z_308 z_309 z_310 z_311 z_312 z_313 z_314 z_315
  z_316 z_317 z_318 z_319 z_320 z_321 z_322 z_323 z_324 z_325 z_326 z_327 z_328 z_329 z_330 z_331 z_332 z_333 z_334 z_335 z_336 z_337 z_338 z_339 z_340 z_341 z_342 z_343 z_344 z_345 z_346 z_347 z_348 z_349 z_350 z_351
  z_352 z_353 z_354 z_355 z_356 z_357 z_358 z_359 z_360 z_361 z_362 z_363 z_364 z_365 z_366 z_367 z_368 z_369 z_370 z_371 z_372 z_373 z_374 z_375 z_376 z_377 z_378 z_379 z_380 z_381 z_382 z_383 z_384 z_385 z_386 z_387
  z_388 z_389 z_390 z_391 z_392 z_393 z_394 z_395 z_396 z_397 z_398 z_399 : Value), Ob (IsLst B x rows.length ((1 : Nat)) (Rv.elemOf [IntKind.i64] rows)) ∧ ((↑a_3.k : Int) < (↑rows.length : Int) → Ob ((0 : Int) ≤ (↑a_3.k :
  Int) ∧ a_3.k < rows.length) ∧ Ob (a_3.k < rows.length) ∧ (¬pG n rows (pL n rows - a_2) a_3.k → (¬a_3.b < (0 : Int) → Ob (IsLst B x rows.length ((1 : Nat)) (Rv.elemOf [IntKind.i64] rows)) ∧ Ob ((0 : Int) ≤ (↑a_3.k : Int)
  ∧ a_3.k < rows.length ∧ IsLst B x rows.length ((1 : Nat)) (Rv.elemOf [IntKind.i64] rows)) ∧ Ob (IsLst B x rows.length ((1 : Nat)) (Rv.elemOf [IntKind.i64] rows) ∧ a_3.k < rows.length) ∧ Ob (IsLst B x rows.length ((1 :
  Nat)) (Rv.elemOf [IntKind.i64] rows) ∧ a_3.k < rows.length) ∧ Ob (InR IntKind.i64 (n * cell rows a_3.k ((0 : Nat)))) ∧ Ob ((0 : Int) < pN rows ∧ InR IntKind.i64 ((n * cell rows a_3.k ((0 : Nat))).tmod (pN rows))) ∧ Ob
  (IsLst B x rows.length ((1 : Nat)) (Rv.elemOf [IntKind.i64] rows)) ∧ Ob ((0 : Int) ≤ a_3.b ∧ a_3.b.toNat < rows.length ∧ IsLst B x rows.length ((1 : Nat)) (Rv.elemOf [IntKind.i64] rows)) ∧ Ob (IsLst B x rows.length ((1 :
  Nat)) (Rv.elemOf [IntKind.i64] rows) ∧ a_3.b.toNat < rows.length) ∧ Ob (IsLst B x rows.length ((1 : Nat)) (Rv.elemOf [IntKind.i64] rows) ∧ a_3.b.toNat < rows.length) ∧ Ob (InR IntKind.i64 (n * cell rows a_3.b.toNat ((0 :
  Nat)))) ∧ Ob ((0 : Int) < pN rows ∧ InR IntKind.i64 ((n * cell rows a_3.b.toNat ((0 : Nat))).tmod (pN rows))) ∧ ((n * cell rows a_3.b.toNat ((0 : Nat))).tmod (pN rows) < (n * cell rows a_3.k ((0 : Nat))).tmod (pN rows) →
  Ob (InR IntKind.i64 ((↑a_3.k : Int) + (1 : Int))) ∧ ∃ (a' : Bq), Ob (a'.Ok n rows (pL n rows - a_2) ∧ rows.length - a'.k < rows.length - a_3.k) ∧ Ob (n = n) ∧ Ob (SV.lst x rows.length ((1 : Nat)) (Rv.elemOf [IntKind.i64]
  rows) = SV.lst x rows.length ((1 : Nat)) (Rv.elemOf [IntKind.i64] rows)) ∧ Ob (SV.v (Value.slice none ((0 : Nat)) ((0 : Nat))) = SV.v (Value.slice none ((0 : Nat)) ((0 : Nat)))) ∧ Ob (pN rows = pN rows) ∧ Ob (rows.length
  = rows.length) ∧ Ob (a_2 = a_2) ∧ Ob (rows.length = rows.length) ∧ Ob ((↑a_3.k : Int) = a'.b) ∧ Ob ((↑a_3.k : Int) + (1 : Int) = (↑a'.k : Int)) ∧ Ob (rows.length = rows.length ∧ ∀ (i : Nat), i < rows.length → (El.fn fun
  (i : Nat) ↦ [SV.p (pG n rows (pL n rows - a_2) i)]).at i = (El.fn fun (i : Nat) ↦ [SV.p (pG n rows (pL n rows - a_2) i)]).at i) ∧ Ob (rows.length = rows.length ∧ ∀ (i : Nat), i < rows.length → (El.fn fun (i : Nat) ↦
  [SV.i IntKind.i64 (pO n rows (pL n rows - a_2) i)]).at i = (El.fn fun (i : Nat) ↦ [SV.i IntKind.i64 (pO n rows (pL n rows - a_2) i)]).at i) ∧ Ob (IsLst B x rows.length ((1 : Nat)) (Rv.elemOf [IntKind.i64] rows)) ∧ Ob
  (PlainE rows.length (El.fn fun (i : Nat) ↦ [SV.p (pG n rows (pL n rows - a_2) i)])) ∧ Ob (PlainE rows.length (El.fn fun (i : Nat) ↦ [SV.i IntKind.i64 (pO n rows (pL n rows - a_2) i)])) ∧ True) ∧ (¬(n * cell rows
  a_3.b.toNat ((0 : Nat))).tmod (pN rows) < (n * cell rows a_3.k ((0 : Nat))).tmod (pN rows) → Ob (InR IntKind.i64 ((↑a_3.k : Int) + (1 : Int))) ∧ ∃ (a' : Bq), Ob (a'.Ok n rows (pL n rows - a_2) ∧ rows.length - a'.k <
  rows.length - a_3.k) ∧ Ob (n = n) ∧ Ob (SV.lst x rows.length ((1 : Nat)) (Rv.elemOf [IntKind.i64] rows) = SV.lst x rows.length ((1 : Nat)) (Rv.elemOf [IntKind.i64] rows)) ∧ Ob (SV.v (Value.slice none ((0 : Nat)) ((0 :
  Nat))) = SV.v (Value.slice none ((0 : Nat)) ((0 : Nat)))) ∧ Ob (pN rows = pN rows) ∧ Ob (rows.length = rows.length) ∧ Ob (a_2 = a_2) ∧ Ob (rows.length = rows.length) ∧ Ob (a_3.b = a'.b) ∧ Ob ((↑a_3.k : Int) + (1 : Int) =
  (↑a'.k : Int)) ∧ Ob (rows.length = rows.length ∧ ∀ (i : Nat), i < rows.length → (El.fn fun (i : Nat) ↦ [SV.p (pG n rows (pL n rows - a_2) i)]).at i = (El.fn fun (i : Nat) ↦ [SV.p (pG n rows (pL n rows - a_2) i)]).at i) ∧
  Ob (rows.length = rows.length ∧ ∀ (i : Nat), i < rows.length → (El.fn fun (i : Nat) ↦ [SV.i IntKind.i64 (pO n rows (pL n rows - a_2) i)]).at i = (El.fn fun (i : Nat) ↦ [SV.i IntKind.i64 (pO n rows (pL n rows - a_2)
  i)]).at i) ∧ Ob (IsLst B x rows.length ((1 : Nat)) (Rv.elemOf [IntKind.i64] rows)) ∧ Ob (PlainE rows.length (El.fn fun (i : Nat) ↦ [SV.p (pG n rows (pL n rows - a_2) i)])) ∧ Ob (PlainE rows.length (El.fn fun (i : Nat) ↦
  [SV.i IntKind.i64 (pO n rows (pL n rows - a_2) i)])) ∧ True)) ∧ (a_3.b < (0 : Int) → Ob (InR IntKind.i64 ((↑a_3.k : Int) + (1 : Int))) ∧ ∃ (a' : Bq), Ob (a'.Ok n rows (pL n rows - a_2) ∧ rows.length - a'.k < rows.length
  - a_3.k) ∧ Ob (n = n) ∧ Ob (SV.lst x rows.length ((1 : Nat)) (Rv.elemOf [IntKind.i64] rows) = SV.lst x rows.length ((1 : Nat)) (Rv.elemOf [IntKind.i64] rows)) ∧ Ob (SV.v (Value.slice none ((0 : Nat)) ((0 : Nat))) = SV.v
  (Value.slice none ((0 : Nat)) ((0 : Nat)))) ∧ Ob (pN rows = pN rows) ∧ Ob (rows.length = rows.length) ∧ Ob (a_2 = a_2) ∧ Ob (rows.length = rows.length) ∧ Ob ((↑a_3.k : Int) = a'.b) ∧ Ob ((↑a_3.k : Int) + (1 : Int) =
  (↑a'.k : Int)) ∧ Ob (rows.length = rows.length ∧ ∀ (i : Nat), i < rows.length → (El.fn fun (i : Nat) ↦ [SV.p (pG n rows (pL n rows - a_2) i)]).at i = (El.fn fun (i : Nat) ↦ [SV.p (pG n rows (pL n rows - a_2) i)]).at i) ∧
  Ob (rows.length = rows.length ∧ ∀ (i : Nat), i < rows.length → (El.fn fun (i : Nat) ↦ [SV.i IntKind.i64 (pO n rows (pL n rows - a_2) i)]).at i = (El.fn fun (i : Nat) ↦ [SV.i IntKind.i64 (pO n rows (pL n rows - a_2)
  i)]).at i) ∧ Ob (IsLst B x rows.length ((1 : Nat)) (Rv.elemOf [IntKind.i64] rows)) ∧ Ob (PlainE rows.length (El.fn fun (i : Nat) ↦ [SV.p (pG n rows (pL n rows - a_2) i)])) ∧ Ob (PlainE rows.length (El.fn fun (i : Nat) ↦
  [SV.i IntKind.i64 (pO n rows (pL n rows - a_2) i)])) ∧ True)) ∧ (¬¬pG n rows (pL n rows - a_2) a_3.k → Ob (InR IntKind.i64 ((↑a_3.k : Int) + (1 : Int))) ∧ ∃ (a' : Bq), Ob (a'.Ok n rows (pL n rows - a_2) ∧ rows.length -
  a'.k < rows.length - a_3.k) ∧ Ob (n = n) ∧ Ob (SV.lst x rows.length ((1 : Nat)) (Rv.elemOf [IntKind.i64] rows) = SV.lst x rows.length ((1 : Nat)) (Rv.elemOf [IntKind.i64] rows)) ∧ Ob (SV.v (Value.slice none ((0 : Nat))
  ((0 : Nat))) = SV.v (Value.slice none ((0 : Nat)) ((0 : Nat)))) ∧ Ob (pN rows = pN rows) ∧ Ob (rows.length = rows.length) ∧ Ob (a_2 = a_2) ∧ Ob (rows.length = rows.length) ∧ Ob (a_3.b = a'.b) ∧ Ob ((↑a_3.k : Int) + (1 :
  Int) = (↑a'.k : Int)) ∧ Ob (rows.length = rows.length ∧ ∀ (i : Nat), i < rows.length → (El.fn fun (i : Nat) ↦ [SV.p (pG n rows (pL n rows - a_2) i)]).at i = (El.fn fun (i : Nat) ↦ [SV.p (pG n rows (pL n rows - a_2)
  i)]).at i) ∧ Ob (rows.length = rows.length ∧ ∀ (i : Nat), i < rows.length → (El.fn fun (i : Nat) ↦ [SV.i IntKind.i64 (pO n rows (pL n rows - a_2) i)]).at i = (El.fn fun (i : Nat) ↦ [SV.i IntKind.i64 (pO n rows (pL n rows
  - a_2) i)]).at i) ∧ Ob (IsLst B x rows.length ((1 : Nat)) (Rv.elemOf [IntKind.i64] rows)) ∧ Ob (PlainE rows.length (El.fn fun (i : Nat) ↦ [SV.p (pG n rows (pL n rows - a_2) i)])) ∧ Ob (PlainE rows.length (El.fn fun (i :
  Nat) ↦ [SV.i IntKind.i64 (pO n rows (pL n rows - a_2) i)])) ∧ True)) ∧ (¬(↑a_3.k : Int) < (↑rows.length : Int) → Ob ((0 : Int) ≤ a_3.b ∧ a_3.b.toNat < rows.length) ∧ Ob (a_3.b.toNat < rows.length ∧ ((El.fn fun (i : Nat)
  ↦ [SV.p (pG n rows (pL n rows - a_2) i)]).at a_3.b.toNat).length = (1 : Nat)) ∧ Ob ((0 : Int) ≤ a_3.b ∧ a_3.b.toNat < rows.length) ∧ Ob (a_3.b.toNat < rows.length) ∧ Ob (InR IntKind.i64 (pO n rows (pL n rows - a_2)
  a_3.b.toNat + (1 : Int))) ∧ Ob ((0 : Int) ≤ a_3.b ∧ a_3.b.toNat < rows.length) ∧ Ob (a_3.b.toNat < rows.length ∧ ((El.fn fun (i : Nat) ↦ [SV.i IntKind.i64 (pO n rows (pL n rows - a_2) i)]).at a_3.b.toNat).length = (1 :
  Nat)) ∧ Ob (InR IntKind.i64 (a_2 - (1 : Int))) ∧ ∃ (a' : Int), Ob (((0 : Int) ≤ a' ∧ a' ≤ pL n rows) ∧ a'.toNat < a_2.toNat) ∧ Ob (n = n) ∧ Ob (SV.lst x rows.length ((1 : Nat)) (Rv.elemOf [IntKind.i64] rows) = SV.lst x
  rows.length ((1 : Nat)) (Rv.elemOf [IntKind.i64] rows)) ∧ Ob (SV.v (Value.slice none ((0 : Nat)) ((0 : Nat))) = SV.v (Value.slice none ((0 : Nat)) ((0 : Nat)))) ∧ Ob (pN rows = pN rows) ∧ Ob (rows.length = rows.length) ∧
  Ob (a_2 - (1 : Int) = a') ∧ Ob (rows.length = rows.length) ∧ Ob (rows.length = rows.length ∧ ∀ (i : Nat), i < rows.length → (updL (El.fn fun (i : Nat) ↦ [SV.p (pG n rows (pL n rows - a_2) i)]) a_3.b.toNat ((0 : Nat))
  [SV.p (true = true)]).at i = (El.fn fun (i : Nat) ↦ [SV.p (pG n rows (pL n rows - a') i)]).at i) ∧ Ob (rows.length = rows.length ∧ ∀ (i : Nat), i < rows.length → (updL (El.fn fun (i : Nat) ↦ [SV.i IntKind.i64 (pO n rows
  (pL n rows - a_2) i)]) a_3.b.toNat ((0 : Nat)) [SV.i IntKind.i64 (pO n rows (pL n rows - a_2) a_3.b.toNat + (1 : Int))]).at i = (El.fn fun (i : Nat) ↦ [SV.i IntKind.i64 (pO n rows (pL n rows - a') i)]).at i) ∧ Ob (IsLst
  B x rows.length ((1 : Nat)) (Rv.elemOf [IntKind.i64] rows)) ∧ Ob (PlainE rows.length (El.fn fun (i : Nat) ↦ [SV.p (pG n rows (pL n rows - a') i)])) ∧ Ob (PlainE rows.length (El.fn fun (i : Nat) ↦ [SV.i IntKind.i64 (pO n
  rows (pL n rows - a') i)])) ∧ True)) ∧ (¬(0 : Int) < a_2 → Ob (rows.length = rows.length) ∧ Ob (rows.length = rows.length ∧ ∀ (i : Nat), i < rows.length → (El.fn fun (i : Nat) ↦ [SV.i IntKind.i64 (pO n rows (pL n rows -
  a_2) i)]).at i = (El.fn fun (i : Nat) ↦ [SV.i IntKind.i64 (pS n rows i)]).at i) ∧ Ob (PlainE rows.length (El.fn fun (i : Nat) ↦ [SV.i IntKind.i64 (pS n rows i)])) ∧ True))))

set_option linter.unusedSimpArgs false in
set_option maxRecDepth 4000 in
set_option maxHeartbeats 2000000 in
theorem v_shareS : V_shareS := by
  unfold V_shareS
  intro B d x L hx hox hrx hok
  have hok : PrtOk d L := hok
  have hl := hok.l
  have hc := hok.c
  have hd := hok.d
  have tb : ∀ k, k ≤ L.length → 0 ≤ totTo L k ∧ totTo L k ≤ k * 10000 := fun k hk => tot_bd fun i hi => hc i (by omega)
  simp only [Ob_iff, and_true, true_and, implies_true, true_implies, not_true_eq_false, false_implies]
  refine ⟨⟨0, by omega, rfl, rfl, hx⟩, ?_⟩
  intro k hk
  intros
  refine ⟨hx, fun h => ?_, fun h => ?_⟩
  · have hk' : k < L.length := by omega
    have t := tb k (by omega)
    have c := hc k hk'
    exact ⟨⟨by omega, hk', hx⟩, ⟨hx, hk'⟩, by simp only [InR]; omega, by simp only [InR]; omega, k + 1, ⟨hk', by omega⟩, rfl, by omega, hx⟩
  have ek : k = L.length := by omega
  subst ek
  clear h hk
  refine ⟨hx, ⟨by omega, by omega⟩, fun h0 => ?_, fun h0 => ?_⟩
  · refine ⟨fun i hi => ?_, plain_fnD _ _⟩
    have e : pS d L i = 0 := by
      unfold pS shr pN
      rw [if_pos h0]
    show [SV.i .i64 0] = [SV.i .i64 (pS d L i)]
    rw [e]
  have h0 : pN L ≠ 0 := h0
  have sh := hok.sh h0
  have hN : 0 < pN L := by
    have := tb L.length (Nat.le_refl _)
    unfold pN at *
    omega
  refine ⟨⟨0, by omega, rfl, by simp [sumF], rfl, fun i _ => ?_, hx, plain_fnD _ _⟩, ?_⟩
  · show [SV.i .i64 0] = [SV.i .i64 (pF d L 0 i)]
    simp [pF]
  intro k hk
  intros
  refine ⟨hx, fun h => ?_, fun h => ?_⟩
  · have hk' : k < L.length := by omega
    have c := pFl_bd hok h0 hk'
    have s := sFl_bd hok h0 (k := k) (by omega)
    have tl := tb L.length (Nat.le_refl _)
    have e : (d * cell L k 0).tdiv (pN L) = pFl d L k := by rw [Int.tdiv_eq_ediv_of_nonneg c.2.2.1]; rfl
    rw [e]
    exact ⟨⟨by omega, hk', hx⟩, ⟨hx, hk'⟩, by simp only [InR]; omega, ⟨hN, by simp only [InR]; omega⟩, ⟨by omega, hk'⟩, ⟨hk', rfl⟩, ⟨by omega, hk'⟩, hk', by simp only [InR]; omega, by simp only [InR]; omega, k + 1, ⟨hk', by omega⟩, by simp only [sumF]; omega, by omega, fun i _ => pF_upd d L k i, hx, plain_fnD _ _⟩
  have ek : k = L.length := by omega
  subst ek
  clear h hk
  have lb := sh.lefB
  have ll : pL d L ≤ L.length := sh.lt
  refine ⟨hx, ⟨by omega, by omega⟩, ⟨pL d L, ⟨lb.1, Int.le_refl _⟩, rfl, fun i _ => ?_, fun i hi => ?_, hx, plain_p _ _, plain_fnD _ _⟩, ?_⟩
  · show [SV.p (false = true)] = [SV.p (pG d L (pL d L - pL d L) i)]
    have : (false = true) = pG d L (pL d L - pL d L) i := propext ⟨fun h => by simp at h, fun h => by
      have := pK_nn d L i
      unfold pG at h
      omega⟩
    rw [this]
  · show [SV.i .i64 (pF d L L.length i)] = [SV.i .i64 (pO d L (pL d L - pL d L) i)]
    have := pK_nn d L i
    unfold pF pO
    rw [if_pos hi, if_neg (by omega)]
    simp
  intro r hr
  intros
  refine ⟨fun h1 => ⟨⟨⟨0, -1⟩, ⟨Nat.zero_le _, .inl ⟨rfl, fun i hi => absurd hi (Nat.not_lt_zero i)⟩⟩, rfl, rfl, hx, plain_p _ _, plain_fnD _ _⟩, ?_⟩, fun h1 => ?_⟩
  · intro v hv
    intros
    have hvk := hv.k
    refine ⟨hx, fun h2 => ?_, fun h2 => ?_⟩
    · have hk' : v.k < L.length := by omega
      have rk1 : InR .i64 ((v.k : Int) + 1) := by simp only [InR]; omega
      have c := pFl_bd hok h0 hk'
      refine ⟨⟨by omega, hk'⟩, hk', fun h3 => ⟨fun h4 => ?_, fun h4 => ?_⟩, fun h3 => ?_⟩
      · have hb : v.b.toNat < L.length := by
          rcases hv.b with ⟨h5, _⟩ | ⟨b, h5, h6, _⟩ <;> omega
        have cb := pFl_bd hok h0 hb
        have e1 : (d * cell L v.k 0).tmod (pN L) = pR d L v.k := by rw [Int.tmod_eq_emod_of_nonneg c.2.2.1]; rfl
        have e2 : (d * cell L v.b.toNat 0).tmod (pN L) = pR d L v.b.toNat := by rw [Int.tmod_eq_emod_of_nonneg cb.2.2.1]; rfl
        rw [e1, e2]
        have r1 := sh.rstB v.k
        have r2 := sh.rstB v.b.toNat
        have r1 : 0 ≤ pR d L v.k ∧ pR d L v.k ≤ pN L - 1 := r1
        have r2 : 0 ≤ pR d L v.b.toNat ∧ pR d L v.b.toNat ≤ pN L - 1 := r2
        have nb : pN L ≤ 200000 := by
          have := tb L.length (Nat.le_refl _)
          unfold pN
          omega
        refine ⟨hx, ⟨by omega, hk', hx⟩, ⟨hx, hk'⟩, ⟨hx, hk'⟩, by simp only [InR]; omega, ⟨hN, by simp only [InR]; omega⟩, hx, ⟨by omega, hb, hx⟩, ⟨hx, hb⟩, ⟨hx, hb⟩, by simp only [InR]; omega, ⟨hN, by simp only [InR]; omega⟩, fun h5 => ?_, fun h5 => ?_⟩
        · exact ⟨rk1, ⟨v.k + 1, v.k⟩, ⟨bq_new hv hk' h3 (.inr h5), by show L.length - (v.k + 1) < L.length - v.k; omega⟩, rfl, rfl, hx, plain_p _ _, plain_fnD _ _⟩
        · exact ⟨rk1, ⟨v.k + 1, v.b⟩, ⟨bq_keep hv hk' (by omega) h5, by show L.length - (v.k + 1) < L.length - v.k; omega⟩, rfl, rfl, hx, plain_p _ _, plain_fnD _ _⟩
      · exact ⟨rk1, ⟨v.k + 1, v.k⟩, ⟨bq_new hv hk' h3 (.inl h4), by show L.length - (v.k + 1) < L.length - v.k; omega⟩, rfl, rfl, hx, plain_p _ _, plain_fnD _ _⟩
      · exact ⟨rk1, ⟨v.k + 1, v.b⟩, ⟨bq_skip hv hk' (Classical.not_not.1 h3), by show L.length - (v.k + 1) < L.length - v.k; omega⟩, rfl, rfl, hx, plain_p _ _, plain_fnD _ _⟩
    · obtain ⟨b, eb, hb, hK⟩ := best_is (d := d) (L := L) (s := pL d L - r) (by omega) (by omega) sh (by omega) hv
      have et : v.b.toNat = b := by omega
      rw [et]
      have cb := pFl_bd hok h0 hb
      have ob : 0 ≤ pO d L (pL d L - r) b ∧ pO d L (pL d L - r) b ≤ 2000000001 := by
        unfold pO
        split <;> omega
      have es : pL d L - (r - 1) = pL d L - r + 1 := by omega
      refine ⟨⟨by omega, hb⟩, ⟨hb, rfl⟩, ⟨by omega, hb⟩, hb, by simp only [InR]; omega, ⟨by omega, hb⟩, ⟨hb, rfl⟩, by simp only [InR]; omega, r - 1, ⟨⟨by omega, by omega⟩, by omega⟩, rfl, fun i hi => ?_, fun i hi => ?_, hx, plain_p _ _, plain_fnD _ _⟩
      · rw [es]; exact pG_upd hb hi hK
      · rw [es]; exact pO_upd hb hi hK
  · have er : r = 0 := by omega
    subst er
    refine ⟨fun i hi => ?_, plain_fnD _ _⟩
    show [SV.i .i64 (pO d L (pL d L - 0) i)] = [SV.i .i64 (pS d L i)]
    have : pO d L (pL d L - 0) i = pS d L i := by
      unfold pO pS shr
      rw [if_neg h0, Int.sub_zero]
      rfl
    rw [this]

theorem e_shareS : V_shareS = needE P [] [] A_shareS F_shareS := by kernel_rfl

theorem n_shareS : Ob (needE P [] [] A_shareS F_shareS) := by
  rw [← e_shareS]
  exact ⟨v_shareS⟩

theorem b_shareS : ((P.funcs[27]?).any fun fn => fn.body.isSome) = true := by kernel_rfl

theorem shareS_ok : FnE.Ok P F_shareS := FnE.ok named (l := []) (es := []) (A := A_shareS) (by rfl) (by rfl) (by rfl) (by
  intro F h; simp at h) (by
  intro F h; simp at h) b_shareS (by
  intro ds h o ho n sz e k z he
  subst he
  simp only [F_shareS] at ho
  split at ho
  · simp only [List.mem_cons, List.not_mem_nil, or_false, SObj.gr.injEq] at ho
    obtain ⟨rfl, rfl, rfl, rfl, rfl⟩ := ho
    exact plain_fnD _ _
  · simp at ho) n_shareS

end Go.Proofs.Ytlnldabgbfcdcaa.Sy
