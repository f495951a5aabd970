/- Claims that are settled: the payments. -/
import Derived.Test.YtjgllojnbinchaaSyP2
import Derived.Test.YtjgllojnbinchaaGrM
import Derived.Test.YtjgllojnbinchaaStM
import Derived.Test.YtjgllojnbinchaaKtT
import Derived.Test.YtjgllojnbinchaaKtA
import Derived.Test.YtjgllojnbinchaaKtB
import Derived.Test.YtjgllojnbinchaaKtS
import Derived.Test.YtjgllojnbinchaaSyP2
import Derived.KernelRfl
import Derived.Test.YtjgllojnbinchaaProg
namespace Go.Proofs.Ytjgllojnbinchaa.Sy
open Go Go.Rv
set_option linter.unusedVariables false

noncomputable def stlR (N : Int) (C : Rows) : Rows := if clmErr N C = 0 then payR N.toNat (netTo C C.length) else []
structure StI where
  i : Int
  a : Int
  b : Int
  R : Rows

structure StV (n : Nat) (f : Nat → Int) (v : StI) (m : Nat) : Prop where
  p : PayTo n f v.R
  l : v.R.length = m
  i : -1 ≤ v.i ∧ v.i < n
  a : (v.a = -1 ∧ ∀ j : Nat, v.i < j → j < n → 0 ≤ lft f v.R v.R.length j) ∨ ∃ a : Nat, v.a = a ∧ v.i < a ∧ a < n ∧ lft f v.R v.R.length a < 0 ∧ ∀ j : Nat, v.i < j → j < a → 0 ≤ lft f v.R v.R.length j
  b : (v.b = -1 ∧ ∀ j : Nat, v.i < j → j < n → lft f v.R v.R.length j ≤ 0) ∨ ∃ b : Nat, v.b = b ∧ v.i < b ∧ b < n ∧ 0 < lft f v.R v.R.length b ∧ ∀ j : Nat, v.i < j → j < b → lft f v.R v.R.length j ≤ 0

theorem err_leaf {N e : Int} {C : Rows} (he : clmErr N C = e) (h0 : e ≠ 0) : (stlR N C).length = 0 ∧ e = clmErr N C ∧ (stlR N C).length = 0 ∧ PlainE (stlR N C).length (El.fn (Rv.elemOf [.i64, .i64, .i64] (stlR N C))) := by
  have : (stlR N C).length = 0 := by
    unfold stlR
    rw [if_neg (by rw [he]; exact h0)]
    rfl
  exact ⟨this, he.symm, this, plain_elemOf _ _ _⟩
theorem clm_err_at {N e : Int} {C : Rows} {k : Nat} (hN : 1 ≤ N ∧ N ≤ 12) (hl : ¬ 40 < C.length) (hk : k < C.length) (h0 : clmTo N C k = 0) (he : clmAt N C k = e) (hne : e ≠ 0) : clmErr N C = e := by
  unfold clmErr
  rw [if_pos hN, if_neg hl, clm_at hk h0 (by rw [he]; exact hne), he]
theorem pay_eq {n : Nat} {f : Nat → Int} {R S : Rows} (hR : PayTo n f R) (hS : PayTo n f S) (hl : R.length = S.length) : R = S :=
  rows_ext3 hl hR.row hS.row fun j hj => pay_same hR hS (k := R.length) (Nat.le_refl _) (by omega) j hj
theorem stv_next {n : Nat} {f : Nat → Int} {v : StI} {m : Nat} (h : StV n f v m) (hi : 0 ≤ v.i) {a' b' : Int} (ha : lft f v.R v.R.length v.i.toNat < 0 ∧ v.i = a' ∨ ¬ lft f v.R v.R.length v.i.toNat < 0 ∧ v.a = a')
    (hb : 0 < lft f v.R v.R.length v.i.toNat ∧ v.i = b' ∨ ¬ 0 < lft f v.R v.R.length v.i.toNat ∧ v.b = b') : StV n f ⟨v.i - 1, a', b', v.R⟩ m := by
  obtain ⟨i, ei⟩ := Int.eq_ofNat_of_zero_le hi
  have et : v.i.toNat = i := by rw [ei]; rfl
  rw [et] at ha hb
  have h1 := h.i
  generalize hg : lft f v.R v.R.length = g at *
  refine ⟨h.p, h.l, ?_, ?_, ?_⟩
  · show -1 ≤ v.i - 1 ∧ v.i - 1 < n
    omega
  · have ha0 := h.a
    rw [hg] at ha0
    show (a' = -1 ∧ ∀ j : Nat, v.i - 1 < j → j < n → 0 ≤ lft f v.R v.R.length j) ∨ ∃ a : Nat, a' = a ∧ v.i - 1 < a ∧ a < n ∧ lft f v.R v.R.length a < 0 ∧ ∀ j : Nat, v.i - 1 < j → j < a → 0 ≤ lft f v.R v.R.length j
    rw [hg]
    rcases ha with ⟨h2, h3⟩ | ⟨h2, h3⟩
    · exact .inr ⟨i, by omega, by omega, by omega, h2, fun j h4 h5 => by omega⟩
    · rcases ha0 with ⟨h4, h5⟩ | ⟨a, h4, h5, h6, h7, h8⟩
      · refine .inl ⟨by omega, fun j h6 h7 => ?_⟩
        by_cases e : j = i
        · subst e; omega
        · exact h5 j (by omega) h7
      · refine .inr ⟨a, by omega, by omega, h6, h7, fun j h9 h10 => ?_⟩
        by_cases e : j = i
        · subst e; omega
        · exact h8 j (by omega) h10
  · have hb0 := h.b
    rw [hg] at hb0
    show (b' = -1 ∧ ∀ j : Nat, v.i - 1 < j → j < n → lft f v.R v.R.length j ≤ 0) ∨ ∃ b : Nat, b' = b ∧ v.i - 1 < b ∧ b < n ∧ 0 < lft f v.R v.R.length b ∧ ∀ j : Nat, v.i - 1 < j → j < b → lft f v.R v.R.length j ≤ 0
    rw [hg]
    rcases hb with ⟨h2, h3⟩ | ⟨h2, h3⟩
    · exact .inr ⟨i, by omega, by omega, by omega, h2, fun j h4 h5 => by omega⟩
    · rcases hb0 with ⟨h4, h5⟩ | ⟨a, h4, h5, h6, h7, h8⟩
      · refine .inl ⟨by omega, fun j h6 h7 => ?_⟩
        by_cases e : j = i
        · subst e; omega
        · exact h5 j (by omega) h7
      · refine .inr ⟨a, by omega, by omega, h6, h7, fun j h9 h10 => ?_⟩
        by_cases e : j = i
        · subst e; omega
        · exact h8 j (by omega) h10
theorem lft_upd {f : Nat → Int} {R : Rows} {a b : Nat} {c : Int} (hab : a ≠ b) (i : Nat) : (updL (updL (El.fn fun i => [SV.i .i64 (lft f R R.length i)]) a 0 [SV.i .i64 (lft f R R.length a + c)]) b 0 [SV.i .i64 (lft f R R.length b - c)]).at i = (El.fn fun i => [SV.i .i64 (lft f (R ++ [[(a : Int), (b : Int), c]]) (R ++ [[(a : Int), (b : Int), c]]).length i)]).at i := by
  simp only [updL, El.at]
  rw [lft_new]
  by_cases e1 : i = b
  · subst e1
    rw [if_pos rfl, if_neg (Ne.symm hab), if_neg (by omega), if_pos rfl]
    simp
  · rw [if_neg e1]
    by_cases e2 : i = a
    · subst e2
      rw [if_pos rfl, if_pos rfl, if_neg (by omega)]
      simp
    · rw [if_neg e2, if_neg (by omega), if_neg (by omega)]
      simp
structure StE (n : Nat) (f : Nat → Int) (R : Rows) : Prop where
  sum : sumF (lft f R R.length) n = 0
  bd : ∀ i, i < n → -100000000000 ≤ lft f R R.length i ∧ lft f R R.length i ≤ 100000000000
theorem ste_of {N : Nat} {C R : Rows} (hl : ¬ 40 < C.length) (hc : ∀ j, j < C.length → Clm N C j ∧ cell C j 2 ≤ 1000000000) (h : PayTo N (netTo C C.length) R) : StE N (netTo C C.length) R := by
  have hk := pay_k h (Nat.le_refl _)
  refine ⟨hk.sum.trans (net_sum fun j hj => (hc j hj).1), fun i hi => ?_⟩
  have h1 := net_bd (n := N) (C := C) (M := 1000000000) (by omega) (k := C.length) hc i
  have h2 := hk.sg i hi
  have h3 : (C.length : Int) * 1000000000 ≤ 40 * 1000000000 := Int.mul_le_mul_of_nonneg_right (by omega) (by omega)
  omega

noncomputable def F_SettleR : FnE := ⟨23, none, [i64, .one (.l [.i64, .i64, .i64])], fun l => match l with | [.z N, .l C] => C.length ≤ 4000000 | _ => False, fun l => match l with | [.z N, .l C] => [.gsl 0 (stlR N C).length 3 true, .i .i64 (clmErr N C)] | _ => [], fun l => match l with | [.z N, .l C] => [.gr (stlR N C).length 3 (.fn (Rv.elemOf [.i64, .i64, .i64] (stlR N C))) .gr true] | _ => [], fun l => match l with | [.z N, .l C] => [] | _ => [], false, none⟩
noncomputable def A_SettleR : List SV → List Dat → Nat → List SV → Ann := fun xs ds n ts => match xs with
  | [.i _ _, .lst x _ _ _] => match ds with
    | [.z N, .l C] => match n with
      | 6 => ⟨Nat, fun k => [some (SV.i IntKind.i64 N), some (SV.lst x C.length ((3 : Nat)) (Rv.elemOf [IntKind.i64, IntKind.i64, IntKind.i64] C)), none, none, none, none, some (.i .i64 k), none, none, none, none, none, none, none, none, none, none, none, none, none, none, none, none, none, none, none, none, none, none, none, none, none, none, none, none, none, none, none, none, none, none, none, none, none, none, none, none, none, none, none, none, none, none, none, none, none, none, none, none, none, none, none, none, none, none, none, none, none, none, none, none, none, none, none, none, none, none, none, none, none, none, none, none, none, none, none, none, none, none, none, none, none, none, none, none, none, none, none, none, none, none, none, none, none, none, none, none, none, none, none, none, none], fun k => [], fun k => k ≤ C.length ∧ clmTo N C k = 0, fun k => C.length - k, 0⟩
      | 17 => ⟨Rows, fun R => [some (SV.i IntKind.i64 N), none, none, none, none, none, none, none, some (.gsl 0 N.toNat 1 false), some (.gsl 1 R.length 3 true), none, none, none, none, none, none, none, none, none, none, none, none, none, none, none, none, none, none, none, none, none, none, none, none, none, none, none, none, none, none, none, none, none, none, none, none, none, none, none, none, none, none, none, none, none, none, none, none, none, none, none, none, none, none, none, none, none, none, none, none, none, none, none, none, none, none, none, none, none, none, none, none, none, none, none, none, none, none, none, none, none, none, none, none, none, none, none, none, none, none, none, none, none, none, none, none, none, none, none, none, none, none], fun R => [.gr R.length 3 (.fn (Rv.elemOf [.i64, .i64, .i64] R)) .gr true, .gr N.toNat 1 (.fn fun i => [.i .i64 (lft (netTo C C.length) R R.length i)]) .ex false], fun R => PayTo N.toNat (netTo C C.length) R, fun R => nzF (lft (netTo C C.length) R R.length) N.toNat, 0⟩
      | 19 => (match lget ts 9 with | some (SV.gsl _ n9 _ _) => ⟨StI, fun v => [some (SV.i IntKind.i64 N), none, none, none, none, none, none, none, some (.gsl 0 N.toNat 1 false), some (SV.gsl 1 n9 3 true), some (.i .i64 v.a), some (.i .i64 v.b), some (.i .i64 v.i), none, none, none, none, none, none, none, none, none, none, none, none, none, none, none, none, none, none, none, none, none, none, none, none, none, none, none, none, none, none, none, none, none, none, none, none, none, none, none, none, none, none, none, none, none, none, none, none, none, none, none, none, none, none, none, none, none, none, none, none, none, none, none, none, none, none, none, none, none, none, none, none, none, none, none, none, none, none, none, none, none, none, none, none, none, none, none, none, none, none, none, none, none, none, none, none, none, none, none], fun v => [.gr v.R.length 3 (.fn (Rv.elemOf [.i64, .i64, .i64] v.R)) .gr true, .gr N.toNat 1 (.fn fun i => [.i .i64 (lft (netTo C C.length) v.R v.R.length i)]) .ex false], fun v => StV N.toNat (netTo C C.length) v n9, fun v => (v.i + 1).toNat, 0⟩ | _ => noAnn)
      | _ => noAnn
    | _ => noAnn
  | _ => noAnn

def V_SettleR : Prop :=
  ∀ (B : RW) (n : Int) (x : RV) (rows : List (List Int)), IsLst B x rows.length 3 (Rv.elemOf [.i64, .i64, .i64] rows) → oneB x = true → (∀ (row : List Int), row ∈ rows → row.length = (3 : Nat)) → F_SettleR.pre ([Dat.z n]
  ++ ([Dat.l rows] ++ [])) → Ob True ∧ (¬((1 : Int) ≤ n ∧ n ≤ (12 : Int)) → Ob (List.length (stlR n rows) = (0 : Nat)) ∧ Ob ((1 : Int) = clmErr n rows) ∧ Ob (List.length (stlR n rows) = (0 : Nat)) ∧ Ob (PlainE (List.length
  (stlR n rows)) (El.fn (Rv.elemOf [.i64, .i64, .i64] (stlR n rows)))) ∧ True) ∧ (¬¬((1 : Int) ≤ n ∧ n ≤ (12 : Int)) → Ob (IsLst B x rows.length 3 (Rv.elemOf [.i64, .i64, .i64] rows)) ∧ ((40 : Int) < (↑rows.length : Int) →
  Ob (List.length (stlR n rows) = (0 : Nat)) ∧ Ob ((5 : Int) = clmErr n rows) ∧ Ob (List.length (stlR n rows) = (0 : Nat)) ∧ Ob (PlainE (List.length (stlR n rows)) (El.fn (Rv.elemOf [.i64, .i64, .i64] (stlR n rows)))) ∧
  True) ∧ (¬(40 : Int) < (↑rows.length : Int) → (∃ (a : Nat), Ob (a ≤ rows.length ∧ clmTo n rows a = (0 : Int)) ∧ Ob (n = n) ∧ Ob (SV.lst x rows.length 3 (Rv.elemOf [.i64, .i64, .i64] rows) = SV.lst x rows.length 3
  (Rv.elemOf [.i64, .i64, .i64] rows)) ∧ Ob ((0 : Int) = (↑a : Int)) ∧ Ob (IsLst B x rows.length 3 (Rv.elemOf [.i64, .i64, .i64] rows)) ∧ True) ∧ ∀ (a : Nat), a ≤ rows.length ∧ clmTo n rows a = (0 : Int) → ∀ (z z_1 z_2 z_3
  z_4 z_5 z_6 z_7 z_8 z_9 z_10 z_11 z_12 z_13 z_14 z_15 z_16 z_17 z_18 z_19 z_20 z_21 z_22 z_23 z_24 z_25 z_26 z_27 z_28 z_29 z_30 z_31 z_32 z_33 z_34 z_35 z_36 z_37 z_38 z_39 z_40 z_41 z_42 z_43 z_44 z_45 z_46 z_47 z_48
  z_49 z_50 z_51 z_52 z_53 z_54 z_55 z_56 z_57 z_58 z_59 z_60 z_61 z_62 z_63 z_64 z_65 z_66 z_67 z_68 z_69 z_70 z_71 z_72 z_73 z_74 z_75 z_76 z_77 z_78 z_79 z_80 z_81 z_82 z_83 z_84 z_85 z_86 z_87 z_88 z_89 z_90 z_91 z_92
  z_93 z_94 z_95 z_96 z_97 z_98 z_99 z_100 z_101 z_102 z_103 z_104 z_105 z_106 z_107 z_108 : Value), Ob (IsLst B x rows.length 3 (Rv.elemOf [.i64, .i64, .i64] rows)) ∧ ((↑a : Int) < (↑rows.length : Int) → Ob ((0 : Int) ≤
  (↑a : Int) ∧ a < rows.length ∧ IsLst B x rows.length 3 (Rv.elemOf [.i64, .i64, .i64] rows)) ∧ Ob (IsLst B x rows.length 3 (Rv.elemOf [.i64, .i64, .i64] rows) ∧ a < rows.length) ∧ Ob (InR .i64 (n - (1 : Int))) ∧ Ob True ∧
  (¬¬((0 : Int) ≤ cell rows a 0 ∧ cell rows a 0 ≤ n - (1 : Int)) → Ob (InR .i64 (n - (1 : Int))) ∧ Ob True ∧ (¬((0 : Int) ≤ cell rows a 1 ∧ cell rows a 1 ≤ n - (1 : Int)) → Ob (List.length (stlR n rows) = (0 : Nat)) ∧ Ob
  ((6 : Int) = clmErr n rows) ∧ Ob (List.length (stlR n rows) = (0 : Nat)) ∧ Ob (PlainE (List.length (stlR n rows)) (El.fn (Rv.elemOf [.i64, .i64, .i64] (stlR n rows)))) ∧ True) ∧ (¬¬((0 : Int) ≤ cell rows a 1 ∧ cell rows
  a 1 ≤ n - (1 : Int)) → (cell rows a 0 = cell rows a 1 → Ob (List.length (stlR n rows) = (0 : Nat)) ∧ Ob ((2 : Int) = clmErr n rows) ∧ Ob (List.length (stlR n rows) = (0 : Nat)) ∧ Ob (PlainE (List.length (stlR n rows))
  (El.fn (Rv.elemOf [.i64, .i64, .i64] (stlR n rows)))) ∧ True) ∧ (¬cell rows a 0 = cell rows a 1 → Ob True ∧ (¬((1 : Int) ≤ cell rows a 2 ∧ cell rows a 2 ≤ (1000000000 : Int)) → Ob (List.length (stlR n rows) = (0 : Nat))
  ∧ Ob ((1 : Int) = clmErr n rows) ∧ Ob (List.length (stlR n rows) = (0 : Nat)) ∧ Ob (PlainE (List.length (stlR n rows)) (El.fn (Rv.elemOf [.i64, .i64, .i64] (stlR n rows)))) ∧ True) ∧ (¬¬((1 : Int) ≤ cell rows a 2 ∧ cell
  rows a 2 ≤ (1000000000 : Int)) → Ob (InR .i64 ((↑a : Int) + (1 : Int))) ∧ ∃ (a' : Nat), Ob ((a' ≤ rows.length ∧ clmTo n rows a' = (0 : Int)) ∧ rows.length - a' < rows.length - a) ∧ Ob (n = n) ∧ Ob (SV.lst x rows.length 3
  (Rv.elemOf [.i64, .i64, .i64] rows) = SV.lst x rows.length 3 (Rv.elemOf [.i64, .i64, .i64] rows)) ∧ Ob ((↑a : Int) + (1 : Int) = (↑a' : Int)) ∧ Ob (IsLst B x rows.length 3 (Rv.elemOf [.i64, .i64, .i64] rows)) ∧ True))))
  ∧ (¬((0 : Int) ≤ cell rows a 0 ∧ cell rows a 0 ≤ n - (1 : Int)) → Ob (List.length (stlR n rows) = (0 : Nat)) ∧ Ob ((6 : Int) = clmErr n rows) ∧ Ob (List.length (stlR n rows) = (0 : Nat)) ∧ Ob (PlainE (List.length (stlR n
  rows)) (El.fn (Rv.elemOf [.i64, .i64, .i64] (stlR n rows)))) ∧ True)) ∧ (¬(↑a : Int) < (↑rows.length : Int) → ∃ (rows_1 : List (List Int)), Ob (IsLst B x rows.length 3 (Rv.elemOf [.i64, .i64, .i64] rows) ∧ rows_1.length
  = rows.length ∧ (∀ (r : List Int), r ∈ rows_1 → r.length = (3 : Nat)) ∧ ∀ (i : Nat), i < rows.length → Rv.elemOf [.i64, .i64, .i64] rows i = Rv.elemOf [.i64, .i64, .i64] rows_1 i) ∧ Ob (F_NetsR.pre [Dat.z n, Dat.l
  rows_1]) ∧ (∃ (a_1 : Rows), Ob (PayTo n.toNat (netTo rows rows.length) a_1) ∧ Ob (n = n) ∧ Ob (n.toNat = n.toNat) ∧ Ob (List.length a_1 = (0 : Nat)) ∧ Ob (List.length a_1 = (0 : Nat)) ∧ Ob (n.toNat = n.toNat ∧ ∀ (i :
  Nat), i < n.toNat → (El.fn fun (i : Nat) ↦ [SV.i .i64 (netTo rows_1 rows_1.length i)]).at i = (El.fn fun (i : Nat) ↦ [SV.i .i64 (lft (netTo rows rows.length) a_1 (List.length a_1) i)]).at i) ∧ Ob (PlainE (List.length
  a_1) (El.fn (Rv.elemOf [.i64, .i64, .i64] a_1))) ∧ Ob (PlainE n.toNat (El.fn fun (i : Nat) ↦ [SV.i .i64 (lft (netTo rows rows.length) a_1 (List.length a_1) i)])) ∧ True) ∧ ∀ (a_1 : Rows), PayTo n.toNat (netTo rows
  rows.length) a_1 → ∀ (z_109 z_110 z_111 z_112 z_113 z_114 z_115 z_116 z_117 z_118 z_119 z_120 z_121 z_122 z_123 z_124 z_125 z_126 z_127 z_128 z_129 z_130 z_131 z_132 z_133 z_134 z_135 z_136 z_137 z_138 z_139 z_140 z_141
  z_142 z_143 z_144 z_145 z_146 z_147 z_148 z_149 z_150 z_151 z_152 z_153 z_154 z_155 z_156 z_157 z_158 z_159 z_160 z_161 z_162 z_163 z_164 z_165 z_166 z_167 z_168 z_169 z_170 z_171 z_172 z_173 z_174 z_175 z_176 z_177
  z_178 z_179 z_180 z_181 z_182 z_183 z_184 z_185 z_186 z_187 z_188 z_189 z_190 z_191 z_192 z_193 z_194 z_195 z_196 z_197 z_198 z_199 z_200 z_201 z_202 z_203 z_204 z_205 z_206 z_207 z_208 z_209 z_210 z_211 z_212 z_213
  z_214 z_215 z_216 z_217 : Value), Ob (InR .i64 (n - (1 : Int))) ∧ (∃ (a_2 : StI), Ob (StV n.toNat (netTo rows rows.length) a_2 (List.length a_1)) ∧ Ob (n = n) ∧ Ob (n.toNat = n.toNat) ∧ Ob (List.length a_1 = List.length
  a_1) ∧ Ob ((-1 : Int) = a_2.a) ∧ Ob ((-1 : Int) = a_2.b) ∧ Ob (n - (1 : Int) = a_2.i) ∧ Ob (List.length a_1 = List.length a_2.R ∧ ∀ (i : Nat), i < List.length a_2.R → (El.fn (Rv.elemOf [.i64, .i64, .i64] a_1)).at i =
  (El.fn (Rv.elemOf [.i64, .i64, .i64] a_2.R)).at i) ∧ Ob (n.toNat = n.toNat ∧ ∀ (i : Nat), i < n.toNat → (El.fn fun (i : Nat) ↦ [SV.i .i64 (lft (netTo rows rows.length) a_1 (List.length a_1) i)]).at i = (El.fn fun (i :
  Nat) ↦ [SV.i .i64 (lft (netTo rows rows.length) a_2.R (List.length a_2.R) i)]).at i) ∧ Ob (PlainE (List.length a_2.R) (El.fn (Rv.elemOf [.i64, .i64, .i64] a_2.R))) ∧ Ob (PlainE n.toNat (El.fn fun (i : Nat) ↦ [SV.i .i64
  (lft (netTo rows rows.length) a_2.R (List.length a_2.R) i)])) ∧ True) ∧ ∀ (a_2 : StI), StV n.toNat (netTo rows rows.length) a_2 (List.length a_1) → ∀ (z_218 z_219 z_220 z_221 z_222 z_223 z_224 z_225 z_226 z_227 z_228
  z_229 z_230 z_231 z_232 z_233 z_234 z_235 z_236 z_237 z_238 z_239 z_240 z_241 z_242 z_243 z_244 z_245 z_246 z_247 z_248 z_249 z_250 z_251 z_252 z_253 z_254 z_255 z_256 z_257 z_258 z_259 z_260 z_261 z_262 z_263 z_264
  z_265 z_266 z_267 z_268 z_269 z_270 z_271 z_272 z_273 z_274 z_275 z_276 z_277 z_278 z_279 z_280 z_281 z_282 z_283 z_284 z_285 z_286 z_287 z_288 z_289 z_290 z_291 z_292 z_293 z_294 z_295 z_296 z_297 z_298 z_299 z_300
  z_301 z_302 z_303 z_304 z_305 z_306 z_307 z_308 z_309 z_310 z_311 z_312 z_313 z_314 z_315 z_316 z_317 z_318 z_319 z_320 z_321 z_322 z_323 : Value), ((0 : Int) ≤ a_2.i → Ob ((0 : Int) ≤ a_2.i ∧ a_2.i.toNat < n.toNat) ∧ Ob
  (a_2.i.toNat < n.toNat) ∧ (lft (netTo rows rows.length) a_2.R (List.length a_2.R) a_2.i.toNat < (0 : Int) → Ob ((0 : Int) ≤ a_2.i ∧ a_2.i.toNat < n.toNat) ∧ Ob (a_2.i.toNat < n.toNat) ∧ ((0 : Int) < lft (netTo rows
  rows.length) a_2.R (List.length a_2.R) a_2.i.toNat → Ob (InR .i64 (a_2.i - (1 : Int))) ∧ ∃ (a' : StI), Ob (StV n.toNat (netTo rows rows.length) a' (List.length a_1) ∧ (a'.i + (1 : Int)).toNat < (a_2.i + (1 : Int)).toNat)
  ∧ Ob (n = n) ∧ Ob (n.toNat = n.toNat) ∧ Ob (List.length a_1 = List.length a_1) ∧ Ob (a_2.i = a'.a) ∧ Ob (a_2.i = a'.b) ∧ Ob (a_2.i - (1 : Int) = a'.i) ∧ Ob (List.length a_2.R = List.length a'.R ∧ ∀ (i : Nat), i <
  List.length a'.R → (El.fn (Rv.elemOf [.i64, .i64, .i64] a_2.R)).at i = (El.fn (Rv.elemOf [.i64, .i64, .i64] a'.R)).at i) ∧ Ob (n.toNat = n.toNat ∧ ∀ (i : Nat), i < n.toNat → (El.fn fun (i : Nat) ↦ [SV.i .i64 (lft (netTo
  rows rows.length) a_2.R (List.length a_2.R) i)]).at i = (El.fn fun (i : Nat) ↦ [SV.i .i64 (lft (netTo rows rows.length) a'.R (List.length a'.R) i)]).at i) ∧ Ob (PlainE (List.length a'.R) (El.fn (Rv.elemOf [.i64, .i64,
  .i64] a'.R))) ∧ Ob (PlainE n.toNat (El.fn fun (i : Nat) ↦ [SV.i .i64 (lft (netTo rows rows.length) a'.R (List.length a'.R) i)])) ∧ True) ∧ (¬(0 : Int) < lft (netTo rows rows.length) a_2.R (List.length a_2.R) a_2.i.toNat
  → Ob (InR .i64 (a_2.i - (1 : Int))) ∧ ∃ (a' : StI), Ob (StV n.toNat (netTo rows rows.length) a' (List.length a_1) ∧ (a'.i + (1 : Int)).toNat < (a_2.i + (1 : Int)).toNat) ∧ Ob (n = n) ∧ Ob (n.toNat = n.toNat) ∧ Ob
  (List.length a_1 = List.length a_1) ∧ Ob (a_2.i = a'.a) ∧ Ob (a_2.b = a'.b) ∧ Ob (a_2.i - (1 : Int) = a'.i) ∧ Ob (List.length a_2.R = List.length a'.R ∧ ∀ (i : Nat), i < List.length a'.R → (El.fn (Rv.elemOf [.i64, .i64,
  .i64] a_2.R)).at i = (El.fn (Rv.elemOf [.i64, .i64, .i64] a'.R)).at i) ∧ Ob (n.toNat = n.toNat ∧ ∀ (i : Nat), i < n.toNat → (El.fn fun (i : Nat) ↦ [SV.i .i64 (lft (netTo rows rows.length) a_2.R (List.length a_2.R)
  i)]).at i = (El.fn fun (i : Nat) ↦ [SV.i .i64 (lft (netTo rows rows.length) a'.R (List.length a'.R) i)]).at i) ∧ Ob (PlainE (List.length a'.R) (El.fn (Rv.elemOf [.i64, .i64, .i64] a'.R))) ∧ Ob (PlainE n.toNat (El.fn fun
  (i : Nat) ↦ [SV.i .i64 (lft (netTo rows rows.length) a'.R (List.length a'.R) i)])) ∧ True)) ∧ (¬lft (netTo rows rows.length) a_2.R (List.length a_2.R) a_2.i.toNat < (0 : Int) → Ob ((0 : Int) ≤ a_2.i ∧ a_2.i.toNat <
  n.toNat) ∧ Ob (a_2.i.toNat < n.toNat) ∧ ((0 : Int) < lft (netTo rows rows.length) a_2.R (List.length a_2.R) a_2.i.toNat → Ob (InR .i64 (a_2.i - (1 : Int))) ∧ ∃ (a' : StI), Ob (StV n.toNat (netTo rows rows.length) a'
  (List.length a_1) ∧ (a'.i + (1 : Int)).toNat < (a_2.i + (1 : Int)).toNat) ∧ Ob (n = n) ∧ Ob (n.toNat = n.toNat) ∧ Ob (List.length a_1 = List.length a_1) ∧ Ob (a_2.a = a'.a) ∧ Ob (a_2.i = a'.b) ∧ Ob (a_2.i - (1 : Int) =
  a'.i) ∧ Ob (List.length a_2.R = List.length a'.R ∧ ∀ (i : Nat), i < List.length a'.R → (El.fn (Rv.elemOf [.i64, .i64, .i64] a_2.R)).at i = (El.fn (Rv.elemOf [.i64, .i64, .i64] a'.R)).at i) ∧ Ob (n.toNat = n.toNat ∧ ∀ (i
  : Nat), i < n.toNat → (El.fn fun (i : Nat) ↦ [SV.i .i64 (lft (netTo rows rows.length) a_2.R (List.length a_2.R) i)]).at i = (El.fn fun (i : Nat) ↦ [SV.i .i64 (lft (netTo rows rows.length) a'.R (List.length a'.R) i)]).at
  i) ∧ Ob (PlainE (List.length a'.R) (El.fn (Rv.elemOf [.i64, .i64, .i64] a'.R))) ∧ Ob (PlainE n.toNat (El.fn fun (i : Nat) ↦ [SV.i .i64 (lft (netTo rows rows.length) a'.R (List.length a'.R) i)])) ∧ True) ∧ (¬(0 : Int) <
  lft (netTo rows rows.length) a_2.R (List.length a_2.R) a_2.i.toNat → Ob (InR .i64 (a_2.i - (1 : Int))) ∧ ∃ (a' : StI), Ob (StV n.toNat (netTo rows rows.length) a' (List.length a_1) ∧ (a'.i + (1 : Int)).toNat < (a_2.i +
  (1 : Int)).toNat) ∧ Ob (n = n) ∧ Ob (n.toNat = n.toNat) ∧ Ob (List.length a_1 = List.length a_1) ∧ Ob (a_2.a = a'.a) ∧ Ob (a_2.b = a'.b) ∧ Ob (a_2.i - (1 : Int) = a'.i) ∧ Ob (List.length a_2.R = List.length a'.R ∧ ∀ (i :
  Nat), i < List.length a'.R → (El.fn (Rv.elemOf [.i64, .i64, .i64] a_2.R)).at i = (El.fn (Rv.elemOf [.i64, .i64, .i64] a'.R)).at i) ∧ Ob (n.toNat = n.toNat ∧ ∀ (i : Nat), i < n.toNat → (El.fn fun (i : Nat) ↦ [SV.i .i64
  (lft (netTo rows rows.length) a_2.R (List.length a_2.R) i)]).at i = (El.fn fun (i : Nat) ↦ [SV.i .i64 (lft (netTo rows rows.length) a'.R (List.length a'.R) i)]).at i) ∧ Ob (PlainE (List.length a'.R) (El.fn (Rv.elemOf
  [.i64, .i64, .i64] a'.R))) ∧ Ob (PlainE n.toNat (El.fn fun (i : Nat) ↦ [SV.i .i64 (lft (netTo rows rows.length) a'.R (List.length a'.R) i)])) ∧ True))) ∧ (¬(0 : Int) ≤ a_2.i → (a_2.a < (0 : Int) → Ob (List.length a_1 =
  List.length (stlR n rows)) ∧ Ob ((0 : Int) = clmErr n rows) ∧ Ob (List.length a_2.R = List.length (stlR n rows) ∧ ∀ (i : Nat), i < List.length (stlR n rows) → (El.fn (Rv.elemOf [.i64, .i64, .i64] a_2.R)).at i = (El.fn
  (Rv.elemOf [.i64, .i64, .i64] (stlR n rows))).at i) ∧ Ob (PlainE (List.length (stlR n rows)) (El.fn (Rv.elemOf [.i64, .i64, .i64] (stlR n rows)))) ∧ True) ∧ (¬a_2.a < (0 : Int) → Ob ((0 : Int) ≤ a_2.a ∧ a_2.a.toNat <
  n.toNat) ∧ Ob (a_2.a.toNat < n.toNat) ∧ Ob (InR .i64 ((0 : Int) - lft (netTo rows rows.length) a_2.R (List.length a_2.R) a_2.a.toNat)) ∧ Ob ((0 : Int) ≤ a_2.b ∧ a_2.b.toNat < n.toNat) ∧ Ob (a_2.b.toNat < n.toNat) ∧ Ob
  ((0 : Int) ≤ a_2.a ∧ a_2.a.toNat < n.toNat) ∧ Ob (a_2.a.toNat < n.toNat) ∧ Ob (InR .i64 (lft (netTo rows rows.length) a_2.R (List.length a_2.R) a_2.a.toNat + min ((0 : Int) - lft (netTo rows rows.length) a_2.R
  (List.length a_2.R) a_2.a.toNat) (lft (netTo rows rows.length) a_2.R (List.length a_2.R) a_2.b.toNat))) ∧ Ob ((0 : Int) ≤ a_2.b ∧ a_2.b.toNat < n.toNat) ∧ Ob (a_2.b.toNat < n.toNat) ∧ Ob (InR .i64 (lft (netTo rows
  rows.length) a_2.R (List.length a_2.R) a_2.b.toNat - min ((0 : Int) - lft (netTo rows rows.length) a_2.R (List.length a_2.R) a_2.a.toNat) (lft (netTo rows rows.length) a_2.R (List.length a_2.R) a_2.b.toNat))) ∧ Ob ((0 :
  Int) ≤ a_2.a ∧ a_2.a.toNat < n.toNat) ∧ Ob (a_2.a.toNat < n.toNat ∧ ((El.fn fun (i : Nat) ↦ [SV.i .i64 (lft (netTo rows rows.length) a_2.R (List.length a_2.R) i)]).at a_2.a.toNat).length = (1 : Nat)) ∧ Ob (PlainE n.toNat
  (updL (El.fn fun (i : Nat) ↦ [SV.i .i64 (lft (netTo rows rows.length) a_2.R (List.length a_2.R) i)]) a_2.a.toNat 0 [SV.i .i64 (lft (netTo rows rows.length) a_2.R (List.length a_2.R) a_2.a.toNat + min ((0 : Int) - lft
  (netTo rows rows.length) a_2.R (List.length a_2.R) a_2.a.toNat) (lft (netTo rows rows.length) a_2.R (List.length a_2.R) a_2.b.toNat))])) ∧ Ob ((0 : Int) ≤ a_2.b ∧ a_2.b.toNat < n.toNat) ∧ Ob (a_2.b.toNat < n.toNat ∧
  ((updL (El.fn fun (i : Nat) ↦ [SV.i .i64 (lft (netTo rows rows.length) a_2.R (List.length a_2.R) i)]) a_2.a.toNat 0 [SV.i .i64 (lft (netTo rows rows.length) a_2.R (List.length a_2.R) a_2.a.toNat + min ((0 : Int) - lft
  (netTo rows rows.length) a_2.R (List.length a_2.R) a_2.a.toNat) (lft (netTo rows rows.length) a_2.R (List.length a_2.R) a_2.b.toNat))]).at a_2.b.toNat).length = (1 : Nat)) ∧ Ob (List.length a_2.R = List.length a_1 ∧ ∀ (i
  : Nat), i < List.length a_1 → ((El.fn (Rv.elemOf [.i64, .i64, .i64] a_2.R)).at i).length = (3 : Nat)) ∧ Ob ((List.length a_1 + (1 : Nat)) * (2 : Nat) * (25 : Nat) ≤ (1099511627776 : Nat)) ∧ Ob (List.length a_2.R =
  List.length a_1) ∧ ∃ (a' : Rows), Ob (PayTo n.toNat (netTo rows rows.length) a' ∧ nzF (lft (netTo rows rows.length) a' (List.length a')) n.toNat < nzF (lft (netTo rows rows.length) a_1 (List.length a_1)) n.toNat) ∧ Ob (n
  = n) ∧ Ob (n.toNat = n.toNat) ∧ Ob (List.length a_1 + (1 : Nat) = List.length a') ∧ Ob (List.length a_1 + (1 : Nat) = List.length a' ∧ ∀ (i : Nat), i < List.length a' → (behind (List.length a_1) (El.fn (Rv.elemOf [.i64,
  .i64, .i64] a_2.R)) 1 (litEl [SV.i .i64 a_2.a, SV.i .i64 a_2.b, SV.i .i64 (min ((0 : Int) - lft (netTo rows rows.length) a_2.R (List.length a_2.R) a_2.a.toNat) (lft (netTo rows rows.length) a_2.R (List.length a_2.R)
  a_2.b.toNat))] 3 1)).at i = (El.fn (Rv.elemOf [.i64, .i64, .i64] a')).at i) ∧ Ob (n.toNat = n.toNat ∧ ∀ (i : Nat), i < n.toNat → (updL (updL (El.fn fun (i : Nat) ↦ [SV.i .i64 (lft (netTo rows rows.length) a_2.R
  (List.length a_2.R) i)]) a_2.a.toNat 0 [SV.i .i64 (lft (netTo rows rows.length) a_2.R (List.length a_2.R) a_2.a.toNat + min ((0 : Int) - lft (netTo rows rows.length) a_2.R (List.length a_2.R) a_2.a.toNat) (lft (netTo
  rows rows.length) a_2.R (List.length a_2.R) a_2.b.toNat))]) a_2.b.toNat 0 [SV.i .i64 (lft (netTo rows rows.length) a_2.R (List.length a_2.R) a_2.b.toNat - min ((0 : Int) - lft (netTo rows rows.length) a_2.R (List.length
  a_2.R) a_2.a.toNat) (lft (netTo rows rows.length) a_2.R (List.length a_2.R) a_2.b.toNat))]).at i = (El.fn fun (i : Nat) ↦ [SV.i .i64 (lft (netTo rows rows.length) a' (List.length a') i)]).at i) ∧ Ob (PlainE (List.length
  a') (El.fn (Rv.elemOf [.i64, .i64, .i64] a'))) ∧ Ob (PlainE n.toNat (El.fn fun (i : Nat) ↦ [SV.i .i64 (lft (netTo rows rows.length) a' (List.length a') i)])) ∧ True)))))

set_option linter.unusedSimpArgs false in
set_option maxRecDepth 4000 in
set_option maxHeartbeats 1000000 in
theorem v_SettleR : V_SettleR := by
  unfold V_SettleR
  intro B N x C hx hox hrx hC
  have hC : C.length ≤ 4000000 := hC
  simp only [Ob_iff, and_true, true_and]
  refine ⟨fun h1 => err_leaf (by unfold clmErr; rw [if_neg h1]) (by decide), fun h1 => ?_⟩
  have hN : 1 ≤ N ∧ N ≤ 12 := Classical.not_not.1 h1
  refine ⟨hx, fun h2 => err_leaf (by unfold clmErr; rw [if_pos hN, if_pos (by omega)]) (by decide), fun h2 => ?_⟩
  have hl : ¬ 40 < C.length := by omega
  refine ⟨⟨0, ⟨by omega, rfl⟩, rfl, hx⟩, ?_⟩
  intro k ⟨hk, hk0⟩
  intros
  refine ⟨hx, fun h3 => ?_, fun h3 => ?_⟩
  · have hk' : k < C.length := by omega
    have at6 : ¬ (0 ≤ cell C k 0 ∧ cell C k 0 ≤ N - 1 ∧ 0 ≤ cell C k 1 ∧ cell C k 1 ≤ N - 1) → clmAt N C k = 6 := fun h => by unfold clmAt; rw [if_neg h]
    refine ⟨⟨by omega, hk', hx⟩, ⟨hx, hk'⟩, by simp only [InR]; omega, fun h4 => ?_, fun h4 => err_leaf (clm_err_at hN hl hk' hk0 (at6 fun h => h4 ⟨h.1, h.2.1⟩) (by decide)) (by decide)⟩
    have h4 := Classical.not_not.1 h4
    refine ⟨by simp only [InR]; omega, fun h5 => err_leaf (clm_err_at hN hl hk' hk0 (at6 fun h => h5 h.2.2) (by decide)) (by decide), fun h5 => ?_⟩
    have h5 := Classical.not_not.1 h5
    have hin : 0 ≤ cell C k 0 ∧ cell C k 0 ≤ N - 1 ∧ 0 ≤ cell C k 1 ∧ cell C k 1 ≤ N - 1 := ⟨h4.1, h4.2, h5⟩
    refine ⟨fun h6 => err_leaf (clm_err_at hN hl hk' hk0 (by unfold clmAt; rw [if_pos hin, if_pos h6]) (by decide)) (by decide), fun h6 => ?_⟩
    refine ⟨fun h7 => err_leaf (clm_err_at hN hl hk' hk0 (by unfold clmAt; rw [if_pos hin, if_neg h6, if_neg h7]) (by decide)) (by decide), fun h7 => ?_⟩
    have h7 := Classical.not_not.1 h7
    have e0 : clmTo N C (k + 1) = 0 := by
      show (if clmTo N C k = 0 then clmAt N C k else clmTo N C k) = 0
      rw [if_pos hk0]
      unfold clmAt
      rw [if_pos hin, if_neg h6, if_pos h7]
    exact ⟨by simp only [InR]; omega, k + 1, ⟨⟨by omega, e0⟩, by omega⟩, by omega, hx⟩
  have ek : k = C.length := by omega
  subst ek
  have hc : ∀ j, j < C.length → Clm N.toNat C j ∧ cell C j 2 ≤ 1000000000 := fun j hj => by
    have := clm_all hk0 j hj
    rw [show N = ((N.toNat : Nat) : Int) by omega] at this
    exact clm_is this
  have he : clmErr N C = 0 := by unfold clmErr; rw [if_pos hN, if_neg hl]; exact hk0
  have hst : stlR N C = payR N.toNat (netTo C C.length) := by unfold stlR; rw [if_pos he]
  refine ⟨C, ⟨hx, rfl, hrx, fun _ _ => rfl⟩, ⟨hN.1, hN.2, by omega, fun j hj => ⟨(hc j hj).1, by have := (hc j hj).2; omega⟩⟩, ⟨[], pay_nil _ _, rfl, rfl, fun i _ => ?_, plain_elemOf _ _ _, plain_fn1 _ _⟩, ?_⟩
  · show [SV.i .i64 (netTo C C.length i)] = [SV.i .i64 (lft (netTo C C.length) [] 0 i)]
    unfold lft
    simp [netTo]
  clear hk
  intro R hR
  intros
  obtain ⟨f, hf⟩ : ∃ f, netTo C C.length = f := ⟨_, rfl⟩
  have hE : ∀ S, PayTo N.toNat f S → StE N.toNat f S := fun S hS => by rw [← hf] at hS ⊢; exact ste_of hl hc hS
  rw [hf] at hR hst ⊢
  clear hc hk0 hf
  refine ⟨by simp only [InR]; omega, ⟨⟨N - 1, -1, -1, R⟩, ⟨hR, rfl, by show -1 ≤ N - 1 ∧ N - 1 < (N.toNat : Int); omega, .inl ⟨rfl, fun j h3 h4 => absurd h3 (by show ¬ N - 1 < (j : Int); omega)⟩, .inl ⟨rfl, fun j h3 h4 => absurd h3 (by show ¬ N - 1 < (j : Int); omega)⟩⟩, rfl, rfl, rfl, ⟨rfl, fun _ _ => rfl⟩, fun _ _ => rfl, plain_elemOf _ _ _, plain_fn1 _ _⟩, ?_⟩
  intro v hv
  intros
  have hvR : v.R = R := pay_eq hv.p hR hv.l
  obtain ⟨vi, va, vb, vR⟩ := v
  have hvR : vR = R := hvR
  subst hvR
  have hi : -1 ≤ vi ∧ vi < (N.toNat : Int) := hv.i
  simp only
  refine ⟨fun h4 => ?_, fun h4 => ?_⟩
  · have h5 : 0 ≤ vi ∧ vi.toNat < N.toNat := ⟨h4, by omega⟩
    have h6 : InR .i64 (vi - 1) := by simp only [InR]; omega
    have nx := fun a' b' => stv_next hv (show 0 ≤ (StI.mk vi va vb vR).i from h4) (a' := a') (b' := b')
    refine ⟨h5, h5.2, fun h7 => ⟨h5, h5.2, fun h8 => ?_, fun h8 => ?_⟩, fun h7 => ⟨h5, h5.2, fun h8 => ?_, fun h8 => ?_⟩⟩
    · exact ⟨h6, ⟨vi - 1, vi, vi, vR⟩, ⟨nx vi vi (.inl ⟨h7, rfl⟩) (.inl ⟨h8, rfl⟩), by show (vi - 1 + 1).toNat < (vi + 1).toNat; omega⟩, rfl, rfl, rfl, ⟨rfl, fun _ _ => rfl⟩, fun _ _ => rfl, plain_elemOf _ _ _, plain_fn1 _ _⟩
    · exact ⟨h6, ⟨vi - 1, vi, vb, vR⟩, ⟨nx vi vb (.inl ⟨h7, rfl⟩) (.inr ⟨h8, rfl⟩), by show (vi - 1 + 1).toNat < (vi + 1).toNat; omega⟩, rfl, rfl, rfl, ⟨rfl, fun _ _ => rfl⟩, fun _ _ => rfl, plain_elemOf _ _ _, plain_fn1 _ _⟩
    · exact ⟨h6, ⟨vi - 1, va, vi, vR⟩, ⟨nx va vi (.inr ⟨h7, rfl⟩) (.inl ⟨h8, rfl⟩), by show (vi - 1 + 1).toNat < (vi + 1).toNat; omega⟩, rfl, rfl, rfl, ⟨rfl, fun _ _ => rfl⟩, fun _ _ => rfl, plain_elemOf _ _ _, plain_fn1 _ _⟩
    · exact ⟨h6, ⟨vi - 1, va, vb, vR⟩, ⟨nx va vb (.inr ⟨h7, rfl⟩) (.inr ⟨h8, rfl⟩), by show (vi - 1 + 1).toNat < (vi + 1).toNat; omega⟩, rfl, rfl, rfl, ⟨rfl, fun _ _ => rfl⟩, fun _ _ => rfl, plain_elemOf _ _ _, plain_fn1 _ _⟩
  have ei : vi = -1 := by omega
  subst ei
  have hS := hE vR hR
  refine ⟨fun h5 => ?_, fun h5 => ?_⟩
  · have ha : ∀ j, j < N.toNat → 0 ≤ lft f vR vR.length j := by
      rcases hv.a with ⟨h6, h7⟩ | ⟨a, h6, h7, h8, h9, h10⟩
      · exact fun j hj => h7 j (by show (-1 : Int) < j; omega) hj
      · have h6' : va = (a : Int) := h6
        omega
    have hP : Paid N.toNat f vR := ⟨hR, sum_none hS.sum ha⟩
    rw [hst, payR_eq hP]
    exact ⟨rfl, he.symm, ⟨rfl, fun _ _ => rfl⟩, plain_elemOf _ _ _⟩
  rcases hv.a with ⟨h6, _⟩ | ⟨a, h6, h7, h8, h9, h10⟩
  · have h6' : va = -1 := h6
    omega
  have h6 : va = (a : Int) := h6
  have hA : FNeg (lft f vR vR.length) N.toNat a := ⟨h8, h9, fun j hj => h10 j (by show (-1 : Int) < j; omega) hj⟩
  obtain ⟨b, hB⟩ := sum_pos hS.sum h8 h9
  have hb : vb = (b : Int) := by
    rcases hv.b with ⟨h11, h12⟩ | ⟨c, h11, h12, h13, h14, h15⟩
    · have := h12 b (by show (-1 : Int) < b; omega) hB.1
      have h16 : 0 < lft f vR vR.length b := hB.2.1
      have h17 : lft f vR vR.length b ≤ 0 := this
      omega
    · have : FPos (lft f vR vR.length) N.toNat c := ⟨h13, h14, fun j hj => h15 j (by show (-1 : Int) < j; omega) hj⟩
      have e := this.uniq hB
      subst e
      exact h11
  subst h6 hb
  have ta : ((a : Int)).toNat = a := rfl
  have tb : ((b : Int)).toNat = b := rfl
  rw [ta, tb]
  have hab : a ≠ b := by
    rintro rfl
    have h16 : 0 < lft f vR vR.length a := hB.2.1
    have h17 : lft f vR vR.length a < 0 := hA.2.1
    omega
  obtain ⟨c, hc⟩ : ∃ c, c = min (0 - lft f vR vR.length a) (lft f vR vR.length b) := ⟨_, rfl⟩
  rw [← hc]
  have hc' : c = min (-(lft f vR vR.length a)) (lft f vR vR.length b) := by rw [hc, Int.zero_sub]
  have ba := hS.bd a hA.1
  have bb := hS.bd b hB.1
  have hst2 := pay_stp hA hB hc'
  have hpn := pay_next hR hA hB
  rw [← hc'] at hpn
  have hu := lft_upd (f := f) (R := vR) (c := c) hab
  have hsn := snoc3 (R := vR) (x := (a : Int)) (y := (b : Int)) (z := c) rfl
  have hln : nzF (lft f (vR ++ [[(a : Int), (b : Int), c]]) (vR ++ [[(a : Int), (b : Int), c]]).length) N.toNat < nzF (lft f vR vR.length) N.toNat := hst2.nz
  have hRl : vR.length ≤ N.toNat := by
    have := (pay_k hR (Nat.le_refl _)).nz
    omega
  have r1 : InR .i64 (0 - lft f vR vR.length a) := by simp only [InR]; omega
  have r2 : InR .i64 (lft f vR vR.length a + c) := by simp only [InR]; omega
  have r3 : InR .i64 (lft f vR vR.length b - c) := by simp only [InR]; omega
  have a0 : (0 : Int) ≤ (a : Int) ∧ a < N.toNat := ⟨by omega, hA.1⟩
  have b0 : (0 : Int) ≤ (b : Int) ∧ b < N.toNat := ⟨by omega, hB.1⟩
  have hlen : (vR ++ [[(a : Int), (b : Int), c]]).length = vR.length + 1 := by simp
  rw [← hlen] at hsn
  exact ⟨a0, a0.2, r1, b0, b0.2, a0, a0.2, r2, b0, b0.2, r3, a0, ⟨a0.2, rfl⟩, plain_upd1, b0, ⟨b0.2, len_upd1 _ _ _ _⟩, ⟨trivial, fun i hi => rfl⟩, by omega, trivial, vR ++ [[(a : Int), (b : Int), c]], ⟨hpn, hln⟩, hlen.symm, ⟨hlen.symm, hsn⟩, fun i _ => hu i, plain_elemOf _ _ _, plain_fn1 _ _⟩

theorem e_SettleR : V_SettleR = needE P [F_withinR] [F_NetsR] A_SettleR F_SettleR := by kernel_rfl

theorem n_SettleR : Ob (needE P [F_withinR] [F_NetsR] A_SettleR F_SettleR) := by
  rw [← e_SettleR]
  exact ⟨v_SettleR⟩

theorem b_SettleR : ((P.funcs[23]?).any fun fn => fn.body.isSome) = true := by kernel_rfl

theorem SettleR_ok : FnE.Ok P F_SettleR := FnE.ok named (l := [F_withinR]) (es := [F_NetsR]) (A := A_SettleR) (by rfl) (by rfl) (by rfl) (by
  intro F h
  simp only [List.mem_cons, List.not_mem_nil, or_false] at h
  rcases h with rfl
  · exact withinR_ok
) (by
  intro F h
  simp only [List.mem_cons, List.not_mem_nil, or_false] at h
  rcases h with rfl
  · exact NetsR_ok
) b_SettleR (by
  intro ds h o ho n sz e k z he
  subst he
  simp only [F_SettleR] at ho
  split at ho
  · simp only [List.mem_cons, List.not_mem_nil, or_false, SObj.gr.injEq] at ho
    obtain ⟨rfl, rfl, rfl, rfl, rfl⟩ := ho
    exact plain_elemOf _ _ _
  · simp at ho) n_SettleR

end Go.Proofs.Ytjgllojnbinchaa.Sy
