/- Numbers of animals by classes. -/
import Derived.Test.YthlodlileecmdaaDoorSyP2
import Derived.Test.YthlodlileecmdaaDoorGrM
import Derived.Test.YthlodlileecmdaaDoorCtA
import Derived.Test.YthlodlileecmdaaDoorCtB
import Derived.KernelRfl
import Derived.Test.YthlodlileecmdaaDoorProg
namespace Go.Proofs.YthlodlileecmdaaDoor.Sy
open Go Go.Rv
set_option linter.unusedVariables false

def cntLo (E L : Rows) (i : Nat) : Nat → Int
  | 0 => 0
  | k + 1 => cntLo E L i k + (if insV (cell L k 0) (cell L k 1) (cell E i 0) (cell E (i + 1) 0 - 1) = 1 then 1 else 0)
def cntHi (E L : Rows) (i : Nat) : Nat → Int
  | 0 => 0
  | k + 1 => cntHi E L i k + (if insV (cell L k 0) (cell L k 1) (cell E i 0) (cell E (i + 1) 0 - 1) = 2 then 0 else 1)
def cntR (E L : Rows) (k : Nat) : Rows := (List.range (E.length - 1)).map fun i => [cntLo E L i k, cntHi E L i k]
/-- as far as some classes have been gone through with one animal more -/
def mixR (E L : Rows) (k j : Nat) : Rows := (List.range (E.length - 1)).map fun i => if i < j then [cntLo E L i (k + 1), cntHi E L i (k + 1)] else [cntLo E L i k, cntHi E L i k]
theorem clsGo_is (E : Rows) (s : Int) : ∀ n k, clsGoE E s n k = 0 ∨ clsGoE E s n k = 6
  | 0, k => .inr rfl
  | n + 1, k => by
    simp only [clsGoE]
    split
    · exact .inl rfl
    · exact clsGo_is E s n (k + 1)
theorem clsE_is {E : Rows} (h : edgErr E = 0) : clsErr E 0 = 0 ∨ clsErr E 0 = 6 := by
  have h0 : inB 0 0 2500 := ⟨by omega, by omega⟩
  have e : clsErr E 0 = clsGoE E 0 (E.length - 1) 0 := by simp [clsErr, h, h0]
  rw [e]
  exact clsGo_is E 0 _ _
theorem cnt_bd (E L : Rows) (i : Nat) : ∀ k : Nat, 0 ≤ cntLo E L i k ∧ cntLo E L i k ≤ k ∧ 0 ≤ cntHi E L i k ∧ cntHi E L i k ≤ k
  | 0 => by simp [cntLo, cntHi]
  | k + 1 => by
    have h := cnt_bd E L i k
    simp only [cntLo, cntHi]
    split <;> split <;> omega
theorem cntR_cell (E L : Rows) (k : Nat) {i : Nat} (h : i < E.length - 1) : cell (cntR E L k) i 0 = cntLo E L i k ∧ cell (cntR E L k) i 1 = cntHi E L i k := by
  unfold cell cntR
  simp [List.getD_eq_getElem?_getD, h]
theorem mixR_cell (E L : Rows) (k j : Nat) {i : Nat} (h : i < E.length - 1) : cell (mixR E L k j) i 0 = cntLo E L i (if i < j then k + 1 else k) ∧ cell (mixR E L k j) i 1 = cntHi E L i (if i < j then k + 1 else k) := by
  unfold cell mixR
  by_cases hj : i < j <;> simp [List.getD_eq_getElem?_getD, h, hj]
theorem insV_is (a b lo hi : Int) : insV a b lo hi = 1 ∨ insV a b lo hi = 2 ∨ insV a b lo hi = 3 := by
  unfold insV
  split
  · exact .inr (.inl rfl)
  · split
    · exact .inl rfl
    · exact .inr (.inr rfl)
theorem mix_step (E L : Rows) (k j : Nat) {i : Nat} (hi : i < E.length - 1) : cell (mixR E L k (j + 1)) i 0 = (if i = j then cntLo E L j (k + 1) else cell (mixR E L k j) i 0) ∧ cell (mixR E L k (j + 1)) i 1 = (if i = j then cntHi E L j (k + 1) else cell (mixR E L k j) i 1) := by
  have h1 := mixR_cell E L k (j + 1) hi
  have h2 := mixR_cell E L k j hi
  rw [h1.1, h1.2, h2.1, h2.2]
  by_cases e : i = j
  · subst e
    rw [if_pos (by omega), if_pos rfl, if_pos rfl]
    exact ⟨rfl, rfl⟩
  · rw [if_neg e, if_neg e]
    by_cases h : i < j
    · rw [if_pos (by omega), if_pos h]; exact ⟨rfl, rfl⟩
    · rw [if_neg (by omega), if_neg h]; exact ⟨rfl, rfl⟩
theorem put_both (R : Rows) (j : Nat) (x y : Int) (i : Nat) : (updL (updL (El.fn (Rv.elemOf [.i64, .i64] R)) j 0 [SV.i .i64 x]) j 1 [SV.i .i64 y]).at i = [SV.i .i64 (if i = j then x else cell R i 0), SV.i .i64 (if i = j then y else cell R i 1)] := by
  by_cases e : i = j
  · subst e
    simp only [updL, El.at, if_true]
    rfl
  · simp only [updL, El.at, if_neg e]
    rfl
theorem put_hi (R : Rows) (j : Nat) (y : Int) (i : Nat) : (updL (El.fn (Rv.elemOf [.i64, .i64] R)) j 1 [SV.i .i64 y]).at i = [SV.i .i64 (cell R i 0), SV.i .i64 (if i = j then y else cell R i 1)] := by
  by_cases e : i = j
  · subst e
    simp only [updL, El.at, if_true]
    rfl
  · simp only [updL, El.at, if_neg e]
    rfl
theorem el_two (R : Rows) (i : Nat) : (El.fn (Rv.elemOf [.i64, .i64] R)).at i = [SV.i .i64 (cell R i 0), SV.i .i64 (cell R i 1)] := rfl

noncomputable def F_Counts : FnE := ⟨27, none, [.one (.l [.i64]), .one (.l [.i64, .i64, .i64, .i64, .i64, .i64])], fun l => match l with | [.l E, .l L] => edgErr E = 0 ∧ manyErr L = 0 | _ => False, fun l => match l with | [.l E, .l L] => [.gsl 0 (E.length - 1) 2 false, .i .i64 0] | _ => [], fun l => match l with | [.l E, .l L] => [.gr (E.length - 1) 2 (.fn (Rv.elemOf [.i64, .i64] (cntR E L L.length))) .ex false] | _ => [], fun l => match l with | [.l E, .l L] => [] | _ => [], false⟩
noncomputable def A_Counts : List SV → List Dat → Nat → List SV → Ann := fun xs ds n ts => match xs with
  | [.lst x _ _ _, .lst y _ _ _] => match ds with
    | [.l E, .l L] => match n with
      | 9 => ⟨Nat, fun k => [some (SV.lst x E.length ((1 : Nat)) (Rv.elemOf [IntKind.i64] E)), none, none, none, some (SV.v (Value.slice none ((0 : Nat)) ((0 : Nat)))), some (SV.v (Value.int IntKind.i64 (0 : Int))), none, none, none, some (.gsl 0 (E.length - 1) 2 false), none, none, none, none, none, none, none, none, none, none, none, none, none, none, none, none, none, none, none, none, none, none, none, none, some (SV.lst y L.length ((6 : Nat)) (Rv.elemOf [IntKind.i64, IntKind.i64, IntKind.i64, IntKind.i64, IntKind.i64, IntKind.i64] L)), some (SV.i IntKind.i64 (↑L.length : Int)), some (.i .i64 k), none, none, none, none, none, none, none, none, none, none, none, none, none, none, none, none, none, none, none, none, none, none, none, none, none, none, none, none, none, none, none, none, none, none, none, none, none, none, none, none, none, none, none, none, none, none, none, none, none, none, none, none], fun k => [.gr (E.length - 1) 2 (.fn (Rv.elemOf [.i64, .i64] (cntR E L k))) .ex false], fun k => k ≤ L.length, fun k => L.length - k, 0⟩
      | 12 => (match lget ts 36 with | some (SV.i _ r36) => ⟨Nat, fun j => [some (SV.lst x E.length ((1 : Nat)) (Rv.elemOf [IntKind.i64] E)), none, none, none, some (SV.v (Value.slice none ((0 : Nat)) ((0 : Nat)))), some (SV.v (Value.int IntKind.i64 (0 : Int))), none, none, none, some (.gsl 0 (E.length - 1) 2 false), none, some (SV.ptr ((1 : Nat)) ((0 : Nat))), none, none, none, none, none, none, none, none, none, none, none, none, none, none, none, none, none, none, none, none, none, none, some (SV.lst y L.length ((6 : Nat)) (Rv.elemOf [IntKind.i64, IntKind.i64, IntKind.i64, IntKind.i64, IntKind.i64, IntKind.i64] L)), some (SV.i IntKind.i64 (↑L.length : Int)), some (SV.i .i64 r36), none, none, none, none, some (SV.i IntKind.i64 (↑(E.length - (1 : Nat)) : Int)), some (.i .i64 j), none, none, none, none, none, none, none, none, none, none, none, none, none, none, none, none, none, none, none, none, none, none, none, none, none, none, none, none, none, none, none, none, none, none, none, none, none, none, none, none, none, none, none, none, none, none], fun j => [.cells [.i .i64 (cell L r36.toNat 0), .i .i64 (cell L r36.toNat 1), .i .i64 (cell L r36.toNat 2), .i .i64 (cell L r36.toNat 3), .i .i64 (cell L r36.toNat 4), .i .i64 (cell L r36.toNat 5)] .ex, .gr (E.length - 1) 2 (.fn (Rv.elemOf [.i64, .i64] (mixR E L r36.toNat j))) .ex false], fun j => j ≤ E.length - 1, fun j => E.length - 1 - j, 0⟩ | _ => noAnn)
      | _ => noAnn
    | _ => noAnn
  | _ => noAnn

set_option maxRecDepth 10000 in
def V_Counts : Prop :=
  ∀ (B : RW) (x : RV) (rows : List (List Int)), IsLst B x rows.length ((1 : Nat)) (Rv.elemOf [IntKind.i64] rows) → oneB x = true → (∀ (row : List Int), row ∈ rows → row.length = (1 : Nat)) → ∀ (x_1 : RV) (rows_1 : List
  (List Int)), IsLst B x_1 rows_1.length ((6 : Nat)) (Rv.elemOf [IntKind.i64, IntKind.i64, IntKind.i64, IntKind.i64, IntKind.i64, IntKind.i64] rows_1) → oneB x_1 = true → (∀ (row : List Int), row ∈ rows_1 → row.length = (6
  : Nat)) → F_Counts.pre ([Dat.l rows] ++ ([Dat.l rows_1] ++ [])) → ∃ (rows_2 : List (List Int)), Ob (IsLst B x rows.length ((1 : Nat)) (Rv.elemOf [IntKind.i64] rows) ∧ rows_2.length = rows.length ∧ (∀ (r : List Int), r ∈
  rows_2 → r.length = (1 : Nat)) ∧ ∀ (i : Nat), i < rows.length → Rv.elemOf [IntKind.i64] rows i = Rv.elemOf [IntKind.i64] rows_2 i) ∧ Ob True ∧ (¬clsErr rows_2 (0 : Int) = (0 : Int) → (¬clsErr rows_2 (0 : Int) = (6 : Int)
  → False) ∧ (¬¬clsErr rows_2 (0 : Int) = (6 : Int) → ∃ (rows_3 : List (List Int)), Ob (IsLst B x_1 rows_1.length ((6 : Nat)) (Rv.elemOf [IntKind.i64, IntKind.i64, IntKind.i64, IntKind.i64, IntKind.i64, IntKind.i64]
  rows_1) ∧ rows_3.length = rows_1.length ∧ (∀ (r : List Int), r ∈ rows_3 → r.length = (6 : Nat)) ∧ ∀ (i : Nat), i < rows_1.length → Rv.elemOf [IntKind.i64, IntKind.i64, IntKind.i64, IntKind.i64, IntKind.i64, IntKind.i64]
  rows_1 i = Rv.elemOf [IntKind.i64, IntKind.i64, IntKind.i64, IntKind.i64, IntKind.i64, IntKind.i64] rows_3 i) ∧ Ob True ∧ (¬manyErr rows_3 = (0 : Int) → False) ∧ (¬¬manyErr rows_3 = (0 : Int) → Ob (IsLst B x rows.length
  ((1 : Nat)) (Rv.elemOf [IntKind.i64] rows)) ∧ Ob (InR IntKind.i64 ((↑rows.length : Int) - (1 : Int))) ∧ Ob ((↑rows.length : Int) - (1 : Int) = (↑rows.length : Int) - (1 : Int) ∧ (0 : Int) < (↑rows.length : Int) - (1 :
  Int) ∧ ((↑rows.length : Int) - (1 : Int)).toNat * (17 : Nat) ≤ (1099511627776 : Nat)) ∧ Ob (IsLst B x_1 rows_1.length ((6 : Nat)) (Rv.elemOf [IntKind.i64, IntKind.i64, IntKind.i64, IntKind.i64, IntKind.i64, IntKind.i64]
  rows_1)) ∧ (∃ (a : Nat), Ob (a ≤ rows_1.length) ∧ Ob (SV.lst x rows.length ((1 : Nat)) (Rv.elemOf [IntKind.i64] rows) = SV.lst x rows.length ((1 : Nat)) (Rv.elemOf [IntKind.i64] rows)) ∧ Ob (SV.v (Value.slice none ((0 :
  Nat)) ((0 : Nat))) = SV.v (Value.slice none ((0 : Nat)) ((0 : Nat)))) ∧ Ob (Value.int IntKind.i64 (0 : Int) = Value.int IntKind.i64 (0 : Int)) ∧ Ob (((↑rows.length : Int) - (1 : Int)).toNat = rows.length - (1 : Nat)) ∧
  Ob (SV.lst x_1 rows_1.length ((6 : Nat)) (Rv.elemOf [IntKind.i64, IntKind.i64, IntKind.i64, IntKind.i64, IntKind.i64, IntKind.i64] rows_1) = SV.lst x_1 rows_1.length ((6 : Nat)) (Rv.elemOf [IntKind.i64, IntKind.i64,
  IntKind.i64, IntKind.i64, IntKind.i64, IntKind.i64] rows_1)) ∧ Ob ((↑rows_1.length : Int) = (↑rows_1.length : Int)) ∧ Ob ((0 : Int) = (↑a : Int)) ∧ Ob (((↑rows.length : Int) - (1 : Int)).toNat = rows.length - (1 : Nat) ∧
  ∀ (i : Nat), i < rows.length - (1 : Nat) → (El.fn fun (x : Nat) ↦ symL (List.map SV.v (Value.agg #[Value.int IntKind.i64 (0 : Int), Value.int IntKind.i64 (0 : Int)]).cells.toList)).at i = (El.fn (Rv.elemOf [IntKind.i64,
  IntKind.i64] (cntR rows rows_1 a))).at i) ∧ Ob (IsLst B x rows.length ((1 : Nat)) (Rv.elemOf [IntKind.i64] rows)) ∧ Ob (IsLst B x_1 rows_1.length ((6 : Nat)) (Rv.elemOf [IntKind.i64, IntKind.i64, IntKind.i64,
  IntKind.i64, IntKind.i64, IntKind.i64] rows_1)) ∧ Ob (PlainE (rows.length - (1 : Nat)) (El.fn (Rv.elemOf [IntKind.i64, IntKind.i64] (cntR rows rows_1 a)))) ∧ True) ∧ ∀ (a : Nat), a ≤ rows_1.length → ∀ (z z_1 z_2 z_3 z_4
  z_5 z_6 z_7 z_8 z_9 z_10 z_11 z_12 z_13 z_14 z_15 z_16 z_17 z_18 z_19 z_20 z_21 z_22 z_23 z_24 z_25 z_26 z_27 z_28 z_29 z_30 z_31 z_32 z_33 z_34 z_35 z_36 z_37 z_38 z_39 z_40 z_41 z_42 z_43 z_44 z_45 z_46 z_47 z_48 z_49
  z_50 z_51 z_52 z_53 z_54 z_55 z_56 z_57 z_58 z_59 z_60 z_61 z_62 z_63 z_64 z_65 z_66 z_67 z_68 z_69 z_70 z_71 z_72 z_73 z_74 z_75 z_76 z_77 z_78 z_79 z_80 z_81 : Value), ((↑a : Int) < (↑rows_1.length : Int) → Ob ((0 :
  Int) ≤ (↑a : Int) ∧ a < rows_1.length ∧ IsLst B x_1 rows_1.length ((6 : Nat)) (Rv.elemOf [IntKind.i64, IntKind.i64, IntKind.i64, IntKind.i64, IntKind.i64, IntKind.i64] rows_1)) ∧ Ob (IsLst B x_1 rows_1.length ((6 : Nat))
  (Rv.elemOf [IntKind.i64, IntKind.i64, IntKind.i64, IntKind.i64, IntKind.i64, IntKind.i64] rows_1) ∧ a < rows_1.length) ∧ (∃ (a_1 : Nat), Ob (a_1 ≤ rows.length - (1 : Nat)) ∧ Ob (SV.lst x rows.length ((1 : Nat))
  (Rv.elemOf [IntKind.i64] rows) = SV.lst x rows.length ((1 : Nat)) (Rv.elemOf [IntKind.i64] rows)) ∧ Ob (SV.v (Value.slice none ((0 : Nat)) ((0 : Nat))) = SV.v (Value.slice none ((0 : Nat)) ((0 : Nat)))) ∧ Ob (Value.int
  IntKind.i64 (0 : Int) = Value.int IntKind.i64 (0 : Int)) ∧ Ob (rows.length - (1 : Nat) = rows.length - (1 : Nat)) ∧ Ob (SV.lst x_1 rows_1.length ((6 : Nat)) (Rv.elemOf [IntKind.i64, IntKind.i64, IntKind.i64, IntKind.i64,
  IntKind.i64, IntKind.i64] rows_1) = SV.lst x_1 rows_1.length ((6 : Nat)) (Rv.elemOf [IntKind.i64, IntKind.i64, IntKind.i64, IntKind.i64, IntKind.i64, IntKind.i64] rows_1)) ∧ Ob ((↑rows_1.length : Int) = (↑rows_1.length :
  Int)) ∧ Ob ((↑a : Int) = (↑a : Int)) ∧ Ob ((↑(rows.length - (1 : Nat)) : Int) = (↑(rows.length - (1 : Nat)) : Int)) ∧ Ob ((0 : Int) = (↑a_1 : Int)) ∧ Ob (cell rows_1 a ((0 : Nat)) = cell rows_1 a ((0 : Nat))) ∧ Ob (cell
  rows_1 a ((1 : Nat)) = cell rows_1 a ((1 : Nat))) ∧ Ob (cell rows_1 a ((2 : Nat)) = cell rows_1 a ((2 : Nat))) ∧ Ob (cell rows_1 a ((3 : Nat)) = cell rows_1 a ((3 : Nat))) ∧ Ob (cell rows_1 a ((4 : Nat)) = cell rows_1 a
  ((4 : Nat))) ∧ Ob (cell rows_1 a (nat_lit 5) = cell rows_1 a (nat_lit 5)) ∧ Ob (rows.length - nat_lit 1 = rows.length - nat_lit 1 ∧ ∀ (i : Nat), i < rows.length - nat_lit 1 → (El.fn (Rv.elemOf [IntKind.i64, IntKind.i64]
  (cntR rows rows_1 a))).at i = (El.fn (Rv.elemOf [IntKind.i64, IntKind.i64] (mixR rows rows_1 a a_1))).at i) ∧ Ob (IsLst B x rows.length (nat_lit 1) (Rv.elemOf [IntKind.i64] rows)) ∧ Ob (IsLst B x_1 rows_1.length (nat_lit
  6) (Rv.elemOf [IntKind.i64, IntKind.i64, IntKind.i64, IntKind.i64, IntKind.i64, IntKind.i64] rows_1)) ∧ Ob (PlainE (rows.length - nat_lit 1) (El.fn (Rv.elemOf [IntKind.i64, IntKind.i64] (mixR rows rows_1 a a_1)))) ∧
  True) ∧ ∀ (a_1 : Nat), a_1 ≤ rows.length - (1 : Nat) → ∀ (z_82 z_83 z_84 z_85 z_86 z_87 z_88 z_89 z_90 z_91 z_92 z_93 z_94 z_95 z_96 z_97 z_98 z_99 z_100 z_101 z_102 z_103 z_104 z_105 z_106 z_107 z_108 z_109 z_110 z_111
  z_112 z_113 z_114 z_115 z_116 z_117 z_118 z_119 z_120 z_121 z_122 z_123 z_124 z_125 z_126 z_127 z_128 z_129 z_130 z_131 z_132 z_133 z_134 z_135 z_136 z_137 z_138 z_139 z_140 z_141 z_142 z_143 z_144 z_145 z_146 z_147
  z_148 z_149 z_150 z_151 z_152 z_153 z_154 z_155 z_156 z_157 z_158 z_159 z_160 : Value), ((↑a_1 : Int) < (↑(rows.length - (1 : Nat)) : Int) → Ob (IsLst B x rows.length ((1 : Nat)) (Rv.elemOf [IntKind.i64] rows)) ∧ Ob ((0
  : Int) ≤ (↑a_1 : Int) ∧ a_1 < rows.length ∧ IsLst B x rows.length ((1 : Nat)) (Rv.elemOf [IntKind.i64] rows)) ∧ Ob (IsLst B x rows.length ((1 : Nat)) (Rv.elemOf [IntKind.i64] rows) ∧ a_1 < rows.length) ∧ Ob (IsLst B x
  rows.length ((1 : Nat)) (Rv.elemOf [IntKind.i64] rows) ∧ a_1 < rows.length) ∧ Ob (IsLst B x rows.length ((1 : Nat)) (Rv.elemOf [IntKind.i64] rows)) ∧ Ob (InR IntKind.i64 ((↑a_1 : Int) + (1 : Int))) ∧ Ob ((0 : Int) ≤
  (↑a_1 : Int) + (1 : Int) ∧ ((↑a_1 : Int) + (1 : Int)).toNat < rows.length ∧ IsLst B x rows.length ((1 : Nat)) (Rv.elemOf [IntKind.i64] rows)) ∧ Ob (IsLst B x rows.length ((1 : Nat)) (Rv.elemOf [IntKind.i64] rows) ∧
  ((↑a_1 : Int) + (1 : Int)).toNat < rows.length) ∧ Ob (IsLst B x rows.length ((1 : Nat)) (Rv.elemOf [IntKind.i64] rows) ∧ ((↑a_1 : Int) + (1 : Int)).toNat < rows.length) ∧ Ob (InR IntKind.i64 (cell rows ((↑a_1 : Int) + (1
  : Int)).toNat ((0 : Nat)) - (1 : Int))) ∧ Ob True ∧ (insV (cell rows_1 a (nat_lit 0)) (cell rows_1 a (nat_lit 1)) (cell rows a_1 (nat_lit 0)) (cell rows ((↑a_1 : Int) + (1 : Int)).toNat (nat_lit 0) - (1 : Int)) = (1 :
  Int) → Ob ((0 : Int) ≤ (↑a_1 : Int) ∧ a_1 < rows.length - nat_lit 1) ∧ Ob (a_1 < rows.length - nat_lit 1) ∧ Ob (InR IntKind.i64 (cell (mixR rows rows_1 a a_1) a_1 (nat_lit 0) + (1 : Int))) ∧ Ob ((0 : Int) ≤ (↑a_1 : Int)
  ∧ a_1 < rows.length - nat_lit 1) ∧ Ob (a_1 < rows.length - nat_lit 1 ∧ ((El.fn (Rv.elemOf [IntKind.i64, IntKind.i64] (mixR rows rows_1 a a_1))).at a_1).length = nat_lit 2) ∧ Ob ((0 : Int) ≤ (↑a_1 : Int) ∧ a_1 <
  rows.length - nat_lit 1) ∧ Ob (a_1 < rows.length - nat_lit 1) ∧ (a_1 = a_1 → Ob (InR IntKind.i64 (cell (mixR rows rows_1 a a_1) a_1 (nat_lit 1) + (1 : Int))) ∧ Ob ((0 : Int) ≤ (↑a_1 : Int) ∧ a_1 < rows.length - nat_lit
  1) ∧ Ob (a_1 < rows.length - nat_lit 1 ∧ ((updL (El.fn (Rv.elemOf [IntKind.i64, IntKind.i64] (mixR rows rows_1 a a_1))) a_1 (nat_lit 0) [SV.i IntKind.i64 (cell (mixR rows rows_1 a a_1) a_1 (nat_lit 0) + (1 : Int))]).at
  a_1).length = nat_lit 2) ∧ Ob (InR IntKind.i64 ((↑a_1 : Int) + (1 : Int))) ∧ ∃ (a' : Nat), Ob (a' ≤ rows.length - nat_lit 1 ∧ rows.length - nat_lit 1 - a' < rows.length - nat_lit 1 - a_1) ∧ Ob (SV.lst x rows.length
  (nat_lit 1) (Rv.elemOf [IntKind.i64] rows) = SV.lst x rows.length (nat_lit 1) (Rv.elemOf [IntKind.i64] rows)) ∧ Ob (SV.v (Value.slice none (nat_lit 0) (nat_lit 0)) = SV.v (Value.slice none (nat_lit 0) (nat_lit 0))) ∧ Ob
  (Value.int IntKind.i64 (0 : Int) = Value.int IntKind.i64 (0 : Int)) ∧ Ob (rows.length - nat_lit 1 = rows.length - nat_lit 1) ∧ Ob (SV.lst x_1 rows_1.length (nat_lit 6) (Rv.elemOf [IntKind.i64, IntKind.i64, IntKind.i64,
  IntKind.i64, IntKind.i64, IntKind.i64] rows_1) = SV.lst x_1 rows_1.length (nat_lit 6) (Rv.elemOf [IntKind.i64, IntKind.i64, IntKind.i64, IntKind.i64, IntKind.i64, IntKind.i64] rows_1)) ∧ Ob ((↑rows_1.length : Int) =
  (↑rows_1.length : Int)) ∧ Ob ((↑a : Int) = (↑a : Int)) ∧ Ob ((↑(rows.length - nat_lit 1) : Int) = (↑(rows.length - nat_lit 1) : Int)) ∧ Ob ((↑a_1 : Int) + (1 : Int) = (↑a' : Int)) ∧ Ob (cell rows_1 a (nat_lit 0) = cell
  rows_1 a (nat_lit 0)) ∧ Ob (cell rows_1 a (nat_lit 1) = cell rows_1 a (nat_lit 1)) ∧ Ob (cell rows_1 a (nat_lit 2) = cell rows_1 a (nat_lit 2)) ∧ Ob (cell rows_1 a (nat_lit 3) = cell rows_1 a (nat_lit 3)) ∧ Ob (cell
  rows_1 a (nat_lit 4) = cell rows_1 a (nat_lit 4)) ∧ Ob (cell rows_1 a (nat_lit 5) = cell rows_1 a (nat_lit 5)) ∧ Ob (rows.length - nat_lit 1 = rows.length - nat_lit 1 ∧ ∀ (i : Nat), i < rows.length - nat_lit 1 → (updL
  (updL (El.fn (Rv.elemOf [IntKind.i64, IntKind.i64] (mixR rows rows_1 a a_1))) a_1 (nat_lit 0) [SV.i IntKind.i64 (cell (mixR rows rows_1 a a_1) a_1 (nat_lit 0) + (1 : Int))]) a_1 (nat_lit 1) [SV.i IntKind.i64 (cell (mixR
  rows rows_1 a a_1) a_1 (nat_lit 1) + (1 : Int))]).at i = (El.fn (Rv.elemOf [IntKind.i64, IntKind.i64] (mixR rows rows_1 a a'))).at i) ∧ Ob (IsLst B x rows.length (nat_lit 1) (Rv.elemOf [IntKind.i64] rows)) ∧ Ob (IsLst B
  x_1 rows_1.length (nat_lit 6) (Rv.elemOf [IntKind.i64, IntKind.i64, IntKind.i64, IntKind.i64, IntKind.i64, IntKind.i64] rows_1)) ∧ Ob (PlainE (rows.length - nat_lit 1) (El.fn (Rv.elemOf [IntKind.i64, IntKind.i64] (mixR
  rows rows_1 a a')))) ∧ True) ∧ (¬a_1 = a_1 → Ob (InR IntKind.i64 (cell (mixR rows rows_1 a a_1) a_1 (nat_lit 1) + (1 : Int))) ∧ Ob ((0 : Int) ≤ (↑a_1 : Int) ∧ a_1 < rows.length - nat_lit 1) ∧ Ob (a_1 < rows.length -
  nat_lit 1 ∧ ((updL (El.fn (Rv.elemOf [IntKind.i64, IntKind.i64] (mixR rows rows_1 a a_1))) a_1 (nat_lit 0) [SV.i IntKind.i64 (cell (mixR rows rows_1 a a_1) a_1 (nat_lit 0) + (1 : Int))]).at a_1).length = nat_lit 2) ∧ Ob
  (InR IntKind.i64 ((↑a_1 : Int) + (1 : Int))) ∧ ∃ (a' : Nat), Ob (a' ≤ rows.length - nat_lit 1 ∧ rows.length - nat_lit 1 - a' < rows.length - nat_lit 1 - a_1) ∧ Ob (SV.lst x rows.length (nat_lit 1) (Rv.elemOf
  [IntKind.i64] rows) = SV.lst x rows.length (nat_lit 1) (Rv.elemOf [IntKind.i64] rows)) ∧ Ob (SV.v (Value.slice none (nat_lit 0) (nat_lit 0)) = SV.v (Value.slice none (nat_lit 0) (nat_lit 0))) ∧ Ob (Value.int IntKind.i64
  (0 : Int) = Value.int IntKind.i64 (0 : Int)) ∧ Ob (rows.length - nat_lit 1 = rows.length - nat_lit 1) ∧ Ob (SV.lst x_1 rows_1.length (nat_lit 6) (Rv.elemOf [IntKind.i64, IntKind.i64, IntKind.i64, IntKind.i64,
  IntKind.i64, IntKind.i64] rows_1) = SV.lst x_1 rows_1.length (nat_lit 6) (Rv.elemOf [IntKind.i64, IntKind.i64, IntKind.i64, IntKind.i64, IntKind.i64, IntKind.i64] rows_1)) ∧ Ob ((↑rows_1.length : Int) = (↑rows_1.length :
  Int)) ∧ Ob ((↑a : Int) = (↑a : Int)) ∧ Ob ((↑(rows.length - nat_lit 1) : Int) = (↑(rows.length - nat_lit 1) : Int)) ∧ Ob ((↑a_1 : Int) + (1 : Int) = (↑a' : Int)) ∧ Ob (cell rows_1 a (nat_lit 0) = cell rows_1 a (nat_lit
  0)) ∧ Ob (cell rows_1 a (nat_lit 1) = cell rows_1 a (nat_lit 1)) ∧ Ob (cell rows_1 a (nat_lit 2) = cell rows_1 a (nat_lit 2)) ∧ Ob (cell rows_1 a (nat_lit 3) = cell rows_1 a (nat_lit 3)) ∧ Ob (cell rows_1 a (nat_lit 4) =
  cell rows_1 a (nat_lit 4)) ∧ Ob (cell rows_1 a (nat_lit 5) = cell rows_1 a (nat_lit 5)) ∧ Ob (rows.length - nat_lit 1 = rows.length - nat_lit 1 ∧ ∀ (i : Nat), i < rows.length - nat_lit 1 → (updL (updL (El.fn (Rv.elemOf
  [IntKind.i64, IntKind.i64] (mixR rows rows_1 a a_1))) a_1 (nat_lit 0) [SV.i IntKind.i64 (cell (mixR rows rows_1 a a_1) a_1 (nat_lit 0) + (1 : Int))]) a_1 (nat_lit 1) [SV.i IntKind.i64 (cell (mixR rows rows_1 a a_1) a_1
  (nat_lit 1) + (1 : Int))]).at i = (El.fn (Rv.elemOf [IntKind.i64, IntKind.i64] (mixR rows rows_1 a a'))).at i) ∧ Ob (IsLst B x rows.length (nat_lit 1) (Rv.elemOf [IntKind.i64] rows)) ∧ Ob (IsLst B x_1 rows_1.length
  (nat_lit 6) (Rv.elemOf [IntKind.i64, IntKind.i64, IntKind.i64, IntKind.i64, IntKind.i64, IntKind.i64] rows_1)) ∧ Ob (PlainE (rows.length - nat_lit 1) (El.fn (Rv.elemOf [IntKind.i64, IntKind.i64] (mixR rows rows_1 a
  a')))) ∧ True)) ∧ (¬insV (cell rows_1 a (nat_lit 0)) (cell rows_1 a (nat_lit 1)) (cell rows a_1 (nat_lit 0)) (cell rows ((↑a_1 : Int) + (1 : Int)).toNat (nat_lit 0) - (1 : Int)) = (1 : Int) → (insV (cell rows_1 a
  (nat_lit 0)) (cell rows_1 a (nat_lit 1)) (cell rows a_1 (nat_lit 0)) (cell rows ((↑a_1 : Int) + (1 : Int)).toNat (nat_lit 0) - (1 : Int)) = (3 : Int) → Ob ((0 : Int) ≤ (↑a_1 : Int) ∧ a_1 < rows.length - nat_lit 1) ∧ Ob
  (a_1 < rows.length - nat_lit 1) ∧ Ob (InR IntKind.i64 (cell (mixR rows rows_1 a a_1) a_1 (nat_lit 1) + (1 : Int))) ∧ Ob ((0 : Int) ≤ (↑a_1 : Int) ∧ a_1 < rows.length - nat_lit 1) ∧ Ob (a_1 < rows.length - nat_lit 1 ∧
  ((El.fn (Rv.elemOf [IntKind.i64, IntKind.i64] (mixR rows rows_1 a a_1))).at a_1).length = nat_lit 2) ∧ Ob (InR IntKind.i64 ((↑a_1 : Int) + (1 : Int))) ∧ ∃ (a' : Nat), Ob (a' ≤ rows.length - nat_lit 1 ∧ rows.length -
  nat_lit 1 - a' < rows.length - nat_lit 1 - a_1) ∧ Ob (SV.lst x rows.length (nat_lit 1) (Rv.elemOf [IntKind.i64] rows) = SV.lst x rows.length (nat_lit 1) (Rv.elemOf [IntKind.i64] rows)) ∧ Ob (SV.v (Value.slice none
  (nat_lit 0) (nat_lit 0)) = SV.v (Value.slice none (nat_lit 0) (nat_lit 0))) ∧ Ob (Value.int IntKind.i64 (0 : Int) = Value.int IntKind.i64 (0 : Int)) ∧ Ob (rows.length - nat_lit 1 = rows.length - nat_lit 1) ∧ Ob (SV.lst
  x_1 rows_1.length (nat_lit 6) (Rv.elemOf [IntKind.i64, IntKind.i64, IntKind.i64, IntKind.i64, IntKind.i64, IntKind.i64] rows_1) = SV.lst x_1 rows_1.length (nat_lit 6) (Rv.elemOf [IntKind.i64, IntKind.i64, IntKind.i64,
  IntKind.i64, IntKind.i64, IntKind.i64] rows_1)) ∧ Ob ((↑rows_1.length : Int) = (↑rows_1.length : Int)) ∧ Ob ((↑a : Int) = (↑a : Int)) ∧ Ob ((↑(rows.length - nat_lit 1) : Int) = (↑(rows.length - nat_lit 1) : Int)) ∧ Ob
  ((↑a_1 : Int) + (1 : Int) = (↑a' : Int)) ∧ Ob (cell rows_1 a (nat_lit 0) = cell rows_1 a (nat_lit 0)) ∧ Ob (cell rows_1 a (nat_lit 1) = cell rows_1 a (nat_lit 1)) ∧ Ob (cell rows_1 a (nat_lit 2) = cell rows_1 a (nat_lit
  2)) ∧ Ob (cell rows_1 a (nat_lit 3) = cell rows_1 a (nat_lit 3)) ∧ Ob (cell rows_1 a (nat_lit 4) = cell rows_1 a (nat_lit 4)) ∧ Ob (cell rows_1 a (nat_lit 5) = cell rows_1 a (nat_lit 5)) ∧ Ob (rows.length - nat_lit 1 =
  rows.length - nat_lit 1 ∧ ∀ (i : Nat), i < rows.length - nat_lit 1 → (updL (El.fn (Rv.elemOf [IntKind.i64, IntKind.i64] (mixR rows rows_1 a a_1))) a_1 (nat_lit 1) [SV.i IntKind.i64 (cell (mixR rows rows_1 a a_1) a_1
  (nat_lit 1) + (1 : Int))]).at i = (El.fn (Rv.elemOf [IntKind.i64, IntKind.i64] (mixR rows rows_1 a a'))).at i) ∧ Ob (IsLst B x rows.length (nat_lit 1) (Rv.elemOf [IntKind.i64] rows)) ∧ Ob (IsLst B x_1 rows_1.length
  (nat_lit 6) (Rv.elemOf [IntKind.i64, IntKind.i64, IntKind.i64, IntKind.i64, IntKind.i64, IntKind.i64] rows_1)) ∧ Ob (PlainE (rows.length - nat_lit 1) (El.fn (Rv.elemOf [IntKind.i64, IntKind.i64] (mixR rows rows_1 a
  a')))) ∧ True) ∧ (¬insV (cell rows_1 a (nat_lit 0)) (cell rows_1 a (nat_lit 1)) (cell rows a_1 (nat_lit 0)) (cell rows ((↑a_1 : Int) + (1 : Int)).toNat (nat_lit 0) - (1 : Int)) = (3 : Int) → Ob (InR IntKind.i64 ((↑a_1 :
  Int) + (1 : Int))) ∧ ∃ (a' : Nat), Ob (a' ≤ rows.length - nat_lit 1 ∧ rows.length - nat_lit 1 - a' < rows.length - nat_lit 1 - a_1) ∧ Ob (SV.lst x rows.length (nat_lit 1) (Rv.elemOf [IntKind.i64] rows) = SV.lst x
  rows.length (nat_lit 1) (Rv.elemOf [IntKind.i64] rows)) ∧ Ob (SV.v (Value.slice none (nat_lit 0) (nat_lit 0)) = SV.v (Value.slice none (nat_lit 0) (nat_lit 0))) ∧ Ob (Value.int IntKind.i64 (0 : Int) = Value.int
  IntKind.i64 (0 : Int)) ∧ Ob (rows.length - nat_lit 1 = rows.length - nat_lit 1) ∧ Ob (SV.lst x_1 rows_1.length (nat_lit 6) (Rv.elemOf [IntKind.i64, IntKind.i64, IntKind.i64, IntKind.i64, IntKind.i64, IntKind.i64] rows_1)
  = SV.lst x_1 rows_1.length (nat_lit 6) (Rv.elemOf [IntKind.i64, IntKind.i64, IntKind.i64, IntKind.i64, IntKind.i64, IntKind.i64] rows_1)) ∧ Ob ((↑rows_1.length : Int) = (↑rows_1.length : Int)) ∧ Ob ((↑a : Int) = (↑a :
  Int)) ∧ Ob ((↑(rows.length - nat_lit 1) : Int) = (↑(rows.length - nat_lit 1) : Int)) ∧ Ob ((↑a_1 : Int) + (1 : Int) = (↑a' : Int)) ∧ Ob (cell rows_1 a (nat_lit 0) = cell rows_1 a (nat_lit 0)) ∧ Ob (cell rows_1 a (nat_lit
  1) = cell rows_1 a (nat_lit 1)) ∧ Ob (cell rows_1 a (nat_lit 2) = cell rows_1 a (nat_lit 2)) ∧ Ob (cell rows_1 a (nat_lit 3) = cell rows_1 a (nat_lit 3)) ∧ Ob (cell rows_1 a (nat_lit 4) = cell rows_1 a (nat_lit 4)) ∧ Ob
  (cell rows_1 a (nat_lit 5) = cell rows_1 a (nat_lit 5)) ∧ Ob (rows.length - nat_lit 1 = rows.length - nat_lit 1 ∧ ∀ (i : Nat), i < rows.length - nat_lit 1 → (El.fn (Rv.elemOf [IntKind.i64, IntKind.i64] (mixR rows rows_1
  a a_1))).at i = (El.fn (Rv.elemOf [IntKind.i64, IntKind.i64] (mixR rows rows_1 a a'))).at i) ∧ Ob (IsLst B x rows.length (nat_lit 1) (Rv.elemOf [IntKind.i64] rows)) ∧ Ob (IsLst B x_1 rows_1.length (nat_lit 6) (Rv.elemOf
  [IntKind.i64, IntKind.i64, IntKind.i64, IntKind.i64, IntKind.i64, IntKind.i64] rows_1)) ∧ Ob (PlainE (rows.length - nat_lit 1) (El.fn (Rv.elemOf [IntKind.i64, IntKind.i64] (mixR rows rows_1 a a')))) ∧ True))) ∧ (¬(↑a_1 :
  Int) < (↑(rows.length - (1 : Nat)) : Int) → Ob (InR IntKind.i64 ((↑a : Int) + (1 : Int))) ∧ ∃ (a' : Nat), Ob (a' ≤ rows_1.length ∧ rows_1.length - a' < rows_1.length - a) ∧ Ob (SV.lst x rows.length ((1 : Nat)) (Rv.elemOf
  [IntKind.i64] rows) = SV.lst x rows.length ((1 : Nat)) (Rv.elemOf [IntKind.i64] rows)) ∧ Ob (SV.v (Value.slice none ((0 : Nat)) ((0 : Nat))) = SV.v (Value.slice none ((0 : Nat)) ((0 : Nat)))) ∧ Ob (Value.int IntKind.i64
  (0 : Int) = Value.int IntKind.i64 (0 : Int)) ∧ Ob (rows.length - (1 : Nat) = rows.length - (1 : Nat)) ∧ Ob (SV.lst x_1 rows_1.length ((6 : Nat)) (Rv.elemOf [IntKind.i64, IntKind.i64, IntKind.i64, IntKind.i64,
  IntKind.i64, IntKind.i64] rows_1) = SV.lst x_1 rows_1.length ((6 : Nat)) (Rv.elemOf [IntKind.i64, IntKind.i64, IntKind.i64, IntKind.i64, IntKind.i64, IntKind.i64] rows_1)) ∧ Ob ((↑rows_1.length : Int) = (↑rows_1.length :
  Int)) ∧ Ob ((↑a : Int) + (1 : Int) = (↑a' : Int)) ∧ Ob (rows.length - (1 : Nat) = rows.length - (1 : Nat) ∧ ∀ (i : Nat), i < rows.length - nat_lit 1 → (El.fn (Rv.elemOf [IntKind.i64, IntKind.i64] (mixR rows rows_1 a
  a_1))).at i = (El.fn (Rv.elemOf [IntKind.i64, IntKind.i64] (cntR rows rows_1 a'))).at i) ∧ Ob (IsLst B x rows.length ((1 : Nat)) (Rv.elemOf [IntKind.i64] rows)) ∧ Ob (IsLst B x_1 rows_1.length ((6 : Nat)) (Rv.elemOf
  [IntKind.i64, IntKind.i64, IntKind.i64, IntKind.i64, IntKind.i64, IntKind.i64] rows_1)) ∧ Ob (PlainE (rows.length - nat_lit 1) (El.fn (Rv.elemOf [IntKind.i64, IntKind.i64] (cntR rows rows_1 a')))) ∧ True)) ∧ (¬(↑a : Int)
  < (↑rows_1.length : Int) → Ob (rows.length - (1 : Nat) = rows.length - (1 : Nat)) ∧ Ob ((0 : Int) = (0 : Int)) ∧ Ob (rows.length - (1 : Nat) = rows.length - (1 : Nat) ∧ ∀ (i : Nat), i < rows.length - (1 : Nat) → (El.fn
  (Rv.elemOf [IntKind.i64, IntKind.i64] (cntR rows rows_1 a))).at i = (El.fn (Rv.elemOf [IntKind.i64, IntKind.i64] (cntR rows rows_1 rows_1.length))).at i) ∧ Ob (PlainE (rows.length - (1 : Nat)) (El.fn (Rv.elemOf
  [IntKind.i64, IntKind.i64] (cntR rows rows_1 rows_1.length)))) ∧ True)))) ∧ (¬¬clsErr rows_2 (0 : Int) = (0 : Int) → ∃ (rows_3 : List (List Int)), Ob (IsLst B x_1 rows_1.length ((6 : Nat)) (Rv.elemOf [IntKind.i64,
  IntKind.i64, IntKind.i64, IntKind.i64, IntKind.i64, IntKind.i64] rows_1) ∧ rows_3.length = rows_1.length ∧ (∀ (r : List Int), r ∈ rows_3 → r.length = (6 : Nat)) ∧ ∀ (i : Nat), i < rows_1.length → Rv.elemOf [IntKind.i64,
  IntKind.i64, IntKind.i64, IntKind.i64, IntKind.i64, IntKind.i64] rows_1 i = Rv.elemOf [IntKind.i64, IntKind.i64, IntKind.i64, IntKind.i64, IntKind.i64, IntKind.i64] rows_3 i) ∧ Ob True ∧ (¬manyErr rows_3 = (0 : Int) →
  False) ∧ (¬¬manyErr rows_3 = (0 : Int) → Ob (IsLst B x rows.length ((1 : Nat)) (Rv.elemOf [IntKind.i64] rows)) ∧ Ob (InR IntKind.i64 ((↑rows.length : Int) - (1 : Int))) ∧ Ob ((↑rows.length : Int) - (1 : Int) =
  (↑rows.length : Int) - (1 : Int) ∧ (0 : Int) < (↑rows.length : Int) - (1 : Int) ∧ ((↑rows.length : Int) - (1 : Int)).toNat * (17 : Nat) ≤ (1099511627776 : Nat)) ∧ Ob (IsLst B x_1 rows_1.length ((6 : Nat)) (Rv.elemOf
  [IntKind.i64, IntKind.i64, IntKind.i64, IntKind.i64, IntKind.i64, IntKind.i64] rows_1)) ∧ (∃ (a : Nat), Ob (a ≤ rows_1.length) ∧ Ob (SV.lst x rows.length ((1 : Nat)) (Rv.elemOf [IntKind.i64] rows) = SV.lst x rows.length
  ((1 : Nat)) (Rv.elemOf [IntKind.i64] rows)) ∧ Ob (SV.v (Value.slice none ((0 : Nat)) ((0 : Nat))) = SV.v (Value.slice none ((0 : Nat)) ((0 : Nat)))) ∧ Ob (Value.int IntKind.i64 (0 : Int) = Value.int IntKind.i64 (0 :
  Int)) ∧ Ob (((↑rows.length : Int) - (1 : Int)).toNat = rows.length - (1 : Nat)) ∧ Ob (SV.lst x_1 rows_1.length ((6 : Nat)) (Rv.elemOf [IntKind.i64, IntKind.i64, IntKind.i64, IntKind.i64, IntKind.i64, IntKind.i64] rows_1)
  = SV.lst x_1 rows_1.length ((6 : Nat)) (Rv.elemOf [IntKind.i64, IntKind.i64, IntKind.i64, IntKind.i64, IntKind.i64, IntKind.i64] rows_1)) ∧ Ob ((↑rows_1.length : Int) = (↑rows_1.length : Int)) ∧ Ob ((0 : Int) = (↑a :
  Int)) ∧ Ob (((↑rows.length : Int) - (1 : Int)).toNat = rows.length - (1 : Nat) ∧ ∀ (i : Nat), i < rows.length - (1 : Nat) → (El.fn fun (x : Nat) ↦ symL (List.map SV.v (Value.agg #[Value.int IntKind.i64 (0 : Int),
  Value.int IntKind.i64 (0 : Int)]).cells.toList)).at i = (El.fn (Rv.elemOf [IntKind.i64, IntKind.i64] (cntR rows rows_1 a))).at i) ∧ Ob (IsLst B x rows.length ((1 : Nat)) (Rv.elemOf [IntKind.i64] rows)) ∧ Ob (IsLst B x_1
  rows_1.length ((6 : Nat)) (Rv.elemOf [IntKind.i64, IntKind.i64, IntKind.i64, IntKind.i64, IntKind.i64, IntKind.i64] rows_1)) ∧ Ob (PlainE (rows.length - (1 : Nat)) (El.fn (Rv.elemOf [IntKind.i64, IntKind.i64] (cntR rows
  rows_1 a)))) ∧ True) ∧ ∀ (a : Nat), a ≤ rows_1.length → ∀ (z z_1 z_2 z_3 z_4 z_5 z_6 z_7 z_8 z_9 z_10 z_11 z_12 z_13 z_14 z_15 z_16 z_17 z_18 z_19 z_20 z_21 z_22 z_23 z_24 z_25 z_26 z_27 z_28 z_29 z_30 z_31 z_32 z_33
  z_34 z_35 z_36 z_37 z_38 z_39 z_40 z_41 z_42 z_43 z_44 z_45 z_46 z_47 z_48 z_49 z_50 z_51 z_52 z_53 z_54 z_55 z_56 z_57 z_58 z_59 z_60 z_61 z_62 z_63 z_64 z_65 z_66 z_67 z_68 z_69 z_70 z_71 z_72 z_73 z_74 z_75 z_76 z_77
  z_78 z_79 z_80 z_81 : Value), ((↑a : Int) < (↑rows_1.length : Int) → Ob ((0 : Int) ≤ (↑a : Int) ∧ a < rows_1.length ∧ IsLst B x_1 rows_1.length ((6 : Nat)) (Rv.elemOf [IntKind.i64, IntKind.i64, IntKind.i64, IntKind.i64,
  IntKind.i64, IntKind.i64] rows_1)) ∧ Ob (IsLst B x_1 rows_1.length ((6 : Nat)) (Rv.elemOf [IntKind.i64, IntKind.i64, IntKind.i64, IntKind.i64, IntKind.i64, IntKind.i64] rows_1) ∧ a < rows_1.length) ∧ (∃ (a_1 : Nat), Ob
  (a_1 ≤ rows.length - (1 : Nat)) ∧ Ob (SV.lst x rows.length ((1 : Nat)) (Rv.elemOf [IntKind.i64] rows) = SV.lst x rows.length ((1 : Nat)) (Rv.elemOf [IntKind.i64] rows)) ∧ Ob (SV.v (Value.slice none ((0 : Nat)) ((0 :
  Nat))) = SV.v (Value.slice none ((0 : Nat)) ((0 : Nat)))) ∧ Ob (Value.int IntKind.i64 (0 : Int) = Value.int IntKind.i64 (0 : Int)) ∧ Ob (rows.length - (1 : Nat) = rows.length - (1 : Nat)) ∧ Ob (SV.lst x_1 rows_1.length
  ((6 : Nat)) (Rv.elemOf [IntKind.i64, IntKind.i64, IntKind.i64, IntKind.i64, IntKind.i64, IntKind.i64] rows_1) = SV.lst x_1 rows_1.length ((6 : Nat)) (Rv.elemOf [IntKind.i64, IntKind.i64, IntKind.i64, IntKind.i64,
  IntKind.i64, IntKind.i64] rows_1)) ∧ Ob ((↑rows_1.length : Int) = (↑rows_1.length : Int)) ∧ Ob ((↑a : Int) = (↑a : Int)) ∧ Ob ((↑(rows.length - (1 : Nat)) : Int) = (↑(rows.length - (1 : Nat)) : Int)) ∧ Ob ((0 : Int) =
  (↑a_1 : Int)) ∧ Ob (cell rows_1 a ((0 : Nat)) = cell rows_1 a ((0 : Nat))) ∧ Ob (cell rows_1 a ((1 : Nat)) = cell rows_1 a ((1 : Nat))) ∧ Ob (cell rows_1 a ((2 : Nat)) = cell rows_1 a ((2 : Nat))) ∧ Ob (cell rows_1 a ((3
  : Nat)) = cell rows_1 a ((3 : Nat))) ∧ Ob (cell rows_1 a ((4 : Nat)) = cell rows_1 a ((4 : Nat))) ∧ Ob (cell rows_1 a ((5 : Nat)) = cell rows_1 a ((5 : Nat))) ∧ Ob (rows.length - (1 : Nat) = rows.length - (1 : Nat) ∧ ∀
  (i : Nat), i < rows.length - nat_lit 1 → (El.fn (Rv.elemOf [IntKind.i64, IntKind.i64] (cntR rows rows_1 a))).at i = (El.fn (Rv.elemOf [IntKind.i64, IntKind.i64] (mixR rows rows_1 a a_1))).at i) ∧ Ob (IsLst B x
  rows.length ((1 : Nat)) (Rv.elemOf [IntKind.i64] rows)) ∧ Ob (IsLst B x_1 rows_1.length ((6 : Nat)) (Rv.elemOf [IntKind.i64, IntKind.i64, IntKind.i64, IntKind.i64, IntKind.i64, IntKind.i64] rows_1)) ∧ Ob (PlainE
  (rows.length - nat_lit 1) (El.fn (Rv.elemOf [IntKind.i64, IntKind.i64] (mixR rows rows_1 a a_1)))) ∧ True) ∧ ∀ (a_1 : Nat), a_1 ≤ rows.length - (1 : Nat) → ∀ (z_82 z_83 z_84 z_85 z_86 z_87 z_88 z_89 z_90 z_91 z_92 z_93
  z_94 z_95 z_96 z_97 z_98 z_99 z_100 z_101 z_102 z_103 z_104 z_105 z_106 z_107 z_108 z_109 z_110 z_111 z_112 z_113 z_114 z_115 z_116 z_117 z_118 z_119 z_120 z_121 z_122 z_123 z_124 z_125 z_126 z_127 z_128 z_129 z_130
  z_131 z_132 z_133 z_134 z_135 z_136 z_137 z_138 z_139 z_140 z_141 z_142 z_143 z_144 z_145 z_146 z_147 z_148 z_149 z_150 z_151 z_152 z_153 z_154 z_155 z_156 z_157 z_158 z_159 z_160 : Value), ((↑a_1 : Int) < (↑(rows.length
  - (1 : Nat)) : Int) → Ob (IsLst B x rows.length ((1 : Nat)) (Rv.elemOf [IntKind.i64] rows)) ∧ Ob ((0 : Int) ≤ (↑a_1 : Int) ∧ a_1 < rows.length ∧ IsLst B x rows.length ((1 : Nat)) (Rv.elemOf [IntKind.i64] rows)) ∧ Ob
  (IsLst B x rows.length ((1 : Nat)) (Rv.elemOf [IntKind.i64] rows) ∧ a_1 < rows.length) ∧ Ob (IsLst B x rows.length ((1 : Nat)) (Rv.elemOf [IntKind.i64] rows) ∧ a_1 < rows.length) ∧ Ob (IsLst B x rows.length ((1 : Nat))
  (Rv.elemOf [IntKind.i64] rows)) ∧ Ob (InR IntKind.i64 ((↑a_1 : Int) + (1 : Int))) ∧ Ob ((0 : Int) ≤ (↑a_1 : Int) + (1 : Int) ∧ ((↑a_1 : Int) + (1 : Int)).toNat < rows.length ∧ IsLst B x rows.length ((1 : Nat)) (Rv.elemOf
  [IntKind.i64] rows)) ∧ Ob (IsLst B x rows.length ((1 : Nat)) (Rv.elemOf [IntKind.i64] rows) ∧ ((↑a_1 : Int) + (1 : Int)).toNat < rows.length) ∧ Ob (IsLst B x rows.length ((1 : Nat)) (Rv.elemOf [IntKind.i64] rows) ∧
  ((↑a_1 : Int) + (1 : Int)).toNat < rows.length) ∧ Ob (InR IntKind.i64 (cell rows ((↑a_1 : Int) + (1 : Int)).toNat ((0 : Nat)) - (1 : Int))) ∧ Ob True ∧ (insV (cell rows_1 a ((0 : Nat))) (cell rows_1 a ((1 : Nat))) (cell
  rows a_1 ((0 : Nat))) (cell rows ((↑a_1 : Int) + (1 : Int)).toNat (nat_lit 0) - (1 : Int)) = (1 : Int) → Ob ((0 : Int) ≤ (↑a_1 : Int) ∧ a_1 < rows.length - nat_lit 1) ∧ Ob (a_1 < rows.length - nat_lit 1) ∧ Ob (InR
  IntKind.i64 (cell (mixR rows rows_1 a a_1) a_1 (nat_lit 0) + (1 : Int))) ∧ Ob ((0 : Int) ≤ (↑a_1 : Int) ∧ a_1 < rows.length - nat_lit 1) ∧ Ob (a_1 < rows.length - nat_lit 1 ∧ ((El.fn (Rv.elemOf [IntKind.i64, IntKind.i64]
  (mixR rows rows_1 a a_1))).at a_1).length = nat_lit 2) ∧ Ob ((0 : Int) ≤ (↑a_1 : Int) ∧ a_1 < rows.length - nat_lit 1) ∧ Ob (a_1 < rows.length - nat_lit 1) ∧ (a_1 = a_1 → Ob (InR IntKind.i64 (cell (mixR rows rows_1 a
  a_1) a_1 (nat_lit 1) + (1 : Int))) ∧ Ob ((0 : Int) ≤ (↑a_1 : Int) ∧ a_1 < rows.length - nat_lit 1) ∧ Ob (a_1 < rows.length - nat_lit 1 ∧ ((updL (El.fn (Rv.elemOf [IntKind.i64, IntKind.i64] (mixR rows rows_1 a a_1))) a_1
  (nat_lit 0) [SV.i IntKind.i64 (cell (mixR rows rows_1 a a_1) a_1 (nat_lit 0) + (1 : Int))]).at a_1).length = nat_lit 2) ∧ Ob (InR IntKind.i64 ((↑a_1 : Int) + (1 : Int))) ∧ ∃ (a' : Nat), Ob (a' ≤ rows.length - nat_lit 1 ∧
  rows.length - nat_lit 1 - a' < rows.length - nat_lit 1 - a_1) ∧ Ob (SV.lst x rows.length (nat_lit 1) (Rv.elemOf [IntKind.i64] rows) = SV.lst x rows.length (nat_lit 1) (Rv.elemOf [IntKind.i64] rows)) ∧ Ob (SV.v
  (Value.slice none (nat_lit 0) (nat_lit 0)) = SV.v (Value.slice none (nat_lit 0) (nat_lit 0))) ∧ Ob (Value.int IntKind.i64 (0 : Int) = Value.int IntKind.i64 (0 : Int)) ∧ Ob (rows.length - nat_lit 1 = rows.length - nat_lit
  1) ∧ Ob (SV.lst x_1 rows_1.length (nat_lit 6) (Rv.elemOf [IntKind.i64, IntKind.i64, IntKind.i64, IntKind.i64, IntKind.i64, IntKind.i64] rows_1) = SV.lst x_1 rows_1.length (nat_lit 6) (Rv.elemOf [IntKind.i64, IntKind.i64,
  IntKind.i64, IntKind.i64, IntKind.i64, IntKind.i64] rows_1)) ∧ Ob ((↑rows_1.length : Int) = (↑rows_1.length : Int)) ∧ Ob ((↑a : Int) = (↑a : Int)) ∧ Ob ((↑(rows.length - nat_lit 1) : Int) = (↑(rows.length - nat_lit 1) :
  Int)) ∧ Ob ((↑a_1 : Int) + (1 : Int) = (↑a' : Int)) ∧ Ob (cell rows_1 a (nat_lit 0) = cell rows_1 a (nat_lit 0)) ∧ Ob (cell rows_1 a (nat_lit 1) = cell rows_1 a (nat_lit 1)) ∧ Ob (cell rows_1 a (nat_lit 2) = cell rows_1
  a (nat_lit 2)) ∧ Ob (cell rows_1 a (nat_lit 3) = cell rows_1 a (nat_lit 3)) ∧ Ob (cell rows_1 a (nat_lit 4) = cell rows_1 a (nat_lit 4)) ∧ Ob (cell rows_1 a (nat_lit 5) = cell rows_1 a (nat_lit 5)) ∧ Ob (rows.length -
  nat_lit 1 = rows.length - nat_lit 1 ∧ ∀ (i : Nat), i < rows.length - nat_lit 1 → (updL (updL (El.fn (Rv.elemOf [IntKind.i64, IntKind.i64] (mixR rows rows_1 a a_1))) a_1 (nat_lit 0) [SV.i IntKind.i64 (cell (mixR rows
  rows_1 a a_1) a_1 (nat_lit 0) + (1 : Int))]) a_1 (nat_lit 1) [SV.i IntKind.i64 (cell (mixR rows rows_1 a a_1) a_1 (nat_lit 1) + (1 : Int))]).at i = (El.fn (Rv.elemOf [IntKind.i64, IntKind.i64] (mixR rows rows_1 a
  a'))).at i) ∧ Ob (IsLst B x rows.length (nat_lit 1) (Rv.elemOf [IntKind.i64] rows)) ∧ Ob (IsLst B x_1 rows_1.length (nat_lit 6) (Rv.elemOf [IntKind.i64, IntKind.i64, IntKind.i64, IntKind.i64, IntKind.i64, IntKind.i64]
  rows_1)) ∧ Ob (PlainE (rows.length - nat_lit 1) (El.fn (Rv.elemOf [IntKind.i64, IntKind.i64] (mixR rows rows_1 a a')))) ∧ True) ∧ (¬a_1 = a_1 → Ob (InR IntKind.i64 (cell (mixR rows rows_1 a a_1) a_1 (nat_lit 1) + (1 :
  Int))) ∧ Ob ((0 : Int) ≤ (↑a_1 : Int) ∧ a_1 < rows.length - nat_lit 1) ∧ Ob (a_1 < rows.length - nat_lit 1 ∧ ((updL (El.fn (Rv.elemOf [IntKind.i64, IntKind.i64] (mixR rows rows_1 a a_1))) a_1 (nat_lit 0) [SV.i
  IntKind.i64 (cell (mixR rows rows_1 a a_1) a_1 (nat_lit 0) + (1 : Int))]).at a_1).length = nat_lit 2) ∧ Ob (InR IntKind.i64 ((↑a_1 : Int) + (1 : Int))) ∧ ∃ (a' : Nat), Ob (a' ≤ rows.length - nat_lit 1 ∧ rows.length -
  nat_lit 1 - a' < rows.length - nat_lit 1 - a_1) ∧ Ob (SV.lst x rows.length (nat_lit 1) (Rv.elemOf [IntKind.i64] rows) = SV.lst x rows.length (nat_lit 1) (Rv.elemOf [IntKind.i64] rows)) ∧ Ob (SV.v (Value.slice none
  (nat_lit 0) (nat_lit 0)) = SV.v (Value.slice none (nat_lit 0) (nat_lit 0))) ∧ Ob (Value.int IntKind.i64 (0 : Int) = Value.int IntKind.i64 (0 : Int)) ∧ Ob (rows.length - nat_lit 1 = rows.length - nat_lit 1) ∧ Ob (SV.lst
  x_1 rows_1.length (nat_lit 6) (Rv.elemOf [IntKind.i64, IntKind.i64, IntKind.i64, IntKind.i64, IntKind.i64, IntKind.i64] rows_1) = SV.lst x_1 rows_1.length (nat_lit 6) (Rv.elemOf [IntKind.i64, IntKind.i64, IntKind.i64,
  IntKind.i64, IntKind.i64, IntKind.i64] rows_1)) ∧ Ob ((↑rows_1.length : Int) = (↑rows_1.length : Int)) ∧ Ob ((↑a : Int) = (↑a : Int)) ∧ Ob ((↑(rows.length - nat_lit 1) : Int) = (↑(rows.length - nat_lit 1) : Int)) ∧ Ob
  ((↑a_1 : Int) + (1 : Int) = (↑a' : Int)) ∧ Ob (cell rows_1 a (nat_lit 0) = cell rows_1 a (nat_lit 0)) ∧ Ob (cell rows_1 a (nat_lit 1) = cell rows_1 a (nat_lit 1)) ∧ Ob (cell rows_1 a (nat_lit 2) = cell rows_1 a (nat_lit
  2)) ∧ Ob (cell rows_1 a (nat_lit 3) = cell rows_1 a (nat_lit 3)) ∧ Ob (cell rows_1 a (nat_lit 4) = cell rows_1 a (nat_lit 4)) ∧ Ob (cell rows_1 a (nat_lit 5) = cell rows_1 a (nat_lit 5)) ∧ Ob (rows.length - nat_lit 1 =
  rows.length - nat_lit 1 ∧ ∀ (i : Nat), i < rows.length - nat_lit 1 → (updL (updL (El.fn (Rv.elemOf [IntKind.i64, IntKind.i64] (mixR rows rows_1 a a_1))) a_1 (nat_lit 0) [SV.i IntKind.i64 (cell (mixR rows rows_1 a a_1)
  a_1 (nat_lit 0) + (1 : Int))]) a_1 (nat_lit 1) [SV.i IntKind.i64 (cell (mixR rows rows_1 a a_1) a_1 (nat_lit 1) + (1 : Int))]).at i = (El.fn (Rv.elemOf [IntKind.i64, IntKind.i64] (mixR rows rows_1 a a'))).at i) ∧ Ob
  (IsLst B x rows.length (nat_lit 1) (Rv.elemOf [IntKind.i64] rows)) ∧ Ob (IsLst B x_1 rows_1.length (nat_lit 6) (Rv.elemOf [IntKind.i64, IntKind.i64, IntKind.i64, IntKind.i64, IntKind.i64, IntKind.i64] rows_1)) ∧ Ob
  (PlainE (rows.length - nat_lit 1) (El.fn (Rv.elemOf [IntKind.i64, IntKind.i64] (mixR rows rows_1 a a')))) ∧ True)) ∧ (¬insV (cell rows_1 a ((0 : Nat))) (cell rows_1 a ((1 : Nat))) (cell rows a_1 ((0 : Nat))) (cell rows
  ((↑a_1 : Int) + (1 : Int)).toNat (nat_lit 0) - (1 : Int)) = (1 : Int) → (insV (cell rows_1 a (nat_lit 0)) (cell rows_1 a (nat_lit 1)) (cell rows a_1 (nat_lit 0)) (cell rows ((↑a_1 : Int) + (1 : Int)).toNat (nat_lit 0) -
  (1 : Int)) = (3 : Int) → Ob ((0 : Int) ≤ (↑a_1 : Int) ∧ a_1 < rows.length - nat_lit 1) ∧ Ob (a_1 < rows.length - nat_lit 1) ∧ Ob (InR IntKind.i64 (cell (mixR rows rows_1 a a_1) a_1 (nat_lit 1) + (1 : Int))) ∧ Ob ((0 :
  Int) ≤ (↑a_1 : Int) ∧ a_1 < rows.length - nat_lit 1) ∧ Ob (a_1 < rows.length - nat_lit 1 ∧ ((El.fn (Rv.elemOf [IntKind.i64, IntKind.i64] (mixR rows rows_1 a a_1))).at a_1).length = nat_lit 2) ∧ Ob (InR IntKind.i64 ((↑a_1
  : Int) + (1 : Int))) ∧ ∃ (a' : Nat), Ob (a' ≤ rows.length - nat_lit 1 ∧ rows.length - nat_lit 1 - a' < rows.length - nat_lit 1 - a_1) ∧ Ob (SV.lst x rows.length (nat_lit 1) (Rv.elemOf [IntKind.i64] rows) = SV.lst x
  rows.length (nat_lit 1) (Rv.elemOf [IntKind.i64] rows)) ∧ Ob (SV.v (Value.slice none (nat_lit 0) (nat_lit 0)) = SV.v (Value.slice none (nat_lit 0) (nat_lit 0))) ∧ Ob (Value.int IntKind.i64 (0 : Int) = Value.int
  IntKind.i64 (0 : Int)) ∧ Ob (rows.length - nat_lit 1 = rows.length - nat_lit 1) ∧ Ob (SV.lst x_1 rows_1.length (nat_lit 6) (Rv.elemOf [IntKind.i64, IntKind.i64, IntKind.i64, IntKind.i64, IntKind.i64, IntKind.i64] rows_1)
  = SV.lst x_1 rows_1.length (nat_lit 6) (Rv.elemOf [IntKind.i64, IntKind.i64, IntKind.i64, IntKind.i64, IntKind.i64, IntKind.i64] rows_1)) ∧ Ob ((↑rows_1.length : Int) = (↑rows_1.length : Int)) ∧ Ob ((↑a : Int) = (↑a :
  Int)) ∧ Ob ((↑(rows.length - nat_lit 1) : Int) = (↑(rows.length - nat_lit 1) : Int)) ∧ Ob ((↑a_1 : Int) + (1 : Int) = (↑a' : Int)) ∧ Ob (cell rows_1 a (nat_lit 0) = cell rows_1 a (nat_lit 0)) ∧ Ob (cell rows_1 a (nat_lit
  1) = cell rows_1 a (nat_lit 1)) ∧ Ob (cell rows_1 a (nat_lit 2) = cell rows_1 a (nat_lit 2)) ∧ Ob (cell rows_1 a (nat_lit 3) = cell rows_1 a (nat_lit 3)) ∧ Ob (cell rows_1 a (nat_lit 4) = cell rows_1 a (nat_lit 4)) ∧ Ob
  (cell rows_1 a (nat_lit 5) = cell rows_1 a (nat_lit 5)) ∧ Ob (rows.length - nat_lit 1 = rows.length - nat_lit 1 ∧ ∀ (i : Nat), i < rows.length - nat_lit 1 → (updL (El.fn (Rv.elemOf [IntKind.i64, IntKind.i64] (mixR rows
  rows_1 a a_1))) a_1 (nat_lit 1) [SV.i IntKind.i64 (cell (mixR rows rows_1 a a_1) a_1 (nat_lit 1) + (1 : Int))]).at i = (El.fn (Rv.elemOf [IntKind.i64, IntKind.i64] (mixR rows rows_1 a a'))).at i) ∧ Ob (IsLst B x
  rows.length (nat_lit 1) (Rv.elemOf [IntKind.i64] rows)) ∧ Ob (IsLst B x_1 rows_1.length (nat_lit 6) (Rv.elemOf [IntKind.i64, IntKind.i64, IntKind.i64, IntKind.i64, IntKind.i64, IntKind.i64] rows_1)) ∧ Ob (PlainE
  (rows.length - nat_lit 1) (El.fn (Rv.elemOf [IntKind.i64, IntKind.i64] (mixR rows rows_1 a a')))) ∧ True) ∧ (¬insV (cell rows_1 a (nat_lit 0)) (cell rows_1 a (nat_lit 1)) (cell rows a_1 (nat_lit 0)) (cell rows ((↑a_1 :
  Int) + (1 : Int)).toNat (nat_lit 0) - (1 : Int)) = (3 : Int) → Ob (InR IntKind.i64 ((↑a_1 : Int) + (1 : Int))) ∧ ∃ (a' : Nat), Ob (a' ≤ rows.length - nat_lit 1 ∧ rows.length - nat_lit 1 - a' < rows.length - nat_lit 1 -
  a_1) ∧ Ob (SV.lst x rows.length (nat_lit 1) (Rv.elemOf [IntKind.i64] rows) = SV.lst x rows.length (nat_lit 1) (Rv.elemOf [IntKind.i64] rows)) ∧ Ob (SV.v (Value.slice none (nat_lit 0) (nat_lit 0)) = SV.v (Value.slice none
  (nat_lit 0) (nat_lit 0))) ∧ Ob (Value.int IntKind.i64 (0 : Int) = Value.int IntKind.i64 (0 : Int)) ∧ Ob (rows.length - nat_lit 1 = rows.length - nat_lit 1) ∧ Ob (SV.lst x_1 rows_1.length (nat_lit 6) (Rv.elemOf
  [IntKind.i64, IntKind.i64, IntKind.i64, IntKind.i64, IntKind.i64, IntKind.i64] rows_1) = SV.lst x_1 rows_1.length (nat_lit 6) (Rv.elemOf [IntKind.i64, IntKind.i64, IntKind.i64, IntKind.i64, IntKind.i64, IntKind.i64]
  rows_1)) ∧ Ob ((↑rows_1.length : Int) = (↑rows_1.length : Int)) ∧ Ob ((↑a : Int) = (↑a : Int)) ∧ Ob ((↑(rows.length - nat_lit 1) : Int) = (↑(rows.length - nat_lit 1) : Int)) ∧ Ob ((↑a_1 : Int) + (1 : Int) = (↑a' : Int))
  ∧ Ob (cell rows_1 a (nat_lit 0) = cell rows_1 a (nat_lit 0)) ∧ Ob (cell rows_1 a (nat_lit 1) = cell rows_1 a (nat_lit 1)) ∧ Ob (cell rows_1 a (nat_lit 2) = cell rows_1 a (nat_lit 2)) ∧ Ob (cell rows_1 a (nat_lit 3) =
  cell rows_1 a (nat_lit 3)) ∧ Ob (cell rows_1 a (nat_lit 4) = cell rows_1 a (nat_lit 4)) ∧ Ob (cell rows_1 a (nat_lit 5) = cell rows_1 a (nat_lit 5)) ∧ Ob (rows.length - nat_lit 1 = rows.length - nat_lit 1 ∧ ∀ (i : Nat),
  i < rows.length - nat_lit 1 → (El.fn (Rv.elemOf [IntKind.i64, IntKind.i64] (mixR rows rows_1 a a_1))).at i = (El.fn (Rv.elemOf [IntKind.i64, IntKind.i64] (mixR rows rows_1 a a'))).at i) ∧ Ob (IsLst B x rows.length
  (nat_lit 1) (Rv.elemOf [IntKind.i64] rows)) ∧ Ob (IsLst B x_1 rows_1.length (nat_lit 6) (Rv.elemOf [IntKind.i64, IntKind.i64, IntKind.i64, IntKind.i64, IntKind.i64, IntKind.i64] rows_1)) ∧ Ob (PlainE (rows.length -
  nat_lit 1) (El.fn (Rv.elemOf [IntKind.i64, IntKind.i64] (mixR rows rows_1 a a')))) ∧ True))) ∧ (¬(↑a_1 : Int) < (↑(rows.length - (1 : Nat)) : Int) → Ob (InR IntKind.i64 ((↑a : Int) + (1 : Int))) ∧ ∃ (a' : Nat), Ob (a' ≤
  rows_1.length ∧ rows_1.length - a' < rows_1.length - a) ∧ Ob (SV.lst x rows.length ((1 : Nat)) (Rv.elemOf [IntKind.i64] rows) = SV.lst x rows.length ((1 : Nat)) (Rv.elemOf [IntKind.i64] rows)) ∧ Ob (SV.v (Value.slice
  none ((0 : Nat)) ((0 : Nat))) = SV.v (Value.slice none ((0 : Nat)) ((0 : Nat)))) ∧ Ob (Value.int IntKind.i64 (0 : Int) = Value.int IntKind.i64 (0 : Int)) ∧ Ob (rows.length - (1 : Nat) = rows.length - (1 : Nat)) ∧ Ob
  (SV.lst x_1 rows_1.length ((6 : Nat)) (Rv.elemOf [IntKind.i64, IntKind.i64, IntKind.i64, IntKind.i64, IntKind.i64, IntKind.i64] rows_1) = SV.lst x_1 rows_1.length ((6 : Nat)) (Rv.elemOf [IntKind.i64, IntKind.i64,
  IntKind.i64, IntKind.i64, IntKind.i64, IntKind.i64] rows_1)) ∧ Ob ((↑rows_1.length : Int) = (↑rows_1.length : Int)) ∧ Ob ((↑a : Int) + (1 : Int) = (↑a' : Int)) ∧ Ob (rows.length - (1 : Nat) = rows.length - (1 : Nat) ∧ ∀
  (i : Nat), i < rows.length - (1 : Nat) → (El.fn (Rv.elemOf [IntKind.i64, IntKind.i64] (mixR rows rows_1 a a_1))).at i = (El.fn (Rv.elemOf [IntKind.i64, IntKind.i64] (cntR rows rows_1 a'))).at i) ∧ Ob (IsLst B x
  rows.length ((1 : Nat)) (Rv.elemOf [IntKind.i64] rows)) ∧ Ob (IsLst B x_1 rows_1.length ((6 : Nat)) (Rv.elemOf [IntKind.i64, IntKind.i64, IntKind.i64, IntKind.i64, IntKind.i64, IntKind.i64] rows_1)) ∧ Ob (PlainE
  (rows.length - (1 : Nat)) (El.fn (Rv.elemOf [IntKind.i64, IntKind.i64] (cntR rows rows_1 a')))) ∧ True)) ∧ (¬(↑a : Int) < (↑rows_1.length : Int) → Ob (rows.length - (1 : Nat) = rows.length - (1 : Nat)) ∧ Ob ((0 : Int) =
  (0 : Int)) ∧ Ob (rows.length - (1 : Nat) = rows.length - (1 : Nat) ∧ ∀ (i : Nat), i < rows.length - (1 : Nat) → (El.fn (Rv.elemOf [IntKind.i64, IntKind.i64] (cntR rows rows_1 a))).at i = (El.fn (Rv.elemOf [IntKind.i64,
  IntKind.i64] (cntR rows rows_1 rows_1.length))).at i) ∧ Ob (PlainE (rows.length - (1 : Nat)) (El.fn (Rv.elemOf [IntKind.i64, IntKind.i64] (cntR rows rows_1 rows_1.length)))) ∧ True)))

set_option linter.unusedSimpArgs false in
set_option maxRecDepth 4000 in
set_option maxHeartbeats 400000 in
theorem v_Counts : V_Counts := by
  unfold V_Counts
  intro B x E hx hox hrx y L hy hoy hry hpre
  obtain ⟨hE0, hM0⟩ : edgErr E = 0 ∧ manyErr L = 0 := hpre
  have hl := edg_len hE0
  have hb := fun j => edg_all hl.2.2 j
  have hm := many_ok hM0
  simp only [F_Counts, List.cons_append, List.nil_append, Ob_iff, InR, and_true, true_and]
  have hcls := clsE_is hE0
  refine ⟨E, ⟨hx, rfl, hrx, fun _ _ => rfl⟩, fun h1 => ⟨fun h2 => ?_, fun h2 => ?_⟩, fun h1 => ?_⟩
  · rcases hcls with h | h
    · exact h1 h
    · exact h2 h
  all_goals
    refine ⟨L, ⟨hy, rfl, hry, fun _ _ => rfl⟩, fun h => h hM0, fun _ => ?_⟩
    clear h1 hcls
    refine ⟨hx, by omega, ⟨by omega, by omega⟩, hy, ⟨0, by omega, by omega, by omega, ⟨by omega, fun i hi => ?_⟩, hx, hy, plain_elemOf _ _ _⟩, ?_⟩
    · have h := cntR_cell E L 0 hi
      show [SV.i .i64 0, SV.i .i64 0] = [SV.i .i64 (cell (cntR E L 0) i 0), SV.i .i64 (cell (cntR E L 0) i 1)]
      rw [h.1, h.2]
      rfl
    intro k hk
    intros
    refine ⟨fun h3 => ⟨⟨by omega, by omega, hy⟩, ⟨hy, by omega⟩, ⟨0, by omega, by omega, fun i hi => ?_, hx, hy, plain_elemOf _ _ _⟩, ?_⟩, fun h3 => ?_⟩
    · have h1 := cntR_cell E L k hi
      have h2 := mixR_cell E L k 0 hi
      rw [if_neg (by omega)] at h2
      rw [el_two, el_two, h1.1, h1.2, h2.1, h2.2]
    · intro j hj
      intros
      have hk1 : ((j : Int) + 1).toNat = j + 1 := by omega
      simp only [hk1]
      refine ⟨fun h4 => ?_, fun h4 => ?_⟩
      · have hjl : j < E.length - 1 := by omega
        have b1 := hb (j + 1) (by omega)
        have c0 := cnt_bd E L j k
        have m0 := mixR_cell E L k j hjl
        rw [if_neg (by omega)] at m0
        have n0 : cntLo E L j (k + 1) = cntLo E L j k + (if insV (cell L k 0) (cell L k 1) (cell E j 0) (cell E (j + 1) 0 - 1) = 1 then 1 else 0) := rfl
        have n1 : cntHi E L j (k + 1) = cntHi E L j k + (if insV (cell L k 0) (cell L k 1) (cell E j 0) (cell E (j + 1) 0 - 1) = 2 then 0 else 1) := rfl
        have hV := insV_is (cell L k 0) (cell L k 1) (cell E j 0) (cell E (j + 1) 0 - 1)
        generalize insV (cell L k 0) (cell L k 1) (cell E j 0) (cell E (j + 1) 0 - 1) = V at *
        have f1 : V = 1 → ∀ i, i < E.length - 1 → (updL (updL (El.fn (Rv.elemOf [.i64, .i64] (mixR E L k j))) j 0 [SV.i .i64 (cell (mixR E L k j) j 0 + 1)]) j 1 [SV.i .i64 (cell (mixR E L k j) j 1 + 1)]).at i = (El.fn (Rv.elemOf [.i64, .i64] (mixR E L k (j + 1)))).at i := fun h i hi => by
          have st := mix_step E L k j (i := i) hi
          rw [put_both, el_two, st.1, st.2, n0, n1, m0.1, m0.2, if_pos h, if_neg (show ¬ V = 2 by omega)]
        have f3 : V = 3 → ∀ i, i < E.length - 1 → (updL (El.fn (Rv.elemOf [.i64, .i64] (mixR E L k j))) j 1 [SV.i .i64 (cell (mixR E L k j) j 1 + 1)]).at i = (El.fn (Rv.elemOf [.i64, .i64] (mixR E L k (j + 1)))).at i := fun h i hi => by
          have st := mix_step E L k j (i := i) hi
          rw [put_hi, el_two, st.1, st.2, n0, n1, m0.2, if_neg (show ¬ V = 1 by omega), if_neg (show ¬ V = 2 by omega)]
          by_cases e : i = j
          · subst e
            rw [if_pos rfl, if_pos rfl, m0.1, Int.add_zero]
          · rw [if_neg e, if_neg e]
        have f2 : ¬ V = 1 → ¬ V = 3 → ∀ i, i < E.length - 1 → (El.fn (Rv.elemOf [.i64, .i64] (mixR E L k j))).at i = (El.fn (Rv.elemOf [.i64, .i64] (mixR E L k (j + 1)))).at i := fun h h3 i hi => by
          have st := mix_step E L k j (i := i) hi
          rw [el_two, el_two, st.1, st.2, n0, n1, if_neg h, if_pos (show V = 2 by omega)]
          by_cases e : i = j
          · subst e
            rw [if_pos rfl, if_pos rfl, m0.1, m0.2, Int.add_zero, Int.add_zero]
          · rw [if_neg e, if_neg e]
        have u0 : ((updL (El.fn (Rv.elemOf [.i64, .i64] (mixR E L k j))) j 0 [SV.i .i64 (cell (mixR E L k j) j 0 + 1)]).at j).length = 2 := by
          simp only [updL, El.at, if_true]
          rfl
        rw [m0.1, m0.2] at f1
        rw [m0.2] at f3
        rw [m0.1] at u0
        simp only [m0.1, m0.2]
        clear n0 n1 m0
        repeat' (first | apply And.intro | intro _)
        all_goals first | exact hx | omega | exact hjl | exact u0 | rfl | exact ⟨j + 1, ⟨by omega, by omega⟩, by omega, f1 ‹_›, hx, hy, plain_elemOf _ _ _⟩ | exact ⟨j + 1, ⟨by omega, by omega⟩, by omega, f3 ‹_›, hx, hy, plain_elemOf _ _ _⟩ | exact ⟨j + 1, ⟨by omega, by omega⟩, by omega, f2 ‹_› ‹_›, hx, hy, plain_elemOf _ _ _⟩
      · have e : j = E.length - 1 := by omega
        refine ⟨by omega, k + 1, ⟨by omega, by omega⟩, by omega, fun i hi => ?_, hx, hy, plain_elemOf _ _ _⟩
        have h1 := cntR_cell E L (k + 1) hi
        have h2 := mixR_cell E L k j hi
        rw [if_pos (by omega)] at h2
        rw [el_two, el_two, h1.1, h1.2, h2.1, h2.2]
    · have e : k = L.length := by omega
      subst e
      repeat' (with_reducible apply And.intro)
      all_goals first | exact plain_elemOf _ _ _ | exact fun _ _ => rfl | exact fun _ _ => trivial | trivial | omega

theorem e_Counts : V_Counts = needE P [F_Class, F_checkMany, F_inside] [] A_Counts F_Counts := by kernel_rfl

theorem n_Counts : Ob (needE P [F_Class, F_checkMany, F_inside] [] A_Counts F_Counts) := by
  rw [← e_Counts]
  exact ⟨v_Counts⟩

theorem b_Counts : ((P.funcs[27]?).any fun fn => fn.body.isSome) = true := by kernel_rfl

theorem Counts_ok : FnE.Ok P F_Counts := FnE.ok named (l := [F_Class, F_checkMany, F_inside]) (es := []) (A := A_Counts) (by rfl) (by rfl) (by rfl) (by
  intro F h
  simp only [List.mem_cons, List.not_mem_nil, or_false] at h
  rcases h with rfl | rfl | rfl
  · exact Class_ok
  · exact checkMany_ok
  · exact inside_ok
) (by
  intro F h; simp at h) b_Counts (by
  intro ds h o ho n sz e k z he
  subst he
  simp only [F_Counts] at ho
  split at ho
  · simp only [List.mem_cons, List.not_mem_nil, or_false, SObj.gr.injEq] at ho
    obtain ⟨rfl, rfl, rfl, rfl, rfl⟩ := ho
    exact plain_elemOf _ _ _
  · simp at ho) n_Counts

end Go.Proofs.YthlodlileecmdaaDoor.Sy
