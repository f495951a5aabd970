/- The law TradeBait. -/
import Derived.Test.YtpnnknhenhnmhaaSyP2
import Derived.Test.YtpnnknhenhnmhaaGrM
import Derived.Test.YtpnnknhenhnmhaaStM
import Derived.Test.YtpnnknhenhnmhaaVtM
import Derived.Test.YtpnnknhenhnmhaaDhM
import Derived.Test.YtpnnknhenhnmhaaKtT
import Derived.Test.YtpnnknhenhnmhaaKtA
import Derived.Test.YtpnnknhenhnmhaaKtB
import Derived.Test.YtpnnknhenhnmhaaKtD
import Derived.Test.YtpnnknhenhnmhaaSyP2
import Derived.KernelRfl
import Derived.Test.YtpnnknhenhnmhaaProg
namespace Go.Proofs.Ytpnnknhenhnmhaa.Sy
open Go Go.Rv
set_option linter.unusedVariables false

theorem ofV_three' (a x y z : Int) : ofV a [[x], [y], [z]] = x ∨ ofV a [[x], [y], [z]] = y ∨ ofV a [[x], [y], [z]] = z := by
  have h := belowV_in a 3
  have e : ofV a [[x], [y], [z]] = cell [[x], [y], [z]] (belowV a 3).toNat 0 := by simp [ofV]
  rw [e]
  have : (belowV a 3).toNat = 0 ∨ (belowV a 3).toNat = 1 ∨ (belowV a 3).toNat = 2 := by
    generalize belowV a 3 = q at *
    omega
  rcases this with h0 | h0 | h0 <;> rw [h0]
  · exact .inl rfl
  · exact .inr (.inl rfl)
  · exact .inr (.inr rfl)
theorem snoc1' {R : Rows} {k : Nat} {x : Int} (hl : R.length = k) : ∀ i, i < k + 1 → (behind k (.fn (Rv.elemOf [.i64] R)) 1 (litEl [SV.i .i64 x] 1 1)).at i = (El.fn (Rv.elemOf [.i64] (R ++ [[x]]))).at i := fun i hi => by
  have := snoc_at (R := R) (ks := [.i64]) (r := [x]) (cs := [SV.i .i64 x]) rfl (i := i) (by omega)
  rw [hl] at this
  exact this
structure Bs where
  i : Nat
  k : Int
  q : Int
  T : Rows
structure Bs.Ok (v : Bs) : Prop where
  l : 1 ≤ v.T.length ∧ v.T.length ≤ 6
  r : ∀ r ∈ v.T, r.length = 1
  t : ∀ i, i < v.T.length → 0 ≤ cell v.T i 0 ∧ cell v.T i 0 ≤ 40
  p : 1 ≤ cell v.T 0 0
  k : 0 ≤ v.k ∧ v.k ≤ 300
theorem Bs.Ok.fair {v : Bs} (h : v.Ok) (s : Nat) {i k : Nat} (hik : i < k) (hk : k < v.T.length) : Fair v.T (dh v.T s) i k := (dh_fair (fun i => by
  by_cases e : i < v.T.length
  · exact (h.t i e).1
  · unfold cell
    simp [List.getD_eq_getElem?_getD, List.getElem?_eq_none (Nat.le_of_not_lt e)]) (p := 0) (by have := h.l; omega) (by have := h.p; omega) s).1 i k hik hk
theorem Bs.Ok.zero {v : Bs} (h : v.Ok) (s : Nat) {i : Nat} (hi : i < v.T.length) (h0 : cell v.T i 0 = 0) : dh v.T s i = 0 := (dh_fair (fun i => by
  by_cases e : i < v.T.length
  · exact (h.t i e).1
  · unfold cell
    simp [List.getD_eq_getElem?_getD, List.getElem?_eq_none (Nat.le_of_not_lt e)]) (p := 0) (by have := h.l; omega) (by have := h.p; omega) s).2 i hi h0
theorem Bs.Ok.shr {v : Bs} (h : v.Ok) {q : Int} (h0 : 0 ≤ q) (h1 : q ≤ 5000) : ShrOk q v.T := ⟨⟨h0, h1⟩, ⟨h.l.1, by have := h.l; omega⟩, h.t, 0, by have := h.l; omega, by have := h.p; omega⟩
theorem listD_tot (f : Nat → Int) (n : Nat) : ∀ k, k ≤ n → totTo (listD f n) k = sumF f k
  | 0, _ => rfl
  | k + 1, h => by
    simp only [totTo, sumF]
    rw [listD_tot f n k (by omega), listD_cell f (by omega)]
structure Bj where
  j : Nat
  i : Nat
  k : Int
  q : Int
  T : Rows
def Bj.b (v : Bj) : Bs := ⟨v.i, v.k, v.q, v.T⟩

noncomputable def F_law : LawF := ⟨4, [.one (.l [.i64])], fun l => match l with | [.l N] => N.length ≤ 9223372036854775807 | _ => False⟩
noncomputable def A_law : List SV → List Dat → Nat → List SV → Ann := fun xs ds n ts => match xs with
  | [.lst xz _ _ _] => match ds with
    | [.l N] => match n with
      | 4 => ⟨Bs, fun v => [none, none, some (SV.v (Value.bool false)), some (SV.ptr ((0 : Nat)) ((0 : Nat))), some (.gsl 1 v.T.length 1 false), some (.i .i64 v.k), some (.i .i64 v.i), none, none, none, none, none, none, none, none, none, none, none, none, none, none, none, none, none, none, none, none, none, none, none, none, none, none, none, none, none, none, none, none, none, none, none, none, none, none, none, none, none, none, none, none, none, none, none, none, none, none, none, none, none, none, none, none, none, none, none, none, none, none, none, none, none, none, none, none, none, none, none, none, none, none, none, none, none, none, none, none, none, none, none, none, none, none, none, none, none, none, none, none, none, none, none, none, none, none, none, none, none, none, none, none, none, none, none, none, none, none, none, none, none, none, none, none, none, none, none, none, none, none, none, none, none, none, none, none, none, none, none, none, none, none, none, none, none, none, none, none, none, none, none, none, none, none, none, none, none, none, none, none, none, none, none, none, none, none, none, none, none, none, none, none, none, none, none, none, none, none, none, none, none, none, none, none, none, none, none, none, none, none, none, none, none, none, none, none, none, none, none, none, none, none, none, none, none, none, none, none, none, none], fun v => [.dead, .gr v.T.length 1 (.fn (Rv.elemOf [.i64] v.T)) .gr false, .cells [.i .u64 v.q] .ex], fun v => v.Ok ∧ v.T.length + v.i ≤ 6, fun v => v.i, 0⟩
      | 12 => ⟨Bs, fun v => [none, none, none, none, some (.gsl 1 v.T.length 1 false), none, none, some (.gsl 3 v.T.length 1 false), none, some (.gsl 4 v.T.length 1 false), none, some (.i .i64 v.i), none, none, none, none, none, none, none, none, none, none, none, none, none, none, none, none, none, none, none, none, none, none, none, none, none, none, none, none, none, none, none, none, none, none, none, none, none, none, none, none, none, none, none, none, none, none, none, none, none, none, none, none, none, none, none, none, none, none, none, none, none, none, none, none, none, none, none, none, none, none, none, none, none, none, none, none, none, none, none, none, none, none, none, none, none, none, none, none, none, none, none, none, none, none, none, none, none, none, none, none, none, none, none, none, none, none, none, none, none, none, none, none, none, none, none, none, none, none, none, none, none, none, none, none, none, none, none, none, none, none, none, none, none, none, none, none, none, none, none, none, none, none, none, none, none, none, none, none, none, none, none, none, none, none, none, none, none, none, none, none, none, none, none, none, none, none, none, none, none, none, none, none, none, none, none, none, none, none, none, none, none, none, none, none, none, none, none, none, none, none, none, none, none, none, none, none, none], fun v => [.gr v.T.length 1 (.fn fun i => [.i .i64 (dh v.T (v.k + 1).toNat i)]) .ex false, .gr v.T.length 1 (.fn fun i => [.i .i64 (dh v.T v.k.toNat i)]) .ex false, .dead, .gr v.T.length 1 (.fn (Rv.elemOf [.i64] v.T)) .gr false, .cells [.i .u64 v.q] .ex], fun v => v.Ok ∧ v.i ≤ v.T.length, fun v => v.T.length - v.i, 0⟩
      | 17 => (match lget ts 11 with | some (SV.i _ r11) => (match lget ts 4 with | some (SV.gsl _ n4 _ _) => ⟨Bj, fun v => [none, none, none, none, some (SV.gsl 1 n4 1 false), none, none, some (.gsl 3 v.T.length 1 false), none, some (.gsl 4 v.T.length 1 false), none, some (SV.i .i64 r11), some (.i .i64 v.j), none, none, none, none, none, none, none, none, none, none, none, none, none, none, none, none, none, none, none, none, none, none, none, none, none, none, none, none, none, none, none, none, none, none, none, none, none, none, none, none, none, none, none, none, none, none, none, none, none, none, none, none, none, none, none, none, none, none, none, none, none, none, none, none, none, none, none, none, none, none, none, none, none, none, none, none, none, none, none, none, none, none, none, none, none, none, none, none, none, none, none, none, none, none, none, none, none, none, none, none, none, none, none, none, none, none, none, none, none, none, none, none, none, none, none, none, none, none, none, none, none, none, none, none, none, none, none, none, none, none, none, none, none, none, none, none, none, none, none, none, none, none, none, none, none, none, none, none, none, none, none, none, none, none, none, none, none, none, none, none, none, none, none, none, none, none, none, none, none, none, none, none, none, none, none, none, none, none, none, none, none, none, none, none, none, none, none, none, none, none, none, none, none, none, none, none], fun v => [.gr v.T.length 1 (.fn fun i => [.i .i64 (dh v.T (v.k + 1).toNat i)]) .ex false, .gr v.T.length 1 (.fn fun i => [.i .i64 (dh v.T v.k.toNat i)]) .ex false, .dead, .gr v.T.length 1 (.fn (Rv.elemOf [.i64] v.T)) .gr false, .cells [.i .u64 v.q] .ex], fun v => v.b.Ok ∧ v.T.length = n4 ∧ (v.i : Int) = r11 ∧ v.i < v.j ∧ v.j ≤ v.T.length, fun v => v.T.length - v.j, 0⟩ | _ => noAnn) | _ => noAnn)
      | _ => noAnn
    | _ => noAnn
  | _ => noAnn

set_option maxRecDepth 10000 in
def V_law : Prop :=
  ∀ (B : RW), hasTabs [] B → ∀ (x : RV) (rows : List (List Int)), IsLst B x rows.length 1 (Rv.elemOf [.i64] rows) → oneB x = true → (∀ (row : List Int), row ∈ rows → row.length = (1 : Nat)) → rows.length ≤
  (9223372036854775807 : Nat) → ∃ (rows_1 : List (List Int)), Ob (IsLst B x rows.length 1 (Rv.elemOf [.i64] rows) ∧ rows_1.length = rows.length ∧ (∀ (r : List Int), r ∈ rows_1 → r.length = (1 : Nat)) ∧ ∀ (i : Nat), i <
  rows.length → Rv.elemOf [.i64] rows i = Rv.elemOf [.i64] rows_1 i) ∧ Ob (F_TideOf.named.pre [Dat.l rows_1]) ∧ Ob (F_From.named.pre ([Dat.z (tideK rows_1 rows_1.length)] ++ [Dat.z (1 : Int), Dat.z (40 : Int)])) ∧ ∀ (v :
  Int), v = belowA (tideK rows_1 rows_1.length) ((40 : Int) - (1 : Int) + (1 : Int)) → ∀ (v_1 : Int), v_1 = (1 : Int) + belowV (tideK rows_1 rows_1.length) ((40 : Int) - (1 : Int) + (1 : Int)) → Ob (F_Of.named.pre ([Dat.z
  v] ++ [Dat.l [[(10 : Int)], [(300 : Int)]]])) ∧ ∀ (v_2 : Int), v_2 = ofA v [[(10 : Int)], [(300 : Int)]] → ∀ (v_3 : Int), v_3 = ofV v [[(10 : Int)], [(300 : Int)]] → Ob (F_Below.named.pre ([Dat.z v_2] ++ [Dat.z v_3])) ∧
  ∀ (v_4 : Int), v_4 = belowA v_2 v_3 → ∀ (v_5 : Int), v_5 = belowV v_2 v_3 → Ob (F_Below.named.pre ([Dat.z v_4] ++ [Dat.z (6 : Int)])) ∧ ∀ (v_6 : Int), v_6 = belowA v_4 (6 : Int) → ∀ (v_7 : Int), v_7 = belowV v_4 (6 :
  Int) → (∃ (a : Bs), Ob (a.Ok ∧ List.length a.T + a.i ≤ (6 : Nat)) ∧ Ob (SV.v (Value.bool false) = SV.v (Value.bool false)) ∧ Ob ((1 : Nat) = List.length a.T) ∧ Ob (v_5 = a.k) ∧ Ob (v_7 = (↑a.i : Int)) ∧ Ob ((1 : Nat) =
  List.length a.T ∧ ∀ (i : Nat), i < List.length a.T → (litEl (symL [SV.i .i64 v_1]) 1 1).at i = (El.fn (Rv.elemOf [.i64] a.T)).at i) ∧ Ob (v_6 = a.q) ∧ Ob (PlainE (List.length a.T) (El.fn (Rv.elemOf [.i64] a.T))) ∧ True)
  ∧ ∀ (a : Bs), a.Ok ∧ List.length a.T + a.i ≤ (6 : Nat) → ∀ (z z_1 z_2 z_3 z_4 z_5 z_6 z_7 z_8 z_9 z_10 z_11 z_12 z_13 z_14 z_15 z_16 z_17 z_18 z_19 z_20 z_21 z_22 z_23 z_24 z_25 z_26 z_27 z_28 z_29 z_30 z_31 z_32 z_33
  z_34 z_35 z_36 z_37 z_38 z_39 z_40 z_41 z_42 z_43 z_44 z_45 z_46 z_47 z_48 z_49 z_50 z_51 z_52 z_53 z_54 z_55 z_56 z_57 z_58 z_59 z_60 z_61 z_62 z_63 z_64 z_65 z_66 z_67 z_68 z_69 z_70 z_71 z_72 z_73 z_74 z_75 z_76 z_77
  z_78 z_79 z_80 z_81 z_82 z_83 z_84 z_85 z_86 z_87 z_88 z_89 z_90 z_91 z_92 z_93 z_94 z_95 z_96 z_97 z_98 z_99 z_100 z_101 z_102 z_103 z_104 z_105 z_106 z_107 z_108 z_109 z_110 z_111 z_112 z_113 z_114 z_115 z_116 z_117
  z_118 z_119 z_120 z_121 z_122 z_123 z_124 z_125 z_126 z_127 z_128 z_129 z_130 z_131 z_132 z_133 z_134 z_135 z_136 z_137 z_138 z_139 z_140 z_141 z_142 z_143 z_144 z_145 z_146 z_147 z_148 z_149 z_150 z_151 z_152 z_153
  z_154 z_155 z_156 z_157 z_158 z_159 z_160 z_161 z_162 z_163 z_164 z_165 z_166 z_167 z_168 z_169 z_170 z_171 z_172 z_173 z_174 z_175 z_176 z_177 z_178 z_179 z_180 z_181 z_182 z_183 z_184 z_185 z_186 z_187 z_188 z_189
  z_190 z_191 z_192 z_193 z_194 z_195 z_196 z_197 z_198 z_199 z_200 z_201 z_202 z_203 : Value), ((0 : Int) < (↑a.i : Int) → Ob ((0 : Nat) < List.length a.T) ∧ Ob ((0 : Nat) < List.length a.T) ∧ Ob (F_Below.named.pre
  ([Dat.z a.q] ++ [Dat.z (5 : Int)])) ∧ ∀ (v_8 : Int), v_8 = belowA a.q (5 : Int) → ∀ (v_9 : Int), v_9 = belowV a.q (5 : Int) → Ob (F_Below.named.pre ([Dat.z v_8] ++ [Dat.z (41 : Int)])) ∧ ∀ (v_10 : Int), v_10 = belowA v_8
  (41 : Int) → ∀ (v_11 : Int), v_11 = belowV v_8 (41 : Int) → Ob (F_Of.named.pre ([Dat.z v_10] ++ [Dat.l [[cell a.T 0 0], [v_9], [v_11]]])) ∧ ∀ (v_12 : Int), v_12 = ofA v_10 [[cell a.T 0 0], [v_9], [v_11]] → ∀ (v_13 :
  Int), v_13 = ofV v_10 [[cell a.T 0 0], [v_9], [v_11]] → Ob (List.length a.T = List.length a.T ∧ ∀ (i : Nat), i < List.length a.T → ((El.fn (Rv.elemOf [.i64] a.T)).at i).length = (1 : Nat)) ∧ Ob ((List.length a.T + (1 :
  Nat)) * (2 : Nat) * (9 : Nat) ≤ (1099511627776 : Nat)) ∧ Ob (List.length a.T = List.length a.T) ∧ Ob (InR .i64 ((↑a.i : Int) - (1 : Int))) ∧ ∃ (a' : Bs), Ob ((a'.Ok ∧ List.length a'.T + a'.i ≤ (6 : Nat)) ∧ a'.i < a.i) ∧
  Ob (SV.v (Value.bool false) = SV.v (Value.bool false)) ∧ Ob (List.length a.T + (1 : Nat) = List.length a'.T) ∧ Ob (a.k = a'.k) ∧ Ob ((↑a.i : Int) - (1 : Int) = (↑a'.i : Int)) ∧ Ob (List.length a.T + (1 : Nat) =
  List.length a'.T ∧ ∀ (i : Nat), i < List.length a'.T → (behind (List.length a.T) (El.fn (Rv.elemOf [.i64] a.T)) 1 (litEl [SV.i .i64 v_13] 1 1)).at i = (El.fn (Rv.elemOf [.i64] a'.T)).at i) ∧ Ob (v_12 = a'.q) ∧ Ob (PlainE
  (List.length a'.T) (El.fn (Rv.elemOf [.i64] a'.T))) ∧ True) ∧ (¬(0 : Int) < (↑a.i : Int) → ∃ (rows_2 : List (List Int)), Ob (List.length a.T = List.length a.T ∧ rows_2.length = List.length a.T ∧ (∀ (r : List Int), r ∈
  rows_2 → r.length = (1 : Nat)) ∧ ∀ (i : Nat), i < List.length a.T → (El.fn (Rv.elemOf [.i64] a.T)).at i = Rv.elemOf [.i64] rows_2 i) ∧ Ob (F_Share.named.pre [Dat.z a.k, Dat.l rows_2]) ∧ ∀ (v_8 : Int), v_8 = (0 : Int) →
  Ob (InR .i64 (a.k + (1 : Int))) ∧ ∃ (rows_3 : List (List Int)), Ob (List.length a.T = List.length a.T ∧ rows_3.length = List.length a.T ∧ (∀ (r : List Int), r ∈ rows_3 → r.length = (1 : Nat)) ∧ ∀ (i : Nat), i <
  List.length a.T → (El.fn (Rv.elemOf [.i64] a.T)).at i = Rv.elemOf [.i64] rows_3 i) ∧ Ob (F_Share.named.pre [Dat.z (a.k + (1 : Int)), Dat.l rows_3]) ∧ ∀ (v_9 : Int), v_9 = (0 : Int) → (¬¬v_8 = (0 : Int) → (¬¬v_9 = (0 :
  Int) → (¬¬(↑rows_2.length : Int) = (↑(List.length a.T) : Int) → (¬¬(↑rows_3.length : Int) = (↑(List.length a.T) : Int) → ∃ (rows_4 : List (List Int)), Ob (rows_2.length = rows_2.length ∧ rows_4.length = rows_2.length ∧
  (∀ (r : List Int), r ∈ rows_4 → r.length = (1 : Nat)) ∧ ∀ (i : Nat), i < rows_2.length → (El.fn fun (i : Nat) ↦ [SV.i .i64 (dh rows_2 a.k.toNat i)]).at i = Rv.elemOf [.i64] rows_4 i) ∧ Ob (rows_4.length ≤ (1000 : Nat) ∧
  ∀ (i : Nat), i < rows_4.length → (0 : Int) ≤ cell rows_4 i 0 ∧ cell rows_4 i 0 ≤ (1000000000 : Int)) ∧ (¬¬totTo rows_4 rows_4.length = a.k → ∃ (rows_5 : List (List Int)), Ob (rows_3.length = rows_3.length ∧ rows_5.length
  = rows_3.length ∧ (∀ (r : List Int), r ∈ rows_5 → r.length = (1 : Nat)) ∧ ∀ (i : Nat), i < rows_3.length → (El.fn fun (i : Nat) ↦ [SV.i .i64 (dh rows_3 (a.k + (1 : Int)).toNat i)]).at i = Rv.elemOf [.i64] rows_5 i) ∧ Ob
  (rows_5.length ≤ (1000 : Nat) ∧ ∀ (i : Nat), i < rows_5.length → (0 : Int) ≤ cell rows_5 i 0 ∧ cell rows_5 i 0 ≤ (1000000000 : Int)) ∧ Ob (InR .i64 (a.k + (1 : Int))) ∧ (¬totTo rows_5 rows_5.length = a.k + (1 : Int) →
  False) ∧ (¬¬totTo rows_5 rows_5.length = a.k + (1 : Int) → (∃ (a_1 : Bs), Ob (a_1.Ok ∧ a_1.i ≤ List.length a_1.T) ∧ Ob (List.length a.T = List.length a_1.T) ∧ Ob (rows_2.length = List.length a_1.T) ∧ Ob (rows_3.length =
  List.length a_1.T) ∧ Ob ((0 : Int) = (↑a_1.i : Int)) ∧ Ob (rows_3.length = List.length a_1.T ∧ ∀ (i : Nat), i < List.length a_1.T → (El.fn fun (i : Nat) ↦ [SV.i .i64 (dh rows_3 (a.k + (1 : Int)).toNat i)]).at i = (El.fn
  fun (i : Nat) ↦ [SV.i .i64 (dh a_1.T (a_1.k + (1 : Int)).toNat i)]).at i) ∧ Ob (rows_2.length = List.length a_1.T ∧ ∀ (i : Nat), i < List.length a_1.T → (El.fn fun (i : Nat) ↦ [SV.i .i64 (dh rows_2 a.k.toNat i)]).at i =
  (El.fn fun (i : Nat) ↦ [SV.i .i64 (dh a_1.T a_1.k.toNat i)]).at i) ∧ Ob (List.length a.T = List.length a_1.T ∧ ∀ (i : Nat), i < List.length a_1.T → (El.fn (Rv.elemOf [.i64] a.T)).at i = (El.fn (Rv.elemOf [.i64]
  a_1.T)).at i) ∧ Ob (a.q = a_1.q) ∧ Ob (PlainE (List.length a_1.T) (El.fn fun (i : Nat) ↦ [SV.i .i64 (dh a_1.T (a_1.k + (1 : Int)).toNat i)])) ∧ Ob (PlainE (List.length a_1.T) (El.fn fun (i : Nat) ↦ [SV.i .i64 (dh a_1.T
  a_1.k.toNat i)])) ∧ Ob (PlainE (List.length a_1.T) (El.fn (Rv.elemOf [.i64] a_1.T))) ∧ True) ∧ ∀ (a_1 : Bs), a_1.Ok ∧ a_1.i ≤ List.length a_1.T → ∀ (z_204 z_205 z_206 z_207 z_208 z_209 z_210 z_211 z_212 z_213 z_214 z_215
  z_216 z_217 z_218 z_219 z_220 z_221 z_222 z_223 z_224 z_225 z_226 z_227 z_228 z_229 z_230 z_231 z_232 z_233 z_234 z_235 z_236 z_237 z_238 z_239 z_240 z_241 z_242 z_243 z_244 z_245 z_246 z_247 z_248 z_249 z_250 z_251
  z_252 z_253 z_254 z_255 z_256 z_257 z_258 z_259 z_260 z_261 z_262 z_263 z_264 z_265 z_266 z_267 z_268 z_269 z_270 z_271 z_272 z_273 z_274 z_275 z_276 z_277 z_278 z_279 z_280 z_281 z_282 z_283 z_284 z_285 z_286 z_287
  z_288 z_289 z_290 z_291 z_292 z_293 z_294 z_295 z_296 z_297 z_298 z_299 z_300 z_301 z_302 z_303 z_304 z_305 z_306 z_307 z_308 z_309 z_310 z_311 z_312 z_313 z_314 z_315 z_316 z_317 z_318 z_319 z_320 z_321 z_322 z_323
  z_324 z_325 z_326 z_327 z_328 z_329 z_330 z_331 z_332 z_333 z_334 z_335 z_336 z_337 z_338 z_339 z_340 z_341 z_342 z_343 z_344 z_345 z_346 z_347 z_348 z_349 z_350 z_351 z_352 z_353 z_354 z_355 z_356 z_357 z_358 z_359
  z_360 z_361 z_362 z_363 z_364 z_365 z_366 z_367 z_368 z_369 z_370 z_371 z_372 z_373 z_374 z_375 z_376 z_377 z_378 z_379 z_380 z_381 z_382 z_383 z_384 z_385 z_386 z_387 z_388 z_389 z_390 z_391 z_392 z_393 z_394 z_395
  z_396 z_397 z_398 z_399 z_400 z_401 z_402 z_403 z_404 z_405 z_406 z_407 z_408 : Value), ((↑a_1.i : Int) < (↑(List.length a_1.T) : Int) → Ob ((0 : Int) ≤ (↑a_1.i : Int) ∧ a_1.i < List.length a_1.T) ∧ Ob (a_1.i <
  List.length a_1.T) ∧ (¬dh a_1.T a_1.k.toNat a_1.i < (0 : Int) → Ob ((0 : Int) ≤ (↑a_1.i : Int) ∧ a_1.i < List.length a_1.T) ∧ Ob (a_1.i < List.length a_1.T) ∧ Ob ((0 : Int) ≤ (↑a_1.i : Int) ∧ a_1.i < List.length a_1.T) ∧
  Ob (a_1.i < List.length a_1.T) ∧ (¬dh a_1.T (a_1.k + (1 : Int)).toNat a_1.i < dh a_1.T a_1.k.toNat a_1.i → Ob ((0 : Int) ≤ (↑a_1.i : Int) ∧ a_1.i < List.length a_1.T) ∧ Ob (a_1.i < List.length a_1.T) ∧ (cell a_1.T a_1.i
  0 = (0 : Int) → Ob ((0 : Int) ≤ (↑a_1.i : Int) ∧ a_1.i < List.length a_1.T) ∧ Ob (a_1.i < List.length a_1.T) ∧ ((0 : Int) < dh a_1.T a_1.k.toNat a_1.i → False) ∧ (¬(0 : Int) < dh a_1.T a_1.k.toNat a_1.i → Ob (InR .i64
  ((↑a_1.i : Int) + (1 : Int))) ∧ (∃ (a_2 : Bj), Ob (a_2.b.Ok ∧ List.length a_2.T = List.length a_1.T ∧ (↑a_2.i : Int) = (↑a_1.i : Int) ∧ a_2.i < a_2.j ∧ a_2.j ≤ List.length a_2.T) ∧ Ob (List.length a_1.T = List.length
  a_1.T) ∧ Ob (List.length a_1.T = List.length a_2.T) ∧ Ob (List.length a_1.T = List.length a_2.T) ∧ Ob ((↑a_1.i : Int) = (↑a_1.i : Int)) ∧ Ob ((↑a_1.i : Int) + (1 : Int) = (↑a_2.j : Int)) ∧ Ob (List.length a_1.T =
  List.length a_2.T ∧ ∀ (i : Nat), i < List.length a_2.T → (El.fn fun (i : Nat) ↦ [SV.i .i64 (dh a_1.T (a_1.k + (1 : Int)).toNat i)]).at i = (El.fn fun (i : Nat) ↦ [SV.i .i64 (dh a_2.T (a_2.k + (1 : Int)).toNat i)]).at i)
  ∧ Ob (List.length a_1.T = List.length a_2.T ∧ ∀ (i : Nat), i < List.length a_2.T → (El.fn fun (i : Nat) ↦ [SV.i .i64 (dh a_1.T a_1.k.toNat i)]).at i = (El.fn fun (i : Nat) ↦ [SV.i .i64 (dh a_2.T a_2.k.toNat i)]).at i) ∧
  Ob (List.length a_1.T = List.length a_2.T ∧ ∀ (i : Nat), i < List.length a_2.T → (El.fn (Rv.elemOf [.i64] a_1.T)).at i = (El.fn (Rv.elemOf [.i64] a_2.T)).at i) ∧ Ob (a_1.q = a_2.q) ∧ Ob (PlainE (List.length a_2.T) (El.fn
  fun (i : Nat) ↦ [SV.i .i64 (dh a_2.T (a_2.k + (1 : Int)).toNat i)])) ∧ Ob (PlainE (List.length a_2.T) (El.fn fun (i : Nat) ↦ [SV.i .i64 (dh a_2.T a_2.k.toNat i)])) ∧ Ob (PlainE (List.length a_2.T) (El.fn (Rv.elemOf
  [.i64] a_2.T))) ∧ True) ∧ ∀ (a_2 : Bj), a_2.b.Ok ∧ List.length a_2.T = List.length a_1.T ∧ (↑a_2.i : Int) = (↑a_1.i : Int) ∧ a_2.i < a_2.j ∧ a_2.j ≤ List.length a_2.T → ∀ (z_409 z_410 z_411 z_412 z_413 z_414 z_415 z_416
  z_417 z_418 z_419 z_420 z_421 z_422 z_423 z_424 z_425 z_426 z_427 z_428 z_429 z_430 z_431 z_432 z_433 z_434 z_435 z_436 z_437 z_438 z_439 z_440 z_441 z_442 z_443 z_444 z_445 z_446 z_447 z_448 z_449 z_450 z_451 z_452
  z_453 z_454 z_455 z_456 z_457 z_458 z_459 z_460 z_461 z_462 z_463 z_464 z_465 z_466 z_467 z_468 z_469 z_470 z_471 z_472 z_473 z_474 z_475 z_476 z_477 z_478 z_479 z_480 z_481 z_482 z_483 z_484 z_485 z_486 z_487 z_488
  z_489 z_490 z_491 z_492 z_493 z_494 z_495 z_496 z_497 z_498 z_499 z_500 z_501 z_502 z_503 z_504 z_505 z_506 z_507 z_508 z_509 z_510 z_511 z_512 z_513 z_514 z_515 z_516 z_517 z_518 z_519 z_520 z_521 z_522 z_523 z_524
  z_525 z_526 z_527 z_528 z_529 z_530 z_531 z_532 z_533 z_534 z_535 z_536 z_537 z_538 z_539 z_540 z_541 z_542 z_543 z_544 z_545 z_546 z_547 z_548 z_549 z_550 z_551 z_552 z_553 z_554 z_555 z_556 z_557 z_558 z_559 z_560
  z_561 z_562 z_563 z_564 z_565 z_566 z_567 z_568 z_569 z_570 z_571 z_572 z_573 z_574 z_575 z_576 z_577 z_578 z_579 z_580 z_581 z_582 z_583 z_584 z_585 z_586 z_587 z_588 z_589 z_590 z_591 z_592 z_593 z_594 z_595 z_596
  z_597 z_598 z_599 z_600 z_601 z_602 z_603 z_604 z_605 z_606 z_607 z_608 z_609 z_610 z_611 z_612 : Value), ((↑a_2.j : Int) < (↑(List.length a_2.T) : Int) → Ob ((0 : Int) ≤ (↑a_1.i : Int) ∧ a_1.i < List.length a_1.T) ∧ Ob
  (a_1.i < List.length a_2.T) ∧ Ob ((0 : Int) ≤ (↑a_2.j : Int) ∧ a_2.j < List.length a_1.T) ∧ Ob (a_2.j < List.length a_2.T) ∧ (cell a_2.T a_1.i 0 = cell a_2.T a_2.j 0 → Ob ((0 : Int) ≤ (↑a_1.i : Int) ∧ a_1.i < List.length
  a_2.T) ∧ Ob (a_1.i < List.length a_2.T) ∧ Ob ((0 : Int) ≤ (↑a_2.j : Int) ∧ a_2.j < List.length a_2.T) ∧ Ob (a_2.j < List.length a_2.T) ∧ (¬dh a_2.T a_2.k.toNat a_1.i < dh a_2.T a_2.k.toNat a_2.j → Ob ((0 : Int) ≤ (↑a_1.i
  : Int) ∧ a_1.i < List.length a_2.T) ∧ Ob (a_1.i < List.length a_2.T) ∧ Ob ((0 : Int) ≤ (↑a_2.j : Int) ∧ a_2.j < List.length a_2.T) ∧ Ob (a_2.j < List.length a_2.T) ∧ Ob (InR .i64 (dh a_2.T a_2.k.toNat a_2.j + (1 : Int)))
  ∧ (¬dh a_2.T a_2.k.toNat a_2.j + (1 : Int) < dh a_2.T a_2.k.toNat a_1.i → Ob ((0 : Int) ≤ (↑a_1.i : Int) ∧ a_1.i < List.length a_1.T) ∧ Ob (a_1.i < List.length a_2.T) ∧ Ob ((0 : Int) ≤ (↑a_2.j : Int) ∧ a_2.j <
  List.length a_1.T) ∧ Ob (a_2.j < List.length a_2.T) ∧ (cell a_2.T a_2.j 0 < cell a_2.T a_1.i 0 → Ob ((0 : Int) ≤ (↑a_1.i : Int) ∧ a_1.i < List.length a_2.T) ∧ Ob (a_1.i < List.length a_2.T) ∧ Ob ((0 : Int) ≤ (↑a_2.j :
  Int) ∧ a_2.j < List.length a_2.T) ∧ Ob (a_2.j < List.length a_2.T) ∧ (¬dh a_2.T a_2.k.toNat a_1.i < dh a_2.T a_2.k.toNat a_2.j → Ob ((0 : Int) ≤ (↑a_1.i : Int) ∧ a_1.i < List.length a_1.T) ∧ Ob (a_1.i < List.length
  a_2.T) ∧ Ob ((0 : Int) ≤ (↑a_2.j : Int) ∧ a_2.j < List.length a_1.T) ∧ Ob (a_2.j < List.length a_2.T) ∧ (cell a_2.T a_1.i 0 < cell a_2.T a_2.j 0 → Ob ((0 : Int) ≤ (↑a_1.i : Int) ∧ a_1.i < List.length a_2.T) ∧ Ob (a_1.i <
  List.length a_2.T) ∧ Ob ((0 : Int) ≤ (↑a_2.j : Int) ∧ a_2.j < List.length a_2.T) ∧ Ob (a_2.j < List.length a_2.T) ∧ (dh a_2.T a_2.k.toNat a_2.j < dh a_2.T a_2.k.toNat a_1.i → False) ∧ (¬dh a_2.T a_2.k.toNat a_2.j < dh
  a_2.T a_2.k.toNat a_1.i → Ob (InR .i64 ((↑a_2.j : Int) + (1 : Int))) ∧ ∃ (a' : Bj), Ob ((a'.b.Ok ∧ List.length a'.T = List.length a_1.T ∧ (↑a'.i : Int) = (↑a_1.i : Int) ∧ a'.i < a'.j ∧ a'.j ≤ List.length a'.T) ∧
  List.length a'.T - a'.j < List.length a_2.T - a_2.j) ∧ Ob (List.length a_1.T = List.length a_1.T) ∧ Ob (List.length a_2.T = List.length a'.T) ∧ Ob (List.length a_2.T = List.length a'.T) ∧ Ob ((↑a_1.i : Int) = (↑a_1.i :
  Int)) ∧ Ob ((↑a_2.j : Int) + (1 : Int) = (↑a'.j : Int)) ∧ Ob (List.length a_2.T = List.length a'.T ∧ ∀ (i : Nat), i < List.length a'.T → (El.fn fun (i : Nat) ↦ [SV.i .i64 (dh a_2.T (a_2.k + (1 : Int)).toNat i)]).at i =
  (El.fn fun (i : Nat) ↦ [SV.i .i64 (dh a'.T (a'.k + (1 : Int)).toNat i)]).at i) ∧ Ob (List.length a_2.T = List.length a'.T ∧ ∀ (i : Nat), i < List.length a'.T → (El.fn fun (i : Nat) ↦ [SV.i .i64 (dh a_2.T a_2.k.toNat
  i)]).at i = (El.fn fun (i : Nat) ↦ [SV.i .i64 (dh a'.T a'.k.toNat i)]).at i) ∧ Ob (List.length a_2.T = List.length a'.T ∧ ∀ (i : Nat), i < List.length a'.T → (El.fn (Rv.elemOf [.i64] a_2.T)).at i = (El.fn (Rv.elemOf
  [.i64] a'.T)).at i) ∧ Ob (a_2.q = a'.q) ∧ Ob (PlainE (List.length a'.T) (El.fn fun (i : Nat) ↦ [SV.i .i64 (dh a'.T (a'.k + (1 : Int)).toNat i)])) ∧ Ob (PlainE (List.length a'.T) (El.fn fun (i : Nat) ↦ [SV.i .i64 (dh a'.T
  a'.k.toNat i)])) ∧ Ob (PlainE (List.length a'.T) (El.fn (Rv.elemOf [.i64] a'.T))) ∧ True)) ∧ (¬cell a_2.T a_1.i 0 < cell a_2.T a_2.j 0 → Ob (InR .i64 ((↑a_2.j : Int) + (1 : Int))) ∧ ∃ (a' : Bj), Ob ((a'.b.Ok ∧
  List.length a'.T = List.length a_1.T ∧ (↑a'.i : Int) = (↑a_1.i : Int) ∧ a'.i < a'.j ∧ a'.j ≤ List.length a'.T) ∧ List.length a'.T - a'.j < List.length a_2.T - a_2.j) ∧ Ob (List.length a_1.T = List.length a_1.T) ∧ Ob
  (List.length a_2.T = List.length a'.T) ∧ Ob (List.length a_2.T = List.length a'.T) ∧ Ob ((↑a_1.i : Int) = (↑a_1.i : Int)) ∧ Ob ((↑a_2.j : Int) + (1 : Int) = (↑a'.j : Int)) ∧ Ob (List.length a_2.T = List.length a'.T ∧ ∀
  (i : Nat), i < List.length a'.T → (El.fn fun (i : Nat) ↦ [SV.i .i64 (dh a_2.T (a_2.k + (1 : Int)).toNat i)]).at i = (El.fn fun (i : Nat) ↦ [SV.i .i64 (dh a'.T (a'.k + (1 : Int)).toNat i)]).at i) ∧ Ob (List.length a_2.T =
  List.length a'.T ∧ ∀ (i : Nat), i < List.length a'.T → (El.fn fun (i : Nat) ↦ [SV.i .i64 (dh a_2.T a_2.k.toNat i)]).at i = (El.fn fun (i : Nat) ↦ [SV.i .i64 (dh a'.T a'.k.toNat i)]).at i) ∧ Ob (List.length a_2.T =
  List.length a'.T ∧ ∀ (i : Nat), i < List.length a'.T → (El.fn (Rv.elemOf [.i64] a_2.T)).at i = (El.fn (Rv.elemOf [.i64] a'.T)).at i) ∧ Ob (a_2.q = a'.q) ∧ Ob (PlainE (List.length a'.T) (El.fn fun (i : Nat) ↦ [SV.i .i64
  (dh a'.T (a'.k + (1 : Int)).toNat i)])) ∧ Ob (PlainE (List.length a'.T) (El.fn fun (i : Nat) ↦ [SV.i .i64 (dh a'.T a'.k.toNat i)])) ∧ Ob (PlainE (List.length a'.T) (El.fn (Rv.elemOf [.i64] a'.T))) ∧ True)) ∧ (dh a_2.T
  a_2.k.toNat a_1.i < dh a_2.T a_2.k.toNat a_2.j → False)) ∧ (¬cell a_2.T a_2.j 0 < cell a_2.T a_1.i 0 → Ob ((0 : Int) ≤ (↑a_1.i : Int) ∧ a_1.i < List.length a_1.T) ∧ Ob (a_1.i < List.length a_2.T) ∧ Ob ((0 : Int) ≤
  (↑a_2.j : Int) ∧ a_2.j < List.length a_1.T) ∧ Ob (a_2.j < List.length a_2.T) ∧ (cell a_2.T a_1.i 0 < cell a_2.T a_2.j 0 → Ob ((0 : Int) ≤ (↑a_1.i : Int) ∧ a_1.i < List.length a_2.T) ∧ Ob (a_1.i < List.length a_2.T) ∧ Ob
  ((0 : Int) ≤ (↑a_2.j : Int) ∧ a_2.j < List.length a_2.T) ∧ Ob (a_2.j < List.length a_2.T) ∧ (dh a_2.T a_2.k.toNat a_2.j < dh a_2.T a_2.k.toNat a_1.i → False) ∧ (¬dh a_2.T a_2.k.toNat a_2.j < dh a_2.T a_2.k.toNat a_1.i →
  Ob (InR .i64 ((↑a_2.j : Int) + (1 : Int))) ∧ ∃ (a' : Bj), Ob ((a'.b.Ok ∧ List.length a'.T = List.length a_1.T ∧ (↑a'.i : Int) = (↑a_1.i : Int) ∧ a'.i < a'.j ∧ a'.j ≤ List.length a'.T) ∧ List.length a'.T - a'.j <
  List.length a_2.T - a_2.j) ∧ Ob (List.length a_1.T = List.length a_1.T) ∧ Ob (List.length a_2.T = List.length a'.T) ∧ Ob (List.length a_2.T = List.length a'.T) ∧ Ob ((↑a_1.i : Int) = (↑a_1.i : Int)) ∧ Ob ((↑a_2.j : Int)
  + (1 : Int) = (↑a'.j : Int)) ∧ Ob (List.length a_2.T = List.length a'.T ∧ ∀ (i : Nat), i < List.length a'.T → (El.fn fun (i : Nat) ↦ [SV.i .i64 (dh a_2.T (a_2.k + (1 : Int)).toNat i)]).at i = (El.fn fun (i : Nat) ↦ [SV.i
  .i64 (dh a'.T (a'.k + (1 : Int)).toNat i)]).at i) ∧ Ob (List.length a_2.T = List.length a'.T ∧ ∀ (i : Nat), i < List.length a'.T → (El.fn fun (i : Nat) ↦ [SV.i .i64 (dh a_2.T a_2.k.toNat i)]).at i = (El.fn fun (i : Nat)
  ↦ [SV.i .i64 (dh a'.T a'.k.toNat i)]).at i) ∧ Ob (List.length a_2.T = List.length a'.T ∧ ∀ (i : Nat), i < List.length a'.T → (El.fn (Rv.elemOf [.i64] a_2.T)).at i = (El.fn (Rv.elemOf [.i64] a'.T)).at i) ∧ Ob (a_2.q =
  a'.q) ∧ Ob (PlainE (List.length a'.T) (El.fn fun (i : Nat) ↦ [SV.i .i64 (dh a'.T (a'.k + (1 : Int)).toNat i)])) ∧ Ob (PlainE (List.length a'.T) (El.fn fun (i : Nat) ↦ [SV.i .i64 (dh a'.T a'.k.toNat i)])) ∧ Ob (PlainE
  (List.length a'.T) (El.fn (Rv.elemOf [.i64] a'.T))) ∧ True)) ∧ (¬cell a_2.T a_1.i 0 < cell a_2.T a_2.j 0 → Ob (InR .i64 ((↑a_2.j : Int) + (1 : Int))) ∧ ∃ (a' : Bj), Ob ((a'.b.Ok ∧ List.length a'.T = List.length a_1.T ∧
  (↑a'.i : Int) = (↑a_1.i : Int) ∧ a'.i < a'.j ∧ a'.j ≤ List.length a'.T) ∧ List.length a'.T - a'.j < List.length a_2.T - a_2.j) ∧ Ob (List.length a_1.T = List.length a_1.T) ∧ Ob (List.length a_2.T = List.length a'.T) ∧ Ob
  (List.length a_2.T = List.length a'.T) ∧ Ob ((↑a_1.i : Int) = (↑a_1.i : Int)) ∧ Ob ((↑a_2.j : Int) + (1 : Int) = (↑a'.j : Int)) ∧ Ob (List.length a_2.T = List.length a'.T ∧ ∀ (i : Nat), i < List.length a'.T → (El.fn fun
  (i : Nat) ↦ [SV.i .i64 (dh a_2.T (a_2.k + (1 : Int)).toNat i)]).at i = (El.fn fun (i : Nat) ↦ [SV.i .i64 (dh a'.T (a'.k + (1 : Int)).toNat i)]).at i) ∧ Ob (List.length a_2.T = List.length a'.T ∧ ∀ (i : Nat), i <
  List.length a'.T → (El.fn fun (i : Nat) ↦ [SV.i .i64 (dh a_2.T a_2.k.toNat i)]).at i = (El.fn fun (i : Nat) ↦ [SV.i .i64 (dh a'.T a'.k.toNat i)]).at i) ∧ Ob (List.length a_2.T = List.length a'.T ∧ ∀ (i : Nat), i <
  List.length a'.T → (El.fn (Rv.elemOf [.i64] a_2.T)).at i = (El.fn (Rv.elemOf [.i64] a'.T)).at i) ∧ Ob (a_2.q = a'.q) ∧ Ob (PlainE (List.length a'.T) (El.fn fun (i : Nat) ↦ [SV.i .i64 (dh a'.T (a'.k + (1 : Int)).toNat
  i)])) ∧ Ob (PlainE (List.length a'.T) (El.fn fun (i : Nat) ↦ [SV.i .i64 (dh a'.T a'.k.toNat i)])) ∧ Ob (PlainE (List.length a'.T) (El.fn (Rv.elemOf [.i64] a'.T))) ∧ True))) ∧ (dh a_2.T a_2.k.toNat a_2.j + (1 : Int) < dh
  a_2.T a_2.k.toNat a_1.i → False)) ∧ (dh a_2.T a_2.k.toNat a_1.i < dh a_2.T a_2.k.toNat a_2.j → False)) ∧ (¬cell a_2.T a_1.i 0 = cell a_2.T a_2.j 0 → Ob ((0 : Int) ≤ (↑a_1.i : Int) ∧ a_1.i < List.length a_1.T) ∧ Ob (a_1.i
  < List.length a_2.T) ∧ Ob ((0 : Int) ≤ (↑a_2.j : Int) ∧ a_2.j < List.length a_1.T) ∧ Ob (a_2.j < List.length a_2.T) ∧ (cell a_2.T a_2.j 0 < cell a_2.T a_1.i 0 → Ob ((0 : Int) ≤ (↑a_1.i : Int) ∧ a_1.i < List.length a_2.T)
  ∧ Ob (a_1.i < List.length a_2.T) ∧ Ob ((0 : Int) ≤ (↑a_2.j : Int) ∧ a_2.j < List.length a_2.T) ∧ Ob (a_2.j < List.length a_2.T) ∧ (¬dh a_2.T a_2.k.toNat a_1.i < dh a_2.T a_2.k.toNat a_2.j → Ob ((0 : Int) ≤ (↑a_1.i : Int)
  ∧ a_1.i < List.length a_1.T) ∧ Ob (a_1.i < List.length a_2.T) ∧ Ob ((0 : Int) ≤ (↑a_2.j : Int) ∧ a_2.j < List.length a_1.T) ∧ Ob (a_2.j < List.length a_2.T) ∧ (cell a_2.T a_1.i 0 < cell a_2.T a_2.j 0 → Ob ((0 : Int) ≤
  (↑a_1.i : Int) ∧ a_1.i < List.length a_2.T) ∧ Ob (a_1.i < List.length a_2.T) ∧ Ob ((0 : Int) ≤ (↑a_2.j : Int) ∧ a_2.j < List.length a_2.T) ∧ Ob (a_2.j < List.length a_2.T) ∧ (dh a_2.T a_2.k.toNat a_2.j < dh a_2.T
  a_2.k.toNat a_1.i → False) ∧ (¬dh a_2.T a_2.k.toNat a_2.j < dh a_2.T a_2.k.toNat a_1.i → Ob (InR .i64 ((↑a_2.j : Int) + (1 : Int))) ∧ ∃ (a' : Bj), Ob ((a'.b.Ok ∧ List.length a'.T = List.length a_1.T ∧ (↑a'.i : Int) =
  (↑a_1.i : Int) ∧ a'.i < a'.j ∧ a'.j ≤ List.length a'.T) ∧ List.length a'.T - a'.j < List.length a_2.T - a_2.j) ∧ Ob (List.length a_1.T = List.length a_1.T) ∧ Ob (List.length a_2.T = List.length a'.T) ∧ Ob (List.length
  a_2.T = List.length a'.T) ∧ Ob ((↑a_1.i : Int) = (↑a_1.i : Int)) ∧ Ob ((↑a_2.j : Int) + (1 : Int) = (↑a'.j : Int)) ∧ Ob (List.length a_2.T = List.length a'.T ∧ ∀ (i : Nat), i < List.length a'.T → (El.fn fun (i : Nat) ↦
  [SV.i .i64 (dh a_2.T (a_2.k + (1 : Int)).toNat i)]).at i = (El.fn fun (i : Nat) ↦ [SV.i .i64 (dh a'.T (a'.k + (1 : Int)).toNat i)]).at i) ∧ Ob (List.length a_2.T = List.length a'.T ∧ ∀ (i : Nat), i < List.length a'.T →
  (El.fn fun (i : Nat) ↦ [SV.i .i64 (dh a_2.T a_2.k.toNat i)]).at i = (El.fn fun (i : Nat) ↦ [SV.i .i64 (dh a'.T a'.k.toNat i)]).at i) ∧ Ob (List.length a_2.T = List.length a'.T ∧ ∀ (i : Nat), i < List.length a'.T → (El.fn
  (Rv.elemOf [.i64] a_2.T)).at i = (El.fn (Rv.elemOf [.i64] a'.T)).at i) ∧ Ob (a_2.q = a'.q) ∧ Ob (PlainE (List.length a'.T) (El.fn fun (i : Nat) ↦ [SV.i .i64 (dh a'.T (a'.k + (1 : Int)).toNat i)])) ∧ Ob (PlainE
  (List.length a'.T) (El.fn fun (i : Nat) ↦ [SV.i .i64 (dh a'.T a'.k.toNat i)])) ∧ Ob (PlainE (List.length a'.T) (El.fn (Rv.elemOf [.i64] a'.T))) ∧ True)) ∧ (¬cell a_2.T a_1.i 0 < cell a_2.T a_2.j 0 → Ob (InR .i64 ((↑a_2.j
  : Int) + (1 : Int))) ∧ ∃ (a' : Bj), Ob ((a'.b.Ok ∧ List.length a'.T = List.length a_1.T ∧ (↑a'.i : Int) = (↑a_1.i : Int) ∧ a'.i < a'.j ∧ a'.j ≤ List.length a'.T) ∧ List.length a'.T - a'.j < List.length a_2.T - a_2.j) ∧
  Ob (List.length a_1.T = List.length a_1.T) ∧ Ob (List.length a_2.T = List.length a'.T) ∧ Ob (List.length a_2.T = List.length a'.T) ∧ Ob ((↑a_1.i : Int) = (↑a_1.i : Int)) ∧ Ob ((↑a_2.j : Int) + (1 : Int) = (↑a'.j : Int))
  ∧ Ob (List.length a_2.T = List.length a'.T ∧ ∀ (i : Nat), i < List.length a'.T → (El.fn fun (i : Nat) ↦ [SV.i .i64 (dh a_2.T (a_2.k + (1 : Int)).toNat i)]).at i = (El.fn fun (i : Nat) ↦ [SV.i .i64 (dh a'.T (a'.k + (1 :
  Int)).toNat i)]).at i) ∧ Ob (List.length a_2.T = List.length a'.T ∧ ∀ (i : Nat), i < List.length a'.T → (El.fn fun (i : Nat) ↦ [SV.i .i64 (dh a_2.T a_2.k.toNat i)]).at i = (El.fn fun (i : Nat) ↦ [SV.i .i64 (dh a'.T
  a'.k.toNat i)]).at i) ∧ Ob (List.length a_2.T = List.length a'.T ∧ ∀ (i : Nat), i < List.length a'.T → (El.fn (Rv.elemOf [.i64] a_2.T)).at i = (El.fn (Rv.elemOf [.i64] a'.T)).at i) ∧ Ob (a_2.q = a'.q) ∧ Ob (PlainE
  (List.length a'.T) (El.fn fun (i : Nat) ↦ [SV.i .i64 (dh a'.T (a'.k + (1 : Int)).toNat i)])) ∧ Ob (PlainE (List.length a'.T) (El.fn fun (i : Nat) ↦ [SV.i .i64 (dh a'.T a'.k.toNat i)])) ∧ Ob (PlainE (List.length a'.T)
  (El.fn (Rv.elemOf [.i64] a'.T))) ∧ True)) ∧ (dh a_2.T a_2.k.toNat a_1.i < dh a_2.T a_2.k.toNat a_2.j → False)) ∧ (¬cell a_2.T a_2.j 0 < cell a_2.T a_1.i 0 → Ob ((0 : Int) ≤ (↑a_1.i : Int) ∧ a_1.i < List.length a_1.T) ∧
  Ob (a_1.i < List.length a_2.T) ∧ Ob ((0 : Int) ≤ (↑a_2.j : Int) ∧ a_2.j < List.length a_1.T) ∧ Ob (a_2.j < List.length a_2.T) ∧ (cell a_2.T a_1.i 0 < cell a_2.T a_2.j 0 → Ob ((0 : Int) ≤ (↑a_1.i : Int) ∧ a_1.i <
  List.length a_2.T) ∧ Ob (a_1.i < List.length a_2.T) ∧ Ob ((0 : Int) ≤ (↑a_2.j : Int) ∧ a_2.j < List.length a_2.T) ∧ Ob (a_2.j < List.length a_2.T) ∧ (dh a_2.T a_2.k.toNat a_2.j < dh a_2.T a_2.k.toNat a_1.i → False) ∧
  (¬dh a_2.T a_2.k.toNat a_2.j < dh a_2.T a_2.k.toNat a_1.i → Ob (InR .i64 ((↑a_2.j : Int) + (1 : Int))) ∧ ∃ (a' : Bj), Ob ((a'.b.Ok ∧ List.length a'.T = List.length a_1.T ∧ (↑a'.i : Int) = (↑a_1.i : Int) ∧ a'.i < a'.j ∧
  a'.j ≤ List.length a'.T) ∧ List.length a'.T - a'.j < List.length a_2.T - a_2.j) ∧ Ob (List.length a_1.T = List.length a_1.T) ∧ Ob (List.length a_2.T = List.length a'.T) ∧ Ob (List.length a_2.T = List.length a'.T) ∧ Ob
  ((↑a_1.i : Int) = (↑a_1.i : Int)) ∧ Ob ((↑a_2.j : Int) + (1 : Int) = (↑a'.j : Int)) ∧ Ob (List.length a_2.T = List.length a'.T ∧ ∀ (i : Nat), i < List.length a'.T → (El.fn fun (i : Nat) ↦ [SV.i .i64 (dh a_2.T (a_2.k + (1
  : Int)).toNat i)]).at i = (El.fn fun (i : Nat) ↦ [SV.i .i64 (dh a'.T (a'.k + (1 : Int)).toNat i)]).at i) ∧ Ob (List.length a_2.T = List.length a'.T ∧ ∀ (i : Nat), i < List.length a'.T → (El.fn fun (i : Nat) ↦ [SV.i .i64
  (dh a_2.T a_2.k.toNat i)]).at i = (El.fn fun (i : Nat) ↦ [SV.i .i64 (dh a'.T a'.k.toNat i)]).at i) ∧ Ob (List.length a_2.T = List.length a'.T ∧ ∀ (i : Nat), i < List.length a'.T → (El.fn (Rv.elemOf [.i64] a_2.T)).at i =
  (El.fn (Rv.elemOf [.i64] a'.T)).at i) ∧ Ob (a_2.q = a'.q) ∧ Ob (PlainE (List.length a'.T) (El.fn fun (i : Nat) ↦ [SV.i .i64 (dh a'.T (a'.k + (1 : Int)).toNat i)])) ∧ Ob (PlainE (List.length a'.T) (El.fn fun (i : Nat) ↦
  [SV.i .i64 (dh a'.T a'.k.toNat i)])) ∧ Ob (PlainE (List.length a'.T) (El.fn (Rv.elemOf [.i64] a'.T))) ∧ True)) ∧ (¬cell a_2.T a_1.i 0 < cell a_2.T a_2.j 0 → Ob (InR .i64 ((↑a_2.j : Int) + (1 : Int))) ∧ ∃ (a' : Bj), Ob
  ((a'.b.Ok ∧ List.length a'.T = List.length a_1.T ∧ (↑a'.i : Int) = (↑a_1.i : Int) ∧ a'.i < a'.j ∧ a'.j ≤ List.length a'.T) ∧ List.length a'.T - a'.j < List.length a_2.T - a_2.j) ∧ Ob (List.length a_1.T = List.length
  a_1.T) ∧ Ob (List.length a_2.T = List.length a'.T) ∧ Ob (List.length a_2.T = List.length a'.T) ∧ Ob ((↑a_1.i : Int) = (↑a_1.i : Int)) ∧ Ob ((↑a_2.j : Int) + (1 : Int) = (↑a'.j : Int)) ∧ Ob (List.length a_2.T =
  List.length a'.T ∧ ∀ (i : Nat), i < List.length a'.T → (El.fn fun (i : Nat) ↦ [SV.i .i64 (dh a_2.T (a_2.k + (1 : Int)).toNat i)]).at i = (El.fn fun (i : Nat) ↦ [SV.i .i64 (dh a'.T (a'.k + (1 : Int)).toNat i)]).at i) ∧ Ob
  (List.length a_2.T = List.length a'.T ∧ ∀ (i : Nat), i < List.length a'.T → (El.fn fun (i : Nat) ↦ [SV.i .i64 (dh a_2.T a_2.k.toNat i)]).at i = (El.fn fun (i : Nat) ↦ [SV.i .i64 (dh a'.T a'.k.toNat i)]).at i) ∧ Ob
  (List.length a_2.T = List.length a'.T ∧ ∀ (i : Nat), i < List.length a'.T → (El.fn (Rv.elemOf [.i64] a_2.T)).at i = (El.fn (Rv.elemOf [.i64] a'.T)).at i) ∧ Ob (a_2.q = a'.q) ∧ Ob (PlainE (List.length a'.T) (El.fn fun (i
  : Nat) ↦ [SV.i .i64 (dh a'.T (a'.k + (1 : Int)).toNat i)])) ∧ Ob (PlainE (List.length a'.T) (El.fn fun (i : Nat) ↦ [SV.i .i64 (dh a'.T a'.k.toNat i)])) ∧ Ob (PlainE (List.length a'.T) (El.fn (Rv.elemOf [.i64] a'.T))) ∧
  True)))) ∧ (¬(↑a_2.j : Int) < (↑(List.length a_2.T) : Int) → Ob (InR .i64 ((↑a_1.i : Int) + (1 : Int))) ∧ ∃ (a' : Bs), Ob ((a'.Ok ∧ a'.i ≤ List.length a'.T) ∧ List.length a'.T - a'.i < List.length a_1.T - a_1.i) ∧ Ob
  (List.length a_1.T = List.length a'.T) ∧ Ob (List.length a_2.T = List.length a'.T) ∧ Ob (List.length a_2.T = List.length a'.T) ∧ Ob ((↑a_1.i : Int) + (1 : Int) = (↑a'.i : Int)) ∧ Ob (List.length a_2.T = List.length a'.T
  ∧ ∀ (i : Nat), i < List.length a'.T → (El.fn fun (i : Nat) ↦ [SV.i .i64 (dh a_2.T (a_2.k + (1 : Int)).toNat i)]).at i = (El.fn fun (i : Nat) ↦ [SV.i .i64 (dh a'.T (a'.k + (1 : Int)).toNat i)]).at i) ∧ Ob (List.length
  a_2.T = List.length a'.T ∧ ∀ (i : Nat), i < List.length a'.T → (El.fn fun (i : Nat) ↦ [SV.i .i64 (dh a_2.T a_2.k.toNat i)]).at i = (El.fn fun (i : Nat) ↦ [SV.i .i64 (dh a'.T a'.k.toNat i)]).at i) ∧ Ob (List.length a_2.T
  = List.length a'.T ∧ ∀ (i : Nat), i < List.length a'.T → (El.fn (Rv.elemOf [.i64] a_2.T)).at i = (El.fn (Rv.elemOf [.i64] a'.T)).at i) ∧ Ob (a_2.q = a'.q) ∧ Ob (PlainE (List.length a'.T) (El.fn fun (i : Nat) ↦ [SV.i .i64
  (dh a'.T (a'.k + (1 : Int)).toNat i)])) ∧ Ob (PlainE (List.length a'.T) (El.fn fun (i : Nat) ↦ [SV.i .i64 (dh a'.T a'.k.toNat i)])) ∧ Ob (PlainE (List.length a'.T) (El.fn (Rv.elemOf [.i64] a'.T))) ∧ True))) ∧ (¬cell
  a_1.T a_1.i 0 = (0 : Int) → Ob (InR .i64 ((↑a_1.i : Int) + (1 : Int))) ∧ (∃ (a_2 : Bj), Ob (a_2.b.Ok ∧ List.length a_2.T = List.length a_1.T ∧ (↑a_2.i : Int) = (↑a_1.i : Int) ∧ a_2.i < a_2.j ∧ a_2.j ≤ List.length a_2.T)
  ∧ Ob (List.length a_1.T = List.length a_1.T) ∧ Ob (List.length a_1.T = List.length a_2.T) ∧ Ob (List.length a_1.T = List.length a_2.T) ∧ Ob ((↑a_1.i : Int) = (↑a_1.i : Int)) ∧ Ob ((↑a_1.i : Int) + (1 : Int) = (↑a_2.j :
  Int)) ∧ Ob (List.length a_1.T = List.length a_2.T ∧ ∀ (i : Nat), i < List.length a_2.T → (El.fn fun (i : Nat) ↦ [SV.i .i64 (dh a_1.T (a_1.k + (1 : Int)).toNat i)]).at i = (El.fn fun (i : Nat) ↦ [SV.i .i64 (dh a_2.T
  (a_2.k + (1 : Int)).toNat i)]).at i) ∧ Ob (List.length a_1.T = List.length a_2.T ∧ ∀ (i : Nat), i < List.length a_2.T → (El.fn fun (i : Nat) ↦ [SV.i .i64 (dh a_1.T a_1.k.toNat i)]).at i = (El.fn fun (i : Nat) ↦ [SV.i
  .i64 (dh a_2.T a_2.k.toNat i)]).at i) ∧ Ob (List.length a_1.T = List.length a_2.T ∧ ∀ (i : Nat), i < List.length a_2.T → (El.fn (Rv.elemOf [.i64] a_1.T)).at i = (El.fn (Rv.elemOf [.i64] a_2.T)).at i) ∧ Ob (a_1.q = a_2.q)
  ∧ Ob (PlainE (List.length a_2.T) (El.fn fun (i : Nat) ↦ [SV.i .i64 (dh a_2.T (a_2.k + (1 : Int)).toNat i)])) ∧ Ob (PlainE (List.length a_2.T) (El.fn fun (i : Nat) ↦ [SV.i .i64 (dh a_2.T a_2.k.toNat i)])) ∧ Ob (PlainE
  (List.length a_2.T) (El.fn (Rv.elemOf [.i64] a_2.T))) ∧ True) ∧ ∀ (a_2 : Bj), a_2.b.Ok ∧ List.length a_2.T = List.length a_1.T ∧ (↑a_2.i : Int) = (↑a_1.i : Int) ∧ a_2.i < a_2.j ∧ a_2.j ≤ List.length a_2.T → ∀ (z_409
  z_410 z_411 z_412 z_413 z_414 z_415 z_416 z_417 z_418 z_419 z_420 z_421 z_422 z_423 z_424 z_425 z_426 z_427 z_428 z_429 z_430 z_431 z_432 z_433 z_434 z_435 z_436 z_437 z_438 z_439 z_440 z_441 z_442 z_443 z_444 z_445
  z_446 z_447 z_448 z_449 z_450 z_451 z_452 z_453 z_454 z_455 z_456 z_457 z_458 z_459 z_460 z_461 z_462 z_463 z_464 z_465 z_466 z_467 z_468 z_469 z_470 z_471 z_472 z_473 z_474 z_475 z_476 z_477 z_478 z_479 z_480 z_481
  z_482 z_483 z_484 z_485 z_486 z_487 z_488 z_489 z_490 z_491 z_492 z_493 z_494 z_495 z_496 z_497 z_498 z_499 z_500 z_501 z_502 z_503 z_504 z_505 z_506 z_507 z_508 z_509 z_510 z_511 z_512 z_513 z_514 z_515 z_516 z_517
  z_518 z_519 z_520 z_521 z_522 z_523 z_524 z_525 z_526 z_527 z_528 z_529 z_530 z_531 z_532 z_533 z_534 z_535 z_536 z_537 z_538 z_539 z_540 z_541 z_542 z_543 z_544 z_545 z_546 z_547 z_548 z_549 z_550 z_551 z_552 z_553
  z_554 z_555 z_556 z_557 z_558 z_559 z_560 z_561 z_562 z_563 z_564 z_565 z_566 z_567 z_568 z_569 z_570 z_571 z_572 z_573 z_574 z_575 z_576 z_577 z_578 z_579 z_580 z_581 z_582 z_583 z_584 z_585 z_586 z_587 z_588 z_589
  z_590 z_591 z_592 z_593 z_594 z_595 z_596 z_597 z_598 z_599 z_600 z_601 z_602 z_603 z_604 z_605 z_606 z_607 z_608 z_609 z_610 z_611 z_612 : Value), ((↑a_2.j : Int) < (↑(List.length a_2.T) : Int) → Ob ((0 : Int) ≤ (↑a_1.i
  : Int) ∧ a_1.i < List.length a_1.T) ∧ Ob (a_1.i < List.length a_2.T) ∧ Ob ((0 : Int) ≤ (↑a_2.j : Int) ∧ a_2.j < List.length a_1.T) ∧ Ob (a_2.j < List.length a_2.T) ∧ (cell a_2.T a_1.i 0 = cell a_2.T a_2.j 0 → Ob ((0 :
  Int) ≤ (↑a_1.i : Int) ∧ a_1.i < List.length a_2.T) ∧ Ob (a_1.i < List.length a_2.T) ∧ Ob ((0 : Int) ≤ (↑a_2.j : Int) ∧ a_2.j < List.length a_2.T) ∧ Ob (a_2.j < List.length a_2.T) ∧ (¬dh a_2.T a_2.k.toNat a_1.i < dh a_2.T
  a_2.k.toNat a_2.j → Ob ((0 : Int) ≤ (↑a_1.i : Int) ∧ a_1.i < List.length a_2.T) ∧ Ob (a_1.i < List.length a_2.T) ∧ Ob ((0 : Int) ≤ (↑a_2.j : Int) ∧ a_2.j < List.length a_2.T) ∧ Ob (a_2.j < List.length a_2.T) ∧ Ob (InR
  .i64 (dh a_2.T a_2.k.toNat a_2.j + (1 : Int))) ∧ (¬dh a_2.T a_2.k.toNat a_2.j + (1 : Int) < dh a_2.T a_2.k.toNat a_1.i → Ob ((0 : Int) ≤ (↑a_1.i : Int) ∧ a_1.i < List.length a_1.T) ∧ Ob (a_1.i < List.length a_2.T) ∧ Ob
  ((0 : Int) ≤ (↑a_2.j : Int) ∧ a_2.j < List.length a_1.T) ∧ Ob (a_2.j < List.length a_2.T) ∧ (cell a_2.T a_2.j 0 < cell a_2.T a_1.i 0 → Ob ((0 : Int) ≤ (↑a_1.i : Int) ∧ a_1.i < List.length a_2.T) ∧ Ob (a_1.i < List.length
  a_2.T) ∧ Ob ((0 : Int) ≤ (↑a_2.j : Int) ∧ a_2.j < List.length a_2.T) ∧ Ob (a_2.j < List.length a_2.T) ∧ (¬dh a_2.T a_2.k.toNat a_1.i < dh a_2.T a_2.k.toNat a_2.j → Ob ((0 : Int) ≤ (↑a_1.i : Int) ∧ a_1.i < List.length
  a_1.T) ∧ Ob (a_1.i < List.length a_2.T) ∧ Ob ((0 : Int) ≤ (↑a_2.j : Int) ∧ a_2.j < List.length a_1.T) ∧ Ob (a_2.j < List.length a_2.T) ∧ (cell a_2.T a_1.i 0 < cell a_2.T a_2.j 0 → Ob ((0 : Int) ≤ (↑a_1.i : Int) ∧ a_1.i <
  List.length a_2.T) ∧ Ob (a_1.i < List.length a_2.T) ∧ Ob ((0 : Int) ≤ (↑a_2.j : Int) ∧ a_2.j < List.length a_2.T) ∧ Ob (a_2.j < List.length a_2.T) ∧ (dh a_2.T a_2.k.toNat a_2.j < dh a_2.T a_2.k.toNat a_1.i → False) ∧
  (¬dh a_2.T a_2.k.toNat a_2.j < dh a_2.T a_2.k.toNat a_1.i → Ob (InR .i64 ((↑a_2.j : Int) + (1 : Int))) ∧ ∃ (a' : Bj), Ob ((a'.b.Ok ∧ List.length a'.T = List.length a_1.T ∧ (↑a'.i : Int) = (↑a_1.i : Int) ∧ a'.i < a'.j ∧
  a'.j ≤ List.length a'.T) ∧ List.length a'.T - a'.j < List.length a_2.T - a_2.j) ∧ Ob (List.length a_1.T = List.length a_1.T) ∧ Ob (List.length a_2.T = List.length a'.T) ∧ Ob (List.length a_2.T = List.length a'.T) ∧ Ob
  ((↑a_1.i : Int) = (↑a_1.i : Int)) ∧ Ob ((↑a_2.j : Int) + (1 : Int) = (↑a'.j : Int)) ∧ Ob (List.length a_2.T = List.length a'.T ∧ ∀ (i : Nat), i < List.length a'.T → (El.fn fun (i : Nat) ↦ [SV.i .i64 (dh a_2.T (a_2.k + (1
  : Int)).toNat i)]).at i = (El.fn fun (i : Nat) ↦ [SV.i .i64 (dh a'.T (a'.k + (1 : Int)).toNat i)]).at i) ∧ Ob (List.length a_2.T = List.length a'.T ∧ ∀ (i : Nat), i < List.length a'.T → (El.fn fun (i : Nat) ↦ [SV.i .i64
  (dh a_2.T a_2.k.toNat i)]).at i = (El.fn fun (i : Nat) ↦ [SV.i .i64 (dh a'.T a'.k.toNat i)]).at i) ∧ Ob (List.length a_2.T = List.length a'.T ∧ ∀ (i : Nat), i < List.length a'.T → (El.fn (Rv.elemOf [.i64] a_2.T)).at i =
  (El.fn (Rv.elemOf [.i64] a'.T)).at i) ∧ Ob (a_2.q = a'.q) ∧ Ob (PlainE (List.length a'.T) (El.fn fun (i : Nat) ↦ [SV.i .i64 (dh a'.T (a'.k + (1 : Int)).toNat i)])) ∧ Ob (PlainE (List.length a'.T) (El.fn fun (i : Nat) ↦
  [SV.i .i64 (dh a'.T a'.k.toNat i)])) ∧ Ob (PlainE (List.length a'.T) (El.fn (Rv.elemOf [.i64] a'.T))) ∧ True)) ∧ (¬cell a_2.T a_1.i 0 < cell a_2.T a_2.j 0 → Ob (InR .i64 ((↑a_2.j : Int) + (1 : Int))) ∧ ∃ (a' : Bj), Ob
  ((a'.b.Ok ∧ List.length a'.T = List.length a_1.T ∧ (↑a'.i : Int) = (↑a_1.i : Int) ∧ a'.i < a'.j ∧ a'.j ≤ List.length a'.T) ∧ List.length a'.T - a'.j < List.length a_2.T - a_2.j) ∧ Ob (List.length a_1.T = List.length
  a_1.T) ∧ Ob (List.length a_2.T = List.length a'.T) ∧ Ob (List.length a_2.T = List.length a'.T) ∧ Ob ((↑a_1.i : Int) = (↑a_1.i : Int)) ∧ Ob ((↑a_2.j : Int) + (1 : Int) = (↑a'.j : Int)) ∧ Ob (List.length a_2.T =
  List.length a'.T ∧ ∀ (i : Nat), i < List.length a'.T → (El.fn fun (i : Nat) ↦ [SV.i .i64 (dh a_2.T (a_2.k + (1 : Int)).toNat i)]).at i = (El.fn fun (i : Nat) ↦ [SV.i .i64 (dh a'.T (a'.k + (1 : Int)).toNat i)]).at i) ∧ Ob
  (List.length a_2.T = List.length a'.T ∧ ∀ (i : Nat), i < List.length a'.T → (El.fn fun (i : Nat) ↦ [SV.i .i64 (dh a_2.T a_2.k.toNat i)]).at i = (El.fn fun (i : Nat) ↦ [SV.i .i64 (dh a'.T a'.k.toNat i)]).at i) ∧ Ob
  (List.length a_2.T = List.length a'.T ∧ ∀ (i : Nat), i < List.length a'.T → (El.fn (Rv.elemOf [.i64] a_2.T)).at i = (El.fn (Rv.elemOf [.i64] a'.T)).at i) ∧ Ob (a_2.q = a'.q) ∧ Ob (PlainE (List.length a'.T) (El.fn fun (i
  : Nat) ↦ [SV.i .i64 (dh a'.T (a'.k + (1 : Int)).toNat i)])) ∧ Ob (PlainE (List.length a'.T) (El.fn fun (i : Nat) ↦ [SV.i .i64 (dh a'.T a'.k.toNat i)])) ∧ Ob (PlainE (List.length a'.T) (El.fn (Rv.elemOf [.i64] a'.T))) ∧
  True)) ∧ (dh a_2.T a_2.k.toNat a_1.i < dh a_2.T a_2.k.toNat a_2.j → False)) ∧ (¬cell a_2.T a_2.j 0 < cell a_2.T a_1.i 0 → Ob ((0 : Int) ≤ (↑a_1.i : Int) ∧ a_1.i < List.length a_1.T) ∧ Ob (a_1.i < List.length a_2.T) ∧ Ob
  ((0 : Int) ≤ (↑a_2.j : Int) ∧ a_2.j < List.length a_1.T) ∧ Ob (a_2.j < List.length a_2.T) ∧ (cell a_2.T a_1.i 0 < cell a_2.T a_2.j 0 → Ob ((0 : Int) ≤ (↑a_1.i : Int) ∧ a_1.i < List.length a_2.T) ∧ Ob (a_1.i < List.length
  a_2.T) ∧ Ob ((0 : Int) ≤ (↑a_2.j : Int) ∧ a_2.j < List.length a_2.T) ∧ Ob (a_2.j < List.length a_2.T) ∧ (dh a_2.T a_2.k.toNat a_2.j < dh a_2.T a_2.k.toNat a_1.i → False) ∧ (¬dh a_2.T a_2.k.toNat a_2.j < dh a_2.T
  a_2.k.toNat a_1.i → Ob (InR .i64 ((↑a_2.j : Int) + (1 : Int))) ∧ ∃ (a' : Bj), Ob ((a'.b.Ok ∧ List.length a'.T = List.length a_1.T ∧ (↑a'.i : Int) = (↑a_1.i : Int) ∧ a'.i < a'.j ∧ a'.j ≤ List.length a'.T) ∧ List.length
  a'.T - a'.j < List.length a_2.T - a_2.j) ∧ Ob (List.length a_1.T = List.length a_1.T) ∧ Ob (List.length a_2.T = List.length a'.T) ∧ Ob (List.length a_2.T = List.length a'.T) ∧ Ob ((↑a_1.i : Int) = (↑a_1.i : Int)) ∧ Ob
  ((↑a_2.j : Int) + (1 : Int) = (↑a'.j : Int)) ∧ Ob (List.length a_2.T = List.length a'.T ∧ ∀ (i : Nat), i < List.length a'.T → (El.fn fun (i : Nat) ↦ [SV.i .i64 (dh a_2.T (a_2.k + (1 : Int)).toNat i)]).at i = (El.fn fun
  (i : Nat) ↦ [SV.i .i64 (dh a'.T (a'.k + (1 : Int)).toNat i)]).at i) ∧ Ob (List.length a_2.T = List.length a'.T ∧ ∀ (i : Nat), i < List.length a'.T → (El.fn fun (i : Nat) ↦ [SV.i .i64 (dh a_2.T a_2.k.toNat i)]).at i =
  (El.fn fun (i : Nat) ↦ [SV.i .i64 (dh a'.T a'.k.toNat i)]).at i) ∧ Ob (List.length a_2.T = List.length a'.T ∧ ∀ (i : Nat), i < List.length a'.T → (El.fn (Rv.elemOf [.i64] a_2.T)).at i = (El.fn (Rv.elemOf [.i64] a'.T)).at
  i) ∧ Ob (a_2.q = a'.q) ∧ Ob (PlainE (List.length a'.T) (El.fn fun (i : Nat) ↦ [SV.i .i64 (dh a'.T (a'.k + (1 : Int)).toNat i)])) ∧ Ob (PlainE (List.length a'.T) (El.fn fun (i : Nat) ↦ [SV.i .i64 (dh a'.T a'.k.toNat i)]))
  ∧ Ob (PlainE (List.length a'.T) (El.fn (Rv.elemOf [.i64] a'.T))) ∧ True)) ∧ (¬cell a_2.T a_1.i 0 < cell a_2.T a_2.j 0 → Ob (InR .i64 ((↑a_2.j : Int) + (1 : Int))) ∧ ∃ (a' : Bj), Ob ((a'.b.Ok ∧ List.length a'.T =
  List.length a_1.T ∧ (↑a'.i : Int) = (↑a_1.i : Int) ∧ a'.i < a'.j ∧ a'.j ≤ List.length a'.T) ∧ List.length a'.T - a'.j < List.length a_2.T - a_2.j) ∧ Ob (List.length a_1.T = List.length a_1.T) ∧ Ob (List.length a_2.T =
  List.length a'.T) ∧ Ob (List.length a_2.T = List.length a'.T) ∧ Ob ((↑a_1.i : Int) = (↑a_1.i : Int)) ∧ Ob ((↑a_2.j : Int) + (1 : Int) = (↑a'.j : Int)) ∧ Ob (List.length a_2.T = List.length a'.T ∧ ∀ (i : Nat), i <
  List.length a'.T → (El.fn fun (i : Nat) ↦ [SV.i .i64 (dh a_2.T (a_2.k + (1 : Int)).toNat i)]).at i = (El.fn fun (i : Nat) ↦ [SV.i .i64 (dh a'.T (a'.k + (1 : Int)).toNat i)]).at i) ∧ Ob (List.length a_2.T = List.length
  a'.T ∧ ∀ (i : Nat), i < List.length a'.T → (El.fn fun (i : Nat) ↦ [SV.i .i64 (dh a_2.T a_2.k.toNat i)]).at i = (El.fn fun (i : Nat) ↦ [SV.i .i64 (dh a'.T a'.k.toNat i)]).at i) ∧ Ob (List.length a_2.T = List.length a'.T ∧
  ∀ (i : Nat), i < List.length a'.T → (El.fn (Rv.elemOf [.i64] a_2.T)).at i = (El.fn (Rv.elemOf [.i64] a'.T)).at i) ∧ Ob (a_2.q = a'.q) ∧ Ob (PlainE (List.length a'.T) (El.fn fun (i : Nat) ↦ [SV.i .i64 (dh a'.T (a'.k + (1
  : Int)).toNat i)])) ∧ Ob (PlainE (List.length a'.T) (El.fn fun (i : Nat) ↦ [SV.i .i64 (dh a'.T a'.k.toNat i)])) ∧ Ob (PlainE (List.length a'.T) (El.fn (Rv.elemOf [.i64] a'.T))) ∧ True))) ∧ (dh a_2.T a_2.k.toNat a_2.j +
  (1 : Int) < dh a_2.T a_2.k.toNat a_1.i → False)) ∧ (dh a_2.T a_2.k.toNat a_1.i < dh a_2.T a_2.k.toNat a_2.j → False)) ∧ (¬cell a_2.T a_1.i 0 = cell a_2.T a_2.j 0 → Ob ((0 : Int) ≤ (↑a_1.i : Int) ∧ a_1.i < List.length
  a_1.T) ∧ Ob (a_1.i < List.length a_2.T) ∧ Ob ((0 : Int) ≤ (↑a_2.j : Int) ∧ a_2.j < List.length a_1.T) ∧ Ob (a_2.j < List.length a_2.T) ∧ (cell a_2.T a_2.j 0 < cell a_2.T a_1.i 0 → Ob ((0 : Int) ≤ (↑a_1.i : Int) ∧ a_1.i <
  List.length a_2.T) ∧ Ob (a_1.i < List.length a_2.T) ∧ Ob ((0 : Int) ≤ (↑a_2.j : Int) ∧ a_2.j < List.length a_2.T) ∧ Ob (a_2.j < List.length a_2.T) ∧ (¬dh a_2.T a_2.k.toNat a_1.i < dh a_2.T a_2.k.toNat a_2.j → Ob ((0 :
  Int) ≤ (↑a_1.i : Int) ∧ a_1.i < List.length a_1.T) ∧ Ob (a_1.i < List.length a_2.T) ∧ Ob ((0 : Int) ≤ (↑a_2.j : Int) ∧ a_2.j < List.length a_1.T) ∧ Ob (a_2.j < List.length a_2.T) ∧ (cell a_2.T a_1.i 0 < cell a_2.T a_2.j
  0 → Ob ((0 : Int) ≤ (↑a_1.i : Int) ∧ a_1.i < List.length a_2.T) ∧ Ob (a_1.i < List.length a_2.T) ∧ Ob ((0 : Int) ≤ (↑a_2.j : Int) ∧ a_2.j < List.length a_2.T) ∧ Ob (a_2.j < List.length a_2.T) ∧ (dh a_2.T a_2.k.toNat
  a_2.j < dh a_2.T a_2.k.toNat a_1.i → False) ∧ (¬dh a_2.T a_2.k.toNat a_2.j < dh a_2.T a_2.k.toNat a_1.i → Ob (InR .i64 ((↑a_2.j : Int) + (1 : Int))) ∧ ∃ (a' : Bj), Ob ((a'.b.Ok ∧ List.length a'.T = List.length a_1.T ∧
  (↑a'.i : Int) = (↑a_1.i : Int) ∧ a'.i < a'.j ∧ a'.j ≤ List.length a'.T) ∧ List.length a'.T - a'.j < List.length a_2.T - a_2.j) ∧ Ob (List.length a_1.T = List.length a_1.T) ∧ Ob (List.length a_2.T = List.length a'.T) ∧ Ob
  (List.length a_2.T = List.length a'.T) ∧ Ob ((↑a_1.i : Int) = (↑a_1.i : Int)) ∧ Ob ((↑a_2.j : Int) + (1 : Int) = (↑a'.j : Int)) ∧ Ob (List.length a_2.T = List.length a'.T ∧ ∀ (i : Nat), i < List.length a'.T → (El.fn fun
  (i : Nat) ↦ [SV.i .i64 (dh a_2.T (a_2.k + (1 : Int)).toNat i)]).at i = (El.fn fun (i : Nat) ↦ [SV.i .i64 (dh a'.T (a'.k + (1 : Int)).toNat i)]).at i) ∧ Ob (List.length a_2.T = List.length a'.T ∧ ∀ (i : Nat), i <
  List.length a'.T → (El.fn fun (i : Nat) ↦ [SV.i .i64 (dh a_2.T a_2.k.toNat i)]).at i = (El.fn fun (i : Nat) ↦ [SV.i .i64 (dh a'.T a'.k.toNat i)]).at i) ∧ Ob (List.length a_2.T = List.length a'.T ∧ ∀ (i : Nat), i <
  List.length a'.T → (El.fn (Rv.elemOf [.i64] a_2.T)).at i = (El.fn (Rv.elemOf [.i64] a'.T)).at i) ∧ Ob (a_2.q = a'.q) ∧ Ob (PlainE (List.length a'.T) (El.fn fun (i : Nat) ↦ [SV.i .i64 (dh a'.T (a'.k + (1 : Int)).toNat
  i)])) ∧ Ob (PlainE (List.length a'.T) (El.fn fun (i : Nat) ↦ [SV.i .i64 (dh a'.T a'.k.toNat i)])) ∧ Ob (PlainE (List.length a'.T) (El.fn (Rv.elemOf [.i64] a'.T))) ∧ True)) ∧ (¬cell a_2.T a_1.i 0 < cell a_2.T a_2.j 0 → Ob
  (InR .i64 ((↑a_2.j : Int) + (1 : Int))) ∧ ∃ (a' : Bj), Ob ((a'.b.Ok ∧ List.length a'.T = List.length a_1.T ∧ (↑a'.i : Int) = (↑a_1.i : Int) ∧ a'.i < a'.j ∧ a'.j ≤ List.length a'.T) ∧ List.length a'.T - a'.j < List.length
  a_2.T - a_2.j) ∧ Ob (List.length a_1.T = List.length a_1.T) ∧ Ob (List.length a_2.T = List.length a'.T) ∧ Ob (List.length a_2.T = List.length a'.T) ∧ Ob ((↑a_1.i : Int) = (↑a_1.i : Int)) ∧ Ob ((↑a_2.j : Int) + (1 : Int)
  = (↑a'.j : Int)) ∧ Ob (List.length a_2.T = List.length a'.T ∧ ∀ (i : Nat), i < List.length a'.T → (El.fn fun (i : Nat) ↦ [SV.i .i64 (dh a_2.T (a_2.k + (1 : Int)).toNat i)]).at i = (El.fn fun (i : Nat) ↦ [SV.i .i64 (dh
  a'.T (a'.k + (1 : Int)).toNat i)]).at i) ∧ Ob (List.length a_2.T = List.length a'.T ∧ ∀ (i : Nat), i < List.length a'.T → (El.fn fun (i : Nat) ↦ [SV.i .i64 (dh a_2.T a_2.k.toNat i)]).at i = (El.fn fun (i : Nat) ↦ [SV.i
  .i64 (dh a'.T a'.k.toNat i)]).at i) ∧ Ob (List.length a_2.T = List.length a'.T ∧ ∀ (i : Nat), i < List.length a'.T → (El.fn (Rv.elemOf [.i64] a_2.T)).at i = (El.fn (Rv.elemOf [.i64] a'.T)).at i) ∧ Ob (a_2.q = a'.q) ∧ Ob
  (PlainE (List.length a'.T) (El.fn fun (i : Nat) ↦ [SV.i .i64 (dh a'.T (a'.k + (1 : Int)).toNat i)])) ∧ Ob (PlainE (List.length a'.T) (El.fn fun (i : Nat) ↦ [SV.i .i64 (dh a'.T a'.k.toNat i)])) ∧ Ob (PlainE (List.length
  a'.T) (El.fn (Rv.elemOf [.i64] a'.T))) ∧ True)) ∧ (dh a_2.T a_2.k.toNat a_1.i < dh a_2.T a_2.k.toNat a_2.j → False)) ∧ (¬cell a_2.T a_2.j 0 < cell a_2.T a_1.i 0 → Ob ((0 : Int) ≤ (↑a_1.i : Int) ∧ a_1.i < List.length
  a_1.T) ∧ Ob (a_1.i < List.length a_2.T) ∧ Ob ((0 : Int) ≤ (↑a_2.j : Int) ∧ a_2.j < List.length a_1.T) ∧ Ob (a_2.j < List.length a_2.T) ∧ (cell a_2.T a_1.i 0 < cell a_2.T a_2.j 0 → Ob ((0 : Int) ≤ (↑a_1.i : Int) ∧ a_1.i <
  List.length a_2.T) ∧ Ob (a_1.i < List.length a_2.T) ∧ Ob ((0 : Int) ≤ (↑a_2.j : Int) ∧ a_2.j < List.length a_2.T) ∧ Ob (a_2.j < List.length a_2.T) ∧ (dh a_2.T a_2.k.toNat a_2.j < dh a_2.T a_2.k.toNat a_1.i → False) ∧
  (¬dh a_2.T a_2.k.toNat a_2.j < dh a_2.T a_2.k.toNat a_1.i → Ob (InR .i64 ((↑a_2.j : Int) + (1 : Int))) ∧ ∃ (a' : Bj), Ob ((a'.b.Ok ∧ List.length a'.T = List.length a_1.T ∧ (↑a'.i : Int) = (↑a_1.i : Int) ∧ a'.i < a'.j ∧
  a'.j ≤ List.length a'.T) ∧ List.length a'.T - a'.j < List.length a_2.T - a_2.j) ∧ Ob (List.length a_1.T = List.length a_1.T) ∧ Ob (List.length a_2.T = List.length a'.T) ∧ Ob (List.length a_2.T = List.length a'.T) ∧ Ob
  ((↑a_1.i : Int) = (↑a_1.i : Int)) ∧ Ob ((↑a_2.j : Int) + (1 : Int) = (↑a'.j : Int)) ∧ Ob (List.length a_2.T = List.length a'.T ∧ ∀ (i : Nat), i < List.length a'.T → (El.fn fun (i : Nat) ↦ [SV.i .i64 (dh a_2.T (a_2.k + (1
  : Int)).toNat i)]).at i = (El.fn fun (i : Nat) ↦ [SV.i .i64 (dh a'.T (a'.k + (1 : Int)).toNat i)]).at i) ∧ Ob (List.length a_2.T = List.length a'.T ∧ ∀ (i : Nat), i < List.length a'.T → (El.fn fun (i : Nat) ↦ [SV.i .i64
  (dh a_2.T a_2.k.toNat i)]).at i = (El.fn fun (i : Nat) ↦ [SV.i .i64 (dh a'.T a'.k.toNat i)]).at i) ∧ Ob (List.length a_2.T = List.length a'.T ∧ ∀ (i : Nat), i < List.length a'.T → (El.fn (Rv.elemOf [.i64] a_2.T)).at i =
  (El.fn (Rv.elemOf [.i64] a'.T)).at i) ∧ Ob (a_2.q = a'.q) ∧ Ob (PlainE (List.length a'.T) (El.fn fun (i : Nat) ↦ [SV.i .i64 (dh a'.T (a'.k + (1 : Int)).toNat i)])) ∧ Ob (PlainE (List.length a'.T) (El.fn fun (i : Nat) ↦
  [SV.i .i64 (dh a'.T a'.k.toNat i)])) ∧ Ob (PlainE (List.length a'.T) (El.fn (Rv.elemOf [.i64] a'.T))) ∧ True)) ∧ (¬cell a_2.T a_1.i 0 < cell a_2.T a_2.j 0 → Ob (InR .i64 ((↑a_2.j : Int) + (1 : Int))) ∧ ∃ (a' : Bj), Ob
  ((a'.b.Ok ∧ List.length a'.T = List.length a_1.T ∧ (↑a'.i : Int) = (↑a_1.i : Int) ∧ a'.i < a'.j ∧ a'.j ≤ List.length a'.T) ∧ List.length a'.T - a'.j < List.length a_2.T - a_2.j) ∧ Ob (List.length a_1.T = List.length
  a_1.T) ∧ Ob (List.length a_2.T = List.length a'.T) ∧ Ob (List.length a_2.T = List.length a'.T) ∧ Ob ((↑a_1.i : Int) = (↑a_1.i : Int)) ∧ Ob ((↑a_2.j : Int) + (1 : Int) = (↑a'.j : Int)) ∧ Ob (List.length a_2.T =
  List.length a'.T ∧ ∀ (i : Nat), i < List.length a'.T → (El.fn fun (i : Nat) ↦ [SV.i .i64 (dh a_2.T (a_2.k + (1 : Int)).toNat i)]).at i = (El.fn fun (i : Nat) ↦ [SV.i .i64 (dh a'.T (a'.k + (1 : Int)).toNat i)]).at i) ∧ Ob
  (List.length a_2.T = List.length a'.T ∧ ∀ (i : Nat), i < List.length a'.T → (El.fn fun (i : Nat) ↦ [SV.i .i64 (dh a_2.T a_2.k.toNat i)]).at i = (El.fn fun (i : Nat) ↦ [SV.i .i64 (dh a'.T a'.k.toNat i)]).at i) ∧ Ob
  (List.length a_2.T = List.length a'.T ∧ ∀ (i : Nat), i < List.length a'.T → (El.fn (Rv.elemOf [.i64] a_2.T)).at i = (El.fn (Rv.elemOf [.i64] a'.T)).at i) ∧ Ob (a_2.q = a'.q) ∧ Ob (PlainE (List.length a'.T) (El.fn fun (i
  : Nat) ↦ [SV.i .i64 (dh a'.T (a'.k + (1 : Int)).toNat i)])) ∧ Ob (PlainE (List.length a'.T) (El.fn fun (i : Nat) ↦ [SV.i .i64 (dh a'.T a'.k.toNat i)])) ∧ Ob (PlainE (List.length a'.T) (El.fn (Rv.elemOf [.i64] a'.T))) ∧
  True)))) ∧ (¬(↑a_2.j : Int) < (↑(List.length a_2.T) : Int) → Ob (InR .i64 ((↑a_1.i : Int) + (1 : Int))) ∧ ∃ (a' : Bs), Ob ((a'.Ok ∧ a'.i ≤ List.length a'.T) ∧ List.length a'.T - a'.i < List.length a_1.T - a_1.i) ∧ Ob
  (List.length a_1.T = List.length a'.T) ∧ Ob (List.length a_2.T = List.length a'.T) ∧ Ob (List.length a_2.T = List.length a'.T) ∧ Ob ((↑a_1.i : Int) + (1 : Int) = (↑a'.i : Int)) ∧ Ob (List.length a_2.T = List.length a'.T
  ∧ ∀ (i : Nat), i < List.length a'.T → (El.fn fun (i : Nat) ↦ [SV.i .i64 (dh a_2.T (a_2.k + (1 : Int)).toNat i)]).at i = (El.fn fun (i : Nat) ↦ [SV.i .i64 (dh a'.T (a'.k + (1 : Int)).toNat i)]).at i) ∧ Ob (List.length
  a_2.T = List.length a'.T ∧ ∀ (i : Nat), i < List.length a'.T → (El.fn fun (i : Nat) ↦ [SV.i .i64 (dh a_2.T a_2.k.toNat i)]).at i = (El.fn fun (i : Nat) ↦ [SV.i .i64 (dh a'.T a'.k.toNat i)]).at i) ∧ Ob (List.length a_2.T
  = List.length a'.T ∧ ∀ (i : Nat), i < List.length a'.T → (El.fn (Rv.elemOf [.i64] a_2.T)).at i = (El.fn (Rv.elemOf [.i64] a'.T)).at i) ∧ Ob (a_2.q = a'.q) ∧ Ob (PlainE (List.length a'.T) (El.fn fun (i : Nat) ↦ [SV.i .i64
  (dh a'.T (a'.k + (1 : Int)).toNat i)])) ∧ Ob (PlainE (List.length a'.T) (El.fn fun (i : Nat) ↦ [SV.i .i64 (dh a'.T a'.k.toNat i)])) ∧ Ob (PlainE (List.length a'.T) (El.fn (Rv.elemOf [.i64] a'.T))) ∧ True))) ∧ (dh a_1.T
  (a_1.k + (1 : Int)).toNat a_1.i < dh a_1.T a_1.k.toNat a_1.i → False)) ∧ (dh a_1.T a_1.k.toNat a_1.i < (0 : Int) → False)) ∧ (¬(↑a_1.i : Int) < (↑(List.length a_1.T) : Int) → Ob (hasTabs [] B) ∧ True))) ∧ (¬totTo rows_4
  rows_4.length = a.k → False)) ∧ (¬(↑rows_3.length : Int) = (↑(List.length a.T) : Int) → False)) ∧ (¬(↑rows_2.length : Int) = (↑(List.length a.T) : Int) → False)) ∧ (¬v_9 = (0 : Int) → False)) ∧ (¬v_8 = (0 : Int) →
  False))

set_option linter.unusedSimpArgs false in
set_option maxRecDepth 4000 in
set_option maxHeartbeats 2000000 in
theorem v_law : V_law := by
  unfold V_law
  intro B htab xz N hz hoz hrz hN
  refine ⟨N, ⟨⟨hz, rfl, hrz, fun _ _ => rfl⟩⟩, ⟨hN⟩, ?_⟩
  obtain ⟨a, ha⟩ : ∃ a, tideK N N.length = a := ⟨_, rfl⟩
  rw [ha]
  clear ha
  refine ⟨⟨by show (-1000000000000 : Int) ≤ 1 ∧ (1 : Int) ≤ 1000000000000 ∧ (-1000000000000 : Int) ≤ 40 ∧ (40 : Int) ≤ 1000000000000; omega⟩, ?_⟩
  intro v hv v1 hv1
  have b1 : 1 ≤ v1 ∧ v1 ≤ 40 := by
    have h := belowV_in a (40 - 1 + 1)
    obtain ⟨x, hx⟩ : ∃ x, x = belowV a (40 - 1 + 1) := ⟨_, rfl⟩
    rw [← hx] at h hv1
    clear hx
    omega
  clear hv hv1
  refine ⟨⟨by show 2 ≤ 1000; omega⟩, ?_⟩
  intro v2 hv2 v3 hv3
  have b3 : v3 = 10 ∨ v3 = 300 := by rw [hv3]; exact ofV_two _ _ _
  clear hv2 hv3
  refine ⟨⟨by show v3 ≤ 9223372036854775807; omega⟩, ?_⟩
  intro v4 hv4 v5 hv5
  have b5 : 0 ≤ v5 ∧ v5 ≤ 300 := by
    have h := belowV_in v2 v3
    rw [← hv5] at h
    clear hv5 hv4
    omega
  clear hv4 hv5
  refine ⟨⟨by show (6 : Int) ≤ 9223372036854775807; omega⟩, ?_⟩
  intro v6 hv6 v7 hv7
  have b7 : 0 ≤ v7 ∧ v7 ≤ 5 := by
    have h := belowV_in v4 6
    rw [← hv7] at h
    clear hv7 hv6
    omega
  clear hv6 hv7
  constructor
  · have hok : (Bs.mk v7.toNat v5 v6 [[v1]]).Ok := ⟨⟨Nat.le_refl 1, by show 1 ≤ 6; omega⟩, fun r hr => by rw [List.mem_singleton.1 hr]; rfl, fun i hi => by
      have : i = 0 := by have : i < 1 := hi; omega
      subst this
      exact ⟨by show 0 ≤ v1; omega, by show v1 ≤ 40; omega⟩, by show 1 ≤ v1; omega, b5⟩
    have hlit : ∀ i, i < 1 → (litEl (symL [SV.i .i64 v1]) 1 1).at i = (El.fn (Rv.elemOf [.i64] [[v1]])).at i := fun i hi => by
      have : i = 0 := by omega
      subst this
      rfl
    refine ⟨⟨v7.toNat, v5, v6, [[v1]]⟩, ⟨⟨hok, by show 1 + v7.toNat ≤ 6; omega⟩⟩, ?_⟩
    dsimp only
    repeat' (with_reducible apply And.intro)
    all_goals first | exact ⟨rfl⟩ | exact ⟨plain_elemOf _ _ _⟩ | exact ⟨⟨rfl, hlit⟩⟩ | exact ⟨by omega⟩ | trivial
  clear b1 b3 b5 b7
  clear v7 v6 v5 v4 v3 v2 v1 v
  intro v hv
  obtain ⟨hv, hl⟩ := hv
  intros
  have l1 := hv.l
  constructor
  · intro h1
    have hT : 0 < v.T.length := by omega
    refine ⟨⟨hT⟩, ⟨hT⟩, ⟨by show (5 : Int) ≤ 9223372036854775807; omega⟩, ?_⟩
    intro v8 hv8 v9 hv9
    have b9 : 0 ≤ v9 ∧ v9 ≤ 40 := by
      have h := belowV_in v.q 5
      rw [← hv9] at h
      clear hv8 hv9
      omega
    clear hv8 hv9
    refine ⟨⟨by show (41 : Int) ≤ 9223372036854775807; omega⟩, ?_⟩
    intro v10 hv10 v11 hv11
    have b11 : 0 ≤ v11 ∧ v11 ≤ 40 := by
      have h := belowV_in v8 41
      rw [← hv11] at h
      clear hv10 hv11
      omega
    clear hv10 hv11
    refine ⟨⟨by show 3 ≤ 1000; omega⟩, ?_⟩
    intro v12 hv12 v13 hv13
    have b13 : 0 ≤ v13 ∧ v13 ≤ 40 := by
      have c0 := hv.t 0 hT
      have h : v13 = cell v.T 0 0 ∨ v13 = v9 ∨ v13 = v11 := by rw [hv13]; exact ofV_three' _ _ _ _
      clear hv12 hv13
      omega
    clear hv12 hv13
    have hsn := snoc1' (R := v.T) (x := v13) rfl
    have hlen : (v.T ++ [[v13]]).length = v.T.length + 1 := by simp
    rw [← hlen] at hsn
    have hok : (Bs.mk (v.i - 1) v.k v12 (v.T ++ [[v13]])).Ok := by
      refine ⟨⟨by show 1 ≤ (v.T ++ [[v13]]).length; omega, by show (v.T ++ [[v13]]).length ≤ 6; omega⟩, ?_, ?_, ?_, hv.k⟩
      · intro r hr
        rcases List.mem_append.1 hr with h | h
        · exact hv.r r h
        · rw [List.mem_singleton.1 h]; rfl
      · intro i hi
        have hi : i < (v.T ++ [[v13]]).length := hi
        show 0 ≤ cell (v.T ++ [[v13]]) i 0 ∧ cell (v.T ++ [[v13]]) i 0 ≤ 40
        by_cases e : i = v.T.length
        · subst e
          rw [cell_new]
          exact b13
        · rw [cell_app (by omega)]
          exact hv.t i (by omega)
      · show 1 ≤ cell (v.T ++ [[v13]]) 0 0
        rw [cell_app hT]
        exact hv.p
    refine ⟨⟨rfl, fun i hi => rfl⟩, ⟨by omega⟩, ⟨rfl⟩, ⟨by simp only [InR]; omega⟩, ⟨v.i - 1, v.k, v12, v.T ++ [[v13]]⟩, ⟨⟨hok, by show (v.T ++ [[v13]]).length + (v.i - 1) ≤ 6; omega⟩, by show v.i - 1 < v.i; omega⟩, ?_⟩
    dsimp only
    repeat' (with_reducible apply And.intro)
    all_goals first | exact ⟨rfl⟩ | exact ⟨plain_elemOf _ _ _⟩ | exact ⟨hlen.symm⟩ | exact ⟨⟨hlen.symm, hsn⟩⟩ | exact ⟨by omega⟩ | trivial
  intro h1
  clear h1 hl
  have k0 := hv.k
  have T0 := dh_nn v.T v.k.toNat
  have T1 := dh_le v.T v.k.toNat
  have U0 := dh_nn v.T (v.k + 1).toNat
  have U1 := dh_le v.T (v.k + 1).toNat
  have sT := dh_sum (T := v.T) (by omega) v.k.toNat
  have sU := dh_sum (T := v.T) (by omega) (v.k + 1).toNat
  refine ⟨v.T, ⟨⟨rfl, rfl, hv.r, fun _ _ => rfl⟩⟩, ⟨hv.shr (by omega) (by omega)⟩, ?_⟩
  intro v8 hv8
  subst hv8
  refine ⟨⟨by simp only [InR]; omega⟩, v.T, ⟨⟨rfl, rfl, hv.r, fun _ _ => rfl⟩⟩, ⟨hv.shr (by omega) (by omega)⟩, ?_⟩
  intro v9 hv9
  subst hv9
  refine ⟨fun _ => ⟨fun _ => ⟨fun _ => ⟨fun _ => ?_, fun h => h rfl⟩, fun h => h rfl⟩, fun h => h rfl⟩, fun h => h rfl⟩
  refine ⟨listD (dh v.T v.k.toNat) v.T.length, ⟨⟨rfl, listD_len _ _, listD_row _ _, fun i hi => listD_at _ hi⟩⟩, ⟨⟨by rw [listD_len]; omega, fun i hi => ?_⟩⟩, fun _ => ?_, fun h => h ?_⟩
  · rw [listD_len] at hi
    rw [listD_cell _ hi]
    have := T0 i
    have := T1 i
    omega
  rotate_left
  · rw [listD_len, listD_tot _ _ _ (Nat.le_refl _), sT]
    omega
  refine ⟨listD (dh v.T (v.k + 1).toNat) v.T.length, ⟨⟨rfl, listD_len _ _, listD_row _ _, fun i hi => listD_at _ hi⟩⟩, ⟨⟨by rw [listD_len]; omega, fun i hi => ?_⟩⟩, ⟨by simp only [InR]; omega⟩, fun h => h ?_, fun _ => ?_⟩
  · rw [listD_len] at hi
    rw [listD_cell _ hi]
    have := U0 i
    have := U1 i
    omega
  · rw [listD_len, listD_tot _ _ _ (Nat.le_refl _), sU]
    omega
  constructor
  · refine ⟨⟨0, v.k, v.q, v.T⟩, ⟨⟨⟨hv.l, hv.r, hv.t, hv.p, hv.k⟩, Nat.zero_le _⟩⟩, ?_⟩
    dsimp only
    repeat' (with_reducible apply And.intro)
    all_goals first | exact ⟨rfl⟩ | exact ⟨plain_elemOf _ _ _⟩ | exact ⟨plain_fn1' _ _⟩ | exact ⟨⟨rfl, fun _ _ => rfl⟩⟩ | trivial
  clear sT sU U0 U1 T0 T1 k0 l1 hv
  intro v hv
  obtain ⟨hv, hi⟩ := hv
  intros
  have l1 := hv.l
  have k0 := hv.k
  constructor
  · intro h1
    have hi' : v.i < v.T.length := by omega
    have ri : InR .i64 ((v.i : Int) + 1) := by simp only [InR]; omega
    have q0 : (0 : Int) ≤ (v.i : Int) ∧ v.i < v.T.length := ⟨by omega, hi'⟩
    have g0 := dh_nn v.T v.k.toNat v.i
    have ek : (v.k + 1).toNat = v.k.toNat + 1 := by omega
    have g1 := dh_mono v.T v.k.toNat v.i
    rw [← ek] at g1
    refine ⟨⟨q0⟩, ⟨hi'⟩, fun _ => ⟨⟨q0⟩, ⟨hi'⟩, ⟨q0⟩, ⟨hi'⟩, fun _ => ⟨⟨q0⟩, ⟨hi'⟩, fun h0 => ⟨⟨q0⟩, ⟨hi'⟩, fun h => ?_, fun _ => ?_⟩, fun _ => ?_⟩, fun h => ?_⟩, fun h => ?_⟩
    · have := hv.zero v.k.toNat hi' h0
      omega
    rotate_right
    · omega
    rotate_right
    · omega
    all_goals
      refine ⟨⟨ri⟩, ?_, ?_⟩
      · refine ⟨⟨v.i + 1, v.i, v.k, v.q, v.T⟩, ⟨⟨⟨hv.l, hv.r, hv.t, hv.p, hv.k⟩, rfl, rfl, by show v.i < v.i + 1; omega, by show v.i + 1 ≤ v.T.length; omega⟩⟩, ?_⟩
        dsimp only
        repeat' (with_reducible apply And.intro)
        all_goals first | exact ⟨rfl⟩ | exact ⟨plain_elemOf _ _ _⟩ | exact ⟨plain_fn1' _ _⟩ | exact ⟨⟨rfl, fun _ _ => rfl⟩⟩ | trivial
      intro w hw
      obtain ⟨hw, hwl, hwi, hij, hj⟩ := hw
      intros
      have hwi : w.i = v.i := by omega
      have hok : w.b.Ok := hw
      constructor
      · intro h2
        have hj' : w.j < w.T.length := by omega
        have hiw : v.i < w.T.length := by omega
        obtain ⟨f1, f2, f3⟩ := hok.fair w.k.toNat (i := v.i) (k := w.j) (by omega) hj'
        have f1 : cell w.T w.j 0 ≤ cell w.T v.i 0 → dh w.T w.k.toNat w.j ≤ dh w.T w.k.toNat v.i := f1
        have f2 : cell w.T v.i 0 = cell w.T w.j 0 → dh w.T w.k.toNat v.i ≤ dh w.T w.k.toNat w.j + 1 := f2
        have f3 : cell w.T v.i 0 < cell w.T w.j 0 → dh w.T w.k.toNat v.i ≤ dh w.T w.k.toNat w.j := f3
        have gj := dh_nn w.T w.k.toNat w.j
        have gl := dh_le w.T w.k.toNat w.j
        have kw : 0 ≤ w.k ∧ w.k ≤ 300 := hok.k
        have rg : InR .i64 (dh w.T w.k.toNat w.j + 1) := by simp only [InR]; omega
        have rj : InR .i64 ((w.j : Int) + 1) := by simp only [InR]; omega
        have nx : ((Bj.mk (w.j + 1) w.i w.k w.q w.T).b.Ok ∧ w.T.length = v.T.length ∧ (w.i : Int) = (v.i : Int) ∧ w.i < w.j + 1 ∧ w.j + 1 ≤ w.T.length) ∧ w.T.length - (w.j + 1) < w.T.length - w.j := ⟨⟨hok, hwl, by omega, by omega, by omega⟩, by omega⟩
        have p1 : (0 : Int) ≤ (v.i : Int) ∧ v.i < v.T.length := ⟨by omega, by omega⟩
        have p2 : (0 : Int) ≤ (v.i : Int) ∧ v.i < w.T.length := ⟨by omega, by omega⟩
        have p3 : (0 : Int) ≤ (w.j : Int) ∧ w.j < v.T.length := ⟨by omega, by omega⟩
        have p4 : (0 : Int) ≤ (w.j : Int) ∧ w.j < w.T.length := ⟨by omega, by omega⟩
        repeat' (first
          | exact ⟨p1⟩ | exact ⟨p2⟩ | exact ⟨p3⟩ | exact ⟨p4⟩ | exact ⟨hj'⟩ | exact ⟨hiw⟩ | exact ⟨rg⟩
          | exact ⟨⟨rj⟩, ⟨w.j + 1, w.i, w.k, w.q, w.T⟩, ⟨nx⟩, ⟨rfl⟩, ⟨rfl⟩, ⟨rfl⟩, ⟨rfl⟩, ⟨rfl⟩, ⟨⟨rfl, fun _ _ => rfl⟩⟩, ⟨⟨rfl, fun _ _ => rfl⟩⟩, ⟨⟨rfl, fun _ _ => rfl⟩⟩, ⟨rfl⟩, ⟨plain_fn1' _ _⟩, ⟨plain_fn1' _ _⟩, ⟨plain_elemOf _ _ _⟩, trivial⟩
          | with_reducible apply And.intro
          | (intro hx; first | (exfalso; clear nx rg rj; omega) | skip))
      intro h2
      have hb : (Bs.mk (v.i + 1) w.k w.q w.T).Ok := ⟨hok.l, hok.r, hok.t, hok.p, hok.k⟩
      refine ⟨⟨ri⟩, ⟨v.i + 1, w.k, w.q, w.T⟩, ⟨⟨hb, by show v.i + 1 ≤ w.T.length; omega⟩, by show w.T.length - (v.i + 1) < v.T.length - v.i; omega⟩, ?_⟩
      dsimp only
      repeat' (with_reducible apply And.intro)
      all_goals first | exact ⟨rfl⟩ | exact ⟨plain_elemOf _ _ _⟩ | exact ⟨plain_fn1' _ _⟩ | exact ⟨⟨rfl, fun _ _ => rfl⟩⟩ | exact ⟨hwl.symm⟩ | trivial
  intro h1
  exact ⟨⟨htab⟩, trivial⟩

theorem e_law : V_law = needL P [F_Total] [F_TideOf.named, F_From.named, F_Of.named, F_Below.named, F_Share.named] 5 ([] : Tabs) A_law F_law := by kernel_rfl

theorem n_law : Ob (needL P [F_Total] [F_TideOf.named, F_From.named, F_Of.named, F_Below.named, F_Share.named] 5 ([] : Tabs) A_law F_law) := by
  rw [← e_law]
  exact ⟨v_law⟩

theorem l_law : (([F_Total] : List Fn0).all fun G => !Nat.beq G.g 5) = true := rfl
theorem le_law : ([F_TideOf.named, F_From.named, F_Of.named, F_Below.named, F_Share.named].all fun G => !Nat.beq G.g 5) = true := rfl
theorem c_law : ∀ F ∈ ([F_Total] : List Fn0), F.Ok P := by
  intro F h
  simp only [List.mem_cons, List.not_mem_nil, or_false] at h
  rcases h with rfl
  · exact Total_ok

theorem ce_law : ∀ F ∈ [F_TideOf.named, F_From.named, F_Of.named, F_Below.named, F_Share.named], F.Ok P := by
  intro F h
  simp only [List.mem_cons, List.not_mem_nil, or_false] at h
  rcases h with rfl | rfl | rfl | rfl | rfl
  · exact TideOf_ok.named
  · exact From_ok.named
  · exact Of_ok.named
  · exact Below_ok.named
  · exact Share_ok.named

end Go.Proofs.Ytpnnknhenhnmhaa.Sy
