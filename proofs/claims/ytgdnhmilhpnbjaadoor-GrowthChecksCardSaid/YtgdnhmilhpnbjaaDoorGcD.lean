/- The law GrowthChecks. -/
import Derived.Test.YtgdnhmilhpnbjaaDoorSyP2
import Derived.Test.YtgdnhmilhpnbjaaDoorGrM
import Derived.Test.YtgdnhmilhpnbjaaDoorGrA
import Derived.Test.YtgdnhmilhpnbjaaDoorGrT
import Derived.Test.YtgdnhmilhpnbjaaDoorGrU
import Derived.Test.YtgdnhmilhpnbjaaDoorGcA
import Derived.Test.YtgdnhmilhpnbjaaDoorGcB
import Derived.Test.YtgdnhmilhpnbjaaDoorGcC
import Derived.Test.YtgdnhmilhpnbjaaDoorSyP2
import Derived.KernelRfl
import Derived.Test.YtgdnhmilhpnbjaaDoorProg
namespace Go.Proofs.YtgdnhmilhpnbjaaDoor.Sy
open Go Go.Rv
set_option linter.unusedVariables false

def g64 : List Int := [0, 1, 56, 2, 57, 49, 28, 3, 61, 58, 42, 50, 38, 29, 17, 4, 62, 47, 59, 36, 45, 43, 51, 22, 53, 39, 33, 30, 24, 18, 12, 5, 63, 55, 48, 27, 60, 41, 37, 16, 46, 35, 44, 21, 52, 32, 23, 11, 54, 26, 40, 15, 34, 20, 31, 10, 25, 14, 19, 9, 13, 8, 7, 6]
def tab1 : Tabs := [(0, .u8, g64)]
theorem cell_set_self {G : Rows} {k : Nat} (h : k < G.length) (r : List Int) (j : Nat) : cell (G.set k r) k j = r.getD j 0 := by
  unfold cell
  rw [List.getD_eq_getElem?_getD (l := G.set k r), List.getElem?_set_self h]
  rfl
theorem cell_set_ne {G : Rows} {k i : Nat} (h : ¬ i = k) (r : List Int) (j : Nat) : cell (G.set k r) i j = cell G i j := by
  unfold cell
  rw [List.getD_eq_getElem?_getD (l := G.set k r), List.getElem?_set_ne (by omega), ← List.getD_eq_getElem?_getD]
theorem put_at {G : Rows} {k : Nat} (hk : k < G.length) (s0 s1 s2 s3 s4 : Int) (i : Nat) (hi : i < G.length) :
    (updL (El.fn (Rv.elemOf [.i64, .i64, .i64, .i64, .i64] G)) k 0 [SV.i .i64 s0, SV.i .i64 s1, SV.i .i64 s2, SV.i .i64 s3, SV.i .i64 s4]).at i = Rv.elemOf [.i64, .i64, .i64, .i64, .i64] (G.set k [s0, s1, s2, s3, s4]) i := by
  by_cases h : i = k
  · subst h
    simp only [updL, El.at, if_true]
    simp only [Rv.elemOf, rowF, cell_set_self hi]
    rfl
  · simp only [updL, El.at, if_neg h]
    simp only [Rv.elemOf, rowF, cell_set_ne h]
theorem set_row {G : Rows} {n : Nat} (hG : ∀ r ∈ G, r.length = n) {x : List Int} (hx : x.length = n) (k : Nat) : ∀ r ∈ G.set k x, r.length = n := fun r hr => by
  rcases List.mem_or_eq_of_mem_set hr with h | h
  · exact hG r h
  · rw [h, hx]
structure SpS where
  i : Nat
  q : Int
  S : Rows
  mb : Int
  mm : Int
  G : Rows

noncomputable def F_law : LawF := ⟨3, [.agg [.i .i64, .i .i64, .l [.i64, .i64, .i64, .i64, .i64]], .agg [.i .i64, .i .i64, .i .i64, .i .i64, .i .i64], i64, .one (.l [.i64, .i64]), .one (.l [.i64])], fun l => match l with | [.z gb, .z gm, .l R, .z s0, .z s1, .z s2, .z s3, .z s4, .z at_, .l D, .l N] => N.length ≤ 9223372036854775807 | _ => False⟩
noncomputable def A_law : List SV → List Dat → Nat → List SV → Ann := fun xs ds n ts => match xs with
  | [.agg [_, _, .lst xg _ _ _], .agg [_, _, _, _, _], .i _ _, .lst xd _ _ _, .lst xz _ _ _] => match ds with
    | [.z gb, .z gm, .l R, .z s0, .z s1, .z s2, .z s3, .z s4, .z at_, .l D, .l N] => match n with
      | 14 => ⟨Unit, fun _ => [], fun _ => [], fun _ => True, fun _ => 0, 6⟩
      | 7 => ⟨SpS, fun v => [none, none, some (SV.i IntKind.i64 at_), some (SV.lst xd D.length ((2 : Nat)) (Rv.elemOf [IntKind.i64, IntKind.i64] D)), none, some (SV.ptr ((0 : Nat)) ((0 : Nat))), some (SV.ptr ((1 : Nat)) ((0 : Nat))), none, none, none, some (SV.v (Value.bool false)), some (SV.ptr ((2 : Nat)) ((0 : Nat))), some (SV.ptr ((4 : Nat)) ((0 : Nat))), some (.gsl 5 v.S.length 2 true), some (.i .i64 v.i), none, none, none, none, none, none, none, none, none, none, none, none, none, none, none, none, none, none, none, none, none, none, none, none, none, none, none, none, none, none, none, none, none, none, none, none, none, none, none, none, none, none, none, none, none, none, none, none, none, none, none, none, none, none, none, none, none, none, none, none, none, none, none, none, none, none, none, none, none, none, none, none, none, none, none, none, none, none, none, none, none, none, none, none, none, none, none, none, none, none, none, none, none, none, none, none, none, none, none, none, none, none, none, none, none, none, none, none, none, none, none, none, none, none, none, none, none, none, none, none, none, none, none, none, none, none, none], fun v => [.gr v.S.length 2 (.fn (Rv.elemOf [.i64, .i64] v.S)) .gr true, .cells [.i .i64 v.mb, .i .i64 v.mm, .gsl 3 v.G.length 5 true] .ex, .gr v.G.length 5 (.fn (Rv.elemOf [.i64, .i64, .i64, .i64, .i64] v.G)) .gr true, .cells [.i .u64 v.q] .ex, SObj.cells [SV.i IntKind.i64 s0, SV.i IntKind.i64 s1, SV.i IntKind.i64 s2, SV.i IntKind.i64 s3, SV.i IntKind.i64 s4] Kd.ex, SObj.cells [SV.i IntKind.i64 gb, SV.i IntKind.i64 gm, SV.lst xg R.length ((5 : Nat)) (Rv.elemOf [IntKind.i64, IntKind.i64, IntKind.i64, IntKind.i64, IntKind.i64] R)] Kd.ex], fun v => v.S.length + v.i ≤ 30 ∧ 1 ≤ v.G.length ∧ v.G.length ≤ 3 ∧ (∀ r ∈ v.S, r.length = 2) ∧ ∀ r ∈ v.G, r.length = 5, fun v => v.i, 0⟩
      | _ => noAnn
    | _ => noAnn
  | _ => noAnn

set_option maxRecDepth 10000 in
def V_law : Prop :=
  ∀ (B : RW), hasTabs tab1 B → ∀ (n n_1 : Int) (x : RV) (rows : List (List Int)), IsLst B x rows.length ((5 : Nat)) (Rv.elemOf [IntKind.i64, IntKind.i64, IntKind.i64, IntKind.i64, IntKind.i64] rows) → oneB x = true → (∀
  (row : List Int), row ∈ rows → row.length = (5 : Nat)) → ∀ (n_2 n_3 n_4 n_5 n_6 n_7 : Int) (x_1 : RV) (rows_1 : List (List Int)), IsLst B x_1 rows_1.length ((2 : Nat)) (Rv.elemOf [IntKind.i64, IntKind.i64] rows_1) → oneB
  x_1 = true → (∀ (row : List Int), row ∈ rows_1 → row.length = (2 : Nat)) → ∀ (x_2 : RV) (rows_2 : List (List Int)), IsLst B x_2 rows_2.length ((1 : Nat)) (Rv.elemOf [IntKind.i64] rows_2) → oneB x_2 = true → (∀ (row :
  List Int), row ∈ rows_2 → row.length = (1 : Nat)) → rows_2.length ≤ (9223372036854775807 : Nat) → Ob (IsLst B x rows.length ((5 : Nat)) (Rv.elemOf [IntKind.i64, IntKind.i64, IntKind.i64, IntKind.i64, IntKind.i64] rows))
  ∧ (¬(20 : Int) < (↑rows.length : Int) → Ob (IsLst B x_1 rows_1.length ((2 : Nat)) (Rv.elemOf [IntKind.i64, IntKind.i64] rows_1)) ∧ ((500 : Int) < (↑rows_1.length : Int) → Ob (hasTabs tab1 B) ∧ True) ∧ (¬(500 : Int) <
  (↑rows_1.length : Int) → ∃ (rows_3 : List (List Int)), Ob (IsLst B x_2 rows_2.length ((1 : Nat)) (Rv.elemOf [IntKind.i64] rows_2) ∧ rows_3.length = rows_2.length ∧ (∀ (r : List Int), r ∈ rows_3 → r.length = (1 : Nat)) ∧
  ∀ (i : Nat), i < rows_2.length → Rv.elemOf [IntKind.i64] rows_2 i = Rv.elemOf [IntKind.i64] rows_3 i) ∧ Ob (F_TideOf.named.pre [Dat.l rows_3]) ∧ Ob (F_GrowthOf.named.pre ([Dat.z (tideK rows_3 rows_3.length)] ++ [Dat.p
  (false = true)])) ∧ ∀ (v : Int), v = grQ (tideK rows_3 rows_3.length) → ∀ (v_1 : Int), v_1 = grBase (tideK rows_3 rows_3.length) → ∀ (v_2 : Int), v_2 = grMost (tideK rows_3 rows_3.length) → Ob (F_Below.named.pre ([Dat.z
  v] ++ [Dat.z (30 : Int)])) ∧ ∀ (v_3 : Int), v_3 = belowA v (30 : Int) → ∀ (v_4 : Int), v_4 = belowV v (30 : Int) → (∃ (a : SpS), Ob (List.length a.S + a.i ≤ (30 : Nat) ∧ (1 : Nat) ≤ List.length a.G ∧ List.length a.G ≤ (3
  : Nat) ∧ (∀ (r : List Int), r ∈ a.S → r.length = (2 : Nat)) ∧ ∀ (r : List Int), r ∈ a.G → r.length = (5 : Nat)) ∧ Ob (n_7 = n_7) ∧ Ob (SV.lst x_1 rows_1.length ((2 : Nat)) (Rv.elemOf [IntKind.i64, IntKind.i64] rows_1) =
  SV.lst x_1 rows_1.length ((2 : Nat)) (Rv.elemOf [IntKind.i64, IntKind.i64] rows_1)) ∧ Ob (SV.v (Value.bool false) = SV.v (Value.bool false)) ∧ Ob (List.length a.S = (0 : Nat)) ∧ Ob (v_4 = (↑a.i : Int)) ∧ Ob (List.length
  a.S = (0 : Nat)) ∧ Ob (v_1 = a.mb) ∧ Ob (v_2 = a.mm) ∧ Ob (List.length (grR (tideK rows_3 rows_3.length)) = List.length a.G) ∧ Ob (List.length (grR (tideK rows_3 rows_3.length)) = List.length a.G ∧ ∀ (i : Nat), i <
  List.length a.G → (El.fn (Rv.elemOf [IntKind.i64, IntKind.i64, IntKind.i64, IntKind.i64, IntKind.i64] (grR (tideK rows_3 rows_3.length)))).at i = (El.fn (Rv.elemOf [IntKind.i64, IntKind.i64, IntKind.i64, IntKind.i64,
  IntKind.i64] a.G)).at i) ∧ Ob (v_3 = a.q) ∧ Ob (n_2 = n_2) ∧ Ob (n_3 = n_3) ∧ Ob (n_4 = n_4) ∧ Ob (n_5 = n_5) ∧ Ob (n_6 = n_6) ∧ Ob (n = n) ∧ Ob (n_1 = n_1) ∧ Ob (SV.lst x rows.length (nat_lit 5) (Rv.elemOf [IntKind.i64,
  IntKind.i64, IntKind.i64, IntKind.i64, IntKind.i64] rows) = SV.lst x rows.length (nat_lit 5) (Rv.elemOf [IntKind.i64, IntKind.i64, IntKind.i64, IntKind.i64, IntKind.i64] rows)) ∧ Ob (IsLst B x_1 rows_1.length (nat_lit 2)
  (Rv.elemOf [IntKind.i64, IntKind.i64] rows_1)) ∧ Ob (PlainE (List.length a.S) (El.fn (Rv.elemOf [IntKind.i64, IntKind.i64] a.S))) ∧ Ob (PlainE (List.length a.G) (El.fn (Rv.elemOf [IntKind.i64, IntKind.i64, IntKind.i64,
  IntKind.i64, IntKind.i64] a.G))) ∧ Ob (IsLst B x rows.length (nat_lit 5) (Rv.elemOf [IntKind.i64, IntKind.i64, IntKind.i64, IntKind.i64, IntKind.i64] rows)) ∧ True) ∧ ∀ (a : SpS), (List.length a.S + a.i ≤ (30 : Nat) ∧ (1
  : Nat) ≤ List.length a.G ∧ List.length a.G ≤ (3 : Nat) ∧ (∀ (r : List Int), r ∈ a.S → r.length = (2 : Nat)) ∧ ∀ (r : List Int), r ∈ a.G → r.length = (5 : Nat)) → ∀ (z z_1 z_2 z_3 z_4 z_5 z_6 z_7 z_8 z_9 z_10 z_11 z_12
  z_13 z_14 z_15 z_16 z_17 z_18 z_19 z_20 z_21 z_22 z_23 z_24 z_25 z_26 z_27 z_28 z_29 z_30 z_31 z_32 z_33 z_34 z_35 z_36 z_37 z_38 z_39 z_40 z_41 z_42 z_43 z_44 z_45 z_46 z_47 z_48 z_49 z_50 z_51 z_52 z_53 z_54 z_55 z_56
  z_57 z_58 z_59 z_60 z_61 z_62 z_63 z_64 z_65 z_66 z_67 z_68 z_69 z_70 z_71 z_72 z_73 z_74 z_75 z_76 z_77 z_78 z_79 z_80 z_81 z_82 z_83 z_84 z_85 z_86 z_87 z_88 z_89 z_90 z_91 z_92 z_93 z_94 z_95 z_96 z_97 z_98 z_99 z_100
  z_101 z_102 z_103 z_104 z_105 z_106 z_107 z_108 z_109 z_110 z_111 z_112 z_113 z_114 z_115 z_116 z_117 z_118 z_119 z_120 z_121 z_122 z_123 z_124 z_125 z_126 z_127 z_128 z_129 z_130 z_131 z_132 : Value), ((0 : Int) < (↑a.i
  : Int) → Ob (F_Span.named.pre ([Dat.z a.q] ++ [Dat.z (-50 : Int), Dat.z (400 : Int)])) ∧ ∀ (v_5 : Int), v_5 = spanA a.q (-50 : Int) (400 : Int) → ∀ (v_6 : Int), v_6 = spanLo a.q (-50 : Int) (400 : Int) → ∀ (v_7 : Int),
  v_7 = spanHi a.q (-50 : Int) (400 : Int) → Ob (List.length a.S = List.length a.S ∧ ∀ (i : Nat), i < List.length a.S → ((El.fn (Rv.elemOf [IntKind.i64, IntKind.i64] a.S)).at i).length = nat_lit 2) ∧ Ob ((List.length a.S +
  nat_lit 1) * nat_lit 2 * (17 : Nat) ≤ nat_lit 1099511627776) ∧ Ob (List.length a.S = List.length a.S) ∧ Ob (InR IntKind.i64 ((↑a.i : Int) - (1 : Int))) ∧ ∃ (a' : SpS), Ob ((List.length a'.S + a'.i ≤ nat_lit 30 ∧ nat_lit
  1 ≤ List.length a'.G ∧ List.length a'.G ≤ nat_lit 3 ∧ (∀ (r : List Int), r ∈ a'.S → r.length = nat_lit 2) ∧ ∀ (r : List Int), r ∈ a'.G → r.length = nat_lit 5) ∧ a'.i < a.i) ∧ Ob (n_7 = n_7) ∧ Ob (SV.lst x_1 rows_1.length
  (nat_lit 2) (Rv.elemOf [IntKind.i64, IntKind.i64] rows_1) = SV.lst x_1 rows_1.length (nat_lit 2) (Rv.elemOf [IntKind.i64, IntKind.i64] rows_1)) ∧ Ob (SV.v (Value.bool false) = SV.v (Value.bool false)) ∧ Ob (List.length
  a.S + nat_lit 1 = List.length a'.S) ∧ Ob ((↑a.i : Int) - (1 : Int) = (↑a'.i : Int)) ∧ Ob (List.length a.S + nat_lit 1 = List.length a'.S ∧ ∀ (i : Nat), i < List.length a'.S → (behind (List.length a.S) (El.fn (Rv.elemOf
  [IntKind.i64, IntKind.i64] a.S)) (nat_lit 1) (litEl [SV.i IntKind.i64 v_6, SV.i IntKind.i64 v_7] (nat_lit 2) (nat_lit 1))).at i = (El.fn (Rv.elemOf [IntKind.i64, IntKind.i64] a'.S)).at i) ∧ Ob (a.mb = a'.mb) ∧ Ob (a.mm =
  a'.mm) ∧ Ob (List.length a.G = List.length a'.G) ∧ Ob (List.length a.G = List.length a'.G ∧ ∀ (i : Nat), i < List.length a'.G → (El.fn (Rv.elemOf [IntKind.i64, IntKind.i64, IntKind.i64, IntKind.i64, IntKind.i64] a.G)).at
  i = (El.fn (Rv.elemOf [IntKind.i64, IntKind.i64, IntKind.i64, IntKind.i64, IntKind.i64] a'.G)).at i) ∧ Ob (v_5 = a'.q) ∧ Ob (n_2 = n_2) ∧ Ob (n_3 = n_3) ∧ Ob (n_4 = n_4) ∧ Ob (n_5 = n_5) ∧ Ob (n_6 = n_6) ∧ Ob (n = n) ∧
  Ob (n_1 = n_1) ∧ Ob (SV.lst x rows.length (nat_lit 5) (Rv.elemOf [IntKind.i64, IntKind.i64, IntKind.i64, IntKind.i64, IntKind.i64] rows) = SV.lst x rows.length (nat_lit 5) (Rv.elemOf [IntKind.i64, IntKind.i64,
  IntKind.i64, IntKind.i64, IntKind.i64] rows)) ∧ Ob (IsLst B x_1 rows_1.length (nat_lit 2) (Rv.elemOf [IntKind.i64, IntKind.i64] rows_1)) ∧ Ob (PlainE (List.length a'.S) (El.fn (Rv.elemOf [IntKind.i64, IntKind.i64]
  a'.S))) ∧ Ob (PlainE (List.length a'.G) (El.fn (Rv.elemOf [IntKind.i64, IntKind.i64, IntKind.i64, IntKind.i64, IntKind.i64] a'.G))) ∧ Ob (IsLst B x rows.length (nat_lit 5) (Rv.elemOf [IntKind.i64, IntKind.i64,
  IntKind.i64, IntKind.i64, IntKind.i64] rows)) ∧ True) ∧ (¬(0 : Int) < (↑a.i : Int) → ∃ (rows_4 : List (List Int)), Ob (List.length a.G = List.length a.G ∧ rows_4.length = List.length a.G ∧ (∀ (r : List Int), r ∈ rows_4 →
  r.length = (5 : Nat)) ∧ ∀ (i : Nat), i < List.length a.G → (El.fn (Rv.elemOf [IntKind.i64, IntKind.i64, IntKind.i64, IntKind.i64, IntKind.i64] a.G)).at i = Rv.elemOf [IntKind.i64, IntKind.i64, IntKind.i64, IntKind.i64,
  IntKind.i64] rows_4 i) ∧ Ob (F_OwnGrowth.named.pre ([Dat.z a.mb, Dat.z a.mm, Dat.l rows_4] ++ [])) ∧ ∀ (v_5 : Int), v_5 = a.mb → ∀ (v_6 : Int), v_6 = a.mm → Ob ((↑rows_4.length : Int) ≤ (1000000000 : Int)) ∧ Ob ((0 :
  Int) ≤ wrapZ n_7 (↑rows_4.length : Int) ∧ (wrapZ n_7 (↑rows_4.length : Int)).toNat < rows_4.length) ∧ Ob ((wrapZ n_7 (↑rows_4.length : Int)).toNat < rows_4.length ∧ ((El.fn (Rv.elemOf [IntKind.i64, IntKind.i64,
  IntKind.i64, IntKind.i64, IntKind.i64] rows_4)).at (wrapZ n_7 (↑rows_4.length : Int)).toNat).length = nat_lit 5) ∧ Ob (oneB x_1 = true) ∧ Ob (oneB x_1 = true) ∧ Ob (IsLst B x rows.length (nat_lit 5) (Rv.elemOf
  [IntKind.i64, IntKind.i64, IntKind.i64, IntKind.i64, IntKind.i64] rows)) ∧ ∃ (rows_5 : List (List Int)), Ob (IsLst B x rows.length (nat_lit 5) (Rv.elemOf [IntKind.i64, IntKind.i64, IntKind.i64, IntKind.i64, IntKind.i64]
  rows) ∧ rows_5.length = rows.length ∧ (∀ (r : List Int), r ∈ rows_5 → r.length = nat_lit 5) ∧ ∀ (i : Nat), i < rows.length → Rv.elemOf [IntKind.i64, IntKind.i64, IntKind.i64, IntKind.i64, IntKind.i64] rows i = Rv.elemOf
  [IntKind.i64, IntKind.i64, IntKind.i64, IntKind.i64, IntKind.i64] rows_5 i) ∧ Ob (F_OwnGrowth.named.pre ([Dat.z n, Dat.z n_1, Dat.l rows_5] ++ [])) ∧ ∀ (v_7 : Int), v_7 = n → ∀ (v_8 : Int), v_8 = n_1 → Ob (PlainE
  rows_5.length (El.fn (Rv.elemOf [IntKind.i64, IntKind.i64, IntKind.i64, IntKind.i64, IntKind.i64] rows_5))) ∧ Ob (IsLst B x_1 rows_1.length (nat_lit 2) (Rv.elemOf [IntKind.i64, IntKind.i64] rows_1)) ∧ ∃ (rows_6 : List
  (List Int)), Ob (IsLst B x_1 rows_1.length (nat_lit 2) (Rv.elemOf [IntKind.i64, IntKind.i64] rows_1) ∧ rows_6.length = rows_1.length ∧ (∀ (r : List Int), r ∈ rows_6 → r.length = nat_lit 2) ∧ ∀ (i : Nat), i <
  rows_1.length → Rv.elemOf [IntKind.i64, IntKind.i64] rows_1 i = Rv.elemOf [IntKind.i64, IntKind.i64] rows_6 i) ∧ Ob (F_Spans.named.pre [Dat.l rows_6]) ∧ Ob (PlainE rows_6.length (El.fn (Rv.elemOf [IntKind.i64,
  IntKind.i64] rows_6))) ∧ ∃ (rows_7 : List (List Int)), Ob (rows_5.length = rows_5.length ∧ rows_7.length = rows_5.length ∧ (∀ (r : List Int), r ∈ rows_7 → r.length = nat_lit 5) ∧ ∀ (i : Nat), i < rows_5.length → (El.fn
  (Rv.elemOf [IntKind.i64, IntKind.i64, IntKind.i64, IntKind.i64, IntKind.i64] rows_5)).at i = Rv.elemOf [IntKind.i64, IntKind.i64, IntKind.i64, IntKind.i64, IntKind.i64] rows_7 i) ∧ ∃ (rows_8 : List (List Int)), Ob
  (rows_6.length = rows_6.length ∧ rows_8.length = rows_6.length ∧ (∀ (r : List Int), r ∈ rows_8 → r.length = nat_lit 2) ∧ ∀ (i : Nat), i < rows_6.length → (El.fn (Rv.elemOf [IntKind.i64, IntKind.i64] rows_6)).at i =
  Rv.elemOf [IntKind.i64, IntKind.i64] rows_8 i) ∧ Ob (rows_7.length ≤ nat_lit 1000 ∧ rows_8.length ≤ nat_lit 1000) ∧ Ob (IsLst B x rows.length (nat_lit 5) (Rv.elemOf [IntKind.i64, IntKind.i64, IntKind.i64, IntKind.i64,
  IntKind.i64] rows)) ∧ Ob (IsLst B x_1 rows_1.length (nat_lit 2) (Rv.elemOf [IntKind.i64, IntKind.i64] rows_1)) ∧ ∃ (rows_9 : List (List Int)), Ob (IsLst B x rows.length (nat_lit 5) (Rv.elemOf [IntKind.i64, IntKind.i64,
  IntKind.i64, IntKind.i64, IntKind.i64] rows) ∧ rows_9.length = rows.length ∧ (∀ (r : List Int), r ∈ rows_9 → r.length = nat_lit 5) ∧ ∀ (i : Nat), i < rows.length → Rv.elemOf [IntKind.i64, IntKind.i64, IntKind.i64,
  IntKind.i64, IntKind.i64] rows i = Rv.elemOf [IntKind.i64, IntKind.i64, IntKind.i64, IntKind.i64, IntKind.i64] rows_9 i) ∧ ∃ (rows_10 : List (List Int)), Ob (IsLst B x_1 rows_1.length (nat_lit 2) (Rv.elemOf [IntKind.i64,
  IntKind.i64] rows_1) ∧ rows_10.length = rows_1.length ∧ (∀ (r : List Int), r ∈ rows_10 → r.length = nat_lit 2) ∧ ∀ (i : Nat), i < rows_1.length → Rv.elemOf [IntKind.i64, IntKind.i64] rows_1 i = Rv.elemOf [IntKind.i64,
  IntKind.i64] rows_10 i) ∧ Ob (rows_9.length ≤ nat_lit 1000 ∧ rows_10.length ≤ nat_lit 1000) ∧ ∃ (rows_11 : List (List Int)), Ob (rows_5.length = rows_5.length ∧ rows_11.length = rows_5.length ∧ (∀ (r : List Int), r ∈
  rows_11 → r.length = nat_lit 5) ∧ ∀ (i : Nat), i < rows_5.length → (El.fn (Rv.elemOf [IntKind.i64, IntKind.i64, IntKind.i64, IntKind.i64, IntKind.i64] rows_5)).at i = Rv.elemOf [IntKind.i64, IntKind.i64, IntKind.i64,
  IntKind.i64, IntKind.i64] rows_11 i) ∧ Ob (rows_11.length ≤ nat_lit 1000) ∧ Ob (IsLst B x rows.length (nat_lit 5) (Rv.elemOf [IntKind.i64, IntKind.i64, IntKind.i64, IntKind.i64, IntKind.i64] rows)) ∧ ∃ (rows_12 : List
  (List Int)), Ob (IsLst B x rows.length (nat_lit 5) (Rv.elemOf [IntKind.i64, IntKind.i64, IntKind.i64, IntKind.i64, IntKind.i64] rows) ∧ rows_12.length = rows.length ∧ (∀ (r : List Int), r ∈ rows_12 → r.length = nat_lit
  5) ∧ ∀ (i : Nat), i < rows.length → Rv.elemOf [IntKind.i64, IntKind.i64, IntKind.i64, IntKind.i64, IntKind.i64] rows i = Rv.elemOf [IntKind.i64, IntKind.i64, IntKind.i64, IntKind.i64, IntKind.i64] rows_12 i) ∧ Ob
  (rows_12.length ≤ nat_lit 1000) ∧ (¬¬gErr v_7 v_8 rows_11 = gErr n n_1 rows_12 → (¬¬(heat v_7 v_8 rows_7 rows_8 (nat_lit 0) = heat n n_1 rows_9 rows_10 (nat_lit 0) ∧ heat v_7 v_8 rows_7 rows_8 (nat_lit 1) = heat n n_1
  rows_9 rows_10 (nat_lit 1) ∧ True) → (¬¬hErr v_7 v_8 rows_7 rows_8 = hErr n n_1 rows_9 rows_10 → Ob (IsLst B x rows.length (nat_lit 5) (Rv.elemOf [IntKind.i64, IntKind.i64, IntKind.i64, IntKind.i64, IntKind.i64] rows)) ∧
  ∃ (rows_13 : List (List Int)), Ob (rows_5.length = rows_5.length ∧ rows_13.length = rows_5.length ∧ (∀ (r : List Int), r ∈ rows_13 → r.length = nat_lit 5) ∧ ∀ (i : Nat), i < rows_5.length → (El.fn (Rv.elemOf
  [IntKind.i64, IntKind.i64, IntKind.i64, IntKind.i64, IntKind.i64] rows_5)).at i = Rv.elemOf [IntKind.i64, IntKind.i64, IntKind.i64, IntKind.i64, IntKind.i64] rows_13 i) ∧ ∃ (rows_14 : List (List Int)), Ob (IsLst B x
  rows.length (nat_lit 5) (Rv.elemOf [IntKind.i64, IntKind.i64, IntKind.i64, IntKind.i64, IntKind.i64] rows) ∧ rows_14.length = rows.length ∧ (∀ (r : List Int), r ∈ rows_14 → r.length = nat_lit 5) ∧ ∀ (i : Nat), i <
  rows.length → Rv.elemOf [IntKind.i64, IntKind.i64, IntKind.i64, IntKind.i64, IntKind.i64] rows i = Rv.elemOf [IntKind.i64, IntKind.i64, IntKind.i64, IntKind.i64, IntKind.i64] rows_14 i) ∧ Ob (rows_13.length ≤ nat_lit
  1000 ∧ rows_14.length ≤ nat_lit 1000) ∧ (¬¬sameG v_7 v_8 rows_13 n n_1 rows_14 → Ob (IsLst B x_1 rows_1.length (nat_lit 2) (Rv.elemOf [IntKind.i64, IntKind.i64] rows_1)) ∧ ∃ (rows_15 : List (List Int)), Ob (rows_6.length
  = rows_6.length ∧ rows_15.length = rows_6.length ∧ (∀ (r : List Int), r ∈ rows_15 → r.length = nat_lit 2) ∧ ∀ (i : Nat), i < rows_6.length → (El.fn (Rv.elemOf [IntKind.i64, IntKind.i64] rows_6)).at i = Rv.elemOf
  [IntKind.i64, IntKind.i64] rows_15 i) ∧ ∃ (rows_16 : List (List Int)), Ob (IsLst B x_1 rows_1.length (nat_lit 2) (Rv.elemOf [IntKind.i64, IntKind.i64] rows_1) ∧ rows_16.length = rows_1.length ∧ (∀ (r : List Int), r ∈
  rows_16 → r.length = nat_lit 2) ∧ ∀ (i : Nat), i < rows_1.length → Rv.elemOf [IntKind.i64, IntKind.i64] rows_1 i = Rv.elemOf [IntKind.i64, IntKind.i64] rows_16 i) ∧ Ob (rows_15.length ≤ nat_lit 1000 ∧ rows_16.length ≤
  nat_lit 1000) ∧ (¬sameR rows_15 rows_16 → False) ∧ (¬¬sameR rows_15 rows_16 → ∃ (rows_17 : List (List Int)), Ob (List.length a.G = List.length a.G ∧ rows_17.length = List.length a.G ∧ (∀ (r : List Int), r ∈ rows_17 →
  r.length = nat_lit 5) ∧ ∀ (i : Nat), i < List.length a.G → (El.fn (Rv.elemOf [IntKind.i64, IntKind.i64, IntKind.i64, IntKind.i64, IntKind.i64] a.G)).at i = Rv.elemOf [IntKind.i64, IntKind.i64, IntKind.i64, IntKind.i64,
  IntKind.i64] rows_17 i) ∧ Ob (F_OwnGrowth.named.pre ([Dat.z a.mb, Dat.z a.mm, Dat.l rows_17] ++ [])) ∧ ∀ (v_9 : Int), v_9 = a.mb → ∀ (v_10 : Int), v_10 = a.mm → Ob (PlainE rows_17.length (El.fn (Rv.elemOf [IntKind.i64,
  IntKind.i64, IntKind.i64, IntKind.i64, IntKind.i64] rows_17))) ∧ ∃ (rows_18 : List (List Int)), Ob (List.length a.S = List.length a.S ∧ rows_18.length = List.length a.S ∧ (∀ (r : List Int), r ∈ rows_18 → r.length =
  nat_lit 2) ∧ ∀ (i : Nat), i < List.length a.S → (El.fn (Rv.elemOf [IntKind.i64, IntKind.i64] a.S)).at i = Rv.elemOf [IntKind.i64, IntKind.i64] rows_18 i) ∧ Ob (F_Spans.named.pre [Dat.l rows_18]) ∧ Ob (PlainE
  rows_18.length (El.fn (Rv.elemOf [IntKind.i64, IntKind.i64] rows_18))) ∧ ∃ (rows_19 : List (List Int)), Ob (rows_17.length = rows_17.length ∧ rows_19.length = rows_17.length ∧ (∀ (r : List Int), r ∈ rows_19 → r.length =
  nat_lit 5) ∧ ∀ (i : Nat), i < rows_17.length → (El.fn (Rv.elemOf [IntKind.i64, IntKind.i64, IntKind.i64, IntKind.i64, IntKind.i64] rows_17)).at i = Rv.elemOf [IntKind.i64, IntKind.i64, IntKind.i64, IntKind.i64,
  IntKind.i64] rows_19 i) ∧ ∃ (rows_20 : List (List Int)), Ob (rows_18.length = rows_18.length ∧ rows_20.length = rows_18.length ∧ (∀ (r : List Int), r ∈ rows_20 → r.length = nat_lit 2) ∧ ∀ (i : Nat), i < rows_18.length →
  (El.fn (Rv.elemOf [IntKind.i64, IntKind.i64] rows_18)).at i = Rv.elemOf [IntKind.i64, IntKind.i64] rows_20 i) ∧ Ob (rows_19.length ≤ nat_lit 1000 ∧ rows_20.length ≤ nat_lit 1000) ∧ ∃ (rows_21 : List (List Int)), Ob
  (List.length a.G = List.length a.G ∧ rows_21.length = List.length a.G ∧ (∀ (r : List Int), r ∈ rows_21 → r.length = nat_lit 5) ∧ ∀ (i : Nat), i < List.length a.G → (El.fn (Rv.elemOf [IntKind.i64, IntKind.i64,
  IntKind.i64, IntKind.i64, IntKind.i64] a.G)).at i = Rv.elemOf [IntKind.i64, IntKind.i64, IntKind.i64, IntKind.i64, IntKind.i64] rows_21 i) ∧ ∃ (rows_22 : List (List Int)), Ob (List.length a.S = List.length a.S ∧
  rows_22.length = List.length a.S ∧ (∀ (r : List Int), r ∈ rows_22 → r.length = nat_lit 2) ∧ ∀ (i : Nat), i < List.length a.S → (El.fn (Rv.elemOf [IntKind.i64, IntKind.i64] a.S)).at i = Rv.elemOf [IntKind.i64,
  IntKind.i64] rows_22 i) ∧ Ob (rows_21.length ≤ nat_lit 1000 ∧ rows_22.length ≤ nat_lit 1000) ∧ ∃ (rows_23 : List (List Int)), Ob (rows_17.length = rows_17.length ∧ rows_23.length = rows_17.length ∧ (∀ (r : List Int), r ∈
  rows_23 → r.length = nat_lit 5) ∧ ∀ (i : Nat), i < rows_17.length → (El.fn (Rv.elemOf [IntKind.i64, IntKind.i64, IntKind.i64, IntKind.i64, IntKind.i64] rows_17)).at i = Rv.elemOf [IntKind.i64, IntKind.i64, IntKind.i64,
  IntKind.i64, IntKind.i64] rows_23 i) ∧ Ob (rows_23.length ≤ nat_lit 1000) ∧ ∃ (rows_24 : List (List Int)), Ob (List.length a.G = List.length a.G ∧ rows_24.length = List.length a.G ∧ (∀ (r : List Int), r ∈ rows_24 →
  r.length = nat_lit 5) ∧ ∀ (i : Nat), i < List.length a.G → (El.fn (Rv.elemOf [IntKind.i64, IntKind.i64, IntKind.i64, IntKind.i64, IntKind.i64] a.G)).at i = Rv.elemOf [IntKind.i64, IntKind.i64, IntKind.i64, IntKind.i64,
  IntKind.i64] rows_24 i) ∧ Ob (rows_24.length ≤ nat_lit 1000) ∧ (¬¬gErr v_9 v_10 rows_23 = gErr a.mb a.mm rows_24 → (¬¬(heat v_9 v_10 rows_19 rows_20 (nat_lit 0) = heat a.mb a.mm rows_21 rows_22 (nat_lit 0) ∧ heat v_9
  v_10 rows_19 rows_20 (nat_lit 1) = heat a.mb a.mm rows_21 rows_22 (nat_lit 1) ∧ True) → (¬¬hErr v_9 v_10 rows_19 rows_20 = hErr a.mb a.mm rows_21 rows_22 → ∃ (rows_25 : List (List Int)), Ob (rows_17.length =
  rows_17.length ∧ rows_25.length = rows_17.length ∧ (∀ (r : List Int), r ∈ rows_25 → r.length = nat_lit 5) ∧ ∀ (i : Nat), i < rows_17.length → (El.fn (Rv.elemOf [IntKind.i64, IntKind.i64, IntKind.i64, IntKind.i64,
  IntKind.i64] rows_17)).at i = Rv.elemOf [IntKind.i64, IntKind.i64, IntKind.i64, IntKind.i64, IntKind.i64] rows_25 i) ∧ ∃ (rows_26 : List (List Int)), Ob (List.length a.G = List.length a.G ∧ rows_26.length = List.length
  a.G ∧ (∀ (r : List Int), r ∈ rows_26 → r.length = nat_lit 5) ∧ ∀ (i : Nat), i < List.length a.G → (El.fn (Rv.elemOf [IntKind.i64, IntKind.i64, IntKind.i64, IntKind.i64, IntKind.i64] a.G)).at i = Rv.elemOf [IntKind.i64,
  IntKind.i64, IntKind.i64, IntKind.i64, IntKind.i64] rows_26 i) ∧ Ob (rows_25.length ≤ nat_lit 1000 ∧ rows_26.length ≤ nat_lit 1000) ∧ (¬¬sameG v_9 v_10 rows_25 a.mb a.mm rows_26 → ∃ (rows_27 : List (List Int)), Ob
  (rows_18.length = rows_18.length ∧ rows_27.length = rows_18.length ∧ (∀ (r : List Int), r ∈ rows_27 → r.length = nat_lit 2) ∧ ∀ (i : Nat), i < rows_18.length → (El.fn (Rv.elemOf [IntKind.i64, IntKind.i64] rows_18)).at i
  = Rv.elemOf [IntKind.i64, IntKind.i64] rows_27 i) ∧ ∃ (rows_28 : List (List Int)), Ob (List.length a.S = List.length a.S ∧ rows_28.length = List.length a.S ∧ (∀ (r : List Int), r ∈ rows_28 → r.length = nat_lit 2) ∧ ∀ (i
  : Nat), i < List.length a.S → (El.fn (Rv.elemOf [IntKind.i64, IntKind.i64] a.S)).at i = Rv.elemOf [IntKind.i64, IntKind.i64] rows_28 i) ∧ Ob (rows_27.length ≤ nat_lit 1000 ∧ rows_28.length ≤ nat_lit 1000) ∧ (¬sameR
  rows_27 rows_28 → False) ∧ (¬¬sameR rows_27 rows_28 → ∃ (rows_29 : List (List Int)), Ob (rows_4.length = rows_4.length ∧ rows_29.length = rows_4.length ∧ (∀ (r : List Int), r ∈ rows_29 → r.length = nat_lit 5) ∧ ∀ (i :
  Nat), i < rows_4.length → (updL (El.fn (Rv.elemOf [IntKind.i64, IntKind.i64, IntKind.i64, IntKind.i64, IntKind.i64] rows_4)) (wrapZ n_7 (↑rows_4.length : Int)).toNat (nat_lit 0) [SV.i IntKind.i64 n_2, SV.i IntKind.i64
  n_3, SV.i IntKind.i64 n_4, SV.i IntKind.i64 n_5, SV.i IntKind.i64 n_6]).at i = Rv.elemOf [IntKind.i64, IntKind.i64, IntKind.i64, IntKind.i64, IntKind.i64] rows_29 i) ∧ Ob (F_OwnGrowth.named.pre ([Dat.z v_5, Dat.z v_6,
  Dat.l rows_29] ++ [])) ∧ ∀ (v_11 : Int), v_11 = v_5 → ∀ (v_12 : Int), v_12 = v_6 → Ob (PlainE rows_29.length (El.fn (Rv.elemOf [IntKind.i64, IntKind.i64, IntKind.i64, IntKind.i64, IntKind.i64] rows_29))) ∧ ∃ (rows_30 :
  List (List Int)), Ob (List.length a.S = List.length a.S ∧ rows_30.length = List.length a.S ∧ (∀ (r : List Int), r ∈ rows_30 → r.length = nat_lit 2) ∧ ∀ (i : Nat), i < List.length a.S → (El.fn (Rv.elemOf [IntKind.i64,
  IntKind.i64] a.S)).at i = Rv.elemOf [IntKind.i64, IntKind.i64] rows_30 i) ∧ Ob (F_Spans.named.pre [Dat.l rows_30]) ∧ Ob (PlainE rows_30.length (El.fn (Rv.elemOf [IntKind.i64, IntKind.i64] rows_30))) ∧ ∃ (rows_31 : List
  (List Int)), Ob (rows_29.length = rows_29.length ∧ rows_31.length = rows_29.length ∧ (∀ (r : List Int), r ∈ rows_31 → r.length = nat_lit 5) ∧ ∀ (i : Nat), i < rows_29.length → (El.fn (Rv.elemOf [IntKind.i64, IntKind.i64,
  IntKind.i64, IntKind.i64, IntKind.i64] rows_29)).at i = Rv.elemOf [IntKind.i64, IntKind.i64, IntKind.i64, IntKind.i64, IntKind.i64] rows_31 i) ∧ ∃ (rows_32 : List (List Int)), Ob (rows_30.length = rows_30.length ∧
  rows_32.length = rows_30.length ∧ (∀ (r : List Int), r ∈ rows_32 → r.length = nat_lit 2) ∧ ∀ (i : Nat), i < rows_30.length → (El.fn (Rv.elemOf [IntKind.i64, IntKind.i64] rows_30)).at i = Rv.elemOf [IntKind.i64,
  IntKind.i64] rows_32 i) ∧ Ob (rows_31.length ≤ nat_lit 1000 ∧ rows_32.length ≤ nat_lit 1000) ∧ ∃ (rows_33 : List (List Int)), Ob (rows_4.length = rows_4.length ∧ rows_33.length = rows_4.length ∧ (∀ (r : List Int), r ∈
  rows_33 → r.length = nat_lit 5) ∧ ∀ (i : Nat), i < rows_4.length → (updL (El.fn (Rv.elemOf [IntKind.i64, IntKind.i64, IntKind.i64, IntKind.i64, IntKind.i64] rows_4)) (wrapZ n_7 (↑rows_4.length : Int)).toNat (nat_lit 0)
  [SV.i IntKind.i64 n_2, SV.i IntKind.i64 n_3, SV.i IntKind.i64 n_4, SV.i IntKind.i64 n_5, SV.i IntKind.i64 n_6]).at i = Rv.elemOf [IntKind.i64, IntKind.i64, IntKind.i64, IntKind.i64, IntKind.i64] rows_33 i) ∧ ∃ (rows_34 :
  List (List Int)), Ob (List.length a.S = List.length a.S ∧ rows_34.length = List.length a.S ∧ (∀ (r : List Int), r ∈ rows_34 → r.length = nat_lit 2) ∧ ∀ (i : Nat), i < List.length a.S → (El.fn (Rv.elemOf [IntKind.i64,
  IntKind.i64] a.S)).at i = Rv.elemOf [IntKind.i64, IntKind.i64] rows_34 i) ∧ Ob (rows_33.length ≤ nat_lit 1000 ∧ rows_34.length ≤ nat_lit 1000) ∧ ∃ (rows_35 : List (List Int)), Ob (rows_29.length = rows_29.length ∧
  rows_35.length = rows_29.length ∧ (∀ (r : List Int), r ∈ rows_35 → r.length = nat_lit 5) ∧ ∀ (i : Nat), i < rows_29.length → (El.fn (Rv.elemOf [IntKind.i64, IntKind.i64, IntKind.i64, IntKind.i64, IntKind.i64]
  rows_29)).at i = Rv.elemOf [IntKind.i64, IntKind.i64, IntKind.i64, IntKind.i64, IntKind.i64] rows_35 i) ∧ Ob (rows_35.length ≤ nat_lit 1000) ∧ ∃ (rows_36 : List (List Int)), Ob (rows_4.length = rows_4.length ∧
  rows_36.length = rows_4.length ∧ (∀ (r : List Int), r ∈ rows_36 → r.length = nat_lit 5) ∧ ∀ (i : Nat), i < rows_4.length → (updL (El.fn (Rv.elemOf [IntKind.i64, IntKind.i64, IntKind.i64, IntKind.i64, IntKind.i64]
  rows_4)) (wrapZ n_7 (↑rows_4.length : Int)).toNat (nat_lit 0) [SV.i IntKind.i64 n_2, SV.i IntKind.i64 n_3, SV.i IntKind.i64 n_4, SV.i IntKind.i64 n_5, SV.i IntKind.i64 n_6]).at i = Rv.elemOf [IntKind.i64, IntKind.i64,
  IntKind.i64, IntKind.i64, IntKind.i64] rows_36 i) ∧ Ob (rows_36.length ≤ nat_lit 1000) ∧ (¬¬gErr v_11 v_12 rows_35 = gErr v_5 v_6 rows_36 → (¬¬(heat v_11 v_12 rows_31 rows_32 (nat_lit 0) = heat v_5 v_6 rows_33 rows_34
  (nat_lit 0) ∧ heat v_11 v_12 rows_31 rows_32 (nat_lit 1) = heat v_5 v_6 rows_33 rows_34 (nat_lit 1) ∧ True) → (¬¬hErr v_11 v_12 rows_31 rows_32 = hErr v_5 v_6 rows_33 rows_34 → ∃ (rows_37 : List (List Int)), Ob
  (rows_29.length = rows_29.length ∧ rows_37.length = rows_29.length ∧ (∀ (r : List Int), r ∈ rows_37 → r.length = nat_lit 5) ∧ ∀ (i : Nat), i < rows_29.length → (El.fn (Rv.elemOf [IntKind.i64, IntKind.i64, IntKind.i64,
  IntKind.i64, IntKind.i64] rows_29)).at i = Rv.elemOf [IntKind.i64, IntKind.i64, IntKind.i64, IntKind.i64, IntKind.i64] rows_37 i) ∧ ∃ (rows_38 : List (List Int)), Ob (rows_4.length = rows_4.length ∧ rows_38.length =
  rows_4.length ∧ (∀ (r : List Int), r ∈ rows_38 → r.length = nat_lit 5) ∧ ∀ (i : Nat), i < rows_4.length → (updL (El.fn (Rv.elemOf [IntKind.i64, IntKind.i64, IntKind.i64, IntKind.i64, IntKind.i64] rows_4)) (wrapZ n_7
  (↑rows_4.length : Int)).toNat (nat_lit 0) [SV.i IntKind.i64 n_2, SV.i IntKind.i64 n_3, SV.i IntKind.i64 n_4, SV.i IntKind.i64 n_5, SV.i IntKind.i64 n_6]).at i = Rv.elemOf [IntKind.i64, IntKind.i64, IntKind.i64,
  IntKind.i64, IntKind.i64] rows_38 i) ∧ Ob (rows_37.length ≤ nat_lit 1000 ∧ rows_38.length ≤ nat_lit 1000) ∧ (¬¬sameG v_11 v_12 rows_37 v_5 v_6 rows_38 → ∃ (rows_39 : List (List Int)), Ob (rows_30.length = rows_30.length
  ∧ rows_39.length = rows_30.length ∧ (∀ (r : List Int), r ∈ rows_39 → r.length = nat_lit 2) ∧ ∀ (i : Nat), i < rows_30.length → (El.fn (Rv.elemOf [IntKind.i64, IntKind.i64] rows_30)).at i = Rv.elemOf [IntKind.i64,
  IntKind.i64] rows_39 i) ∧ ∃ (rows_40 : List (List Int)), Ob (List.length a.S = List.length a.S ∧ rows_40.length = List.length a.S ∧ (∀ (r : List Int), r ∈ rows_40 → r.length = nat_lit 2) ∧ ∀ (i : Nat), i < List.length
  a.S → (El.fn (Rv.elemOf [IntKind.i64, IntKind.i64] a.S)).at i = Rv.elemOf [IntKind.i64, IntKind.i64] rows_40 i) ∧ Ob (rows_39.length ≤ nat_lit 1000 ∧ rows_40.length ≤ nat_lit 1000) ∧ (¬sameR rows_39 rows_40 → False) ∧
  (¬¬sameR rows_39 rows_40 → ∃ (rows_41 : List (List Int)), Ob (List.length a.G = List.length a.G ∧ rows_41.length = List.length a.G ∧ (∀ (r : List Int), r ∈ rows_41 → r.length = nat_lit 5) ∧ ∀ (i : Nat), i < List.length
  a.G → (El.fn (Rv.elemOf [IntKind.i64, IntKind.i64, IntKind.i64, IntKind.i64, IntKind.i64] a.G)).at i = Rv.elemOf [IntKind.i64, IntKind.i64, IntKind.i64, IntKind.i64, IntKind.i64] rows_41 i) ∧ Ob (F_OwnGrowth.named.pre
  ([Dat.z a.mb, Dat.z a.mm, Dat.l rows_41] ++ [])) ∧ ∀ (v_13 : Int), v_13 = a.mb → ∀ (v_14 : Int), v_14 = a.mm → Ob (PlainE rows_41.length (El.fn (Rv.elemOf [IntKind.i64, IntKind.i64, IntKind.i64, IntKind.i64, IntKind.i64]
  rows_41))) ∧ Ob (IsLst B x_1 rows_1.length (nat_lit 2) (Rv.elemOf [IntKind.i64, IntKind.i64] rows_1)) ∧ ∃ (rows_42 : List (List Int)), Ob (IsLst B x_1 rows_1.length (nat_lit 2) (Rv.elemOf [IntKind.i64, IntKind.i64]
  rows_1) ∧ rows_42.length = rows_1.length ∧ (∀ (r : List Int), r ∈ rows_42 → r.length = nat_lit 2) ∧ ∀ (i : Nat), i < rows_1.length → Rv.elemOf [IntKind.i64, IntKind.i64] rows_1 i = Rv.elemOf [IntKind.i64, IntKind.i64]
  rows_42 i) ∧ Ob (F_Spans.named.pre [Dat.l rows_42]) ∧ Ob (PlainE rows_42.length (El.fn (Rv.elemOf [IntKind.i64, IntKind.i64] rows_42))) ∧ ∃ (rows_43 : List (List Int)), Ob (rows_41.length = rows_41.length ∧
  rows_43.length = rows_41.length ∧ (∀ (r : List Int), r ∈ rows_43 → r.length = nat_lit 5) ∧ ∀ (i : Nat), i < rows_41.length → (El.fn (Rv.elemOf [IntKind.i64, IntKind.i64, IntKind.i64, IntKind.i64, IntKind.i64]
  rows_41)).at i = Rv.elemOf [IntKind.i64, IntKind.i64, IntKind.i64, IntKind.i64, IntKind.i64] rows_43 i) ∧ ∃ (rows_44 : List (List Int)), Ob (rows_42.length = rows_42.length ∧ rows_44.length = rows_42.length ∧ (∀ (r :
  List Int), r ∈ rows_44 → r.length = nat_lit 2) ∧ ∀ (i : Nat), i < rows_42.length → (El.fn (Rv.elemOf [IntKind.i64, IntKind.i64] rows_42)).at i = Rv.elemOf [IntKind.i64, IntKind.i64] rows_44 i) ∧ Ob (rows_43.length ≤
  nat_lit 1000 ∧ rows_44.length ≤ nat_lit 1000) ∧ Ob (IsLst B x_1 rows_1.length (nat_lit 2) (Rv.elemOf [IntKind.i64, IntKind.i64] rows_1)) ∧ ∃ (rows_45 : List (List Int)), Ob (List.length a.G = List.length a.G ∧
  rows_45.length = List.length a.G ∧ (∀ (r : List Int), r ∈ rows_45 → r.length = nat_lit 5) ∧ ∀ (i : Nat), i < List.length a.G → (El.fn (Rv.elemOf [IntKind.i64, IntKind.i64, IntKind.i64, IntKind.i64, IntKind.i64] a.G)).at
  i = Rv.elemOf [IntKind.i64, IntKind.i64, IntKind.i64, IntKind.i64, IntKind.i64] rows_45 i) ∧ ∃ (rows_46 : List (List Int)), Ob (IsLst B x_1 rows_1.length (nat_lit 2) (Rv.elemOf [IntKind.i64, IntKind.i64] rows_1) ∧
  rows_46.length = rows_1.length ∧ (∀ (r : List Int), r ∈ rows_46 → r.length = nat_lit 2) ∧ ∀ (i : Nat), i < rows_1.length → Rv.elemOf [IntKind.i64, IntKind.i64] rows_1 i = Rv.elemOf [IntKind.i64, IntKind.i64] rows_46 i) ∧
  Ob (rows_45.length ≤ nat_lit 1000 ∧ rows_46.length ≤ nat_lit 1000) ∧ ∃ (rows_47 : List (List Int)), Ob (rows_41.length = rows_41.length ∧ rows_47.length = rows_41.length ∧ (∀ (r : List Int), r ∈ rows_47 → r.length =
  nat_lit 5) ∧ ∀ (i : Nat), i < rows_41.length → (El.fn (Rv.elemOf [IntKind.i64, IntKind.i64, IntKind.i64, IntKind.i64, IntKind.i64] rows_41)).at i = Rv.elemOf [IntKind.i64, IntKind.i64, IntKind.i64, IntKind.i64,
  IntKind.i64] rows_47 i) ∧ Ob (rows_47.length ≤ nat_lit 1000) ∧ ∃ (rows_48 : List (List Int)), Ob (List.length a.G = List.length a.G ∧ rows_48.length = List.length a.G ∧ (∀ (r : List Int), r ∈ rows_48 → r.length = nat_lit
  5) ∧ ∀ (i : Nat), i < List.length a.G → (El.fn (Rv.elemOf [IntKind.i64, IntKind.i64, IntKind.i64, IntKind.i64, IntKind.i64] a.G)).at i = Rv.elemOf [IntKind.i64, IntKind.i64, IntKind.i64, IntKind.i64, IntKind.i64] rows_48
  i) ∧ Ob (rows_48.length ≤ nat_lit 1000) ∧ (¬¬gErr v_13 v_14 rows_47 = gErr a.mb a.mm rows_48 → (¬¬(heat v_13 v_14 rows_43 rows_44 (nat_lit 0) = heat a.mb a.mm rows_45 rows_46 (nat_lit 0) ∧ heat v_13 v_14 rows_43 rows_44
  (nat_lit 1) = heat a.mb a.mm rows_45 rows_46 (nat_lit 1) ∧ True) → (¬¬hErr v_13 v_14 rows_43 rows_44 = hErr a.mb a.mm rows_45 rows_46 → ∃ (rows_49 : List (List Int)), Ob (rows_41.length = rows_41.length ∧ rows_49.length
  = rows_41.length ∧ (∀ (r : List Int), r ∈ rows_49 → r.length = nat_lit 5) ∧ ∀ (i : Nat), i < rows_41.length → (El.fn (Rv.elemOf [IntKind.i64, IntKind.i64, IntKind.i64, IntKind.i64, IntKind.i64] rows_41)).at i = Rv.elemOf
  [IntKind.i64, IntKind.i64, IntKind.i64, IntKind.i64, IntKind.i64] rows_49 i) ∧ ∃ (rows_50 : List (List Int)), Ob (List.length a.G = List.length a.G ∧ rows_50.length = List.length a.G ∧ (∀ (r : List Int), r ∈ rows_50 →
  r.length = nat_lit 5) ∧ ∀ (i : Nat), i < List.length a.G → (El.fn (Rv.elemOf [IntKind.i64, IntKind.i64, IntKind.i64, IntKind.i64, IntKind.i64] a.G)).at i = Rv.elemOf [IntKind.i64, IntKind.i64, IntKind.i64, IntKind.i64,
  IntKind.i64] rows_50 i) ∧ Ob (rows_49.length ≤ nat_lit 1000 ∧ rows_50.length ≤ nat_lit 1000) ∧ (¬¬sameG v_13 v_14 rows_49 a.mb a.mm rows_50 → Ob (IsLst B x_1 rows_1.length (nat_lit 2) (Rv.elemOf [IntKind.i64,
  IntKind.i64] rows_1)) ∧ ∃ (rows_51 : List (List Int)), Ob (rows_42.length = rows_42.length ∧ rows_51.length = rows_42.length ∧ (∀ (r : List Int), r ∈ rows_51 → r.length = nat_lit 2) ∧ ∀ (i : Nat), i < rows_42.length →
  (El.fn (Rv.elemOf [IntKind.i64, IntKind.i64] rows_42)).at i = Rv.elemOf [IntKind.i64, IntKind.i64] rows_51 i) ∧ ∃ (rows_52 : List (List Int)), Ob (IsLst B x_1 rows_1.length (nat_lit 2) (Rv.elemOf [IntKind.i64,
  IntKind.i64] rows_1) ∧ rows_52.length = rows_1.length ∧ (∀ (r : List Int), r ∈ rows_52 → r.length = nat_lit 2) ∧ ∀ (i : Nat), i < rows_1.length → Rv.elemOf [IntKind.i64, IntKind.i64] rows_1 i = Rv.elemOf [IntKind.i64,
  IntKind.i64] rows_52 i) ∧ Ob (rows_51.length ≤ nat_lit 1000 ∧ rows_52.length ≤ nat_lit 1000) ∧ (¬sameR rows_51 rows_52 → False) ∧ (¬¬sameR rows_51 rows_52 → Ob (hasTabs tab1 B) ∧ True)) ∧ (¬sameG v_13 v_14 rows_49 a.mb
  a.mm rows_50 → False)) ∧ (¬hErr v_13 v_14 rows_43 rows_44 = hErr a.mb a.mm rows_45 rows_46 → False)) ∧ (¬(heat v_13 v_14 rows_43 rows_44 (nat_lit 0) = heat a.mb a.mm rows_45 rows_46 (nat_lit 0) ∧ heat v_13 v_14 rows_43
  rows_44 (nat_lit 1) = heat a.mb a.mm rows_45 rows_46 (nat_lit 1) ∧ True) → False)) ∧ (¬gErr v_13 v_14 rows_47 = gErr a.mb a.mm rows_48 → False))) ∧ (¬sameG v_11 v_12 rows_37 v_5 v_6 rows_38 → False)) ∧ (¬hErr v_11 v_12
  rows_31 rows_32 = hErr v_5 v_6 rows_33 rows_34 → False)) ∧ (¬(heat v_11 v_12 rows_31 rows_32 (nat_lit 0) = heat v_5 v_6 rows_33 rows_34 (nat_lit 0) ∧ heat v_11 v_12 rows_31 rows_32 (nat_lit 1) = heat v_5 v_6 rows_33
  rows_34 (nat_lit 1) ∧ True) → False)) ∧ (¬gErr v_11 v_12 rows_35 = gErr v_5 v_6 rows_36 → False))) ∧ (¬sameG v_9 v_10 rows_25 a.mb a.mm rows_26 → False)) ∧ (¬hErr v_9 v_10 rows_19 rows_20 = hErr a.mb a.mm rows_21 rows_22
  → False)) ∧ (¬(heat v_9 v_10 rows_19 rows_20 (nat_lit 0) = heat a.mb a.mm rows_21 rows_22 (nat_lit 0) ∧ heat v_9 v_10 rows_19 rows_20 (nat_lit 1) = heat a.mb a.mm rows_21 rows_22 (nat_lit 1) ∧ True) → False)) ∧ (¬gErr
  v_9 v_10 rows_23 = gErr a.mb a.mm rows_24 → False))) ∧ (¬sameG v_7 v_8 rows_13 n n_1 rows_14 → False)) ∧ (¬hErr v_7 v_8 rows_7 rows_8 = hErr n n_1 rows_9 rows_10 → False)) ∧ (¬(heat v_7 v_8 rows_7 rows_8 (nat_lit 0) =
  heat n n_1 rows_9 rows_10 (nat_lit 0) ∧ heat v_7 v_8 rows_7 rows_8 (nat_lit 1) = heat n n_1 rows_9 rows_10 (nat_lit 1) ∧ True) → False)) ∧ (¬gErr v_7 v_8 rows_11 = gErr n n_1 rows_12 → False)))) ∧ ((20 : Int) <
  (↑rows.length : Int) → Ob (hasTabs tab1 B) ∧ True)

set_option linter.unusedSimpArgs false in
set_option maxRecDepth 4000 in
set_option maxHeartbeats 400000 in
theorem v_law : V_law := by
  unfold V_law
  intro B htab gb gm xg R hg hog hrg s0 s1 s2 s3 s4 k xd D hd hod hrd xz N hz hoz hrz hN
  refine ⟨⟨hg⟩, fun h1 => ⟨⟨hd⟩, fun h2 => ⟨⟨htab⟩, trivial⟩, fun h2 => ?_⟩, fun h1 => ⟨⟨htab⟩, trivial⟩⟩
  refine ⟨N, ⟨⟨hz, rfl, hrz, fun _ _ => rfl⟩⟩, ⟨hN⟩, ⟨show ¬ (false = true) from fun h => by cases h⟩, ?_⟩
  obtain ⟨a, ha⟩ : ∃ a, tideK N N.length = a := ⟨_, rfl⟩
  rw [ha]
  clear ha
  intro v hv v1 hv1 v2 hv2
  clear hv hv1 hv2
  obtain ⟨G, hG⟩ : ∃ l, grR a = l := ⟨_, rfl⟩
  have hl := grR_len a
  have hrG := grR_row a
  rw [hG] at hl hrG
  rw [hG]
  clear hG
  refine ⟨⟨by show (30 : Int) ≤ 9223372036854775807; omega⟩, ?_⟩
  intro v3 hv3 v4 hv4
  have h4 : 0 ≤ v4 ∧ v4 ≤ 29 := by
    have h := belowV_in v 30
    rw [← hv4] at h
    clear hv4 hv3
    omega
  clear hv3 hv4
  constructor
  · refine ⟨⟨v4.toNat, v3, [], v1, v2, G⟩, ⟨⟨by show 0 + v4.toNat ≤ 30; omega, hl.1, hl.2, fun r hr => by simp at hr, hrG⟩⟩, ?_⟩
    dsimp only
    repeat' (with_reducible apply And.intro)
    all_goals first | exact ⟨rfl⟩ | exact ⟨plain_elemOf _ _ _⟩ | exact ⟨⟨rfl, fun _ _ => rfl⟩⟩ | exact ⟨hd⟩ | exact ⟨hg⟩ | exact ⟨by omega⟩ | trivial
  clear hl hrG h4
  intro ⟨i, q, S, mb, mm, G⟩
  dsimp only
  intro ⟨e1, e2, e3, hrS, hrG⟩
  intros
  constructor
  · intro h3
    obtain ⟨j, rfl⟩ : ∃ j, i = j + 1 := ⟨i - 1, by omega⟩
    refine ⟨⟨by show _ ∧ _ ∧ _ ∧ _; omega⟩, ?_⟩
    intro v5 hv5 v6 hv6 v7 hv7
    clear hv5 hv6 hv7
    refine ⟨⟨rfl, fun _ _ => rfl⟩, ⟨by omega⟩, ⟨rfl⟩, ⟨by simp only [InR]; omega⟩, ⟨j, v5, S ++ [[v6, v7]], mb, mm, G⟩, ?_⟩
    have hl : (S ++ [[v6, v7]]).length = S.length + 1 := by simp
    have hr : ∀ r ∈ S ++ [[v6, v7]], r.length = 2 := fun r hr => by
      rcases List.mem_append.1 hr with h | h
      · exact hrS r h
      · rw [List.mem_singleton.1 h]; rfl
    have hs : ∀ i, i < (S ++ [[v6, v7]]).length → (behind S.length (.fn (Rv.elemOf [.i64, .i64] S)) 1 (litEl [SV.i .i64 v6, SV.i .i64 v7] 2 1)).at i = (El.fn (Rv.elemOf [.i64, .i64] (S ++ [[v6, v7]]))).at i := fun i hi => snoc2_at (by omega)
    dsimp only
    refine ⟨⟨⟨by omega, e2, e3, hr, hrG⟩, by omega⟩, ?_⟩
    repeat' (with_reducible apply And.intro)
    all_goals first | exact ⟨rfl⟩ | exact ⟨plain_elemOf _ _ _⟩ | exact ⟨⟨rfl, fun _ _ => rfl⟩⟩ | exact ⟨⟨hl.symm, hs⟩⟩ | exact ⟨hl.symm⟩ | exact ⟨hd⟩ | exact ⟨hg⟩ | exact ⟨by omega⟩ | trivial
  intro h3
  have hw := wrapZ_in k (n := (G.length : Int)) (by omega)
  refine ⟨G, ⟨⟨rfl, rfl, hrG, fun _ _ => rfl⟩⟩, ⟨by show G.length ≤ 1000; omega⟩, ?_⟩
  intro w hw1 w2 hw2
  subst hw1 hw2
  obtain ⟨p, hp⟩ : ∃ p, (wrapZ k (G.length : Int)).toNat = p := ⟨_, rfl⟩
  have hpG : p < G.length := by omega
  have hw0 := hw.1
  rw [hp]
  have hput := put_at hpG s0 s1 s2 s3 s4
  have hrH := set_row hrG (x := [s0, s1, s2, s3, s4]) rfl p
  have hlH : (G.set p [s0, s1, s2, s3, s4]).length = G.length := List.length_set
  generalize hH : G.set p [s0, s1, s2, s3, s4] = H at *
  clear hH hw hp
  have c1 : R.length ≤ 1000 := by omega
  have c2 : D.length ≤ 1000 := by omega
  have c3 : G.length ≤ 1000 := by omega
  have c4 : S.length ≤ 1000 := by omega
  have c5 : H.length ≤ 1000 := by omega
  refine ⟨⟨by omega⟩, ⟨⟨hw0, hpG⟩⟩, ⟨⟨hpG, rfl⟩⟩, ?_⟩
  clear h1 h2 h3 e1 e2 e3 hw0 hpG
  repeat (first
    | exact ⟨⟨htab⟩, trivial⟩
    | refine ⟨⟨hog⟩, ?_⟩
    | refine ⟨⟨hod⟩, ?_⟩
    | refine ⟨⟨hg⟩, ?_⟩
    | refine ⟨⟨hd⟩, ?_⟩
    | refine ⟨R, ⟨⟨hg, rfl, hrg, fun _ _ => rfl⟩⟩, ?_⟩
    | refine ⟨D, ⟨⟨hd, rfl, hrd, fun _ _ => rfl⟩⟩, ?_⟩
    | refine ⟨R, ⟨⟨rfl, rfl, hrg, fun _ _ => rfl⟩⟩, ?_⟩
    | refine ⟨D, ⟨⟨rfl, rfl, hrd, fun _ _ => rfl⟩⟩, ?_⟩
    | refine ⟨H, ⟨⟨rfl, hlH, hrH, hput⟩⟩, ?_⟩
    | refine ⟨H, ⟨⟨rfl, rfl, hrH, fun _ _ => rfl⟩⟩, ?_⟩
    | refine ⟨G, ⟨⟨rfl, rfl, hrG, fun _ _ => rfl⟩⟩, ?_⟩
    | refine ⟨S, ⟨⟨rfl, rfl, hrS, fun _ _ => rfl⟩⟩, ?_⟩
    | refine ⟨⟨plain_elemOf _ _ _⟩, ?_⟩
    | refine ⟨⟨⟨c1, c1⟩⟩, ?_⟩
    | refine ⟨⟨⟨c1, c2⟩⟩, ?_⟩
    | refine ⟨⟨⟨c2, c2⟩⟩, ?_⟩
    | refine ⟨⟨⟨c3, c3⟩⟩, ?_⟩
    | refine ⟨⟨⟨c3, c4⟩⟩, ?_⟩
    | refine ⟨⟨⟨c4, c4⟩⟩, ?_⟩
    | refine ⟨⟨⟨c5, c5⟩⟩, ?_⟩
    | refine ⟨⟨⟨c5, c4⟩⟩, ?_⟩
    | refine ⟨⟨⟨c3, c2⟩⟩, ?_⟩
    | refine ⟨⟨c1⟩, ?_⟩
    | refine ⟨⟨c2⟩, ?_⟩
    | refine ⟨⟨c3⟩, ?_⟩
    | refine ⟨⟨c4⟩, ?_⟩
    | refine ⟨⟨c5⟩, ?_⟩
    | refine ⟨fun _ => ?_, fun h => h rfl⟩
    | refine ⟨fun _ => ?_, fun h => h ⟨rfl, rfl, trivial⟩⟩
    | refine ⟨fun _ => ?_, fun h => h (sameG_refl _ _ _)⟩
    | refine ⟨fun h => h (sameR_refl _), fun _ => ?_⟩
    | (intro w hw; subst hw))

theorem e_law : V_law = needL P [F_Wrap, F_Heat, F_rHeat, F_Check, F_rCheck, F_SameGrowths, F_SameSpans] [F_TideOf.named, F_GrowthOf.named, F_Below.named, F_Span.named, F_OwnGrowth.named, F_Spans.named] 6 tab1 A_law F_law := by kernel_rfl

theorem n_law : Ob (needL P [F_Wrap, F_Heat, F_rHeat, F_Check, F_rCheck, F_SameGrowths, F_SameSpans] [F_TideOf.named, F_GrowthOf.named, F_Below.named, F_Span.named, F_OwnGrowth.named, F_Spans.named] 6 tab1 A_law F_law) := by
  rw [← e_law]
  exact ⟨v_law⟩

theorem b_law : ((P.funcs[3]?).any fun fn => fn.body.isSome) = true := by kernel_rfl

theorem l_law : ([F_Wrap, F_Heat, F_rHeat, F_Check, F_rCheck, F_SameGrowths, F_SameSpans].all fun G => !Nat.beq G.g 6) = true := rfl
theorem le_law : ([F_TideOf.named, F_GrowthOf.named, F_Below.named, F_Span.named, F_OwnGrowth.named, F_Spans.named].all fun G => !Nat.beq G.g 6) = true := rfl
theorem c_law : ∀ F ∈ [F_Wrap, F_Heat, F_rHeat, F_Check, F_rCheck, F_SameGrowths, F_SameSpans], F.Ok P := by
  intro F h
  simp only [List.mem_cons, List.not_mem_nil, or_false] at h
  rcases h with rfl | rfl | rfl | rfl | rfl | rfl | rfl
  · exact Wrap_ok
  · exact Heat_ok
  · exact rHeat_ok
  · exact Check_ok
  · exact rCheck_ok
  · exact SameGrowths_ok
  · exact SameSpans_ok

theorem ce_law : ∀ F ∈ [F_TideOf.named, F_GrowthOf.named, F_Below.named, F_Span.named, F_OwnGrowth.named, F_Spans.named], F.Ok P := by
  intro F h
  simp only [List.mem_cons, List.not_mem_nil, or_false] at h
  rcases h with rfl | rfl | rfl | rfl | rfl | rfl
  · exact TideOf_ok.named
  · exact GrowthOf_ok.named
  · exact Below_ok.named
  · exact Span_ok.named
  · exact OwnGrowth_ok.named
  · exact Spans_ok.named


end Go.Proofs.YtgdnhmilhpnbjaaDoor.Sy
