/- The law GrowthSettles. -/
import Derived.Test.YtkdnmcppkoejjaaDoorSyP2
import Derived.Test.YtkdnmcppkoejjaaDoorGrM
import Derived.Test.YtkdnmcppkoejjaaDoorGrA
import Derived.Test.YtkdnmcppkoejjaaDoorGrT
import Derived.Test.YtkdnmcppkoejjaaDoorGrU
import Derived.Test.YtkdnmcppkoejjaaDoorGrV
import Derived.KernelRfl
import Derived.Test.YtkdnmcppkoejjaaDoorProg
namespace Go.Proofs.YtkdnmcppkoejjaaDoor.Sy
open Go Go.Rv
set_option linter.unusedVariables false

def g64 : List Int := [0, 1, 56, 2, 57, 49, 28, 3, 61, 58, 42, 50, 38, 29, 17, 4, 62, 47, 59, 36, 45, 43, 51, 22, 53, 39, 33, 30, 24, 18, 12, 5, 63, 55, 48, 27, 60, 41, 37, 16, 46, 35, 44, 21, 52, 32, 23, 11, 54, 26, 40, 15, 34, 20, 31, 10, 25, 14, 19, 9, 13, 8, 7, 6]
def tab1 : Tabs := [(0, .u8, g64)]

noncomputable def F_law : LawF := ⟨4, [.agg [.i .i64, .i .i64, .i .i64, .i .i64], .one (.l [.i64, .i64]), .one (.l [.i64, .i64]), .one (.l [.i64])], fun l => match l with | [.z lo, .z hi, .z rate, .z room, .l D, .l L, .l N] => N.length ≤ 9223372036854775807 | _ => False⟩
noncomputable def A_law : List SV → List Dat → Nat → Ann := fun xs ds n => match xs with
  | [.agg [_, _, _, _], .lst x _ _ _, .lst y _ _ _, .lst z _ _ _] => match ds with
    | [.z lo, .z hi, .z rate, .z room, .l D, .l L, .l N] => match n with
      | 7 => ⟨Unit, fun _ => [], fun _ => [], fun _ => True, fun _ => 0, 6⟩
      | _ => noAnn
    | _ => noAnn
  | _ => noAnn

def V_law : Prop :=
  ∀ (B : RW), hasTabs tab1 B → ∀ (n n_1 n_2 n_3 : Int) (x : RV) (rows : List (List Int)), IsLst B x rows.length ((2 : Nat)) (Rv.elemOf [IntKind.i64, IntKind.i64] rows) → oneB x = true → (∀ (row : List Int), row ∈ rows →
  row.length = (2 : Nat)) → ∀ (x_1 : RV) (rows_1 : List (List Int)), IsLst B x_1 rows_1.length ((2 : Nat)) (Rv.elemOf [IntKind.i64, IntKind.i64] rows_1) → oneB x_1 = true → (∀ (row : List Int), row ∈ rows_1 → row.length =
  (2 : Nat)) → ∀ (x_2 : RV) (rows_2 : List (List Int)), IsLst B x_2 rows_2.length ((1 : Nat)) (Rv.elemOf [IntKind.i64] rows_2) → oneB x_2 = true → (∀ (row : List Int), row ∈ rows_2 → row.length = (1 : Nat)) → rows_2.length
  ≤ (9223372036854775807 : Nat) → Ob (IsLst B x rows.length ((2 : Nat)) (Rv.elemOf [IntKind.i64, IntKind.i64] rows)) ∧ (¬(500 : Int) < (↑rows.length : Int) → Ob (IsLst B x_1 rows_1.length ((2 : Nat)) (Rv.elemOf
  [IntKind.i64, IntKind.i64] rows_1)) ∧ ((500 : Int) < (↑rows_1.length : Int) → Ob (hasTabs tab1 B) ∧ True) ∧ (¬(500 : Int) < (↑rows_1.length : Int) → ∃ (rows_3 : List (List Int)), Ob (IsLst B x_2 rows_2.length ((1 : Nat))
  (Rv.elemOf [IntKind.i64] rows_2) ∧ rows_3.length = rows_2.length ∧ (∀ (r : List Int), r ∈ rows_3 → r.length = (1 : Nat)) ∧ ∀ (i : Nat), i < rows_2.length → Rv.elemOf [IntKind.i64] rows_2 i = Rv.elemOf [IntKind.i64]
  rows_3 i) ∧ Ob (F_TideOf.named.pre [Dat.l rows_3]) ∧ Ob (F_nurseryOf.named.pre ([Dat.z (tideK rows_3 rows_3.length)] ++ [Dat.z (12 : Int)])) ∧ ∀ (v : Int), v = nurQ (tideK rows_3 rows_3.length) (12 : Int) (nurN (tideK
  rows_3 rows_3.length) (12 : Int)).toNat → ∀ (v_1 : Int), v_1 = nurLow (tideK rows_3 rows_3.length) → ∀ (v_2 : Int), v_2 = nurHigh (tideK rows_3 rows_3.length) → ∀ (v_3 : Int), v_3 = nurRate (tideK rows_3 rows_3.length) →
  ∀ (v_4 : Int), v_4 = nurRoom (tideK rows_3 rows_3.length) → Ob (oneB x = true) ∧ Ob (oneB x = true) ∧ Ob (oneB x_1 = true) ∧ Ob (oneB x_1 = true) ∧ Ob (IsLst B x rows.length ((2 : Nat)) (Rv.elemOf [IntKind.i64,
  IntKind.i64] rows)) ∧ ∃ (rows_4 : List (List Int)), Ob (IsLst B x rows.length ((2 : Nat)) (Rv.elemOf [IntKind.i64, IntKind.i64] rows) ∧ rows_4.length = rows.length ∧ (∀ (r : List Int), r ∈ rows_4 → r.length = (2 : Nat))
  ∧ ∀ (i : Nat), i < rows.length → Rv.elemOf [IntKind.i64, IntKind.i64] rows i = Rv.elemOf [IntKind.i64, IntKind.i64] rows_4 i) ∧ Ob (F_Spans.named.pre [Dat.l rows_4]) ∧ Ob (PlainE rows_4.length (El.fn (Rv.elemOf
  [IntKind.i64, IntKind.i64] rows_4))) ∧ Ob (IsLst B x_1 rows_1.length ((2 : Nat)) (Rv.elemOf [IntKind.i64, IntKind.i64] rows_1)) ∧ ∃ (rows_5 : List (List Int)), Ob (IsLst B x_1 rows_1.length ((2 : Nat)) (Rv.elemOf
  [IntKind.i64, IntKind.i64] rows_1) ∧ rows_5.length = rows_1.length ∧ (∀ (r : List Int), r ∈ rows_5 → r.length = (2 : Nat)) ∧ ∀ (i : Nat), i < rows_1.length → Rv.elemOf [IntKind.i64, IntKind.i64] rows_1 i = Rv.elemOf
  [IntKind.i64, IntKind.i64] rows_5 i) ∧ Ob (F_Spans.named.pre [Dat.l rows_5]) ∧ ∃ (rows_6 : List (List Int)), Ob (rows_4.length = rows_4.length ∧ rows_6.length = rows_4.length ∧ (∀ (r : List Int), r ∈ rows_6 → r.length =
  nat_lit 2) ∧ ∀ (i : Nat), i < rows_4.length → (El.fn (Rv.elemOf [IntKind.i64, IntKind.i64] rows_4)).at i = Rv.elemOf [IntKind.i64, IntKind.i64] rows_6 i) ∧ ∃ (rows_7 : List (List Int)), Ob (rows_5.length = rows_5.length
  ∧ rows_7.length = rows_5.length ∧ (∀ (r : List Int), r ∈ rows_7 → r.length = nat_lit 2) ∧ ∀ (i : Nat), i < rows_5.length → (El.fn (Rv.elemOf [IntKind.i64, IntKind.i64] rows_5)).at i = Rv.elemOf [IntKind.i64, IntKind.i64]
  rows_7 i) ∧ Ob (rows_6.length ≤ nat_lit 1000 ∧ rows_7.length ≤ nat_lit 1000) ∧ Ob (IsLst B x rows.length (nat_lit 2) (Rv.elemOf [IntKind.i64, IntKind.i64] rows)) ∧ Ob (IsLst B x_1 rows_1.length (nat_lit 2) (Rv.elemOf
  [IntKind.i64, IntKind.i64] rows_1)) ∧ ∃ (rows_8 : List (List Int)), Ob (IsLst B x rows.length (nat_lit 2) (Rv.elemOf [IntKind.i64, IntKind.i64] rows) ∧ rows_8.length = rows.length ∧ (∀ (r : List Int), r ∈ rows_8 →
  r.length = nat_lit 2) ∧ ∀ (i : Nat), i < rows.length → Rv.elemOf [IntKind.i64, IntKind.i64] rows i = Rv.elemOf [IntKind.i64, IntKind.i64] rows_8 i) ∧ ∃ (rows_9 : List (List Int)), Ob (IsLst B x_1 rows_1.length (nat_lit
  2) (Rv.elemOf [IntKind.i64, IntKind.i64] rows_1) ∧ rows_9.length = rows_1.length ∧ (∀ (r : List Int), r ∈ rows_9 → r.length = nat_lit 2) ∧ ∀ (i : Nat), i < rows_1.length → Rv.elemOf [IntKind.i64, IntKind.i64] rows_1 i =
  Rv.elemOf [IntKind.i64, IntKind.i64] rows_9 i) ∧ Ob (rows_8.length ≤ nat_lit 1000 ∧ rows_9.length ≤ nat_lit 1000) ∧ (¬¬(setLo n n_1 n_2 n_3 rows_6 rows_7 = setLo n n_1 n_2 n_3 rows_8 rows_9 ∧ setHi n n_1 n_2 n_3 rows_6
  rows_7 = setHi n n_1 n_2 n_3 rows_8 rows_9 ∧ True) → (¬¬setErr n n_1 n_2 n_3 rows_6 rows_7 = setErr n n_1 n_2 n_3 rows_8 rows_9 → ∃ (rows_10 : List (List Int)), Ob (rows_4.length = rows_4.length ∧ rows_10.length =
  rows_4.length ∧ (∀ (r : List Int), r ∈ rows_10 → r.length = nat_lit 2) ∧ ∀ (i : Nat), i < rows_4.length → (El.fn (Rv.elemOf [IntKind.i64, IntKind.i64] rows_4)).at i = Rv.elemOf [IntKind.i64, IntKind.i64] rows_10 i) ∧ ∃
  (rows_11 : List (List Int)), Ob (IsLst B x rows.length (nat_lit 2) (Rv.elemOf [IntKind.i64, IntKind.i64] rows) ∧ rows_11.length = rows.length ∧ (∀ (r : List Int), r ∈ rows_11 → r.length = nat_lit 2) ∧ ∀ (i : Nat), i <
  rows.length → Rv.elemOf [IntKind.i64, IntKind.i64] rows i = Rv.elemOf [IntKind.i64, IntKind.i64] rows_11 i) ∧ Ob (rows_10.length ≤ nat_lit 1000 ∧ rows_11.length ≤ nat_lit 1000) ∧ (¬¬sameR rows_10 rows_11 → ∃ (rows_12 :
  List (List Int)), Ob (rows_5.length = rows_5.length ∧ rows_12.length = rows_5.length ∧ (∀ (r : List Int), r ∈ rows_12 → r.length = nat_lit 2) ∧ ∀ (i : Nat), i < rows_5.length → (El.fn (Rv.elemOf [IntKind.i64,
  IntKind.i64] rows_5)).at i = Rv.elemOf [IntKind.i64, IntKind.i64] rows_12 i) ∧ ∃ (rows_13 : List (List Int)), Ob (IsLst B x_1 rows_1.length (nat_lit 2) (Rv.elemOf [IntKind.i64, IntKind.i64] rows_1) ∧ rows_13.length =
  rows_1.length ∧ (∀ (r : List Int), r ∈ rows_13 → r.length = nat_lit 2) ∧ ∀ (i : Nat), i < rows_1.length → Rv.elemOf [IntKind.i64, IntKind.i64] rows_1 i = Rv.elemOf [IntKind.i64, IntKind.i64] rows_13 i) ∧ Ob
  (rows_12.length ≤ nat_lit 1000 ∧ rows_13.length ≤ nat_lit 1000) ∧ (¬sameR rows_12 rows_13 → False) ∧ (¬¬sameR rows_12 rows_13 → ∃ (rows_14 : List (List Int)), Ob ((nurN (tideK rows_3 rows_3.length) (12 : Int)).toNat =
  (nurN (tideK rows_3 rows_3.length) (12 : Int)).toNat ∧ rows_14.length = (nurN (tideK rows_3 rows_3.length) (12 : Int)).toNat ∧ (∀ (r : List Int), r ∈ rows_14 → r.length = nat_lit 2) ∧ ∀ (i : Nat), i < (nurN (tideK rows_3
  rows_3.length) (12 : Int)).toNat → (El.fn (Rv.elemOf [IntKind.i64, IntKind.i64] (nurD (tideK rows_3 rows_3.length) (12 : Int) (nurN (tideK rows_3 rows_3.length) (12 : Int)).toNat))).at i = Rv.elemOf [IntKind.i64,
  IntKind.i64] rows_14 i) ∧ Ob (F_Spans.named.pre [Dat.l rows_14]) ∧ Ob (PlainE rows_14.length (El.fn (Rv.elemOf [IntKind.i64, IntKind.i64] rows_14))) ∧ ∃ (rows_15 : List (List Int)), Ob ((nurN (tideK rows_3 rows_3.length)
  (12 : Int)).toNat = (nurN (tideK rows_3 rows_3.length) (12 : Int)).toNat ∧ rows_15.length = (nurN (tideK rows_3 rows_3.length) (12 : Int)).toNat ∧ (∀ (r : List Int), r ∈ rows_15 → r.length = nat_lit 2) ∧ ∀ (i : Nat), i <
  (nurN (tideK rows_3 rows_3.length) (12 : Int)).toNat → (El.fn (Rv.elemOf [IntKind.i64, IntKind.i64] (nurL (tideK rows_3 rows_3.length) (12 : Int) (nurN (tideK rows_3 rows_3.length) (12 : Int)).toNat))).at i = Rv.elemOf
  [IntKind.i64, IntKind.i64] rows_15 i) ∧ Ob (F_Spans.named.pre [Dat.l rows_15]) ∧ ∃ (rows_16 : List (List Int)), Ob (rows_14.length = rows_14.length ∧ rows_16.length = rows_14.length ∧ (∀ (r : List Int), r ∈ rows_16 →
  r.length = nat_lit 2) ∧ ∀ (i : Nat), i < rows_14.length → (El.fn (Rv.elemOf [IntKind.i64, IntKind.i64] rows_14)).at i = Rv.elemOf [IntKind.i64, IntKind.i64] rows_16 i) ∧ ∃ (rows_17 : List (List Int)), Ob (rows_15.length
  = rows_15.length ∧ rows_17.length = rows_15.length ∧ (∀ (r : List Int), r ∈ rows_17 → r.length = nat_lit 2) ∧ ∀ (i : Nat), i < rows_15.length → (El.fn (Rv.elemOf [IntKind.i64, IntKind.i64] rows_15)).at i = Rv.elemOf
  [IntKind.i64, IntKind.i64] rows_17 i) ∧ Ob (rows_16.length ≤ nat_lit 1000 ∧ rows_17.length ≤ nat_lit 1000) ∧ ∃ (rows_18 : List (List Int)), Ob ((nurN (tideK rows_3 rows_3.length) (12 : Int)).toNat = (nurN (tideK rows_3
  rows_3.length) (12 : Int)).toNat ∧ rows_18.length = (nurN (tideK rows_3 rows_3.length) (12 : Int)).toNat ∧ (∀ (r : List Int), r ∈ rows_18 → r.length = nat_lit 2) ∧ ∀ (i : Nat), i < (nurN (tideK rows_3 rows_3.length) (12
  : Int)).toNat → (El.fn (Rv.elemOf [IntKind.i64, IntKind.i64] (nurD (tideK rows_3 rows_3.length) (12 : Int) (nurN (tideK rows_3 rows_3.length) (12 : Int)).toNat))).at i = Rv.elemOf [IntKind.i64, IntKind.i64] rows_18 i) ∧
  ∃ (rows_19 : List (List Int)), Ob ((nurN (tideK rows_3 rows_3.length) (12 : Int)).toNat = (nurN (tideK rows_3 rows_3.length) (12 : Int)).toNat ∧ rows_19.length = (nurN (tideK rows_3 rows_3.length) (12 : Int)).toNat ∧ (∀
  (r : List Int), r ∈ rows_19 → r.length = nat_lit 2) ∧ ∀ (i : Nat), i < (nurN (tideK rows_3 rows_3.length) (12 : Int)).toNat → (El.fn (Rv.elemOf [IntKind.i64, IntKind.i64] (nurL (tideK rows_3 rows_3.length) (12 : Int)
  (nurN (tideK rows_3 rows_3.length) (12 : Int)).toNat))).at i = Rv.elemOf [IntKind.i64, IntKind.i64] rows_19 i) ∧ Ob (rows_18.length ≤ nat_lit 1000 ∧ rows_19.length ≤ nat_lit 1000) ∧ (¬¬(setLo v_1 v_2 v_3 v_4 rows_16
  rows_17 = setLo v_1 v_2 v_3 v_4 rows_18 rows_19 ∧ setHi v_1 v_2 v_3 v_4 rows_16 rows_17 = setHi v_1 v_2 v_3 v_4 rows_18 rows_19 ∧ True) → (¬¬setErr v_1 v_2 v_3 v_4 rows_16 rows_17 = setErr v_1 v_2 v_3 v_4 rows_18 rows_19
  → ∃ (rows_20 : List (List Int)), Ob (rows_14.length = rows_14.length ∧ rows_20.length = rows_14.length ∧ (∀ (r : List Int), r ∈ rows_20 → r.length = nat_lit 2) ∧ ∀ (i : Nat), i < rows_14.length → (El.fn (Rv.elemOf
  [IntKind.i64, IntKind.i64] rows_14)).at i = Rv.elemOf [IntKind.i64, IntKind.i64] rows_20 i) ∧ ∃ (rows_21 : List (List Int)), Ob ((nurN (tideK rows_3 rows_3.length) (12 : Int)).toNat = (nurN (tideK rows_3 rows_3.length)
  (12 : Int)).toNat ∧ rows_21.length = (nurN (tideK rows_3 rows_3.length) (12 : Int)).toNat ∧ (∀ (r : List Int), r ∈ rows_21 → r.length = nat_lit 2) ∧ ∀ (i : Nat), i < (nurN (tideK rows_3 rows_3.length) (12 : Int)).toNat →
  (El.fn (Rv.elemOf [IntKind.i64, IntKind.i64] (nurD (tideK rows_3 rows_3.length) (12 : Int) (nurN (tideK rows_3 rows_3.length) (12 : Int)).toNat))).at i = Rv.elemOf [IntKind.i64, IntKind.i64] rows_21 i) ∧ Ob
  (rows_20.length ≤ nat_lit 1000 ∧ rows_21.length ≤ nat_lit 1000) ∧ (¬¬sameR rows_20 rows_21 → ∃ (rows_22 : List (List Int)), Ob (rows_15.length = rows_15.length ∧ rows_22.length = rows_15.length ∧ (∀ (r : List Int), r ∈
  rows_22 → r.length = nat_lit 2) ∧ ∀ (i : Nat), i < rows_15.length → (El.fn (Rv.elemOf [IntKind.i64, IntKind.i64] rows_15)).at i = Rv.elemOf [IntKind.i64, IntKind.i64] rows_22 i) ∧ ∃ (rows_23 : List (List Int)), Ob ((nurN
  (tideK rows_3 rows_3.length) (12 : Int)).toNat = (nurN (tideK rows_3 rows_3.length) (12 : Int)).toNat ∧ rows_23.length = (nurN (tideK rows_3 rows_3.length) (12 : Int)).toNat ∧ (∀ (r : List Int), r ∈ rows_23 → r.length =
  nat_lit 2) ∧ ∀ (i : Nat), i < (nurN (tideK rows_3 rows_3.length) (12 : Int)).toNat → (El.fn (Rv.elemOf [IntKind.i64, IntKind.i64] (nurL (tideK rows_3 rows_3.length) (12 : Int) (nurN (tideK rows_3 rows_3.length) (12 :
  Int)).toNat))).at i = Rv.elemOf [IntKind.i64, IntKind.i64] rows_23 i) ∧ Ob (rows_22.length ≤ nat_lit 1000 ∧ rows_23.length ≤ nat_lit 1000) ∧ (¬sameR rows_22 rows_23 → False) ∧ (¬¬sameR rows_22 rows_23 → Ob (IsLst B x
  rows.length (nat_lit 2) (Rv.elemOf [IntKind.i64, IntKind.i64] rows)) ∧ ∃ (rows_24 : List (List Int)), Ob (IsLst B x rows.length (nat_lit 2) (Rv.elemOf [IntKind.i64, IntKind.i64] rows) ∧ rows_24.length = rows.length ∧ (∀
  (r : List Int), r ∈ rows_24 → r.length = nat_lit 2) ∧ ∀ (i : Nat), i < rows.length → Rv.elemOf [IntKind.i64, IntKind.i64] rows i = Rv.elemOf [IntKind.i64, IntKind.i64] rows_24 i) ∧ Ob (F_Spans.named.pre [Dat.l rows_24])
  ∧ Ob (PlainE rows_24.length (El.fn (Rv.elemOf [IntKind.i64, IntKind.i64] rows_24))) ∧ Ob (IsLst B x_1 rows_1.length (nat_lit 2) (Rv.elemOf [IntKind.i64, IntKind.i64] rows_1)) ∧ ∃ (rows_25 : List (List Int)), Ob (IsLst B
  x_1 rows_1.length (nat_lit 2) (Rv.elemOf [IntKind.i64, IntKind.i64] rows_1) ∧ rows_25.length = rows_1.length ∧ (∀ (r : List Int), r ∈ rows_25 → r.length = nat_lit 2) ∧ ∀ (i : Nat), i < rows_1.length → Rv.elemOf
  [IntKind.i64, IntKind.i64] rows_1 i = Rv.elemOf [IntKind.i64, IntKind.i64] rows_25 i) ∧ Ob (F_Spans.named.pre [Dat.l rows_25]) ∧ ∃ (rows_26 : List (List Int)), Ob (rows_24.length = rows_24.length ∧ rows_26.length =
  rows_24.length ∧ (∀ (r : List Int), r ∈ rows_26 → r.length = nat_lit 2) ∧ ∀ (i : Nat), i < rows_24.length → (El.fn (Rv.elemOf [IntKind.i64, IntKind.i64] rows_24)).at i = Rv.elemOf [IntKind.i64, IntKind.i64] rows_26 i) ∧
  ∃ (rows_27 : List (List Int)), Ob (rows_25.length = rows_25.length ∧ rows_27.length = rows_25.length ∧ (∀ (r : List Int), r ∈ rows_27 → r.length = nat_lit 2) ∧ ∀ (i : Nat), i < rows_25.length → (El.fn (Rv.elemOf
  [IntKind.i64, IntKind.i64] rows_25)).at i = Rv.elemOf [IntKind.i64, IntKind.i64] rows_27 i) ∧ Ob (rows_26.length ≤ nat_lit 1000 ∧ rows_27.length ≤ nat_lit 1000) ∧ Ob (IsLst B x rows.length (nat_lit 2) (Rv.elemOf
  [IntKind.i64, IntKind.i64] rows)) ∧ Ob (IsLst B x_1 rows_1.length (nat_lit 2) (Rv.elemOf [IntKind.i64, IntKind.i64] rows_1)) ∧ ∃ (rows_28 : List (List Int)), Ob (IsLst B x rows.length (nat_lit 2) (Rv.elemOf [IntKind.i64,
  IntKind.i64] rows) ∧ rows_28.length = rows.length ∧ (∀ (r : List Int), r ∈ rows_28 → r.length = nat_lit 2) ∧ ∀ (i : Nat), i < rows.length → Rv.elemOf [IntKind.i64, IntKind.i64] rows i = Rv.elemOf [IntKind.i64,
  IntKind.i64] rows_28 i) ∧ ∃ (rows_29 : List (List Int)), Ob (IsLst B x_1 rows_1.length (nat_lit 2) (Rv.elemOf [IntKind.i64, IntKind.i64] rows_1) ∧ rows_29.length = rows_1.length ∧ (∀ (r : List Int), r ∈ rows_29 →
  r.length = nat_lit 2) ∧ ∀ (i : Nat), i < rows_1.length → Rv.elemOf [IntKind.i64, IntKind.i64] rows_1 i = Rv.elemOf [IntKind.i64, IntKind.i64] rows_29 i) ∧ Ob (rows_28.length ≤ nat_lit 1000 ∧ rows_29.length ≤ nat_lit
  1000) ∧ (¬¬(setLo v_1 v_2 v_3 v_4 rows_26 rows_27 = setLo v_1 v_2 v_3 v_4 rows_28 rows_29 ∧ setHi v_1 v_2 v_3 v_4 rows_26 rows_27 = setHi v_1 v_2 v_3 v_4 rows_28 rows_29 ∧ True) → (¬¬setErr v_1 v_2 v_3 v_4 rows_26
  rows_27 = setErr v_1 v_2 v_3 v_4 rows_28 rows_29 → ∃ (rows_30 : List (List Int)), Ob (rows_24.length = rows_24.length ∧ rows_30.length = rows_24.length ∧ (∀ (r : List Int), r ∈ rows_30 → r.length = nat_lit 2) ∧ ∀ (i :
  Nat), i < rows_24.length → (El.fn (Rv.elemOf [IntKind.i64, IntKind.i64] rows_24)).at i = Rv.elemOf [IntKind.i64, IntKind.i64] rows_30 i) ∧ ∃ (rows_31 : List (List Int)), Ob (IsLst B x rows.length (nat_lit 2) (Rv.elemOf
  [IntKind.i64, IntKind.i64] rows) ∧ rows_31.length = rows.length ∧ (∀ (r : List Int), r ∈ rows_31 → r.length = nat_lit 2) ∧ ∀ (i : Nat), i < rows.length → Rv.elemOf [IntKind.i64, IntKind.i64] rows i = Rv.elemOf
  [IntKind.i64, IntKind.i64] rows_31 i) ∧ Ob (rows_30.length ≤ nat_lit 1000 ∧ rows_31.length ≤ nat_lit 1000) ∧ (¬¬sameR rows_30 rows_31 → ∃ (rows_32 : List (List Int)), Ob (rows_25.length = rows_25.length ∧ rows_32.length
  = rows_25.length ∧ (∀ (r : List Int), r ∈ rows_32 → r.length = nat_lit 2) ∧ ∀ (i : Nat), i < rows_25.length → (El.fn (Rv.elemOf [IntKind.i64, IntKind.i64] rows_25)).at i = Rv.elemOf [IntKind.i64, IntKind.i64] rows_32 i)
  ∧ ∃ (rows_33 : List (List Int)), Ob (IsLst B x_1 rows_1.length (nat_lit 2) (Rv.elemOf [IntKind.i64, IntKind.i64] rows_1) ∧ rows_33.length = rows_1.length ∧ (∀ (r : List Int), r ∈ rows_33 → r.length = nat_lit 2) ∧ ∀ (i :
  Nat), i < rows_1.length → Rv.elemOf [IntKind.i64, IntKind.i64] rows_1 i = Rv.elemOf [IntKind.i64, IntKind.i64] rows_33 i) ∧ Ob (rows_32.length ≤ nat_lit 1000 ∧ rows_33.length ≤ nat_lit 1000) ∧ (¬sameR rows_32 rows_33 →
  False) ∧ (¬¬sameR rows_32 rows_33 → ∃ (rows_34 : List (List Int)), Ob ((nurN (tideK rows_3 rows_3.length) (12 : Int)).toNat = (nurN (tideK rows_3 rows_3.length) (12 : Int)).toNat ∧ rows_34.length = (nurN (tideK rows_3
  rows_3.length) (12 : Int)).toNat ∧ (∀ (r : List Int), r ∈ rows_34 → r.length = nat_lit 2) ∧ ∀ (i : Nat), i < (nurN (tideK rows_3 rows_3.length) (12 : Int)).toNat → (El.fn (Rv.elemOf [IntKind.i64, IntKind.i64] (nurD
  (tideK rows_3 rows_3.length) (12 : Int) (nurN (tideK rows_3 rows_3.length) (12 : Int)).toNat))).at i = Rv.elemOf [IntKind.i64, IntKind.i64] rows_34 i) ∧ Ob (F_Spans.named.pre [Dat.l rows_34]) ∧ Ob (PlainE rows_34.length
  (El.fn (Rv.elemOf [IntKind.i64, IntKind.i64] rows_34))) ∧ ∃ (rows_35 : List (List Int)), Ob ((nurN (tideK rows_3 rows_3.length) (12 : Int)).toNat = (nurN (tideK rows_3 rows_3.length) (12 : Int)).toNat ∧ rows_35.length =
  (nurN (tideK rows_3 rows_3.length) (12 : Int)).toNat ∧ (∀ (r : List Int), r ∈ rows_35 → r.length = nat_lit 2) ∧ ∀ (i : Nat), i < (nurN (tideK rows_3 rows_3.length) (12 : Int)).toNat → (El.fn (Rv.elemOf [IntKind.i64,
  IntKind.i64] (nurL (tideK rows_3 rows_3.length) (12 : Int) (nurN (tideK rows_3 rows_3.length) (12 : Int)).toNat))).at i = Rv.elemOf [IntKind.i64, IntKind.i64] rows_35 i) ∧ Ob (F_Spans.named.pre [Dat.l rows_35]) ∧ ∃
  (rows_36 : List (List Int)), Ob (rows_34.length = rows_34.length ∧ rows_36.length = rows_34.length ∧ (∀ (r : List Int), r ∈ rows_36 → r.length = nat_lit 2) ∧ ∀ (i : Nat), i < rows_34.length → (El.fn (Rv.elemOf
  [IntKind.i64, IntKind.i64] rows_34)).at i = Rv.elemOf [IntKind.i64, IntKind.i64] rows_36 i) ∧ ∃ (rows_37 : List (List Int)), Ob (rows_35.length = rows_35.length ∧ rows_37.length = rows_35.length ∧ (∀ (r : List Int), r ∈
  rows_37 → r.length = nat_lit 2) ∧ ∀ (i : Nat), i < rows_35.length → (El.fn (Rv.elemOf [IntKind.i64, IntKind.i64] rows_35)).at i = Rv.elemOf [IntKind.i64, IntKind.i64] rows_37 i) ∧ Ob (rows_36.length ≤ nat_lit 1000 ∧
  rows_37.length ≤ nat_lit 1000) ∧ ∃ (rows_38 : List (List Int)), Ob ((nurN (tideK rows_3 rows_3.length) (12 : Int)).toNat = (nurN (tideK rows_3 rows_3.length) (12 : Int)).toNat ∧ rows_38.length = (nurN (tideK rows_3
  rows_3.length) (12 : Int)).toNat ∧ (∀ (r : List Int), r ∈ rows_38 → r.length = nat_lit 2) ∧ ∀ (i : Nat), i < (nurN (tideK rows_3 rows_3.length) (12 : Int)).toNat → (El.fn (Rv.elemOf [IntKind.i64, IntKind.i64] (nurD
  (tideK rows_3 rows_3.length) (12 : Int) (nurN (tideK rows_3 rows_3.length) (12 : Int)).toNat))).at i = Rv.elemOf [IntKind.i64, IntKind.i64] rows_38 i) ∧ ∃ (rows_39 : List (List Int)), Ob ((nurN (tideK rows_3
  rows_3.length) (12 : Int)).toNat = (nurN (tideK rows_3 rows_3.length) (12 : Int)).toNat ∧ rows_39.length = (nurN (tideK rows_3 rows_3.length) (12 : Int)).toNat ∧ (∀ (r : List Int), r ∈ rows_39 → r.length = nat_lit 2) ∧ ∀
  (i : Nat), i < (nurN (tideK rows_3 rows_3.length) (12 : Int)).toNat → (El.fn (Rv.elemOf [IntKind.i64, IntKind.i64] (nurL (tideK rows_3 rows_3.length) (12 : Int) (nurN (tideK rows_3 rows_3.length) (12 : Int)).toNat))).at
  i = Rv.elemOf [IntKind.i64, IntKind.i64] rows_39 i) ∧ Ob (rows_38.length ≤ nat_lit 1000 ∧ rows_39.length ≤ nat_lit 1000) ∧ (¬¬(setLo n n_1 n_2 n_3 rows_36 rows_37 = setLo n n_1 n_2 n_3 rows_38 rows_39 ∧ setHi n n_1 n_2
  n_3 rows_36 rows_37 = setHi n n_1 n_2 n_3 rows_38 rows_39 ∧ True) → (¬¬setErr n n_1 n_2 n_3 rows_36 rows_37 = setErr n n_1 n_2 n_3 rows_38 rows_39 → ∃ (rows_40 : List (List Int)), Ob (rows_34.length = rows_34.length ∧
  rows_40.length = rows_34.length ∧ (∀ (r : List Int), r ∈ rows_40 → r.length = nat_lit 2) ∧ ∀ (i : Nat), i < rows_34.length → (El.fn (Rv.elemOf [IntKind.i64, IntKind.i64] rows_34)).at i = Rv.elemOf [IntKind.i64,
  IntKind.i64] rows_40 i) ∧ ∃ (rows_41 : List (List Int)), Ob ((nurN (tideK rows_3 rows_3.length) (12 : Int)).toNat = (nurN (tideK rows_3 rows_3.length) (12 : Int)).toNat ∧ rows_41.length = (nurN (tideK rows_3
  rows_3.length) (12 : Int)).toNat ∧ (∀ (r : List Int), r ∈ rows_41 → r.length = nat_lit 2) ∧ ∀ (i : Nat), i < (nurN (tideK rows_3 rows_3.length) (12 : Int)).toNat → (El.fn (Rv.elemOf [IntKind.i64, IntKind.i64] (nurD
  (tideK rows_3 rows_3.length) (12 : Int) (nurN (tideK rows_3 rows_3.length) (12 : Int)).toNat))).at i = Rv.elemOf [IntKind.i64, IntKind.i64] rows_41 i) ∧ Ob (rows_40.length ≤ nat_lit 1000 ∧ rows_41.length ≤ nat_lit 1000)
  ∧ (¬¬sameR rows_40 rows_41 → ∃ (rows_42 : List (List Int)), Ob (rows_35.length = rows_35.length ∧ rows_42.length = rows_35.length ∧ (∀ (r : List Int), r ∈ rows_42 → r.length = nat_lit 2) ∧ ∀ (i : Nat), i < rows_35.length
  → (El.fn (Rv.elemOf [IntKind.i64, IntKind.i64] rows_35)).at i = Rv.elemOf [IntKind.i64, IntKind.i64] rows_42 i) ∧ ∃ (rows_43 : List (List Int)), Ob ((nurN (tideK rows_3 rows_3.length) (12 : Int)).toNat = (nurN (tideK
  rows_3 rows_3.length) (12 : Int)).toNat ∧ rows_43.length = (nurN (tideK rows_3 rows_3.length) (12 : Int)).toNat ∧ (∀ (r : List Int), r ∈ rows_43 → r.length = nat_lit 2) ∧ ∀ (i : Nat), i < (nurN (tideK rows_3
  rows_3.length) (12 : Int)).toNat → (El.fn (Rv.elemOf [IntKind.i64, IntKind.i64] (nurL (tideK rows_3 rows_3.length) (12 : Int) (nurN (tideK rows_3 rows_3.length) (12 : Int)).toNat))).at i = Rv.elemOf [IntKind.i64,
  IntKind.i64] rows_43 i) ∧ Ob (rows_42.length ≤ nat_lit 1000 ∧ rows_43.length ≤ nat_lit 1000) ∧ (¬sameR rows_42 rows_43 → False) ∧ (¬¬sameR rows_42 rows_43 → Ob (hasTabs tab1 B) ∧ True)) ∧ (¬sameR rows_40 rows_41 →
  False)) ∧ (¬setErr n n_1 n_2 n_3 rows_36 rows_37 = setErr n n_1 n_2 n_3 rows_38 rows_39 → False)) ∧ (¬(setLo n n_1 n_2 n_3 rows_36 rows_37 = setLo n n_1 n_2 n_3 rows_38 rows_39 ∧ setHi n n_1 n_2 n_3 rows_36 rows_37 =
  setHi n n_1 n_2 n_3 rows_38 rows_39 ∧ True) → False))) ∧ (¬sameR rows_30 rows_31 → False)) ∧ (¬setErr v_1 v_2 v_3 v_4 rows_26 rows_27 = setErr v_1 v_2 v_3 v_4 rows_28 rows_29 → False)) ∧ (¬(setLo v_1 v_2 v_3 v_4 rows_26
  rows_27 = setLo v_1 v_2 v_3 v_4 rows_28 rows_29 ∧ setHi v_1 v_2 v_3 v_4 rows_26 rows_27 = setHi v_1 v_2 v_3 v_4 rows_28 rows_29 ∧ True) → False))) ∧ (¬sameR rows_20 rows_21 → False)) ∧ (¬setErr v_1 v_2 v_3 v_4 rows_16
  rows_17 = setErr v_1 v_2 v_3 v_4 rows_18 rows_19 → False)) ∧ (¬(setLo v_1 v_2 v_3 v_4 rows_16 rows_17 = setLo v_1 v_2 v_3 v_4 rows_18 rows_19 ∧ setHi v_1 v_2 v_3 v_4 rows_16 rows_17 = setHi v_1 v_2 v_3 v_4 rows_18
  rows_19 ∧ True) → False))) ∧ (¬sameR rows_10 rows_11 → False)) ∧ (¬setErr n n_1 n_2 n_3 rows_6 rows_7 = setErr n n_1 n_2 n_3 rows_8 rows_9 → False)) ∧ (¬(setLo n n_1 n_2 n_3 rows_6 rows_7 = setLo n n_1 n_2 n_3 rows_8
  rows_9 ∧ setHi n n_1 n_2 n_3 rows_6 rows_7 = setHi n n_1 n_2 n_3 rows_8 rows_9 ∧ True) → False))) ∧ ((500 : Int) < (↑rows.length : Int) → Ob (hasTabs tab1 B) ∧ True)

set_option linter.unusedSimpArgs false in
set_option maxRecDepth 4000 in
set_option maxHeartbeats 400000 in
theorem v_law : V_law := by
  unfold V_law
  intro B htab lo hi rate room x D hx hox hrx y L hy hoy hry z N hz hoz hrz hN
  refine ⟨⟨hx⟩, fun h1 => ⟨⟨hy⟩, fun h2 => ⟨⟨htab⟩, trivial⟩, fun h2 => ?_⟩, fun h1 => ⟨⟨htab⟩, trivial⟩⟩
  have hm : (0 : Int) ≤ 12 ∧ (12 : Int) ≤ 12 := ⟨by omega, by omega⟩
  refine ⟨N, ⟨⟨hz, rfl, hrz, fun _ _ => rfl⟩⟩, ⟨hN⟩, ⟨hm⟩, ?_⟩
  generalize tideK N N.length = a
  intro v hv v1 hv1 v2 hv2 v3 hv3 v4 hv4
  have eD := nurD_len a 12 (nurN a 12).toNat
  have rD := nurD_row a 12 (nurN a 12).toNat
  have eL := nurL_len a 12 (nurN a 12).toNat
  have rL := nurL_row a 12 (nurN a 12).toNat
  have hk := nurN_le a (most := 12) (by omega)
  generalize nurD a 12 (nurN a 12).toNat = GD at *
  generalize nurL a 12 (nurN a 12).toNat = GL at *
  generalize (nurN a 12).toNat = k at *
  clear hv hv1 hv2 hv3 hv4
  have hD : D.length ≤ 500 := by omega
  have hL : L.length ≤ 500 := by omega
  have hGD : GD.length ≤ 500 := by omega
  have hGL : GL.length ≤ 500 := by omega
  repeat (first
    | exact ⟨⟨htab⟩, trivial⟩
    | refine ⟨⟨hx⟩, ?_⟩
    | refine ⟨⟨hy⟩, ?_⟩
    | refine ⟨⟨hox⟩, ?_⟩
    | refine ⟨⟨hoy⟩, ?_⟩
    | refine ⟨D, ⟨⟨hx, rfl, hrx, fun _ _ => rfl⟩⟩, ?_⟩
    | refine ⟨L, ⟨⟨hy, rfl, hry, fun _ _ => rfl⟩⟩, ?_⟩
    | refine ⟨D, ⟨⟨rfl, rfl, hrx, fun _ _ => rfl⟩⟩, ?_⟩
    | refine ⟨L, ⟨⟨rfl, rfl, hry, fun _ _ => rfl⟩⟩, ?_⟩
    | refine ⟨GD, ⟨⟨rfl, eD, rD, fun _ _ => rfl⟩⟩, ?_⟩
    | refine ⟨GL, ⟨⟨rfl, eL, rL, fun _ _ => rfl⟩⟩, ?_⟩
    | refine ⟨GD, ⟨⟨rfl, rfl, rD, fun _ _ => rfl⟩⟩, ?_⟩
    | refine ⟨GL, ⟨⟨rfl, rfl, rL, fun _ _ => rfl⟩⟩, ?_⟩
    | refine ⟨⟨plain_elemOf _ _ _⟩, ?_⟩
    | refine ⟨⟨by show List.length _ ≤ 1000 ∧ List.length _ ≤ 1000; omega⟩, ?_⟩
    | refine ⟨⟨by show List.length _ ≤ 1000; omega⟩, ?_⟩
    | refine ⟨fun _ => ?_, fun h => h ⟨rfl, rfl, trivial⟩⟩
    | refine ⟨fun _ => ?_, fun h => h rfl⟩
    | refine ⟨fun _ => ?_, fun h => h (sameR_refl _)⟩
    | refine ⟨fun h => h (sameR_refl _), fun _ => ?_⟩)

theorem e_law : V_law = needL P [F_Settle, F_rSettle, F_SameSpans] [F_TideOf.named, F_Spans.named, F_nurseryOf.named] 6 tab1 A_law F_law := by kernel_rfl

theorem n_law : Ob (needL P [F_Settle, F_rSettle, F_SameSpans] [F_TideOf.named, F_Spans.named, F_nurseryOf.named] 6 tab1 A_law F_law) := by
  rw [← e_law]
  exact ⟨v_law⟩

theorem b_law : ((P.funcs[4]?).any fun fn => fn.body.isSome) = true := by kernel_rfl

theorem l_law : ([F_Settle, F_rSettle, F_SameSpans].all fun G => !Nat.beq G.g 6) = true := rfl
theorem le_law : ([F_TideOf.named, F_Spans.named, F_nurseryOf.named].all fun G => !Nat.beq G.g 6) = true := rfl
theorem c_law : ∀ F ∈ [F_Settle, F_rSettle, F_SameSpans], F.Ok P := by
  intro F h
  simp only [List.mem_cons, List.not_mem_nil, or_false] at h
  rcases h with rfl | rfl | rfl
  · exact Settle_ok
  · exact rSettle_ok
  · exact SameSpans_ok

theorem ce_law : ∀ F ∈ [F_TideOf.named, F_Spans.named, F_nurseryOf.named], F.Ok P := by
  intro F h
  simp only [List.mem_cons, List.not_mem_nil, or_false] at h
  rcases h with rfl | rfl | rfl
  · exact TideOf_ok.named
  · exact Spans_ok.named
  · exact nurseryOf_ok.named


end Go.Proofs.YtkdnmcppkoejjaaDoor.Sy
