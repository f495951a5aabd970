/- Water an hour later. -/
import Derived.Test.YtlnldabgbfcdcaaSyP2
import Derived.Test.YtlnldabgbfcdcaaGrM
import Derived.Test.YtlnldabgbfcdcaaKtG
import Derived.Test.YtlnldabgbfcdcaaKtH
import Derived.Test.YtlnldabgbfcdcaaSyP2
import Derived.KernelRfl
import Derived.Test.YtlnldabgbfcdcaaProg
namespace Go.Proofs.Ytlnldabgbfcdcaa.Sy
open Go Go.Rv
set_option linter.unusedVariables false

theorem NxtOk.sub {L F Gr : Int} {xs ys : List Int} (h : NxtOk L F Gr xs) (hs : ∀ x ∈ ys, x ∈ xs) : NxtOk L F Gr ys := ⟨h.l, h.f, h.g, fun x hx => h.x x (hs x hx)⟩
theorem NxtOk.dv {L F Gr : Int} {xs : List Int} {N S G U : Int} (h : NxtOk L F Gr xs) (hN : N ∈ xs) (hS : S ∈ xs) (hG : G ∈ xs) (hU : U ∈ xs) : -4000000000000000000 ≤ wTot L F Gr N S G U ∧ wTot L F Gr N S G U ≤ 4000000000000000000 ∧ 0 < 1000 * L ∧ 1000 * L ≤ 4000000000000000000 := by
  have := h.t hN hS hG hU
  have := h.l
  omega

noncomputable def F_nextW : FnE := ⟨47, none, [.agg [.l [.i64, .i64, .i64, .i64, .i64, .i64, .i64, .i64], .l [.i64, .i64], .i .i64, .i .i64, .i .i64, .i .i64, .i .i64, .i .i64, .i .i64, .i .i64, .i .i64, .i .i64, .i .i64, .i .i64, .i .i64, .i .i64, .i .i64, .i .i64, .i .i64, .i .i64, .i .i64, .i .i64, .i .i64, .i .i64, .i .i64, .i .i64, .i .i64, .i .i64, .i .i64], .agg [.i .i64, .i .i64, .i .i64, .i .i64, .i .i64, .i .i64], i64], fun l => match l with | .l T :: .l R :: .z s1 :: .z s2 :: .z s3 :: .z s4 :: .z s5 :: .z s6 :: .z u1 :: .z u2 :: .z v1 :: .z v2 :: .z a1 :: .z a2 :: .z g1 :: .z g2 :: .z le :: .z mo :: .z w1 :: .z w2 :: .z lt :: .z gr :: .z t1 :: .z t2 :: .z t3 :: .z t4 :: .z t5 :: .z t6 :: .z nu :: .z n1 :: .z n2 :: .z n3 :: .z n4 :: .z n5 :: .z n6 :: .z fl :: [] => NxtOk lt fl gr [0, 0 - u2, 0 - u1, s1, s2, s3, s4, s5, s6, u1, u2, v1, v2, a1, a2, g1, g2, n1, n2, n3, n4, n5, n6] | _ => False, fun l => match l with | .l T :: .l R :: .z s1 :: .z s2 :: .z s3 :: .z s4 :: .z s5 :: .z s6 :: .z u1 :: .z u2 :: .z v1 :: .z v2 :: .z a1 :: .z a2 :: .z g1 :: .z g2 :: .z le :: .z mo :: .z w1 :: .z w2 :: .z lt :: .z gr :: .z t1 :: .z t2 :: .z t3 :: .z t4 :: .z t5 :: .z t6 :: .z nu :: .z n1 :: .z n2 :: .z n3 :: .z n4 :: .z n5 :: .z n6 :: .z fl :: [] => [.agg [.i .i64 (wLo lt fl gr n1 s1 a1 (0 - u2) 0 100000), .i .i64 (wHi lt fl gr n2 s2 a2 (0 - u1) 0 100000), .i .i64 (wLo lt fl gr n3 s3 0 v1 0 100000), .i .i64 (wHi lt fl gr n4 s4 0 v2 0 100000), .i .i64 (wLo lt fl gr n5 s5 g1 0 (-50) 400), .i .i64 (wHi lt fl gr n6 s6 g2 0 (-50) 400)]] | _ => [], fun l => match l with | .l T :: .l R :: .z s1 :: .z s2 :: .z s3 :: .z s4 :: .z s5 :: .z s6 :: .z u1 :: .z u2 :: .z v1 :: .z v2 :: .z a1 :: .z a2 :: .z g1 :: .z g2 :: .z le :: .z mo :: .z w1 :: .z w2 :: .z lt :: .z gr :: .z t1 :: .z t2 :: .z t3 :: .z t4 :: .z t5 :: .z t6 :: .z nu :: .z n1 :: .z n2 :: .z n3 :: .z n4 :: .z n5 :: .z n6 :: .z fl :: [] => [] | _ => [], fun l => match l with | .l T :: .l R :: .z s1 :: .z s2 :: .z s3 :: .z s4 :: .z s5 :: .z s6 :: .z u1 :: .z u2 :: .z v1 :: .z v2 :: .z a1 :: .z a2 :: .z g1 :: .z g2 :: .z le :: .z mo :: .z w1 :: .z w2 :: .z lt :: .z gr :: .z t1 :: .z t2 :: .z t3 :: .z t4 :: .z t5 :: .z t6 :: .z nu :: .z n1 :: .z n2 :: .z n3 :: .z n4 :: .z n5 :: .z n6 :: .z fl :: [] => [] | _ => [], false, none⟩
noncomputable def A_nextW : List SV → List Dat → Nat → List SV → Ann := fun xs ds n ts => match xs with
  | [.agg _, .agg _, .i _ _] => match ds with
    | .l T :: .l R :: .z s1 :: .z s2 :: .z s3 :: .z s4 :: .z s5 :: .z s6 :: .z u1 :: .z u2 :: .z v1 :: .z v2 :: .z a1 :: .z a2 :: .z g1 :: .z g2 :: .z le :: .z mo :: .z w1 :: .z w2 :: .z lt :: .z gr :: .z t1 :: .z t2 :: .z t3 :: .z t4 :: .z t5 :: .z t6 :: .z nu :: .z n1 :: .z n2 :: .z n3 :: .z n4 :: .z n5 :: .z n6 :: .z fl :: [] => match n with
      | 3 => ⟨Unit, fun _ => [], fun _ => [], fun _ => True, fun _ => 0, 4⟩
      | _ => noAnn
    | _ => noAnn
  | _ => noAnn
noncomputable def A_nextW_1 : List SV → List Dat → Nat → List SV → Ann := fun _ _ _ _ => noAnn
noncomputable def I_nextW : List SV → List Dat → List In := fun xs ds => [⟨59, A_nextW_1 xs ds⟩]

def V_nextW : Prop :=
  ∀ (B : RW) (x : RV) (rows : List (List Int)), IsLst B x rows.length ((8 : Nat)) (Rv.elemOf [IntKind.i64, IntKind.i64, IntKind.i64, IntKind.i64, IntKind.i64, IntKind.i64, IntKind.i64, IntKind.i64] rows) → oneB x = true →
  (∀ (row : List Int), row ∈ rows → row.length = (8 : Nat)) → ∀ (x_1 : RV) (rows_1 : List (List Int)), IsLst B x_1 rows_1.length ((2 : Nat)) (Rv.elemOf [IntKind.i64, IntKind.i64] rows_1) → oneB x_1 = true → (∀ (row : List
  Int), row ∈ rows_1 → row.length = (2 : Nat)) → ∀ (n n_1 n_2 n_3 n_4 n_5 n_6 n_7 n_8 n_9 n_10 n_11 n_12 n_13 n_14 n_15 n_16 n_17 n_18 n_19 n_20 n_21 n_22 n_23 n_24 n_25 n_26 n_27 n_28 n_29 n_30 n_31 n_32 n_33 : Int),
  F_nextW.pre ([Dat.l rows, Dat.l rows_1, Dat.z n, Dat.z n_1, Dat.z n_2, Dat.z n_3, Dat.z n_4, Dat.z n_5, Dat.z n_6, Dat.z n_7, Dat.z n_8, Dat.z n_9, Dat.z n_10, Dat.z n_11, Dat.z n_12, Dat.z n_13, Dat.z n_14, Dat.z n_15,
  Dat.z n_16, Dat.z n_17, Dat.z n_18, Dat.z n_19, Dat.z n_20, Dat.z n_21, Dat.z n_22, Dat.z n_23, Dat.z n_24, Dat.z n_25, Dat.z n_26] ++ ([Dat.z n_27, Dat.z n_28, Dat.z n_29, Dat.z n_30, Dat.z n_31, Dat.z n_32] ++ ([Dat.z
  n_33] ++ []))) → Ob True ∧ Ob True ∧ Ob (IsLst B x rows.length ((8 : Nat)) (Rv.elemOf [IntKind.i64, IntKind.i64, IntKind.i64, IntKind.i64, IntKind.i64, IntKind.i64, IntKind.i64, IntKind.i64] rows)) ∧ Ob (IsLst B x_1
  rows_1.length ((2 : Nat)) (Rv.elemOf [IntKind.i64, IntKind.i64] rows_1)) ∧ ∃ (rows_2 : List (List Int)), Ob (IsLst B x rows.length ((8 : Nat)) (Rv.elemOf [IntKind.i64, IntKind.i64, IntKind.i64, IntKind.i64, IntKind.i64,
  IntKind.i64, IntKind.i64, IntKind.i64] rows) ∧ rows_2.length = rows.length ∧ (∀ (r : List Int), r ∈ rows_2 → r.length = (8 : Nat)) ∧ ∀ (i : Nat), i < rows.length → Rv.elemOf [IntKind.i64, IntKind.i64, IntKind.i64,
  IntKind.i64, IntKind.i64, IntKind.i64, IntKind.i64, IntKind.i64] rows i = Rv.elemOf [IntKind.i64, IntKind.i64, IntKind.i64, IntKind.i64, IntKind.i64, IntKind.i64, IntKind.i64, IntKind.i64] rows_2 i) ∧ ∃ (rows_3 : List
  (List Int)), Ob (IsLst B x_1 rows_1.length ((2 : Nat)) (Rv.elemOf [IntKind.i64, IntKind.i64] rows_1) ∧ rows_3.length = rows_1.length ∧ (∀ (r : List Int), r ∈ rows_3 → r.length = (2 : Nat)) ∧ ∀ (i : Nat), i <
  rows_1.length → Rv.elemOf [IntKind.i64, IntKind.i64] rows_1 i = Rv.elemOf [IntKind.i64, IntKind.i64] rows_3 i) ∧ Ob ((-1000000 : Int) ≤ n_6 ∧ n_6 ≤ (1000000 : Int) ∧ (-1000000 : Int) ≤ n_7 ∧ n_7 ≤ (1000000 : Int)) ∧ Ob
  True ∧ Ob (IsLst B x rows.length ((8 : Nat)) (Rv.elemOf [IntKind.i64, IntKind.i64, IntKind.i64, IntKind.i64, IntKind.i64, IntKind.i64, IntKind.i64, IntKind.i64] rows)) ∧ Ob (IsLst B x_1 rows_1.length ((2 : Nat))
  (Rv.elemOf [IntKind.i64, IntKind.i64] rows_1)) ∧ ∃ (rows_4 : List (List Int)), Ob (IsLst B x rows.length ((8 : Nat)) (Rv.elemOf [IntKind.i64, IntKind.i64, IntKind.i64, IntKind.i64, IntKind.i64, IntKind.i64, IntKind.i64,
  IntKind.i64] rows) ∧ rows_4.length = rows.length ∧ (∀ (r : List Int), r ∈ rows_4 → r.length = (8 : Nat)) ∧ ∀ (i : Nat), i < rows.length → Rv.elemOf [IntKind.i64, IntKind.i64, IntKind.i64, IntKind.i64, IntKind.i64,
  IntKind.i64, IntKind.i64, IntKind.i64] rows i = Rv.elemOf [IntKind.i64, IntKind.i64, IntKind.i64, IntKind.i64, IntKind.i64, IntKind.i64, IntKind.i64, IntKind.i64] rows_4 i) ∧ ∃ (rows_5 : List (List Int)), Ob (IsLst B x_1
  rows_1.length ((2 : Nat)) (Rv.elemOf [IntKind.i64, IntKind.i64] rows_1) ∧ rows_5.length = rows_1.length ∧ (∀ (r : List Int), r ∈ rows_5 → r.length = (2 : Nat)) ∧ ∀ (i : Nat), i < rows_1.length → Rv.elemOf [IntKind.i64,
  IntKind.i64] rows_1 i = Rv.elemOf [IntKind.i64, IntKind.i64] rows_5 i) ∧ Ob True ∧ Ob True ∧ Ob ((0 : Int) ≤ (0 : Int) ∧ (0 : Int) < (↑((2 : Nat)) : Int)) ∧ ∃ (rows_6 : List (List Int)), Ob (IsLst B x rows.length ((8 :
  Nat)) (Rv.elemOf [IntKind.i64, IntKind.i64, IntKind.i64, IntKind.i64, IntKind.i64, IntKind.i64, IntKind.i64, IntKind.i64] rows) ∧ rows_6.length = rows.length ∧ (∀ (r : List Int), r ∈ rows_6 → r.length = (8 : Nat)) ∧ ∀ (i
  : Nat), i < rows.length → Rv.elemOf [IntKind.i64, IntKind.i64, IntKind.i64, IntKind.i64, IntKind.i64, IntKind.i64, IntKind.i64, IntKind.i64] rows i = Rv.elemOf [IntKind.i64, IntKind.i64, IntKind.i64, IntKind.i64,
  IntKind.i64, IntKind.i64, IntKind.i64, IntKind.i64] rows_6 i) ∧ ∃ (rows_7 : List (List Int)), Ob (IsLst B x_1 rows_1.length ((2 : Nat)) (Rv.elemOf [IntKind.i64, IntKind.i64] rows_1) ∧ rows_7.length = rows_1.length ∧ (∀
  (r : List Int), r ∈ rows_7 → r.length = (2 : Nat)) ∧ ∀ (i : Nat), i < rows_1.length → Rv.elemOf [IntKind.i64, IntKind.i64] rows_1 i = Rv.elemOf [IntKind.i64, IntKind.i64] rows_7 i) ∧ Ob ((0 : Int) ≤ (0 : Int) ∧ (0 : Int)
  < (↑((3 : Nat)) : Int)) ∧ Ob (NxtOk n_18 n_33 n_19 [n_27, n_28, n_29, n_30, n_31, n_32, n, n_1, n_10, n_11, (0 : Int) - n_7, (0 : Int) - n_6]) ∧ Ob (InR IntKind.i64 ((1000 : Int) * n_18)) ∧ Ob ((-4000000000000000000 :
  Int) ≤ wTot n_18 n_33 n_19 (pick6 (0 : Int) (0 : Int) n_27 n_28 n_29 n_30 n_31 n_32) (pick2 (0 : Int) n n_1) (pick2 (0 : Int) n_10 n_11) (pick2 (0 : Int) ((0 : Int) - n_7) ((0 : Int) - n_6)) ∧ wTot n_18 n_33 n_19 (pick6
  (0 : Int) (0 : Int) n_27 n_28 n_29 n_30 n_31 n_32) (pick2 (0 : Int) n n_1) (pick2 (0 : Int) n_10 n_11) (pick2 (0 : Int) ((0 : Int) - n_7) ((0 : Int) - n_6)) ≤ (4000000000000000000 : Int) ∧ (0 : Int) < (1000 : Int) * n_18
  ∧ (1000 : Int) * n_18 ≤ (4000000000000000000 : Int)) ∧ Ob True ∧ Ob ((0 : Int) ≤ (1 : Int) ∧ (1 : Int) < (↑((2 : Nat)) : Int)) ∧ ∃ (rows_8 : List (List Int)), Ob (IsLst B x rows.length ((8 : Nat)) (Rv.elemOf
  [IntKind.i64, IntKind.i64, IntKind.i64, IntKind.i64, IntKind.i64, IntKind.i64, IntKind.i64, IntKind.i64] rows) ∧ rows_8.length = rows.length ∧ (∀ (r : List Int), r ∈ rows_8 → r.length = (8 : Nat)) ∧ ∀ (i : Nat), i <
  rows.length → Rv.elemOf [IntKind.i64, IntKind.i64, IntKind.i64, IntKind.i64, IntKind.i64, IntKind.i64, IntKind.i64, IntKind.i64] rows i = Rv.elemOf [IntKind.i64, IntKind.i64, IntKind.i64, IntKind.i64, IntKind.i64,
  IntKind.i64, IntKind.i64, IntKind.i64] rows_8 i) ∧ ∃ (rows_9 : List (List Int)), Ob (IsLst B x_1 rows_1.length ((2 : Nat)) (Rv.elemOf [IntKind.i64, IntKind.i64] rows_1) ∧ rows_9.length = rows_1.length ∧ (∀ (r : List
  Int), r ∈ rows_9 → r.length = (2 : Nat)) ∧ ∀ (i : Nat), i < rows_1.length → Rv.elemOf [IntKind.i64, IntKind.i64] rows_1 i = Rv.elemOf [IntKind.i64, IntKind.i64] rows_9 i) ∧ Ob ((0 : Int) ≤ (0 : Int) ∧ (0 : Int) < (↑((3 :
  Nat)) : Int)) ∧ Ob (NxtOk n_18 n_33 n_19 [n_27, n_28, n_29, n_30, n_31, n_32, n, n_1, n_10, n_11, (0 : Int) - n_7, (0 : Int) - n_6]) ∧ Ob (InR IntKind.i64 ((1000 : Int) * n_18)) ∧ Ob ((-4000000000000000000 : Int) ≤ wTot
  n_18 n_33 n_19 (pick6 (0 : Int) (1 : Int) n_27 n_28 n_29 n_30 n_31 n_32) (pick2 (1 : Int) n n_1) (pick2 (1 : Int) n_10 n_11) (pick2 (1 : Int) ((0 : Int) - n_7) ((0 : Int) - n_6)) ∧ wTot n_18 n_33 n_19 (pick6 (0 : Int) (1
  : Int) n_27 n_28 n_29 n_30 n_31 n_32) (pick2 (1 : Int) n n_1) (pick2 (1 : Int) n_10 n_11) (pick2 (1 : Int) ((0 : Int) - n_7) ((0 : Int) - n_6)) ≤ (4000000000000000000 : Int) ∧ (0 : Int) < (1000 : Int) * n_18 ∧ (1000 :
  Int) * n_18 ≤ (4000000000000000000 : Int)) ∧ Ob True ∧ Ob True ∧ Ob True ∧ Ob (IsLst B x rows.length ((8 : Nat)) (Rv.elemOf [IntKind.i64, IntKind.i64, IntKind.i64, IntKind.i64, IntKind.i64, IntKind.i64, IntKind.i64,
  IntKind.i64] rows)) ∧ Ob (IsLst B x_1 rows_1.length ((2 : Nat)) (Rv.elemOf [IntKind.i64, IntKind.i64] rows_1)) ∧ ∃ (rows_10 : List (List Int)), Ob (IsLst B x rows.length ((8 : Nat)) (Rv.elemOf [IntKind.i64, IntKind.i64,
  IntKind.i64, IntKind.i64, IntKind.i64, IntKind.i64, IntKind.i64, IntKind.i64] rows) ∧ rows_10.length = rows.length ∧ (∀ (r : List Int), r ∈ rows_10 → r.length = (8 : Nat)) ∧ ∀ (i : Nat), i < rows.length → Rv.elemOf
  [IntKind.i64, IntKind.i64, IntKind.i64, IntKind.i64, IntKind.i64, IntKind.i64, IntKind.i64, IntKind.i64] rows i = Rv.elemOf [IntKind.i64, IntKind.i64, IntKind.i64, IntKind.i64, IntKind.i64, IntKind.i64, IntKind.i64,
  IntKind.i64] rows_10 i) ∧ ∃ (rows_11 : List (List Int)), Ob (IsLst B x_1 rows_1.length ((2 : Nat)) (Rv.elemOf [IntKind.i64, IntKind.i64] rows_1) ∧ rows_11.length = rows_1.length ∧ (∀ (r : List Int), r ∈ rows_11 →
  r.length = (2 : Nat)) ∧ ∀ (i : Nat), i < rows_1.length → Rv.elemOf [IntKind.i64, IntKind.i64] rows_1 i = Rv.elemOf [IntKind.i64, IntKind.i64] rows_11 i) ∧ Ob True ∧ Ob True ∧ Ob (IsLst B x rows.length ((8 : Nat))
  (Rv.elemOf [IntKind.i64, IntKind.i64, IntKind.i64, IntKind.i64, IntKind.i64, IntKind.i64, IntKind.i64, IntKind.i64] rows)) ∧ Ob (IsLst B x_1 rows_1.length ((2 : Nat)) (Rv.elemOf [IntKind.i64, IntKind.i64] rows_1)) ∧ ∃
  (rows_12 : List (List Int)), Ob (IsLst B x rows.length ((8 : Nat)) (Rv.elemOf [IntKind.i64, IntKind.i64, IntKind.i64, IntKind.i64, IntKind.i64, IntKind.i64, IntKind.i64, IntKind.i64] rows) ∧ rows_12.length = rows.length
  ∧ (∀ (r : List Int), r ∈ rows_12 → r.length = (8 : Nat)) ∧ ∀ (i : Nat), i < rows.length → Rv.elemOf [IntKind.i64, IntKind.i64, IntKind.i64, IntKind.i64, IntKind.i64, IntKind.i64, IntKind.i64, IntKind.i64] rows i =
  Rv.elemOf [IntKind.i64, IntKind.i64, IntKind.i64, IntKind.i64, IntKind.i64, IntKind.i64, IntKind.i64, IntKind.i64] rows_12 i) ∧ ∃ (rows_13 : List (List Int)), Ob (IsLst B x_1 rows_1.length ((2 : Nat)) (Rv.elemOf
  [IntKind.i64, IntKind.i64] rows_1) ∧ rows_13.length = rows_1.length ∧ (∀ (r : List Int), r ∈ rows_13 → r.length = (2 : Nat)) ∧ ∀ (i : Nat), i < rows_1.length → Rv.elemOf [IntKind.i64, IntKind.i64] rows_1 i = Rv.elemOf
  [IntKind.i64, IntKind.i64] rows_13 i) ∧ Ob True ∧ Ob True ∧ Ob ((0 : Int) ≤ (0 : Int) ∧ (0 : Int) < (↑((2 : Nat)) : Int)) ∧ ∃ (rows_14 : List (List Int)), Ob (IsLst B x rows.length ((8 : Nat)) (Rv.elemOf [IntKind.i64,
  IntKind.i64, IntKind.i64, IntKind.i64, IntKind.i64, IntKind.i64, IntKind.i64, IntKind.i64] rows) ∧ rows_14.length = rows.length ∧ (∀ (r : List Int), r ∈ rows_14 → r.length = (8 : Nat)) ∧ ∀ (i : Nat), i < rows.length →
  Rv.elemOf [IntKind.i64, IntKind.i64, IntKind.i64, IntKind.i64, IntKind.i64, IntKind.i64, IntKind.i64, IntKind.i64] rows i = Rv.elemOf [IntKind.i64, IntKind.i64, IntKind.i64, IntKind.i64, IntKind.i64, IntKind.i64,
  IntKind.i64, IntKind.i64] rows_14 i) ∧ ∃ (rows_15 : List (List Int)), Ob (IsLst B x_1 rows_1.length ((2 : Nat)) (Rv.elemOf [IntKind.i64, IntKind.i64] rows_1) ∧ rows_15.length = rows_1.length ∧ (∀ (r : List Int), r ∈
  rows_15 → r.length = (2 : Nat)) ∧ ∀ (i : Nat), i < rows_1.length → Rv.elemOf [IntKind.i64, IntKind.i64] rows_1 i = Rv.elemOf [IntKind.i64, IntKind.i64] rows_15 i) ∧ Ob ((0 : Int) ≤ Int.ofNat ((1 : Nat)) ∧ Int.ofNat ((1 :
  Nat)) < (↑((3 : Nat)) : Int)) ∧ Ob (NxtOk n_18 n_33 n_19 [n_27, n_28, n_29, n_30, n_31, n_32, n_2, n_3, (0 : Int), (0 : Int), n_8, n_9]) ∧ Ob (InR IntKind.i64 ((1000 : Int) * n_18)) ∧ Ob ((-4000000000000000000 : Int) ≤
  wTot n_18 n_33 n_19 (pick6 (Int.ofNat ((1 : Nat))) (0 : Int) n_27 n_28 n_29 n_30 n_31 n_32) (pick2 (0 : Int) n_2 n_3) (pick2 (0 : Int) (0 : Int) (0 : Int)) (pick2 (0 : Int) n_8 n_9) ∧ wTot n_18 n_33 n_19 (pick6
  (Int.ofNat ((1 : Nat))) (0 : Int) n_27 n_28 n_29 n_30 n_31 n_32) (pick2 (0 : Int) n_2 n_3) (pick2 (0 : Int) (0 : Int) (0 : Int)) (pick2 (0 : Int) n_8 n_9) ≤ (4000000000000000000 : Int) ∧ (0 : Int) < (1000 : Int) * n_18 ∧
  (1000 : Int) * n_18 ≤ (4000000000000000000 : Int)) ∧ Ob True ∧ Ob ((0 : Int) ≤ (1 : Int) ∧ (1 : Int) < (↑((2 : Nat)) : Int)) ∧ ∃ (rows_16 : List (List Int)), Ob (IsLst B x rows.length ((8 : Nat)) (Rv.elemOf [IntKind.i64,
  IntKind.i64, IntKind.i64, IntKind.i64, IntKind.i64, IntKind.i64, IntKind.i64, IntKind.i64] rows) ∧ rows_16.length = rows.length ∧ (∀ (r : List Int), r ∈ rows_16 → r.length = (8 : Nat)) ∧ ∀ (i : Nat), i < rows.length →
  Rv.elemOf [IntKind.i64, IntKind.i64, IntKind.i64, IntKind.i64, IntKind.i64, IntKind.i64, IntKind.i64, IntKind.i64] rows i = Rv.elemOf [IntKind.i64, IntKind.i64, IntKind.i64, IntKind.i64, IntKind.i64, IntKind.i64,
  IntKind.i64, IntKind.i64] rows_16 i) ∧ ∃ (rows_17 : List (List Int)), Ob (IsLst B x_1 rows_1.length ((2 : Nat)) (Rv.elemOf [IntKind.i64, IntKind.i64] rows_1) ∧ rows_17.length = rows_1.length ∧ (∀ (r : List Int), r ∈
  rows_17 → r.length = (2 : Nat)) ∧ ∀ (i : Nat), i < rows_1.length → Rv.elemOf [IntKind.i64, IntKind.i64] rows_1 i = Rv.elemOf [IntKind.i64, IntKind.i64] rows_17 i) ∧ Ob ((0 : Int) ≤ Int.ofNat ((1 : Nat)) ∧ Int.ofNat ((1 :
  Nat)) < (↑((3 : Nat)) : Int)) ∧ Ob (NxtOk n_18 n_33 n_19 [n_27, n_28, n_29, n_30, n_31, n_32, n_2, n_3, (0 : Int), (0 : Int), n_8, n_9]) ∧ Ob (InR IntKind.i64 ((1000 : Int) * n_18)) ∧ Ob ((-4000000000000000000 : Int) ≤
  wTot n_18 n_33 n_19 (pick6 (Int.ofNat ((1 : Nat))) (1 : Int) n_27 n_28 n_29 n_30 n_31 n_32) (pick2 (1 : Int) n_2 n_3) (pick2 (1 : Int) (0 : Int) (0 : Int)) (pick2 (1 : Int) n_8 n_9) ∧ wTot n_18 n_33 n_19 (pick6
  (Int.ofNat ((1 : Nat))) (1 : Int) n_27 n_28 n_29 n_30 n_31 n_32) (pick2 (1 : Int) n_2 n_3) (pick2 (1 : Int) (0 : Int) (0 : Int)) (pick2 (1 : Int) n_8 n_9) ≤ (4000000000000000000 : Int) ∧ (0 : Int) < (1000 : Int) * n_18 ∧
  (1000 : Int) * n_18 ≤ (4000000000000000000 : Int)) ∧ Ob True ∧ Ob True ∧ Ob True ∧ Ob (IsLst B x rows.length ((8 : Nat)) (Rv.elemOf [IntKind.i64, IntKind.i64, IntKind.i64, IntKind.i64, IntKind.i64, IntKind.i64,
  IntKind.i64, IntKind.i64] rows)) ∧ Ob (IsLst B x_1 rows_1.length ((2 : Nat)) (Rv.elemOf [IntKind.i64, IntKind.i64] rows_1)) ∧ ∃ (rows_18 : List (List Int)), Ob (IsLst B x rows.length ((8 : Nat)) (Rv.elemOf [IntKind.i64,
  IntKind.i64, IntKind.i64, IntKind.i64, IntKind.i64, IntKind.i64, IntKind.i64, IntKind.i64] rows) ∧ rows_18.length = rows.length ∧ (∀ (r : List Int), r ∈ rows_18 → r.length = (8 : Nat)) ∧ ∀ (i : Nat), i < rows.length →
  Rv.elemOf [IntKind.i64, IntKind.i64, IntKind.i64, IntKind.i64, IntKind.i64, IntKind.i64, IntKind.i64, IntKind.i64] rows i = Rv.elemOf [IntKind.i64, IntKind.i64, IntKind.i64, IntKind.i64, IntKind.i64, IntKind.i64,
  IntKind.i64, IntKind.i64] rows_18 i) ∧ ∃ (rows_19 : List (List Int)), Ob (IsLst B x_1 rows_1.length ((2 : Nat)) (Rv.elemOf [IntKind.i64, IntKind.i64] rows_1) ∧ rows_19.length = rows_1.length ∧ (∀ (r : List Int), r ∈
  rows_19 → r.length = (2 : Nat)) ∧ ∀ (i : Nat), i < rows_1.length → Rv.elemOf [IntKind.i64, IntKind.i64] rows_1 i = Rv.elemOf [IntKind.i64, IntKind.i64] rows_19 i) ∧ Ob True ∧ Ob True ∧ Ob (IsLst B x rows.length ((8 :
  Nat)) (Rv.elemOf [IntKind.i64, IntKind.i64, IntKind.i64, IntKind.i64, IntKind.i64, IntKind.i64, IntKind.i64, IntKind.i64] rows)) ∧ Ob (IsLst B x_1 rows_1.length ((2 : Nat)) (Rv.elemOf [IntKind.i64, IntKind.i64] rows_1))
  ∧ ∃ (rows_20 : List (List Int)), Ob (IsLst B x rows.length ((8 : Nat)) (Rv.elemOf [IntKind.i64, IntKind.i64, IntKind.i64, IntKind.i64, IntKind.i64, IntKind.i64, IntKind.i64, IntKind.i64] rows) ∧ rows_20.length =
  rows.length ∧ (∀ (r : List Int), r ∈ rows_20 → r.length = (8 : Nat)) ∧ ∀ (i : Nat), i < rows.length → Rv.elemOf [IntKind.i64, IntKind.i64, IntKind.i64, IntKind.i64, IntKind.i64, IntKind.i64, IntKind.i64, IntKind.i64]
  rows i = Rv.elemOf [IntKind.i64, IntKind.i64, IntKind.i64, IntKind.i64, IntKind.i64, IntKind.i64, IntKind.i64, IntKind.i64] rows_20 i) ∧ ∃ (rows_21 : List (List Int)), Ob (IsLst B x_1 rows_1.length ((2 : Nat)) (Rv.elemOf
  [IntKind.i64, IntKind.i64] rows_1) ∧ rows_21.length = rows_1.length ∧ (∀ (r : List Int), r ∈ rows_21 → r.length = (2 : Nat)) ∧ ∀ (i : Nat), i < rows_1.length → Rv.elemOf [IntKind.i64, IntKind.i64] rows_1 i = Rv.elemOf
  [IntKind.i64, IntKind.i64] rows_21 i) ∧ Ob True ∧ Ob True ∧ Ob ((0 : Int) ≤ (0 : Int) ∧ (0 : Int) < (↑((2 : Nat)) : Int)) ∧ ∃ (rows_22 : List (List Int)), Ob (IsLst B x rows.length ((8 : Nat)) (Rv.elemOf [IntKind.i64,
  IntKind.i64, IntKind.i64, IntKind.i64, IntKind.i64, IntKind.i64, IntKind.i64, IntKind.i64] rows) ∧ rows_22.length = rows.length ∧ (∀ (r : List Int), r ∈ rows_22 → r.length = (8 : Nat)) ∧ ∀ (i : Nat), i < rows.length →
  Rv.elemOf [IntKind.i64, IntKind.i64, IntKind.i64, IntKind.i64, IntKind.i64, IntKind.i64, IntKind.i64, IntKind.i64] rows i = Rv.elemOf [IntKind.i64, IntKind.i64, IntKind.i64, IntKind.i64, IntKind.i64, IntKind.i64,
  IntKind.i64, IntKind.i64] rows_22 i) ∧ ∃ (rows_23 : List (List Int)), Ob (IsLst B x_1 rows_1.length ((2 : Nat)) (Rv.elemOf [IntKind.i64, IntKind.i64] rows_1) ∧ rows_23.length = rows_1.length ∧ (∀ (r : List Int), r ∈
  rows_23 → r.length = (2 : Nat)) ∧ ∀ (i : Nat), i < rows_1.length → Rv.elemOf [IntKind.i64, IntKind.i64] rows_1 i = Rv.elemOf [IntKind.i64, IntKind.i64] rows_23 i) ∧ Ob ((0 : Int) ≤ Int.ofNat ((2 : Nat)) ∧ Int.ofNat ((2 :
  Nat)) < (↑((3 : Nat)) : Int)) ∧ Ob (NxtOk n_18 n_33 n_19 [n_27, n_28, n_29, n_30, n_31, n_32, n_4, n_5, n_12, n_13, (0 : Int), (0 : Int)]) ∧ Ob (InR IntKind.i64 ((1000 : Int) * n_18)) ∧ Ob ((-4000000000000000000 : Int) ≤
  wTot n_18 n_33 n_19 (pick6 (Int.ofNat ((2 : Nat))) (0 : Int) n_27 n_28 n_29 n_30 n_31 n_32) (pick2 (0 : Int) n_4 n_5) (pick2 (0 : Int) n_12 n_13) (pick2 (0 : Int) (0 : Int) (0 : Int)) ∧ wTot n_18 n_33 n_19 (pick6
  (Int.ofNat ((2 : Nat))) (0 : Int) n_27 n_28 n_29 n_30 n_31 n_32) (pick2 (0 : Int) n_4 n_5) (pick2 (0 : Int) n_12 n_13) (pick2 (0 : Int) (0 : Int) (0 : Int)) ≤ (4000000000000000000 : Int) ∧ (0 : Int) < (1000 : Int) * n_18
  ∧ (1000 : Int) * n_18 ≤ (4000000000000000000 : Int)) ∧ Ob True ∧ Ob ((0 : Int) ≤ (1 : Int) ∧ (1 : Int) < (↑((2 : Nat)) : Int)) ∧ ∃ (rows_24 : List (List Int)), Ob (IsLst B x rows.length ((8 : Nat)) (Rv.elemOf
  [IntKind.i64, IntKind.i64, IntKind.i64, IntKind.i64, IntKind.i64, IntKind.i64, IntKind.i64, IntKind.i64] rows) ∧ rows_24.length = rows.length ∧ (∀ (r : List Int), r ∈ rows_24 → r.length = (8 : Nat)) ∧ ∀ (i : Nat), i <
  rows.length → Rv.elemOf [IntKind.i64, IntKind.i64, IntKind.i64, IntKind.i64, IntKind.i64, IntKind.i64, IntKind.i64, IntKind.i64] rows i = Rv.elemOf [IntKind.i64, IntKind.i64, IntKind.i64, IntKind.i64, IntKind.i64,
  IntKind.i64, IntKind.i64, IntKind.i64] rows_24 i) ∧ ∃ (rows_25 : List (List Int)), Ob (IsLst B x_1 rows_1.length ((2 : Nat)) (Rv.elemOf [IntKind.i64, IntKind.i64] rows_1) ∧ rows_25.length = rows_1.length ∧ (∀ (r : List
  Int), r ∈ rows_25 → r.length = (2 : Nat)) ∧ ∀ (i : Nat), i < rows_1.length → Rv.elemOf [IntKind.i64, IntKind.i64] rows_1 i = Rv.elemOf [IntKind.i64, IntKind.i64] rows_25 i) ∧ Ob ((0 : Int) ≤ Int.ofNat ((2 : Nat)) ∧
  Int.ofNat ((2 : Nat)) < (↑((3 : Nat)) : Int)) ∧ Ob (NxtOk n_18 n_33 n_19 [n_27, n_28, n_29, n_30, n_31, n_32, n_4, n_5, n_12, n_13, (0 : Int), (0 : Int)]) ∧ Ob (InR IntKind.i64 ((1000 : Int) * n_18)) ∧ Ob
  ((-4000000000000000000 : Int) ≤ wTot n_18 n_33 n_19 (pick6 (Int.ofNat ((2 : Nat))) (1 : Int) n_27 n_28 n_29 n_30 n_31 n_32) (pick2 (1 : Int) n_4 n_5) (pick2 (1 : Int) n_12 n_13) (pick2 (1 : Int) (0 : Int) (0 : Int)) ∧
  wTot n_18 n_33 n_19 (pick6 (Int.ofNat ((2 : Nat))) (1 : Int) n_27 n_28 n_29 n_30 n_31 n_32) (pick2 (1 : Int) n_4 n_5) (pick2 (1 : Int) n_12 n_13) (pick2 (1 : Int) (0 : Int) (0 : Int)) ≤ (4000000000000000000 : Int) ∧ (0 :
  Int) < (1000 : Int) * n_18 ∧ (1000 : Int) * n_18 ≤ (4000000000000000000 : Int)) ∧ Ob True ∧ Ob (min (max (wTot n_18 n_33 n_19 (pick6 (0 : Int) (0 : Int) n_27 n_28 n_29 n_30 n_31 n_32) (pick2 (0 : Int) n n_1) (pick2 (0 :
  Int) n_10 n_11) (pick2 (0 : Int) ((0 : Int) - n_7) ((0 : Int) - n_6)) / ((1000 : Int) * n_18)) (0 : Int)) (100000 : Int) = wLo n_18 n_33 n_19 n_27 n n_10 ((0 : Int) - n_7) (0 : Int) (100000 : Int)) ∧ Ob (min (max ((0 :
  Int) - ((0 : Int) - wTot n_18 n_33 n_19 (pick6 (0 : Int) (1 : Int) n_27 n_28 n_29 n_30 n_31 n_32) (pick2 (1 : Int) n n_1) (pick2 (1 : Int) n_10 n_11) (pick2 (1 : Int) ((0 : Int) - n_7) ((0 : Int) - n_6))) / ((1000 : Int)
  * n_18)) (0 : Int)) (100000 : Int) = wHi n_18 n_33 n_19 n_28 n_1 n_11 ((0 : Int) - n_6) (0 : Int) (100000 : Int)) ∧ Ob (min (max (wTot n_18 n_33 n_19 (pick6 (Int.ofNat ((1 : Nat))) (0 : Int) n_27 n_28 n_29 n_30 n_31
  n_32) (pick2 (0 : Int) n_2 n_3) (pick2 (0 : Int) (0 : Int) (0 : Int)) (pick2 (0 : Int) n_8 n_9) / ((1000 : Int) * n_18)) (0 : Int)) (100000 : Int) = wLo n_18 n_33 n_19 n_29 n_2 (0 : Int) n_8 (0 : Int) (100000 : Int)) ∧
  Ob (min (max ((0 : Int) - ((0 : Int) - wTot n_18 n_33 n_19 (pick6 (Int.ofNat ((1 : Nat))) (1 : Int) n_27 n_28 n_29 n_30 n_31 n_32) (pick2 (1 : Int) n_2 n_3) (pick2 (1 : Int) (0 : Int) (0 : Int)) (pick2 (1 : Int) n_8
  n_9)) / ((1000 : Int) * n_18)) (0 : Int)) (100000 : Int) = wHi n_18 n_33 n_19 n_30 n_3 (0 : Int) n_9 (0 : Int) (100000 : Int)) ∧ Ob (min (max (wTot n_18 n_33 n_19 (pick6 (Int.ofNat ((2 : Nat))) (0 : Int) n_27 n_28 n_29
  n_30 n_31 n_32) (pick2 (0 : Int) n_4 n_5) (pick2 (0 : Int) n_12 n_13) (pick2 (0 : Int) (0 : Int) (0 : Int)) / ((1000 : Int) * n_18)) (-50 : Int)) (400 : Int) = wLo n_18 n_33 n_19 n_31 n_4 n_12 (0 : Int) (-50 : Int) (400
  : Int)) ∧ Ob (min (max ((0 : Int) - ((0 : Int) - wTot n_18 n_33 n_19 (pick6 (Int.ofNat ((2 : Nat))) (1 : Int) n_27 n_28 n_29 n_30 n_31 n_32) (pick2 (1 : Int) n_4 n_5) (pick2 (1 : Int) n_12 n_13) (pick2 (1 : Int) (0 :
  Int) (0 : Int))) / ((1000 : Int) * n_18)) (-50 : Int)) (400 : Int) = wHi n_18 n_33 n_19 n_32 n_5 n_13 (0 : Int) (-50 : Int) (400 : Int)) ∧ True

set_option linter.unusedSimpArgs false in
set_option maxRecDepth 4000 in
set_option maxHeartbeats 4000000 in
theorem v_nextW : V_nextW := by
  unfold V_nextW
  intro B x T hx hox hrx y R hy hoy hry
  intro s1 s2 s3 s4 s5 s6 u1 u2 v1 v2 a1 a2 g1 g2 le mo w1 w2 lt gr t1 t2 t3 t4 t5 t6 nu n1 n2 n3 n4 n5 n6 fl
  intro hok
  have hok : NxtOk lt fl gr [0, 0 - u2, 0 - u1, s1, s2, s3, s4, s5, s6, u1, u2, v1, v2, a1, a2, g1, g2, n1, n2, n3, n4, n5, n6] := hok
  have hl := hok.l
  have hu1 := hok.x (0 - u1) (by simp)
  have hu2 := hok.x (0 - u2) (by simp)
  simp only [Ob_iff, and_true, true_and]
  repeat' (first | (with_reducible apply And.intro) | refine ⟨T, ⟨hx, rfl, hrx, fun _ _ => rfl⟩, ?_⟩ | refine ⟨R, ⟨hy, rfl, hry, fun _ _ => rfl⟩, ?_⟩ | fail)
  all_goals first | assumption | rfl | omega | decide | (simp only [InR]; omega) | (refine hok.sub ?_; intro x hx; simp only [List.mem_cons, List.not_mem_nil, or_false] at hx ⊢; rcases hx with rfl | rfl | rfl | rfl | rfl | rfl | rfl | rfl | rfl | rfl | rfl | rfl <;> simp) | exact (hok.dv (by simp [pick6, pick2]) (by simp [pick2]) (by simp [pick2]) (by simp [pick2])).1 | exact (hok.dv (by simp [pick6, pick2]) (by simp [pick2]) (by simp [pick2]) (by simp [pick2])).2.1

theorem e_nextW : V_nextW = needEI P [F_nothing, F_ofO, F_loadO, F_givenO, F_ofA, F_loadA, F_ofW, F_givenW, F_bothEnds, F_bound, F_divDown, F_divUp, F_total] [] I_nextW A_nextW F_nextW := by kernel_rfl

theorem n_nextW : Ob (needEI P [F_nothing, F_ofO, F_loadO, F_givenO, F_ofA, F_loadA, F_ofW, F_givenW, F_bothEnds, F_bound, F_divDown, F_divUp, F_total] [] I_nextW A_nextW F_nextW) := by
  rw [← e_nextW]
  exact ⟨v_nextW⟩

theorem b_nextW : ((P.funcs[47]?).any fun fn => fn.body.isSome) = true := by kernel_rfl

theorem nextW_ok : FnE.Ok P F_nextW := FnE.okI named (l := [F_nothing, F_ofO, F_loadO, F_givenO, F_ofA, F_loadA, F_ofW, F_givenW, F_bothEnds, F_bound, F_divDown, F_divUp, F_total]) (es := []) (I := I_nextW) (A := A_nextW) (by rfl) (by rfl) (by rfl) (by
  intro F h
  simp only [List.mem_cons, List.not_mem_nil, or_false] at h
  rcases h with rfl | rfl | rfl | rfl | rfl | rfl | rfl | rfl | rfl | rfl | rfl | rfl | rfl
  · exact nothing_ok
  · exact ofO_ok
  · exact loadO_ok
  · exact givenO_ok
  · exact ofA_ok
  · exact loadA_ok
  · exact ofW_ok
  · exact givenW_ok
  · exact bothEnds_ok
  · exact bound_ok
  · exact divDown_ok
  · exact divUp_ok
  · exact total_ok
) (by
  intro F h; simp at h) b_nextW (by
  rintro ds h o ho n sz e k z rfl
  simp only [F_nextW] at ho
  split at ho <;> simp at ho) n_nextW

end Go.Proofs.Ytlnldabgbfcdcaa.Sy
