/- The law CoopMotions. -/
import Derived.Test.YtjgllojnbinchaaSyP2
import Derived.Test.YtjgllojnbinchaaGrM
import Derived.Test.YtjgllojnbinchaaStM
import Derived.Test.YtjgllojnbinchaaVtM
import Derived.Test.YtjgllojnbinchaaKvM
import Derived.Test.YtjgllojnbinchaaKvN
import Derived.Test.YtjgllojnbinchaaKtT
import Derived.Test.YtjgllojnbinchaaKtA
import Derived.Test.YtjgllojnbinchaaKtB
import Derived.Test.YtjgllojnbinchaaKtS
import Derived.Test.YtjgllojnbinchaaKtM
import Derived.Test.YtjgllojnbinchaaKtN
import Derived.Test.YtjgllojnbinchaaKvB
import Derived.Test.YtjgllojnbinchaaKvC
import Derived.Test.YtjgllojnbinchaaKvD
import Derived.Test.YtjgllojnbinchaaKvE
import Derived.Test.YtjgllojnbinchaaSyP2
import Derived.KernelRfl
import Derived.Test.YtjgllojnbinchaaProg
namespace Go.Proofs.Ytjgllojnbinchaa.Sy
open Go Go.Rv
set_option linter.unusedVariables false

theorem spo_at (V : Rows) (p k : Nat) (z : Int) (hk : k < V.length) : (updL (El.fn (Rv.elemOf [.i64] V)) p 0 [SV.i .i64 z]).at k = Rv.elemOf [.i64] (rowsF (setF (fun k => cell V k 0) p z) V.length) k := by
  refine Eq.trans (upd_at1 (f := fun k => cell V k 0)) ?_
  show _ = [SV.i .i64 (cell (rowsF (setF (fun k => cell V k 0) p z) V.length) k 0)]
  rw [rowsF_cell _ hk]
  rfl

noncomputable def F_law : LawF := ⟨3, [.one (.l [.i64]), .one (.l [.i64]), i64, i64, i64, .one (.l [.i64])], fun l => match l with | [.l W0, .l V0, .z n0, .z vote, .z at0, .l N] => N.length ≤ 9223372036854775807 | _ => False⟩
noncomputable def A_law : List SV → List Dat → Nat → List SV → Ann := fun xs ds n ts => match xs with
  | [.lst xw _ _ _, .lst xv _ _ _, .i _ _, .i _ _, .i _ _, .lst xz _ _ _] => match ds with
    | [.l W0, .l V0, .z n0, .z vote, .z at0, .l N] => match n with
      | 9 => ⟨Unit, fun _ => [], fun _ => [], fun _ => True, fun _ => 0, 5⟩
      | _ => noAnn
    | _ => noAnn
  | _ => noAnn

set_option maxRecDepth 10000 in
def V_law : Prop :=
  ∀ (B : RW), hasTabs [] B → ∀ (x : RV) (rows : List (List Int)), IsLst B x rows.length 1 (Rv.elemOf [.i64] rows) → oneB x = true → (∀ (row : List Int), row ∈ rows → row.length = (1 : Nat)) → ∀ (x_1 : RV) (rows_1 : List
  (List Int)), IsLst B x_1 rows_1.length 1 (Rv.elemOf [.i64] rows_1) → oneB x_1 = true → (∀ (row : List Int), row ∈ rows_1 → row.length = (1 : Nat)) → ∀ (n n_1 n_2 : Int) (x_2 : RV) (rows_2 : List (List Int)), IsLst B x_2
  rows_2.length 1 (Rv.elemOf [.i64] rows_2) → oneB x_2 = true → (∀ (row : List Int), row ∈ rows_2 → row.length = (1 : Nat)) → rows_2.length ≤ (9223372036854775807 : Nat) → Ob (IsLst B x rows.length 1 (Rv.elemOf [.i64]
  rows)) ∧ (¬(20 : Int) < (↑rows.length : Int) → Ob (IsLst B x_1 rows_1.length 1 (Rv.elemOf [.i64] rows_1)) ∧ ((20 : Int) < (↑rows_1.length : Int) → Ob (hasTabs [] B) ∧ True) ∧ (¬(20 : Int) < (↑rows_1.length : Int) → ∃
  (rows_3 : List (List Int)), Ob (IsLst B x_2 rows_2.length 1 (Rv.elemOf [.i64] rows_2) ∧ rows_3.length = rows_2.length ∧ (∀ (r : List Int), r ∈ rows_3 → r.length = (1 : Nat)) ∧ ∀ (i : Nat), i < rows_2.length → Rv.elemOf
  [.i64] rows_2 i = Rv.elemOf [.i64] rows_3 i) ∧ Ob (F_TideOf.named.pre [Dat.l rows_3]) ∧ Ob (F_MotionOf.named.pre ([Dat.z (tideK rows_3 rows_3.length)] ++ [Dat.z (8 : Int)])) ∧ ∀ (v : Int), v = moZ (tideK rows_3
  rows_3.length) (8 : Int) → ∀ (v_1 : Int), v_1 = moD (tideK rows_3 rows_3.length) (8 : Int) → ∃ (rows_4 : List (List Int)), Ob (moN (tideK rows_3 rows_3.length) (8 : Int) = moN (tideK rows_3 rows_3.length) (8 : Int) ∧
  rows_4.length = moN (tideK rows_3 rows_3.length) (8 : Int) ∧ (∀ (r : List Int), r ∈ rows_4 → r.length = (1 : Nat)) ∧ ∀ (i : Nat), i < moN (tideK rows_3 rows_3.length) (8 : Int) → (El.fn (Rv.elemOf [.i64] (itR moQ moV
  (moA (tideK rows_3 rows_3.length) (8 : Int)) (moN (tideK rows_3 rows_3.length) (8 : Int))))).at i = Rv.elemOf [.i64] rows_4 i) ∧ Ob (F_Ints.named.pre [Dat.l rows_4]) ∧ Ob ((↑rows_4.length : Int) ≤ (1000000000 : Int)) ∧
  Ob ((0 : Int) ≤ wrapZ n_2 (↑rows_4.length : Int) ∧ (wrapZ n_2 (↑rows_4.length : Int)).toNat < rows_4.length) ∧ Ob ((wrapZ n_2 (↑rows_4.length : Int)).toNat < rows_4.length ∧ ((El.fn (Rv.elemOf [.i64] rows_4)).at (wrapZ
  n_2 (↑rows_4.length : Int)).toNat).length = (1 : Nat)) ∧ Ob (oneB x = true) ∧ Ob (oneB x_1 = true) ∧ Ob (IsLst B x rows.length 1 (Rv.elemOf [.i64] rows)) ∧ ∃ (rows_5 : List (List Int)), Ob (IsLst B x rows.length 1
  (Rv.elemOf [.i64] rows) ∧ rows_5.length = rows.length ∧ (∀ (r : List Int), r ∈ rows_5 → r.length = (1 : Nat)) ∧ ∀ (i : Nat), i < rows.length → Rv.elemOf [.i64] rows i = Rv.elemOf [.i64] rows_5 i) ∧ Ob (F_Ints.named.pre
  [Dat.l rows_5]) ∧ Ob (PlainE rows_5.length (El.fn (Rv.elemOf [.i64] rows_5))) ∧ Ob (IsLst B x_1 rows_1.length 1 (Rv.elemOf [.i64] rows_1)) ∧ ∃ (rows_6 : List (List Int)), Ob (IsLst B x_1 rows_1.length 1 (Rv.elemOf [.i64]
  rows_1) ∧ rows_6.length = rows_1.length ∧ (∀ (r : List Int), r ∈ rows_6 → r.length = (1 : Nat)) ∧ ∀ (i : Nat), i < rows_1.length → Rv.elemOf [.i64] rows_1 i = Rv.elemOf [.i64] rows_6 i) ∧ Ob (F_Ints.named.pre [Dat.l
  rows_6]) ∧ ∃ (rows_7 : List (List Int)), Ob (rows_5.length = rows_5.length ∧ rows_7.length = rows_5.length ∧ (∀ (r : List Int), r ∈ rows_7 → r.length = (1 : Nat)) ∧ ∀ (i : Nat), i < rows_5.length → (El.fn (Rv.elemOf
  [.i64] rows_5)).at i = Rv.elemOf [.i64] rows_7 i) ∧ ∃ (rows_8 : List (List Int)), Ob (rows_6.length = rows_6.length ∧ rows_8.length = rows_6.length ∧ (∀ (r : List Int), r ∈ rows_8 → r.length = (1 : Nat)) ∧ ∀ (i : Nat), i
  < rows_6.length → (El.fn (Rv.elemOf [.i64] rows_6)).at i = Rv.elemOf [.i64] rows_8 i) ∧ Ob (F_Decide.named.pre [Dat.l rows_7, Dat.l rows_8, Dat.z n]) ∧ ∀ (v_2 : Int), v_2 = decV rows_7 rows_8 n → ∀ (v_3 : Int), v_3 =
  motErr rows_7 rows_8 n → Ob (IsLst B x rows.length 1 (Rv.elemOf [.i64] rows)) ∧ Ob (IsLst B x_1 rows_1.length 1 (Rv.elemOf [.i64] rows_1)) ∧ ∃ (rows_9 : List (List Int)), Ob (IsLst B x rows.length 1 (Rv.elemOf [.i64]
  rows) ∧ rows_9.length = rows.length ∧ (∀ (r : List Int), r ∈ rows_9 → r.length = (1 : Nat)) ∧ ∀ (i : Nat), i < rows.length → Rv.elemOf [.i64] rows i = Rv.elemOf [.i64] rows_9 i) ∧ ∃ (rows_10 : List (List Int)), Ob (IsLst
  B x_1 rows_1.length 1 (Rv.elemOf [.i64] rows_1) ∧ rows_10.length = rows_1.length ∧ (∀ (r : List Int), r ∈ rows_10 → r.length = (1 : Nat)) ∧ ∀ (i : Nat), i < rows_1.length → Rv.elemOf [.i64] rows_1 i = Rv.elemOf [.i64]
  rows_10 i) ∧ Ob (F_DecideR.named.pre [Dat.l rows_9, Dat.l rows_10, Dat.z n]) ∧ ∀ (v_4 : Int), v_4 = decV rows_9 rows_10 n → ∀ (v_5 : Int), v_5 = motErr rows_9 rows_10 n → ∃ (rows_11 : List (List Int)), Ob (rows_5.length
  = rows_5.length ∧ rows_11.length = rows_5.length ∧ (∀ (r : List Int), r ∈ rows_11 → r.length = (1 : Nat)) ∧ ∀ (i : Nat), i < rows_5.length → (El.fn (Rv.elemOf [.i64] rows_5)).at i = Rv.elemOf [.i64] rows_11 i) ∧ ∃
  (rows_12 : List (List Int)), Ob (rows_6.length = rows_6.length ∧ rows_12.length = rows_6.length ∧ (∀ (r : List Int), r ∈ rows_12 → r.length = (1 : Nat)) ∧ ∀ (i : Nat), i < rows_6.length → (El.fn (Rv.elemOf [.i64]
  rows_6)).at i = Rv.elemOf [.i64] rows_12 i) ∧ Ob (F_Swing.named.pre [Dat.l rows_11, Dat.l rows_12, Dat.z n]) ∧ ∀ (v_6 : Int), v_6 = motErr rows_11 rows_12 n → Ob (IsLst B x rows.length 1 (Rv.elemOf [.i64] rows)) ∧ Ob
  (IsLst B x_1 rows_1.length 1 (Rv.elemOf [.i64] rows_1)) ∧ ∃ (rows_13 : List (List Int)), Ob (IsLst B x rows.length 1 (Rv.elemOf [.i64] rows) ∧ rows_13.length = rows.length ∧ (∀ (r : List Int), r ∈ rows_13 → r.length = (1
  : Nat)) ∧ ∀ (i : Nat), i < rows.length → Rv.elemOf [.i64] rows i = Rv.elemOf [.i64] rows_13 i) ∧ ∃ (rows_14 : List (List Int)), Ob (IsLst B x_1 rows_1.length 1 (Rv.elemOf [.i64] rows_1) ∧ rows_14.length = rows_1.length ∧
  (∀ (r : List Int), r ∈ rows_14 → r.length = (1 : Nat)) ∧ ∀ (i : Nat), i < rows_1.length → Rv.elemOf [.i64] rows_1 i = Rv.elemOf [.i64] rows_14 i) ∧ Ob (F_SwingR.named.pre [Dat.l rows_13, Dat.l rows_14, Dat.z n]) ∧ ∀ (v_7
  : Int), v_7 = motErr rows_13 rows_14 n → Ob (PlainE (List.length (swgR rows_13 rows_14 n)) (El.fn (Rv.elemOf [.i64] (swgR rows_13 rows_14 n)))) ∧ (¬¬v_2 = v_4 → (¬¬v_3 = v_5 → (¬¬v_6 = v_7 → ∃ (rows_15 : List (List
  Int)), Ob (List.length (swgR rows_11 rows_12 n) = List.length (swgR rows_11 rows_12 n) ∧ rows_15.length = List.length (swgR rows_11 rows_12 n) ∧ (∀ (r : List Int), r ∈ rows_15 → r.length = (1 : Nat)) ∧ ∀ (i : Nat), i <
  List.length (swgR rows_11 rows_12 n) → (El.fn (Rv.elemOf [.i64] (swgR rows_11 rows_12 n))).at i = Rv.elemOf [.i64] rows_15 i) ∧ ∃ (rows_16 : List (List Int)), Ob (List.length (swgR rows_13 rows_14 n) = List.length (swgR
  rows_13 rows_14 n) ∧ rows_16.length = List.length (swgR rows_13 rows_14 n) ∧ (∀ (r : List Int), r ∈ rows_16 → r.length = (1 : Nat)) ∧ ∀ (i : Nat), i < List.length (swgR rows_13 rows_14 n) → (El.fn (Rv.elemOf [.i64] (swgR
  rows_13 rows_14 n))).at i = Rv.elemOf [.i64] rows_16 i) ∧ Ob (rows_15.length ≤ (4000000 : Nat) ∧ rows_16.length ≤ (4000000 : Nat)) ∧ (¬¬samTo 1 rows_15 rows_16 rows_15.length → ∃ (rows_17 : List (List Int)), Ob
  (rows_5.length = rows_5.length ∧ rows_17.length = rows_5.length ∧ (∀ (r : List Int), r ∈ rows_17 → r.length = (1 : Nat)) ∧ ∀ (i : Nat), i < rows_5.length → (El.fn (Rv.elemOf [.i64] rows_5)).at i = Rv.elemOf [.i64]
  rows_17 i) ∧ ∃ (rows_18 : List (List Int)), Ob (IsLst B x rows.length 1 (Rv.elemOf [.i64] rows) ∧ rows_18.length = rows.length ∧ (∀ (r : List Int), r ∈ rows_18 → r.length = (1 : Nat)) ∧ ∀ (i : Nat), i < rows.length →
  Rv.elemOf [.i64] rows i = Rv.elemOf [.i64] rows_18 i) ∧ Ob (rows_17.length ≤ (4000000 : Nat) ∧ rows_18.length ≤ (4000000 : Nat)) ∧ (¬¬samTo 1 rows_17 rows_18 rows_17.length → ∃ (rows_19 : List (List Int)), Ob
  (rows_6.length = rows_6.length ∧ rows_19.length = rows_6.length ∧ (∀ (r : List Int), r ∈ rows_19 → r.length = (1 : Nat)) ∧ ∀ (i : Nat), i < rows_6.length → (El.fn (Rv.elemOf [.i64] rows_6)).at i = Rv.elemOf [.i64]
  rows_19 i) ∧ ∃ (rows_20 : List (List Int)), Ob (IsLst B x_1 rows_1.length 1 (Rv.elemOf [.i64] rows_1) ∧ rows_20.length = rows_1.length ∧ (∀ (r : List Int), r ∈ rows_20 → r.length = (1 : Nat)) ∧ ∀ (i : Nat), i <
  rows_1.length → Rv.elemOf [.i64] rows_1 i = Rv.elemOf [.i64] rows_20 i) ∧ Ob (rows_19.length ≤ (4000000 : Nat) ∧ rows_20.length ≤ (4000000 : Nat)) ∧ (¬samTo 1 rows_19 rows_20 rows_19.length → False) ∧ (¬¬samTo 1 rows_19
  rows_20 rows_19.length → ∃ (rows_21 : List (List Int)), Ob (moN (tideK rows_3 rows_3.length) (8 : Int) = moN (tideK rows_3 rows_3.length) (8 : Int) ∧ rows_21.length = moN (tideK rows_3 rows_3.length) (8 : Int) ∧ (∀ (r :
  List Int), r ∈ rows_21 → r.length = (1 : Nat)) ∧ ∀ (i : Nat), i < moN (tideK rows_3 rows_3.length) (8 : Int) → (El.fn (Rv.elemOf [.i64] (itR moQ moW (moA (tideK rows_3 rows_3.length) (8 : Int)) (moN (tideK rows_3
  rows_3.length) (8 : Int))))).at i = Rv.elemOf [.i64] rows_21 i) ∧ Ob (F_Ints.named.pre [Dat.l rows_21]) ∧ Ob (PlainE rows_21.length (El.fn (Rv.elemOf [.i64] rows_21))) ∧ ∃ (rows_22 : List (List Int)), Ob (moN (tideK
  rows_3 rows_3.length) (8 : Int) = moN (tideK rows_3 rows_3.length) (8 : Int) ∧ rows_22.length = moN (tideK rows_3 rows_3.length) (8 : Int) ∧ (∀ (r : List Int), r ∈ rows_22 → r.length = (1 : Nat)) ∧ ∀ (i : Nat), i < moN
  (tideK rows_3 rows_3.length) (8 : Int) → (El.fn (Rv.elemOf [.i64] (itR moQ moV (moA (tideK rows_3 rows_3.length) (8 : Int)) (moN (tideK rows_3 rows_3.length) (8 : Int))))).at i = Rv.elemOf [.i64] rows_22 i) ∧ Ob
  (F_Ints.named.pre [Dat.l rows_22]) ∧ ∃ (rows_23 : List (List Int)), Ob (rows_21.length = rows_21.length ∧ rows_23.length = rows_21.length ∧ (∀ (r : List Int), r ∈ rows_23 → r.length = (1 : Nat)) ∧ ∀ (i : Nat), i <
  rows_21.length → (El.fn (Rv.elemOf [.i64] rows_21)).at i = Rv.elemOf [.i64] rows_23 i) ∧ ∃ (rows_24 : List (List Int)), Ob (rows_22.length = rows_22.length ∧ rows_24.length = rows_22.length ∧ (∀ (r : List Int), r ∈
  rows_24 → r.length = (1 : Nat)) ∧ ∀ (i : Nat), i < rows_22.length → (El.fn (Rv.elemOf [.i64] rows_22)).at i = Rv.elemOf [.i64] rows_24 i) ∧ Ob (F_Decide.named.pre [Dat.l rows_23, Dat.l rows_24, Dat.z v_1]) ∧ ∀ (v_8 :
  Int), v_8 = decV rows_23 rows_24 v_1 → ∀ (v_9 : Int), v_9 = motErr rows_23 rows_24 v_1 → ∃ (rows_25 : List (List Int)), Ob (moN (tideK rows_3 rows_3.length) (8 : Int) = moN (tideK rows_3 rows_3.length) (8 : Int) ∧
  rows_25.length = moN (tideK rows_3 rows_3.length) (8 : Int) ∧ (∀ (r : List Int), r ∈ rows_25 → r.length = (1 : Nat)) ∧ ∀ (i : Nat), i < moN (tideK rows_3 rows_3.length) (8 : Int) → (El.fn (Rv.elemOf [.i64] (itR moQ moW
  (moA (tideK rows_3 rows_3.length) (8 : Int)) (moN (tideK rows_3 rows_3.length) (8 : Int))))).at i = Rv.elemOf [.i64] rows_25 i) ∧ ∃ (rows_26 : List (List Int)), Ob (moN (tideK rows_3 rows_3.length) (8 : Int) = moN (tideK
  rows_3 rows_3.length) (8 : Int) ∧ rows_26.length = moN (tideK rows_3 rows_3.length) (8 : Int) ∧ (∀ (r : List Int), r ∈ rows_26 → r.length = (1 : Nat)) ∧ ∀ (i : Nat), i < moN (tideK rows_3 rows_3.length) (8 : Int) →
  (El.fn (Rv.elemOf [.i64] (itR moQ moV (moA (tideK rows_3 rows_3.length) (8 : Int)) (moN (tideK rows_3 rows_3.length) (8 : Int))))).at i = Rv.elemOf [.i64] rows_26 i) ∧ Ob (F_DecideR.named.pre [Dat.l rows_25, Dat.l
  rows_26, Dat.z v_1]) ∧ ∀ (v_10 : Int), v_10 = decV rows_25 rows_26 v_1 → ∀ (v_11 : Int), v_11 = motErr rows_25 rows_26 v_1 → ∃ (rows_27 : List (List Int)), Ob (rows_21.length = rows_21.length ∧ rows_27.length =
  rows_21.length ∧ (∀ (r : List Int), r ∈ rows_27 → r.length = (1 : Nat)) ∧ ∀ (i : Nat), i < rows_21.length → (El.fn (Rv.elemOf [.i64] rows_21)).at i = Rv.elemOf [.i64] rows_27 i) ∧ ∃ (rows_28 : List (List Int)), Ob
  (rows_22.length = rows_22.length ∧ rows_28.length = rows_22.length ∧ (∀ (r : List Int), r ∈ rows_28 → r.length = (1 : Nat)) ∧ ∀ (i : Nat), i < rows_22.length → (El.fn (Rv.elemOf [.i64] rows_22)).at i = Rv.elemOf [.i64]
  rows_28 i) ∧ Ob (F_Swing.named.pre [Dat.l rows_27, Dat.l rows_28, Dat.z v_1]) ∧ ∀ (v_12 : Int), v_12 = motErr rows_27 rows_28 v_1 → ∃ (rows_29 : List (List Int)), Ob (moN (tideK rows_3 rows_3.length) (8 : Int) = moN
  (tideK rows_3 rows_3.length) (8 : Int) ∧ rows_29.length = moN (tideK rows_3 rows_3.length) (8 : Int) ∧ (∀ (r : List Int), r ∈ rows_29 → r.length = (1 : Nat)) ∧ ∀ (i : Nat), i < moN (tideK rows_3 rows_3.length) (8 : Int)
  → (El.fn (Rv.elemOf [.i64] (itR moQ moW (moA (tideK rows_3 rows_3.length) (8 : Int)) (moN (tideK rows_3 rows_3.length) (8 : Int))))).at i = Rv.elemOf [.i64] rows_29 i) ∧ ∃ (rows_30 : List (List Int)), Ob (moN (tideK
  rows_3 rows_3.length) (8 : Int) = moN (tideK rows_3 rows_3.length) (8 : Int) ∧ rows_30.length = moN (tideK rows_3 rows_3.length) (8 : Int) ∧ (∀ (r : List Int), r ∈ rows_30 → r.length = (1 : Nat)) ∧ ∀ (i : Nat), i < moN
  (tideK rows_3 rows_3.length) (8 : Int) → (El.fn (Rv.elemOf [.i64] (itR moQ moV (moA (tideK rows_3 rows_3.length) (8 : Int)) (moN (tideK rows_3 rows_3.length) (8 : Int))))).at i = Rv.elemOf [.i64] rows_30 i) ∧ Ob
  (F_SwingR.named.pre [Dat.l rows_29, Dat.l rows_30, Dat.z v_1]) ∧ ∀ (v_13 : Int), v_13 = motErr rows_29 rows_30 v_1 → Ob (PlainE (List.length (swgR rows_29 rows_30 v_1)) (El.fn (Rv.elemOf [.i64] (swgR rows_29 rows_30
  v_1)))) ∧ (¬¬v_8 = v_10 → (¬¬v_9 = v_11 → (¬¬v_12 = v_13 → ∃ (rows_31 : List (List Int)), Ob (List.length (swgR rows_27 rows_28 v_1) = List.length (swgR rows_27 rows_28 v_1) ∧ rows_31.length = List.length (swgR rows_27
  rows_28 v_1) ∧ (∀ (r : List Int), r ∈ rows_31 → r.length = (1 : Nat)) ∧ ∀ (i : Nat), i < List.length (swgR rows_27 rows_28 v_1) → (El.fn (Rv.elemOf [.i64] (swgR rows_27 rows_28 v_1))).at i = Rv.elemOf [.i64] rows_31 i) ∧
  ∃ (rows_32 : List (List Int)), Ob (List.length (swgR rows_29 rows_30 v_1) = List.length (swgR rows_29 rows_30 v_1) ∧ rows_32.length = List.length (swgR rows_29 rows_30 v_1) ∧ (∀ (r : List Int), r ∈ rows_32 → r.length =
  (1 : Nat)) ∧ ∀ (i : Nat), i < List.length (swgR rows_29 rows_30 v_1) → (El.fn (Rv.elemOf [.i64] (swgR rows_29 rows_30 v_1))).at i = Rv.elemOf [.i64] rows_32 i) ∧ Ob (rows_31.length ≤ (4000000 : Nat) ∧ rows_32.length ≤
  (4000000 : Nat)) ∧ (¬¬samTo 1 rows_31 rows_32 rows_31.length → ∃ (rows_33 : List (List Int)), Ob (rows_21.length = rows_21.length ∧ rows_33.length = rows_21.length ∧ (∀ (r : List Int), r ∈ rows_33 → r.length = (1 : Nat))
  ∧ ∀ (i : Nat), i < rows_21.length → (El.fn (Rv.elemOf [.i64] rows_21)).at i = Rv.elemOf [.i64] rows_33 i) ∧ ∃ (rows_34 : List (List Int)), Ob (moN (tideK rows_3 rows_3.length) (8 : Int) = moN (tideK rows_3 rows_3.length)
  (8 : Int) ∧ rows_34.length = moN (tideK rows_3 rows_3.length) (8 : Int) ∧ (∀ (r : List Int), r ∈ rows_34 → r.length = (1 : Nat)) ∧ ∀ (i : Nat), i < moN (tideK rows_3 rows_3.length) (8 : Int) → (El.fn (Rv.elemOf [.i64]
  (itR moQ moW (moA (tideK rows_3 rows_3.length) (8 : Int)) (moN (tideK rows_3 rows_3.length) (8 : Int))))).at i = Rv.elemOf [.i64] rows_34 i) ∧ Ob (rows_33.length ≤ (4000000 : Nat) ∧ rows_34.length ≤ (4000000 : Nat)) ∧
  (¬¬samTo 1 rows_33 rows_34 rows_33.length → ∃ (rows_35 : List (List Int)), Ob (rows_22.length = rows_22.length ∧ rows_35.length = rows_22.length ∧ (∀ (r : List Int), r ∈ rows_35 → r.length = (1 : Nat)) ∧ ∀ (i : Nat), i <
  rows_22.length → (El.fn (Rv.elemOf [.i64] rows_22)).at i = Rv.elemOf [.i64] rows_35 i) ∧ ∃ (rows_36 : List (List Int)), Ob (moN (tideK rows_3 rows_3.length) (8 : Int) = moN (tideK rows_3 rows_3.length) (8 : Int) ∧
  rows_36.length = moN (tideK rows_3 rows_3.length) (8 : Int) ∧ (∀ (r : List Int), r ∈ rows_36 → r.length = (1 : Nat)) ∧ ∀ (i : Nat), i < moN (tideK rows_3 rows_3.length) (8 : Int) → (El.fn (Rv.elemOf [.i64] (itR moQ moV
  (moA (tideK rows_3 rows_3.length) (8 : Int)) (moN (tideK rows_3 rows_3.length) (8 : Int))))).at i = Rv.elemOf [.i64] rows_36 i) ∧ Ob (rows_35.length ≤ (4000000 : Nat) ∧ rows_36.length ≤ (4000000 : Nat)) ∧ (¬samTo 1
  rows_35 rows_36 rows_35.length → False) ∧ (¬¬samTo 1 rows_35 rows_36 rows_35.length → ∃ (rows_37 : List (List Int)), Ob (moN (tideK rows_3 rows_3.length) (8 : Int) = moN (tideK rows_3 rows_3.length) (8 : Int) ∧
  rows_37.length = moN (tideK rows_3 rows_3.length) (8 : Int) ∧ (∀ (r : List Int), r ∈ rows_37 → r.length = (1 : Nat)) ∧ ∀ (i : Nat), i < moN (tideK rows_3 rows_3.length) (8 : Int) → (El.fn (Rv.elemOf [.i64] (itR moQ moW
  (moA (tideK rows_3 rows_3.length) (8 : Int)) (moN (tideK rows_3 rows_3.length) (8 : Int))))).at i = Rv.elemOf [.i64] rows_37 i) ∧ Ob (F_Ints.named.pre [Dat.l rows_37]) ∧ Ob (PlainE rows_37.length (El.fn (Rv.elemOf [.i64]
  rows_37))) ∧ ∃ (rows_38 : List (List Int)), Ob (rows_4.length = rows_4.length ∧ rows_38.length = rows_4.length ∧ (∀ (r : List Int), r ∈ rows_38 → r.length = (1 : Nat)) ∧ ∀ (i : Nat), i < rows_4.length → (updL (El.fn
  (Rv.elemOf [.i64] rows_4)) (wrapZ n_2 (↑rows_4.length : Int)).toNat 0 [SV.i .i64 n_1]).at i = Rv.elemOf [.i64] rows_38 i) ∧ Ob (F_Ints.named.pre [Dat.l rows_38]) ∧ ∃ (rows_39 : List (List Int)), Ob (rows_37.length =
  rows_37.length ∧ rows_39.length = rows_37.length ∧ (∀ (r : List Int), r ∈ rows_39 → r.length = (1 : Nat)) ∧ ∀ (i : Nat), i < rows_37.length → (El.fn (Rv.elemOf [.i64] rows_37)).at i = Rv.elemOf [.i64] rows_39 i) ∧ ∃
  (rows_40 : List (List Int)), Ob (rows_38.length = rows_38.length ∧ rows_40.length = rows_38.length ∧ (∀ (r : List Int), r ∈ rows_40 → r.length = (1 : Nat)) ∧ ∀ (i : Nat), i < rows_38.length → (El.fn (Rv.elemOf [.i64]
  rows_38)).at i = Rv.elemOf [.i64] rows_40 i) ∧ Ob (F_Decide.named.pre [Dat.l rows_39, Dat.l rows_40, Dat.z v_1]) ∧ ∀ (v_14 : Int), v_14 = decV rows_39 rows_40 v_1 → ∀ (v_15 : Int), v_15 = motErr rows_39 rows_40 v_1 → ∃
  (rows_41 : List (List Int)), Ob (moN (tideK rows_3 rows_3.length) (8 : Int) = moN (tideK rows_3 rows_3.length) (8 : Int) ∧ rows_41.length = moN (tideK rows_3 rows_3.length) (8 : Int) ∧ (∀ (r : List Int), r ∈ rows_41 →
  r.length = (1 : Nat)) ∧ ∀ (i : Nat), i < moN (tideK rows_3 rows_3.length) (8 : Int) → (El.fn (Rv.elemOf [.i64] (itR moQ moW (moA (tideK rows_3 rows_3.length) (8 : Int)) (moN (tideK rows_3 rows_3.length) (8 : Int))))).at
  i = Rv.elemOf [.i64] rows_41 i) ∧ ∃ (rows_42 : List (List Int)), Ob (rows_4.length = rows_4.length ∧ rows_42.length = rows_4.length ∧ (∀ (r : List Int), r ∈ rows_42 → r.length = (1 : Nat)) ∧ ∀ (i : Nat), i <
  rows_4.length → (updL (El.fn (Rv.elemOf [.i64] rows_4)) (wrapZ n_2 (↑rows_4.length : Int)).toNat 0 [SV.i .i64 n_1]).at i = Rv.elemOf [.i64] rows_42 i) ∧ Ob (F_DecideR.named.pre [Dat.l rows_41, Dat.l rows_42, Dat.z v_1])
  ∧ ∀ (v_16 : Int), v_16 = decV rows_41 rows_42 v_1 → ∀ (v_17 : Int), v_17 = motErr rows_41 rows_42 v_1 → ∃ (rows_43 : List (List Int)), Ob (rows_37.length = rows_37.length ∧ rows_43.length = rows_37.length ∧ (∀ (r : List
  Int), r ∈ rows_43 → r.length = (1 : Nat)) ∧ ∀ (i : Nat), i < rows_37.length → (El.fn (Rv.elemOf [.i64] rows_37)).at i = Rv.elemOf [.i64] rows_43 i) ∧ ∃ (rows_44 : List (List Int)), Ob (rows_38.length = rows_38.length ∧
  rows_44.length = rows_38.length ∧ (∀ (r : List Int), r ∈ rows_44 → r.length = (1 : Nat)) ∧ ∀ (i : Nat), i < rows_38.length → (El.fn (Rv.elemOf [.i64] rows_38)).at i = Rv.elemOf [.i64] rows_44 i) ∧ Ob (F_Swing.named.pre
  [Dat.l rows_43, Dat.l rows_44, Dat.z v_1]) ∧ ∀ (v_18 : Int), v_18 = motErr rows_43 rows_44 v_1 → ∃ (rows_45 : List (List Int)), Ob (moN (tideK rows_3 rows_3.length) (8 : Int) = moN (tideK rows_3 rows_3.length) (8 : Int)
  ∧ rows_45.length = moN (tideK rows_3 rows_3.length) (8 : Int) ∧ (∀ (r : List Int), r ∈ rows_45 → r.length = (1 : Nat)) ∧ ∀ (i : Nat), i < moN (tideK rows_3 rows_3.length) (8 : Int) → (El.fn (Rv.elemOf [.i64] (itR moQ moW
  (moA (tideK rows_3 rows_3.length) (8 : Int)) (moN (tideK rows_3 rows_3.length) (8 : Int))))).at i = Rv.elemOf [.i64] rows_45 i) ∧ ∃ (rows_46 : List (List Int)), Ob (rows_4.length = rows_4.length ∧ rows_46.length =
  rows_4.length ∧ (∀ (r : List Int), r ∈ rows_46 → r.length = (1 : Nat)) ∧ ∀ (i : Nat), i < rows_4.length → (updL (El.fn (Rv.elemOf [.i64] rows_4)) (wrapZ n_2 (↑rows_4.length : Int)).toNat 0 [SV.i .i64 n_1]).at i =
  Rv.elemOf [.i64] rows_46 i) ∧ Ob (F_SwingR.named.pre [Dat.l rows_45, Dat.l rows_46, Dat.z v_1]) ∧ ∀ (v_19 : Int), v_19 = motErr rows_45 rows_46 v_1 → Ob (PlainE (List.length (swgR rows_45 rows_46 v_1)) (El.fn (Rv.elemOf
  [.i64] (swgR rows_45 rows_46 v_1)))) ∧ (¬¬v_14 = v_16 → (¬¬v_15 = v_17 → (¬¬v_18 = v_19 → ∃ (rows_47 : List (List Int)), Ob (List.length (swgR rows_43 rows_44 v_1) = List.length (swgR rows_43 rows_44 v_1) ∧
  rows_47.length = List.length (swgR rows_43 rows_44 v_1) ∧ (∀ (r : List Int), r ∈ rows_47 → r.length = (1 : Nat)) ∧ ∀ (i : Nat), i < List.length (swgR rows_43 rows_44 v_1) → (El.fn (Rv.elemOf [.i64] (swgR rows_43 rows_44
  v_1))).at i = Rv.elemOf [.i64] rows_47 i) ∧ ∃ (rows_48 : List (List Int)), Ob (List.length (swgR rows_45 rows_46 v_1) = List.length (swgR rows_45 rows_46 v_1) ∧ rows_48.length = List.length (swgR rows_45 rows_46 v_1) ∧
  (∀ (r : List Int), r ∈ rows_48 → r.length = (1 : Nat)) ∧ ∀ (i : Nat), i < List.length (swgR rows_45 rows_46 v_1) → (El.fn (Rv.elemOf [.i64] (swgR rows_45 rows_46 v_1))).at i = Rv.elemOf [.i64] rows_48 i) ∧ Ob
  (rows_47.length ≤ (4000000 : Nat) ∧ rows_48.length ≤ (4000000 : Nat)) ∧ (¬¬samTo 1 rows_47 rows_48 rows_47.length → ∃ (rows_49 : List (List Int)), Ob (rows_37.length = rows_37.length ∧ rows_49.length = rows_37.length ∧
  (∀ (r : List Int), r ∈ rows_49 → r.length = (1 : Nat)) ∧ ∀ (i : Nat), i < rows_37.length → (El.fn (Rv.elemOf [.i64] rows_37)).at i = Rv.elemOf [.i64] rows_49 i) ∧ ∃ (rows_50 : List (List Int)), Ob (moN (tideK rows_3
  rows_3.length) (8 : Int) = moN (tideK rows_3 rows_3.length) (8 : Int) ∧ rows_50.length = moN (tideK rows_3 rows_3.length) (8 : Int) ∧ (∀ (r : List Int), r ∈ rows_50 → r.length = (1 : Nat)) ∧ ∀ (i : Nat), i < moN (tideK
  rows_3 rows_3.length) (8 : Int) → (El.fn (Rv.elemOf [.i64] (itR moQ moW (moA (tideK rows_3 rows_3.length) (8 : Int)) (moN (tideK rows_3 rows_3.length) (8 : Int))))).at i = Rv.elemOf [.i64] rows_50 i) ∧ Ob (rows_49.length
  ≤ (4000000 : Nat) ∧ rows_50.length ≤ (4000000 : Nat)) ∧ (¬¬samTo 1 rows_49 rows_50 rows_49.length → ∃ (rows_51 : List (List Int)), Ob (rows_38.length = rows_38.length ∧ rows_51.length = rows_38.length ∧ (∀ (r : List
  Int), r ∈ rows_51 → r.length = (1 : Nat)) ∧ ∀ (i : Nat), i < rows_38.length → (El.fn (Rv.elemOf [.i64] rows_38)).at i = Rv.elemOf [.i64] rows_51 i) ∧ ∃ (rows_52 : List (List Int)), Ob (rows_4.length = rows_4.length ∧
  rows_52.length = rows_4.length ∧ (∀ (r : List Int), r ∈ rows_52 → r.length = (1 : Nat)) ∧ ∀ (i : Nat), i < rows_4.length → (updL (El.fn (Rv.elemOf [.i64] rows_4)) (wrapZ n_2 (↑rows_4.length : Int)).toNat 0 [SV.i .i64
  n_1]).at i = Rv.elemOf [.i64] rows_52 i) ∧ Ob (rows_51.length ≤ (4000000 : Nat) ∧ rows_52.length ≤ (4000000 : Nat)) ∧ (¬samTo 1 rows_51 rows_52 rows_51.length → False) ∧ (¬¬samTo 1 rows_51 rows_52 rows_51.length → ∃
  (rows_53 : List (List Int)), Ob (moN (tideK rows_3 rows_3.length) (8 : Int) = moN (tideK rows_3 rows_3.length) (8 : Int) ∧ rows_53.length = moN (tideK rows_3 rows_3.length) (8 : Int) ∧ (∀ (r : List Int), r ∈ rows_53 →
  r.length = (1 : Nat)) ∧ ∀ (i : Nat), i < moN (tideK rows_3 rows_3.length) (8 : Int) → (El.fn (Rv.elemOf [.i64] (itR moQ moW (moA (tideK rows_3 rows_3.length) (8 : Int)) (moN (tideK rows_3 rows_3.length) (8 : Int))))).at
  i = Rv.elemOf [.i64] rows_53 i) ∧ Ob (F_Ints.named.pre [Dat.l rows_53]) ∧ Ob (PlainE rows_53.length (El.fn (Rv.elemOf [.i64] rows_53))) ∧ ∃ (rows_54 : List (List Int)), Ob (moN (tideK rows_3 rows_3.length) (8 : Int) =
  moN (tideK rows_3 rows_3.length) (8 : Int) ∧ rows_54.length = moN (tideK rows_3 rows_3.length) (8 : Int) ∧ (∀ (r : List Int), r ∈ rows_54 → r.length = (1 : Nat)) ∧ ∀ (i : Nat), i < moN (tideK rows_3 rows_3.length) (8 :
  Int) → (El.fn (Rv.elemOf [.i64] (itR moQ moV (moA (tideK rows_3 rows_3.length) (8 : Int)) (moN (tideK rows_3 rows_3.length) (8 : Int))))).at i = Rv.elemOf [.i64] rows_54 i) ∧ Ob (F_Ints.named.pre [Dat.l rows_54]) ∧ ∃
  (rows_55 : List (List Int)), Ob (rows_53.length = rows_53.length ∧ rows_55.length = rows_53.length ∧ (∀ (r : List Int), r ∈ rows_55 → r.length = (1 : Nat)) ∧ ∀ (i : Nat), i < rows_53.length → (El.fn (Rv.elemOf [.i64]
  rows_53)).at i = Rv.elemOf [.i64] rows_55 i) ∧ ∃ (rows_56 : List (List Int)), Ob (rows_54.length = rows_54.length ∧ rows_56.length = rows_54.length ∧ (∀ (r : List Int), r ∈ rows_56 → r.length = (1 : Nat)) ∧ ∀ (i : Nat),
  i < rows_54.length → (El.fn (Rv.elemOf [.i64] rows_54)).at i = Rv.elemOf [.i64] rows_56 i) ∧ Ob (F_Decide.named.pre [Dat.l rows_55, Dat.l rows_56, Dat.z n]) ∧ ∀ (v_20 : Int), v_20 = decV rows_55 rows_56 n → ∀ (v_21 :
  Int), v_21 = motErr rows_55 rows_56 n → ∃ (rows_57 : List (List Int)), Ob (moN (tideK rows_3 rows_3.length) (8 : Int) = moN (tideK rows_3 rows_3.length) (8 : Int) ∧ rows_57.length = moN (tideK rows_3 rows_3.length) (8 :
  Int) ∧ (∀ (r : List Int), r ∈ rows_57 → r.length = (1 : Nat)) ∧ ∀ (i : Nat), i < moN (tideK rows_3 rows_3.length) (8 : Int) → (El.fn (Rv.elemOf [.i64] (itR moQ moW (moA (tideK rows_3 rows_3.length) (8 : Int)) (moN (tideK
  rows_3 rows_3.length) (8 : Int))))).at i = Rv.elemOf [.i64] rows_57 i) ∧ ∃ (rows_58 : List (List Int)), Ob (moN (tideK rows_3 rows_3.length) (8 : Int) = moN (tideK rows_3 rows_3.length) (8 : Int) ∧ rows_58.length = moN
  (tideK rows_3 rows_3.length) (8 : Int) ∧ (∀ (r : List Int), r ∈ rows_58 → r.length = (1 : Nat)) ∧ ∀ (i : Nat), i < moN (tideK rows_3 rows_3.length) (8 : Int) → (El.fn (Rv.elemOf [.i64] (itR moQ moV (moA (tideK rows_3
  rows_3.length) (8 : Int)) (moN (tideK rows_3 rows_3.length) (8 : Int))))).at i = Rv.elemOf [.i64] rows_58 i) ∧ Ob (F_DecideR.named.pre [Dat.l rows_57, Dat.l rows_58, Dat.z n]) ∧ ∀ (v_22 : Int), v_22 = decV rows_57
  rows_58 n → ∀ (v_23 : Int), v_23 = motErr rows_57 rows_58 n → ∃ (rows_59 : List (List Int)), Ob (rows_53.length = rows_53.length ∧ rows_59.length = rows_53.length ∧ (∀ (r : List Int), r ∈ rows_59 → r.length = (1 : Nat))
  ∧ ∀ (i : Nat), i < rows_53.length → (El.fn (Rv.elemOf [.i64] rows_53)).at i = Rv.elemOf [.i64] rows_59 i) ∧ ∃ (rows_60 : List (List Int)), Ob (rows_54.length = rows_54.length ∧ rows_60.length = rows_54.length ∧ (∀ (r :
  List Int), r ∈ rows_60 → r.length = (1 : Nat)) ∧ ∀ (i : Nat), i < rows_54.length → (El.fn (Rv.elemOf [.i64] rows_54)).at i = Rv.elemOf [.i64] rows_60 i) ∧ Ob (F_Swing.named.pre [Dat.l rows_59, Dat.l rows_60, Dat.z n]) ∧
  ∀ (v_24 : Int), v_24 = motErr rows_59 rows_60 n → ∃ (rows_61 : List (List Int)), Ob (moN (tideK rows_3 rows_3.length) (8 : Int) = moN (tideK rows_3 rows_3.length) (8 : Int) ∧ rows_61.length = moN (tideK rows_3
  rows_3.length) (8 : Int) ∧ (∀ (r : List Int), r ∈ rows_61 → r.length = (1 : Nat)) ∧ ∀ (i : Nat), i < moN (tideK rows_3 rows_3.length) (8 : Int) → (El.fn (Rv.elemOf [.i64] (itR moQ moW (moA (tideK rows_3 rows_3.length) (8
  : Int)) (moN (tideK rows_3 rows_3.length) (8 : Int))))).at i = Rv.elemOf [.i64] rows_61 i) ∧ ∃ (rows_62 : List (List Int)), Ob (moN (tideK rows_3 rows_3.length) (8 : Int) = moN (tideK rows_3 rows_3.length) (8 : Int) ∧
  rows_62.length = moN (tideK rows_3 rows_3.length) (8 : Int) ∧ (∀ (r : List Int), r ∈ rows_62 → r.length = (1 : Nat)) ∧ ∀ (i : Nat), i < moN (tideK rows_3 rows_3.length) (8 : Int) → (El.fn (Rv.elemOf [.i64] (itR moQ moV
  (moA (tideK rows_3 rows_3.length) (8 : Int)) (moN (tideK rows_3 rows_3.length) (8 : Int))))).at i = Rv.elemOf [.i64] rows_62 i) ∧ Ob (F_SwingR.named.pre [Dat.l rows_61, Dat.l rows_62, Dat.z n]) ∧ ∀ (v_25 : Int), v_25 =
  motErr rows_61 rows_62 n → Ob (PlainE (List.length (swgR rows_61 rows_62 n)) (El.fn (Rv.elemOf [.i64] (swgR rows_61 rows_62 n)))) ∧ (¬¬v_20 = v_22 → (¬¬v_21 = v_23 → (¬¬v_24 = v_25 → ∃ (rows_63 : List (List Int)), Ob
  (List.length (swgR rows_59 rows_60 n) = List.length (swgR rows_59 rows_60 n) ∧ rows_63.length = List.length (swgR rows_59 rows_60 n) ∧ (∀ (r : List Int), r ∈ rows_63 → r.length = (1 : Nat)) ∧ ∀ (i : Nat), i < List.length
  (swgR rows_59 rows_60 n) → (El.fn (Rv.elemOf [.i64] (swgR rows_59 rows_60 n))).at i = Rv.elemOf [.i64] rows_63 i) ∧ ∃ (rows_64 : List (List Int)), Ob (List.length (swgR rows_61 rows_62 n) = List.length (swgR rows_61
  rows_62 n) ∧ rows_64.length = List.length (swgR rows_61 rows_62 n) ∧ (∀ (r : List Int), r ∈ rows_64 → r.length = (1 : Nat)) ∧ ∀ (i : Nat), i < List.length (swgR rows_61 rows_62 n) → (El.fn (Rv.elemOf [.i64] (swgR rows_61
  rows_62 n))).at i = Rv.elemOf [.i64] rows_64 i) ∧ Ob (rows_63.length ≤ (4000000 : Nat) ∧ rows_64.length ≤ (4000000 : Nat)) ∧ (¬¬samTo 1 rows_63 rows_64 rows_63.length → ∃ (rows_65 : List (List Int)), Ob (rows_53.length =
  rows_53.length ∧ rows_65.length = rows_53.length ∧ (∀ (r : List Int), r ∈ rows_65 → r.length = (1 : Nat)) ∧ ∀ (i : Nat), i < rows_53.length → (El.fn (Rv.elemOf [.i64] rows_53)).at i = Rv.elemOf [.i64] rows_65 i) ∧ ∃
  (rows_66 : List (List Int)), Ob (moN (tideK rows_3 rows_3.length) (8 : Int) = moN (tideK rows_3 rows_3.length) (8 : Int) ∧ rows_66.length = moN (tideK rows_3 rows_3.length) (8 : Int) ∧ (∀ (r : List Int), r ∈ rows_66 →
  r.length = (1 : Nat)) ∧ ∀ (i : Nat), i < moN (tideK rows_3 rows_3.length) (8 : Int) → (El.fn (Rv.elemOf [.i64] (itR moQ moW (moA (tideK rows_3 rows_3.length) (8 : Int)) (moN (tideK rows_3 rows_3.length) (8 : Int))))).at
  i = Rv.elemOf [.i64] rows_66 i) ∧ Ob (rows_65.length ≤ (4000000 : Nat) ∧ rows_66.length ≤ (4000000 : Nat)) ∧ (¬¬samTo 1 rows_65 rows_66 rows_65.length → ∃ (rows_67 : List (List Int)), Ob (rows_54.length = rows_54.length
  ∧ rows_67.length = rows_54.length ∧ (∀ (r : List Int), r ∈ rows_67 → r.length = (1 : Nat)) ∧ ∀ (i : Nat), i < rows_54.length → (El.fn (Rv.elemOf [.i64] rows_54)).at i = Rv.elemOf [.i64] rows_67 i) ∧ ∃ (rows_68 : List
  (List Int)), Ob (moN (tideK rows_3 rows_3.length) (8 : Int) = moN (tideK rows_3 rows_3.length) (8 : Int) ∧ rows_68.length = moN (tideK rows_3 rows_3.length) (8 : Int) ∧ (∀ (r : List Int), r ∈ rows_68 → r.length = (1 :
  Nat)) ∧ ∀ (i : Nat), i < moN (tideK rows_3 rows_3.length) (8 : Int) → (El.fn (Rv.elemOf [.i64] (itR moQ moV (moA (tideK rows_3 rows_3.length) (8 : Int)) (moN (tideK rows_3 rows_3.length) (8 : Int))))).at i = Rv.elemOf
  [.i64] rows_68 i) ∧ Ob (rows_67.length ≤ (4000000 : Nat) ∧ rows_68.length ≤ (4000000 : Nat)) ∧ (¬samTo 1 rows_67 rows_68 rows_67.length → False) ∧ (¬¬samTo 1 rows_67 rows_68 rows_67.length → Ob (hasTabs [] B) ∧ True)) ∧
  (¬samTo 1 rows_65 rows_66 rows_65.length → False)) ∧ (¬samTo 1 rows_63 rows_64 rows_63.length → False)) ∧ (¬v_24 = v_25 → False)) ∧ (¬v_21 = v_23 → False)) ∧ (¬v_20 = v_22 → False))) ∧ (¬samTo 1 rows_49 rows_50
  rows_49.length → False)) ∧ (¬samTo 1 rows_47 rows_48 rows_47.length → False)) ∧ (¬v_18 = v_19 → False)) ∧ (¬v_15 = v_17 → False)) ∧ (¬v_14 = v_16 → False))) ∧ (¬samTo 1 rows_33 rows_34 rows_33.length → False)) ∧ (¬samTo
  1 rows_31 rows_32 rows_31.length → False)) ∧ (¬v_12 = v_13 → False)) ∧ (¬v_9 = v_11 → False)) ∧ (¬v_8 = v_10 → False))) ∧ (¬samTo 1 rows_17 rows_18 rows_17.length → False)) ∧ (¬samTo 1 rows_15 rows_16 rows_15.length →
  False)) ∧ (¬v_6 = v_7 → False)) ∧ (¬v_3 = v_5 → False)) ∧ (¬v_2 = v_4 → False))) ∧ ((20 : Int) < (↑rows.length : Int) → Ob (hasTabs [] B) ∧ True)

set_option linter.unusedSimpArgs false in
set_option maxRecDepth 4000 in
set_option maxHeartbeats 400000 in
theorem v_law : V_law := by
  unfold V_law
  intro B htab xw W0 hw how hrw xv V0 hv hov hrv n0 vote at0 xz N hz hoz hrz hN
  refine ⟨⟨hw⟩, fun h1 => ⟨⟨hv⟩, fun h2 => ⟨⟨htab⟩, trivial⟩, fun h2 => ?_⟩, fun h1 => ⟨⟨htab⟩, trivial⟩⟩
  refine ⟨N, ⟨⟨hz, rfl, hrz, fun _ _ => rfl⟩⟩, ⟨hN⟩, ?_⟩
  obtain ⟨a, ha⟩ : ∃ a, tideK N N.length = a := ⟨_, rfl⟩
  rw [ha]
  clear ha
  refine ⟨⟨by show (1 : Int) ≤ 8 ∧ (8 : Int) ≤ 100; omega⟩, ?_⟩
  intro z hz1 d hd
  clear hz1 hd
  have hn := moN_in a (most := 8) (by omega)
  obtain ⟨n, en⟩ : ∃ n, moN a 8 = n := ⟨_, rfl⟩
  rw [en] at hn ⊢
  clear en
  obtain ⟨q, eq⟩ : ∃ q, moA a 8 = q := ⟨_, rfl⟩
  rw [eq]
  clear eq
  have lW := it_len moQ moW q n
  have lV := it_len moQ moV q n
  have rW : ∀ r ∈ itR moQ moW q n, r.length = 1 := it_mem (p := fun r => r.length = 1) (fun _ => rfl) _
  have rV : ∀ r ∈ itR moQ moV q n, r.length = 1 := it_mem (p := fun r => r.length = 1) (fun _ => rfl) _
  obtain ⟨W, eW⟩ : ∃ W, itR moQ moW q n = W := ⟨_, rfl⟩
  obtain ⟨V, eV⟩ : ∃ V, itR moQ moV q n = V := ⟨_, rfl⟩
  rw [eW] at lW rW ⊢
  rw [eV] at lV rV ⊢
  clear eW eV
  subst lW
  have cW0 : W0.length ≤ 4000000 := by omega
  have cV0 : V0.length ≤ 4000000 := by omega
  have cW : W.length ≤ 4000000 := by omega
  have cV : V.length ≤ 4000000 := by omega
  refine ⟨V, ⟨⟨rfl, lV, rV, fun _ _ => rfl⟩⟩, ⟨cV⟩, ⟨by omega⟩, ?_⟩
  have hp := wrapZ_in at0 (n := (V.length : Int)) (by omega)
  obtain ⟨p, ep⟩ := Int.eq_ofNat_of_zero_le hp.1
  have tp : (wrapZ at0 (V.length : Int)).toNat = p := by rw [ep]; rfl
  have hpV : p < V.length := by omega
  have hsp := fun k hk => spo_at V p k vote hk
  have rS := rowsF_row (setF (fun k => cell V k 0) p vote) V.length
  have lS := rowsF_len (setF (fun k => cell V k 0) p vote) V.length
  obtain ⟨SP, eS⟩ : ∃ SP, rowsF (setF (fun k => cell V k 0) p vote) V.length = SP := ⟨_, rfl⟩
  rw [eS] at hsp rS lS
  clear eS
  have cS : SP.length ≤ 4000000 := by omega
  have cs : ∀ A B c, (swgR A B c).length ≤ 4000000 := fun A B c => by have := swgR_len A B c; omega
  rw [tp]
  refine ⟨⟨hp.1, hpV⟩, ⟨hpV, rfl⟩, ?_⟩
  clear hp ep tp
  repeat (first
    | exact ⟨⟨htab⟩, trivial⟩
    | refine ⟨⟨plain_elemOf _ _ _⟩, ?_⟩
    | refine ⟨⟨how⟩, ?_⟩
    | refine ⟨⟨hov⟩, ?_⟩
    | refine ⟨⟨hw⟩, ?_⟩
    | refine ⟨⟨hv⟩, ?_⟩
    | refine ⟨fun _ => ?_, fun h => h rfl⟩
    | refine ⟨fun _ => ?_, fun h => h (sam_self _ _ _)⟩
    | refine ⟨fun h => h (sam_self _ _ _), fun _ => ?_⟩
    | (intro w hw; subst hw)
    | refine ⟨W0, ⟨⟨hw, rfl, hrw, fun _ _ => rfl⟩⟩, ?_⟩
    | refine ⟨V0, ⟨⟨hv, rfl, hrv, fun _ _ => rfl⟩⟩, ?_⟩
    | refine ⟨W0, ⟨⟨rfl, rfl, hrw, fun _ _ => rfl⟩⟩, ?_⟩
    | refine ⟨V0, ⟨⟨rfl, rfl, hrv, fun _ _ => rfl⟩⟩, ?_⟩
    | refine ⟨W, ⟨⟨rfl, rfl, rW, fun _ _ => rfl⟩⟩, ?_⟩
    | refine ⟨V, ⟨⟨rfl, rfl, rV, fun _ _ => rfl⟩⟩, ?_⟩
    | refine ⟨SP, ⟨⟨rfl, rfl, rS, fun _ _ => rfl⟩⟩, ?_⟩
    | refine ⟨V, ⟨⟨rfl, lV, rV, fun _ _ => rfl⟩⟩, ?_⟩
    | refine ⟨SP, ⟨⟨rfl, lS, rS, hsp⟩⟩, ?_⟩
    | refine ⟨swgR W0 V0 n0, ⟨⟨rfl, rfl, swgR_row W0 V0 n0, fun _ _ => rfl⟩⟩, ?_⟩
    | refine ⟨⟨cs W0 V0 n0, cs W0 V0 n0⟩, ?_⟩
    | refine ⟨⟨⟨cs W0 V0 n0, cs W0 V0 n0⟩⟩, ?_⟩
    | refine ⟨swgR W V d, ⟨⟨rfl, rfl, swgR_row W V d, fun _ _ => rfl⟩⟩, ?_⟩
    | refine ⟨⟨cs W V d, cs W V d⟩, ?_⟩
    | refine ⟨⟨⟨cs W V d, cs W V d⟩⟩, ?_⟩
    | refine ⟨swgR W SP d, ⟨⟨rfl, rfl, swgR_row W SP d, fun _ _ => rfl⟩⟩, ?_⟩
    | refine ⟨⟨cs W SP d, cs W SP d⟩, ?_⟩
    | refine ⟨⟨⟨cs W SP d, cs W SP d⟩⟩, ?_⟩
    | refine ⟨swgR W V n0, ⟨⟨rfl, rfl, swgR_row W V n0, fun _ _ => rfl⟩⟩, ?_⟩
    | refine ⟨⟨cs W V n0, cs W V n0⟩, ?_⟩
    | refine ⟨⟨⟨cs W V n0, cs W V n0⟩⟩, ?_⟩
    | refine ⟨⟨cW0⟩, ?_⟩
    | refine ⟨⟨⟨cW0, cW0⟩⟩, ?_⟩
    | refine ⟨⟨cV0⟩, ?_⟩
    | refine ⟨⟨⟨cV0, cV0⟩⟩, ?_⟩
    | refine ⟨⟨cW⟩, ?_⟩
    | refine ⟨⟨⟨cW, cW⟩⟩, ?_⟩
    | refine ⟨⟨cV⟩, ?_⟩
    | refine ⟨⟨⟨cV, cV⟩⟩, ?_⟩
    | refine ⟨⟨cS⟩, ?_⟩
    | refine ⟨⟨⟨cS, cS⟩⟩, ?_⟩
    | refine ⟨⟨⟨cW0, cV0⟩⟩, ?_⟩
    | refine ⟨⟨⟨cW, cV⟩⟩, ?_⟩
    | refine ⟨⟨⟨cW, cS⟩⟩, ?_⟩)

theorem e_law : V_law = needL P [F_Wrap, F_SameInts] [F_TideOf.named, F_MotionOf.named, F_Ints.named, F_Decide.named, F_DecideR.named, F_Swing.named, F_SwingR.named] 9 ([] : Tabs) A_law F_law := by kernel_rfl

theorem n_law : Ob (needL P [F_Wrap, F_SameInts] [F_TideOf.named, F_MotionOf.named, F_Ints.named, F_Decide.named, F_DecideR.named, F_Swing.named, F_SwingR.named] 9 ([] : Tabs) A_law F_law) := by
  rw [← e_law]
  exact ⟨v_law⟩

theorem l_law : (([F_Wrap, F_SameInts] : List Fn0).all fun G => !Nat.beq G.g 9) = true := rfl
theorem le_law : ([F_TideOf.named, F_MotionOf.named, F_Ints.named, F_Decide.named, F_DecideR.named, F_Swing.named, F_SwingR.named].all fun G => !Nat.beq G.g 9) = true := rfl
theorem c_law : ∀ F ∈ ([F_Wrap, F_SameInts] : List Fn0), F.Ok P := by
  intro F h
  simp only [List.mem_cons, List.not_mem_nil, or_false] at h
  rcases h with rfl | rfl
  · exact Wrap_ok
  · exact SameInts_ok

theorem ce_law : ∀ F ∈ [F_TideOf.named, F_MotionOf.named, F_Ints.named, F_Decide.named, F_DecideR.named, F_Swing.named, F_SwingR.named], F.Ok P := by
  intro F h
  simp only [List.mem_cons, List.not_mem_nil, or_false] at h
  rcases h with rfl | rfl | rfl | rfl | rfl | rfl | rfl
  · exact TideOf_ok.named
  · exact MotionOf_ok.named
  · exact Ints_ok.named
  · exact Decide_ok.named
  · exact DecideR_ok.named
  · exact Swing_ok.named
  · exact SwingR_ok.named

end Go.Proofs.Ytjgllojnbinchaa.Sy
