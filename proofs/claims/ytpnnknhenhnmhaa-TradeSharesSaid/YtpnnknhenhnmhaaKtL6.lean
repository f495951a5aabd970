/- The law TradeShares. -/
import Derived.Test.YtpnnknhenhnmhaaSyP2
import Derived.Test.YtpnnknhenhnmhaaGrM
import Derived.Test.YtpnnknhenhnmhaaStM
import Derived.Test.YtpnnknhenhnmhaaVtM
import Derived.Test.YtpnnknhenhnmhaaDhM
import Derived.Test.YtpnnknhenhnmhaaKtT
import Derived.Test.YtpnnknhenhnmhaaKtA
import Derived.Test.YtpnnknhenhnmhaaKtB
import Derived.Test.YtpnnknhenhnmhaaKtD
import Derived.Test.YtpnnknhenhnmhaaKtZ
import Derived.Test.YtpnnknhenhnmhaaSyP2
import Derived.KernelRfl
import Derived.Test.YtpnnknhenhnmhaaProg
namespace Go.Proofs.Ytpnnknhenhnmhaa.Sy
open Go Go.Rv
set_option linter.unusedVariables false

structure Ow where
  i : Int
  q : Int
  R : Rows
structure Ow.Ok (v : Ow) : Prop where
  l : (v.R.length : Int) + v.i ≤ 6
  i : 0 ≤ v.i
  r : ∀ r ∈ v.R, r.length = 1
theorem snoc1' {R : Rows} {k : Nat} {x : Int} (hl : R.length = k) : ∀ i, i < k + 1 → (behind k (.fn (Rv.elemOf [.i64] R)) 1 (litEl [SV.i .i64 x] 1 1)).at i = (El.fn (Rv.elemOf [.i64] (R ++ [[x]]))).at i := fun i hi => by
  have := snoc_at (R := R) (ks := [.i64]) (r := [x]) (cs := [SV.i .i64 x]) rfl (i := i) (by omega)
  rw [hl] at this
  exact this

noncomputable def F_law : LawF := ⟨3, [i64, .one (.l [.i64]), .one (.l [.i64])], fun l => match l with | [.z q, .l T, .l N] => N.length ≤ 9223372036854775807 | _ => False⟩
noncomputable def A_law : List SV → List Dat → Nat → List SV → Ann := fun xs ds n ts => match xs with
  | [.i _ _, .lst xt _ _ _, .lst xz _ _ _] => match ds with
    | [.z q, .l T, .l N] => match n with
      | 11 => ⟨Unit, fun _ => [], fun _ => [], fun _ => True, fun _ => 0, 4⟩
      | 6 => ⟨Ow, fun v => [some (SV.i IntKind.i64 q), some (SV.lst xt T.length ((1 : Nat)) (Rv.elemOf [IntKind.i64] T)), none, none, none, none, some (SV.v (Value.bool false)), some (SV.ptr ((0 : Nat)) ((0 : Nat))), some (.gsl 1 v.R.length 1 true), some (.i .i64 v.i), none, none, none, none, none, none, none, none, none, none, none, none, none, none, none, none, none, none, none, none, none, none, none, none, none, none, none, none, none, none, none, none, none, none, none, none, none, none, none, none, none, none, none, none, none, none, none, none, none, none, none, none, none, none, none, none, none, none, none, none, none, none, none, none, none, none, none, none, none, none, none, none, none, none, none, none, none, none, none, none, none, none, none, none, none, none, none, none, none, none, none], fun v => [.gr v.R.length 1 (.fn (Rv.elemOf [.i64] v.R)) .gr true, .cells [.i .u64 v.q] .ex], fun v => v.Ok, fun v => v.i.toNat, 0⟩
      | _ => noAnn
    | _ => noAnn
  | _ => noAnn

set_option maxRecDepth 10000 in
def V_law : Prop :=
  ∀ (B : RW), hasTabs [] B → ∀ (n : Int) (x : RV) (rows : List (List Int)), IsLst B x rows.length 1 (Rv.elemOf [.i64] rows) → oneB x = true → (∀ (row : List Int), row ∈ rows → row.length = (1 : Nat)) → ∀ (x_1 : RV) (rows_1
  : List (List Int)), IsLst B x_1 rows_1.length 1 (Rv.elemOf [.i64] rows_1) → oneB x_1 = true → (∀ (row : List Int), row ∈ rows_1 → row.length = (1 : Nat)) → rows_1.length ≤ (9223372036854775807 : Nat) → Ob (IsLst B x
  rows.length 1 (Rv.elemOf [.i64] rows)) ∧ ((20 : Int) < (↑rows.length : Int) → Ob (hasTabs [] B) ∧ True) ∧ (¬(20 : Int) < (↑rows.length : Int) → ∃ (rows_2 : List (List Int)), Ob (IsLst B x_1 rows_1.length 1 (Rv.elemOf
  [.i64] rows_1) ∧ rows_2.length = rows_1.length ∧ (∀ (r : List Int), r ∈ rows_2 → r.length = (1 : Nat)) ∧ ∀ (i : Nat), i < rows_1.length → Rv.elemOf [.i64] rows_1 i = Rv.elemOf [.i64] rows_2 i) ∧ Ob (F_TideOf.named.pre
  [Dat.l rows_2]) ∧ Ob (F_Below.named.pre ([Dat.z (tideK rows_2 rows_2.length)] ++ [Dat.z (7 : Int)])) ∧ ∀ (v : Int), v = belowA (tideK rows_2 rows_2.length) (7 : Int) → ∀ (v_1 : Int), v_1 = belowV (tideK rows_2
  rows_2.length) (7 : Int) → (∃ (a : Ow), Ob a.Ok ∧ Ob (n = n) ∧ Ob (SV.lst x rows.length 1 (Rv.elemOf [.i64] rows) = SV.lst x rows.length 1 (Rv.elemOf [.i64] rows)) ∧ Ob (SV.v (Value.bool false) = SV.v (Value.bool false))
  ∧ Ob (List.length a.R = (0 : Nat)) ∧ Ob (v_1 = a.i) ∧ Ob (List.length a.R = (0 : Nat)) ∧ Ob (v = a.q) ∧ Ob (IsLst B x rows.length 1 (Rv.elemOf [.i64] rows)) ∧ Ob (PlainE (List.length a.R) (El.fn (Rv.elemOf [.i64] a.R)))
  ∧ True) ∧ ∀ (a : Ow), a.Ok → ∀ (z z_1 z_2 z_3 z_4 z_5 z_6 z_7 z_8 z_9 z_10 z_11 z_12 z_13 z_14 z_15 z_16 z_17 z_18 z_19 z_20 z_21 z_22 z_23 z_24 z_25 z_26 z_27 z_28 z_29 z_30 z_31 z_32 z_33 z_34 z_35 z_36 z_37 z_38 z_39
  z_40 z_41 z_42 z_43 z_44 z_45 z_46 z_47 z_48 z_49 z_50 z_51 z_52 z_53 z_54 z_55 z_56 z_57 z_58 z_59 z_60 z_61 z_62 z_63 z_64 z_65 z_66 z_67 z_68 z_69 z_70 z_71 z_72 z_73 z_74 z_75 z_76 z_77 z_78 z_79 z_80 z_81 z_82 z_83
  z_84 z_85 z_86 z_87 z_88 z_89 z_90 z_91 z_92 z_93 z_94 : Value), ((0 : Int) < a.i → Ob (F_Of.named.pre ([Dat.z a.q] ++ [Dat.l [[(4 : Int)], [(41 : Int)]]])) ∧ ∀ (v_2 : Int), v_2 = ofA a.q [[(4 : Int)], [(41 : Int)]] → ∀
  (v_3 : Int), v_3 = ofV a.q [[(4 : Int)], [(41 : Int)]] → Ob (F_Below.named.pre ([Dat.z v_2] ++ [Dat.z v_3])) ∧ ∀ (v_4 : Int), v_4 = belowA v_2 v_3 → ∀ (v_5 : Int), v_5 = belowV v_2 v_3 → Ob (List.length a.R = List.length
  a.R ∧ ∀ (i : Nat), i < List.length a.R → ((El.fn (Rv.elemOf [.i64] a.R)).at i).length = (1 : Nat)) ∧ Ob ((List.length a.R + (1 : Nat)) * (2 : Nat) * (9 : Nat) ≤ (1099511627776 : Nat)) ∧ Ob (List.length a.R = List.length
  a.R) ∧ Ob (InR .i64 (a.i - (1 : Int))) ∧ ∃ (a' : Ow), Ob (a'.Ok ∧ a'.i.toNat < a.i.toNat) ∧ Ob (n = n) ∧ Ob (SV.lst x rows.length 1 (Rv.elemOf [.i64] rows) = SV.lst x rows.length 1 (Rv.elemOf [.i64] rows)) ∧ Ob (SV.v
  (Value.bool false) = SV.v (Value.bool false)) ∧ Ob (List.length a.R + (1 : Nat) = List.length a'.R) ∧ Ob (a.i - (1 : Int) = a'.i) ∧ Ob (List.length a.R + (1 : Nat) = List.length a'.R ∧ ∀ (i : Nat), i < List.length a'.R →
  (behind (List.length a.R) (El.fn (Rv.elemOf [.i64] a.R)) 1 (litEl [SV.i .i64 v_5] 1 1)).at i = (El.fn (Rv.elemOf [.i64] a'.R)).at i) ∧ Ob (v_4 = a'.q) ∧ Ob (IsLst B x rows.length 1 (Rv.elemOf [.i64] rows)) ∧ Ob (PlainE
  (List.length a'.R) (El.fn (Rv.elemOf [.i64] a'.R))) ∧ True) ∧ (¬(0 : Int) < a.i → Ob (F_Of.named.pre ([Dat.z a.q] ++ [Dat.l [[(10 : Int)], [(200 : Int)]]])) ∧ ∀ (v_2 : Int), v_2 = ofA a.q [[(10 : Int)], [(200 : Int)]] →
  ∀ (v_3 : Int), v_3 = ofV a.q [[(10 : Int)], [(200 : Int)]] → Ob (F_Below.named.pre ([Dat.z v_2] ++ [Dat.z v_3])) ∧ ∀ (v_4 : Int), v_4 = belowA v_2 v_3 → ∀ (v_5 : Int), v_5 = belowV v_2 v_3 → Ob (oneB x = true) ∧ ∃
  (rows_3 : List (List Int)), Ob (IsLst B x rows.length 1 (Rv.elemOf [.i64] rows) ∧ rows_3.length = rows.length ∧ (∀ (r : List Int), r ∈ rows_3 → r.length = (1 : Nat)) ∧ ∀ (i : Nat), i < rows.length → Rv.elemOf [.i64] rows
  i = Rv.elemOf [.i64] rows_3 i) ∧ Ob (F_Ints.named.pre [Dat.l rows_3]) ∧ ∃ (rows_4 : List (List Int)), Ob (rows_3.length = rows_3.length ∧ rows_4.length = rows_3.length ∧ (∀ (r : List Int), r ∈ rows_4 → r.length = (1 :
  Nat)) ∧ ∀ (i : Nat), i < rows_3.length → (El.fn (Rv.elemOf [.i64] rows_3)).at i = Rv.elemOf [.i64] rows_4 i) ∧ Ob (F_ShareA.named.pre [Dat.z n, Dat.l rows_4]) ∧ (C_ShareA [Dat.z n, Dat.l rows_4] → ∀ (v_6 : Int), v_6 =
  shrErr n rows_4 → Ob (IsLst B x rows.length 1 (Rv.elemOf [.i64] rows)) ∧ ∃ (rows_5 : List (List Int)), Ob (IsLst B x rows.length 1 (Rv.elemOf [.i64] rows) ∧ rows_5.length = rows.length ∧ (∀ (r : List Int), r ∈ rows_5 →
  r.length = (1 : Nat)) ∧ ∀ (i : Nat), i < rows.length → Rv.elemOf [.i64] rows i = Rv.elemOf [.i64] rows_5 i) ∧ Ob (F_ShareR.named.pre [Dat.z n, Dat.l rows_5]) ∧ (C_ShareR [Dat.z n, Dat.l rows_5] → ∀ (v_7 : Int), v_7 =
  shrErr n rows_5 → (¬¬v_6 = v_7 → Ob ((0 : Nat) ≤ (4000000 : Nat) ∧ (0 : Nat) ≤ (4000000 : Nat)) ∧ (¬¬samTo 1 [] [] 0 → ∃ (rows_6 : List (List Int)), Ob (rows_3.length = rows_3.length ∧ rows_6.length = rows_3.length ∧ (∀
  (r : List Int), r ∈ rows_6 → r.length = (1 : Nat)) ∧ ∀ (i : Nat), i < rows_3.length → (El.fn (Rv.elemOf [.i64] rows_3)).at i = Rv.elemOf [.i64] rows_6 i) ∧ ∃ (rows_7 : List (List Int)), Ob (IsLst B x rows.length 1
  (Rv.elemOf [.i64] rows) ∧ rows_7.length = rows.length ∧ (∀ (r : List Int), r ∈ rows_7 → r.length = (1 : Nat)) ∧ ∀ (i : Nat), i < rows.length → Rv.elemOf [.i64] rows i = Rv.elemOf [.i64] rows_7 i) ∧ Ob (rows_6.length ≤
  (4000000 : Nat) ∧ rows_7.length ≤ (4000000 : Nat)) ∧ (¬samTo 1 rows_6 rows_7 rows_6.length → False) ∧ (¬¬samTo 1 rows_6 rows_7 rows_6.length → ∃ (rows_8 : List (List Int)), Ob (List.length a.R = List.length a.R ∧
  rows_8.length = List.length a.R ∧ (∀ (r : List Int), r ∈ rows_8 → r.length = (1 : Nat)) ∧ ∀ (i : Nat), i < List.length a.R → (El.fn (Rv.elemOf [.i64] a.R)).at i = Rv.elemOf [.i64] rows_8 i) ∧ Ob (F_Ints.named.pre [Dat.l
  rows_8]) ∧ ∃ (rows_9 : List (List Int)), Ob (rows_8.length = rows_8.length ∧ rows_9.length = rows_8.length ∧ (∀ (r : List Int), r ∈ rows_9 → r.length = (1 : Nat)) ∧ ∀ (i : Nat), i < rows_8.length → (El.fn (Rv.elemOf
  [.i64] rows_8)).at i = Rv.elemOf [.i64] rows_9 i) ∧ Ob (F_ShareA.named.pre [Dat.z v_5, Dat.l rows_9]) ∧ (C_ShareA [Dat.z v_5, Dat.l rows_9] → ∀ (v_8 : Int), v_8 = shrErr v_5 rows_9 → ∃ (rows_10 : List (List Int)), Ob
  (List.length a.R = List.length a.R ∧ rows_10.length = List.length a.R ∧ (∀ (r : List Int), r ∈ rows_10 → r.length = (1 : Nat)) ∧ ∀ (i : Nat), i < List.length a.R → (El.fn (Rv.elemOf [.i64] a.R)).at i = Rv.elemOf [.i64]
  rows_10 i) ∧ Ob (F_ShareR.named.pre [Dat.z v_5, Dat.l rows_10]) ∧ (C_ShareR [Dat.z v_5, Dat.l rows_10] → ∀ (v_9 : Int), v_9 = shrErr v_5 rows_10 → (¬¬v_8 = v_9 → Ob ((0 : Nat) ≤ (4000000 : Nat) ∧ (0 : Nat) ≤ (4000000 :
  Nat)) ∧ (¬¬samTo 1 [] [] 0 → ∃ (rows_11 : List (List Int)), Ob (rows_8.length = rows_8.length ∧ rows_11.length = rows_8.length ∧ (∀ (r : List Int), r ∈ rows_11 → r.length = (1 : Nat)) ∧ ∀ (i : Nat), i < rows_8.length →
  (El.fn (Rv.elemOf [.i64] rows_8)).at i = Rv.elemOf [.i64] rows_11 i) ∧ ∃ (rows_12 : List (List Int)), Ob (List.length a.R = List.length a.R ∧ rows_12.length = List.length a.R ∧ (∀ (r : List Int), r ∈ rows_12 → r.length =
  (1 : Nat)) ∧ ∀ (i : Nat), i < List.length a.R → (El.fn (Rv.elemOf [.i64] a.R)).at i = Rv.elemOf [.i64] rows_12 i) ∧ Ob (rows_11.length ≤ (4000000 : Nat) ∧ rows_12.length ≤ (4000000 : Nat)) ∧ (¬samTo 1 rows_11 rows_12
  rows_11.length → False) ∧ (¬¬samTo 1 rows_11 rows_12 rows_11.length → ∃ (rows_13 : List (List Int)), Ob (List.length a.R = List.length a.R ∧ rows_13.length = List.length a.R ∧ (∀ (r : List Int), r ∈ rows_13 → r.length =
  (1 : Nat)) ∧ ∀ (i : Nat), i < List.length a.R → (El.fn (Rv.elemOf [.i64] a.R)).at i = Rv.elemOf [.i64] rows_13 i) ∧ Ob (F_Ints.named.pre [Dat.l rows_13]) ∧ ∃ (rows_14 : List (List Int)), Ob (rows_13.length =
  rows_13.length ∧ rows_14.length = rows_13.length ∧ (∀ (r : List Int), r ∈ rows_14 → r.length = (1 : Nat)) ∧ ∀ (i : Nat), i < rows_13.length → (El.fn (Rv.elemOf [.i64] rows_13)).at i = Rv.elemOf [.i64] rows_14 i) ∧ Ob
  (F_ShareA.named.pre [Dat.z n, Dat.l rows_14]) ∧ (C_ShareA [Dat.z n, Dat.l rows_14] → ∀ (v_10 : Int), v_10 = shrErr n rows_14 → ∃ (rows_15 : List (List Int)), Ob (List.length a.R = List.length a.R ∧ rows_15.length =
  List.length a.R ∧ (∀ (r : List Int), r ∈ rows_15 → r.length = (1 : Nat)) ∧ ∀ (i : Nat), i < List.length a.R → (El.fn (Rv.elemOf [.i64] a.R)).at i = Rv.elemOf [.i64] rows_15 i) ∧ Ob (F_ShareR.named.pre [Dat.z n, Dat.l
  rows_15]) ∧ (C_ShareR [Dat.z n, Dat.l rows_15] → ∀ (v_11 : Int), v_11 = shrErr n rows_15 → (¬¬v_10 = v_11 → Ob ((0 : Nat) ≤ (4000000 : Nat) ∧ (0 : Nat) ≤ (4000000 : Nat)) ∧ (¬¬samTo 1 [] [] 0 → ∃ (rows_16 : List (List
  Int)), Ob (rows_13.length = rows_13.length ∧ rows_16.length = rows_13.length ∧ (∀ (r : List Int), r ∈ rows_16 → r.length = (1 : Nat)) ∧ ∀ (i : Nat), i < rows_13.length → (El.fn (Rv.elemOf [.i64] rows_13)).at i =
  Rv.elemOf [.i64] rows_16 i) ∧ ∃ (rows_17 : List (List Int)), Ob (List.length a.R = List.length a.R ∧ rows_17.length = List.length a.R ∧ (∀ (r : List Int), r ∈ rows_17 → r.length = (1 : Nat)) ∧ ∀ (i : Nat), i <
  List.length a.R → (El.fn (Rv.elemOf [.i64] a.R)).at i = Rv.elemOf [.i64] rows_17 i) ∧ Ob (rows_16.length ≤ (4000000 : Nat) ∧ rows_17.length ≤ (4000000 : Nat)) ∧ (¬samTo 1 rows_16 rows_17 rows_16.length → False) ∧
  (¬¬samTo 1 rows_16 rows_17 rows_16.length → Ob (hasTabs [] B) ∧ True)) ∧ (¬samTo 1 [] [] 0 → False)) ∧ (¬v_10 = v_11 → False)) ∧ (¬C_ShareR [Dat.z n, Dat.l rows_15] → ∀ (v_11 : Int), v_11 = (0 : Int) → Ob (PlainE
  rows_15.length (El.fn fun (i : Nat) ↦ [SV.i .i64 (dh rows_15 n.toNat i)])) ∧ (¬¬v_10 = v_11 → ∃ (rows_16 : List (List Int)), Ob (rows_15.length = rows_15.length ∧ rows_16.length = rows_15.length ∧ (∀ (r : List Int), r ∈
  rows_16 → r.length = (1 : Nat)) ∧ ∀ (i : Nat), i < rows_15.length → (El.fn fun (i : Nat) ↦ [SV.i .i64 (dh rows_15 n.toNat i)]).at i = Rv.elemOf [.i64] rows_16 i) ∧ Ob ((0 : Nat) ≤ (4000000 : Nat) ∧ rows_16.length ≤
  (4000000 : Nat)) ∧ (¬¬samTo 1 [] rows_16 0 → ∃ (rows_17 : List (List Int)), Ob (rows_13.length = rows_13.length ∧ rows_17.length = rows_13.length ∧ (∀ (r : List Int), r ∈ rows_17 → r.length = (1 : Nat)) ∧ ∀ (i : Nat), i
  < rows_13.length → (El.fn (Rv.elemOf [.i64] rows_13)).at i = Rv.elemOf [.i64] rows_17 i) ∧ ∃ (rows_18 : List (List Int)), Ob (List.length a.R = List.length a.R ∧ rows_18.length = List.length a.R ∧ (∀ (r : List Int), r ∈
  rows_18 → r.length = (1 : Nat)) ∧ ∀ (i : Nat), i < List.length a.R → (El.fn (Rv.elemOf [.i64] a.R)).at i = Rv.elemOf [.i64] rows_18 i) ∧ Ob (rows_17.length ≤ (4000000 : Nat) ∧ rows_18.length ≤ (4000000 : Nat)) ∧ (¬samTo
  1 rows_17 rows_18 rows_17.length → False) ∧ (¬¬samTo 1 rows_17 rows_18 rows_17.length → Ob (hasTabs [] B) ∧ True)) ∧ (¬samTo 1 [] rows_16 0 → False)) ∧ (¬v_10 = v_11 → False))) ∧ (¬C_ShareA [Dat.z n, Dat.l rows_14] → ∀
  (v_10 : Int), v_10 = (0 : Int) → ∃ (rows_15 : List (List Int)), Ob (List.length a.R = List.length a.R ∧ rows_15.length = List.length a.R ∧ (∀ (r : List Int), r ∈ rows_15 → r.length = (1 : Nat)) ∧ ∀ (i : Nat), i <
  List.length a.R → (El.fn (Rv.elemOf [.i64] a.R)).at i = Rv.elemOf [.i64] rows_15 i) ∧ Ob (F_ShareR.named.pre [Dat.z n, Dat.l rows_15]) ∧ (C_ShareR [Dat.z n, Dat.l rows_15] → ∀ (v_11 : Int), v_11 = shrErr n rows_15 →
  (¬¬v_10 = v_11 → ∃ (rows_16 : List (List Int)), Ob (rows_14.length = rows_14.length ∧ rows_16.length = rows_14.length ∧ (∀ (r : List Int), r ∈ rows_16 → r.length = (1 : Nat)) ∧ ∀ (i : Nat), i < rows_14.length → (El.fn
  fun (i : Nat) ↦ [SV.i .i64 (dh rows_14 n.toNat i)]).at i = Rv.elemOf [.i64] rows_16 i) ∧ Ob (rows_16.length ≤ (4000000 : Nat) ∧ (0 : Nat) ≤ (4000000 : Nat)) ∧ (¬¬samTo 1 rows_16 [] rows_16.length → ∃ (rows_17 : List
  (List Int)), Ob (rows_13.length = rows_13.length ∧ rows_17.length = rows_13.length ∧ (∀ (r : List Int), r ∈ rows_17 → r.length = (1 : Nat)) ∧ ∀ (i : Nat), i < rows_13.length → (El.fn (Rv.elemOf [.i64] rows_13)).at i =
  Rv.elemOf [.i64] rows_17 i) ∧ ∃ (rows_18 : List (List Int)), Ob (List.length a.R = List.length a.R ∧ rows_18.length = List.length a.R ∧ (∀ (r : List Int), r ∈ rows_18 → r.length = (1 : Nat)) ∧ ∀ (i : Nat), i <
  List.length a.R → (El.fn (Rv.elemOf [.i64] a.R)).at i = Rv.elemOf [.i64] rows_18 i) ∧ Ob (rows_17.length ≤ (4000000 : Nat) ∧ rows_18.length ≤ (4000000 : Nat)) ∧ (¬samTo 1 rows_17 rows_18 rows_17.length → False) ∧
  (¬¬samTo 1 rows_17 rows_18 rows_17.length → Ob (hasTabs [] B) ∧ True)) ∧ (¬samTo 1 rows_16 [] rows_16.length → False)) ∧ (¬v_10 = v_11 → False)) ∧ (¬C_ShareR [Dat.z n, Dat.l rows_15] → ∀ (v_11 : Int), v_11 = (0 : Int) →
  Ob (PlainE rows_15.length (El.fn fun (i : Nat) ↦ [SV.i .i64 (dh rows_15 n.toNat i)])) ∧ (¬¬v_10 = v_11 → ∃ (rows_16 : List (List Int)), Ob (rows_14.length = rows_14.length ∧ rows_16.length = rows_14.length ∧ (∀ (r : List
  Int), r ∈ rows_16 → r.length = (1 : Nat)) ∧ ∀ (i : Nat), i < rows_14.length → (El.fn fun (i : Nat) ↦ [SV.i .i64 (dh rows_14 n.toNat i)]).at i = Rv.elemOf [.i64] rows_16 i) ∧ ∃ (rows_17 : List (List Int)), Ob
  (rows_15.length = rows_15.length ∧ rows_17.length = rows_15.length ∧ (∀ (r : List Int), r ∈ rows_17 → r.length = (1 : Nat)) ∧ ∀ (i : Nat), i < rows_15.length → (El.fn fun (i : Nat) ↦ [SV.i .i64 (dh rows_15 n.toNat
  i)]).at i = Rv.elemOf [.i64] rows_17 i) ∧ Ob (rows_16.length ≤ (4000000 : Nat) ∧ rows_17.length ≤ (4000000 : Nat)) ∧ (¬¬samTo 1 rows_16 rows_17 rows_16.length → ∃ (rows_18 : List (List Int)), Ob (rows_13.length =
  rows_13.length ∧ rows_18.length = rows_13.length ∧ (∀ (r : List Int), r ∈ rows_18 → r.length = (1 : Nat)) ∧ ∀ (i : Nat), i < rows_13.length → (El.fn (Rv.elemOf [.i64] rows_13)).at i = Rv.elemOf [.i64] rows_18 i) ∧ ∃
  (rows_19 : List (List Int)), Ob (List.length a.R = List.length a.R ∧ rows_19.length = List.length a.R ∧ (∀ (r : List Int), r ∈ rows_19 → r.length = (1 : Nat)) ∧ ∀ (i : Nat), i < List.length a.R → (El.fn (Rv.elemOf [.i64]
  a.R)).at i = Rv.elemOf [.i64] rows_19 i) ∧ Ob (rows_18.length ≤ (4000000 : Nat) ∧ rows_19.length ≤ (4000000 : Nat)) ∧ (¬samTo 1 rows_18 rows_19 rows_18.length → False) ∧ (¬¬samTo 1 rows_18 rows_19 rows_18.length → Ob
  (hasTabs [] B) ∧ True)) ∧ (¬samTo 1 rows_16 rows_17 rows_16.length → False)) ∧ (¬v_10 = v_11 → False))))) ∧ (¬samTo 1 [] [] 0 → False)) ∧ (¬v_8 = v_9 → False)) ∧ (¬C_ShareR [Dat.z v_5, Dat.l rows_10] → ∀ (v_9 : Int), v_9
  = (0 : Int) → Ob (PlainE rows_10.length (El.fn fun (i : Nat) ↦ [SV.i .i64 (dh rows_10 v_5.toNat i)])) ∧ (¬¬v_8 = v_9 → ∃ (rows_11 : List (List Int)), Ob (rows_10.length = rows_10.length ∧ rows_11.length = rows_10.length
  ∧ (∀ (r : List Int), r ∈ rows_11 → r.length = (1 : Nat)) ∧ ∀ (i : Nat), i < rows_10.length → (El.fn fun (i : Nat) ↦ [SV.i .i64 (dh rows_10 v_5.toNat i)]).at i = Rv.elemOf [.i64] rows_11 i) ∧ Ob ((0 : Nat) ≤ (4000000 :
  Nat) ∧ rows_11.length ≤ (4000000 : Nat)) ∧ (¬¬samTo 1 [] rows_11 0 → ∃ (rows_12 : List (List Int)), Ob (rows_8.length = rows_8.length ∧ rows_12.length = rows_8.length ∧ (∀ (r : List Int), r ∈ rows_12 → r.length = (1 :
  Nat)) ∧ ∀ (i : Nat), i < rows_8.length → (El.fn (Rv.elemOf [.i64] rows_8)).at i = Rv.elemOf [.i64] rows_12 i) ∧ ∃ (rows_13 : List (List Int)), Ob (List.length a.R = List.length a.R ∧ rows_13.length = List.length a.R ∧ (∀
  (r : List Int), r ∈ rows_13 → r.length = (1 : Nat)) ∧ ∀ (i : Nat), i < List.length a.R → (El.fn (Rv.elemOf [.i64] a.R)).at i = Rv.elemOf [.i64] rows_13 i) ∧ Ob (rows_12.length ≤ (4000000 : Nat) ∧ rows_13.length ≤
  (4000000 : Nat)) ∧ (¬samTo 1 rows_12 rows_13 rows_12.length → False) ∧ (¬¬samTo 1 rows_12 rows_13 rows_12.length → ∃ (rows_14 : List (List Int)), Ob (List.length a.R = List.length a.R ∧ rows_14.length = List.length a.R ∧
  (∀ (r : List Int), r ∈ rows_14 → r.length = (1 : Nat)) ∧ ∀ (i : Nat), i < List.length a.R → (El.fn (Rv.elemOf [.i64] a.R)).at i = Rv.elemOf [.i64] rows_14 i) ∧ Ob (F_Ints.named.pre [Dat.l rows_14]) ∧ ∃ (rows_15 : List
  (List Int)), Ob (rows_14.length = rows_14.length ∧ rows_15.length = rows_14.length ∧ (∀ (r : List Int), r ∈ rows_15 → r.length = (1 : Nat)) ∧ ∀ (i : Nat), i < rows_14.length → (El.fn (Rv.elemOf [.i64] rows_14)).at i =
  Rv.elemOf [.i64] rows_15 i) ∧ Ob (F_ShareA.named.pre [Dat.z n, Dat.l rows_15]) ∧ (C_ShareA [Dat.z n, Dat.l rows_15] → ∀ (v_10 : Int), v_10 = shrErr n rows_15 → ∃ (rows_16 : List (List Int)), Ob (List.length a.R =
  List.length a.R ∧ rows_16.length = List.length a.R ∧ (∀ (r : List Int), r ∈ rows_16 → r.length = (1 : Nat)) ∧ ∀ (i : Nat), i < List.length a.R → (El.fn (Rv.elemOf [.i64] a.R)).at i = Rv.elemOf [.i64] rows_16 i) ∧ Ob
  (F_ShareR.named.pre [Dat.z n, Dat.l rows_16]) ∧ (C_ShareR [Dat.z n, Dat.l rows_16] → ∀ (v_11 : Int), v_11 = shrErr n rows_16 → (¬¬v_10 = v_11 → Ob ((0 : Nat) ≤ (4000000 : Nat) ∧ (0 : Nat) ≤ (4000000 : Nat)) ∧ (¬¬samTo 1
  [] [] 0 → ∃ (rows_17 : List (List Int)), Ob (rows_14.length = rows_14.length ∧ rows_17.length = rows_14.length ∧ (∀ (r : List Int), r ∈ rows_17 → r.length = (1 : Nat)) ∧ ∀ (i : Nat), i < rows_14.length → (El.fn
  (Rv.elemOf [.i64] rows_14)).at i = Rv.elemOf [.i64] rows_17 i) ∧ ∃ (rows_18 : List (List Int)), Ob (List.length a.R = List.length a.R ∧ rows_18.length = List.length a.R ∧ (∀ (r : List Int), r ∈ rows_18 → r.length = (1 :
  Nat)) ∧ ∀ (i : Nat), i < List.length a.R → (El.fn (Rv.elemOf [.i64] a.R)).at i = Rv.elemOf [.i64] rows_18 i) ∧ Ob (rows_17.length ≤ (4000000 : Nat) ∧ rows_18.length ≤ (4000000 : Nat)) ∧ (¬samTo 1 rows_17 rows_18
  rows_17.length → False) ∧ (¬¬samTo 1 rows_17 rows_18 rows_17.length → Ob (hasTabs [] B) ∧ True)) ∧ (¬samTo 1 [] [] 0 → False)) ∧ (¬v_10 = v_11 → False)) ∧ (¬C_ShareR [Dat.z n, Dat.l rows_16] → ∀ (v_11 : Int), v_11 = (0 :
  Int) → Ob (PlainE rows_16.length (El.fn fun (i : Nat) ↦ [SV.i .i64 (dh rows_16 n.toNat i)])) ∧ (¬¬v_10 = v_11 → ∃ (rows_17 : List (List Int)), Ob (rows_16.length = rows_16.length ∧ rows_17.length = rows_16.length ∧ (∀ (r
  : List Int), r ∈ rows_17 → r.length = (1 : Nat)) ∧ ∀ (i : Nat), i < rows_16.length → (El.fn fun (i : Nat) ↦ [SV.i .i64 (dh rows_16 n.toNat i)]).at i = Rv.elemOf [.i64] rows_17 i) ∧ Ob ((0 : Nat) ≤ (4000000 : Nat) ∧
  rows_17.length ≤ (4000000 : Nat)) ∧ (¬¬samTo 1 [] rows_17 0 → ∃ (rows_18 : List (List Int)), Ob (rows_14.length = rows_14.length ∧ rows_18.length = rows_14.length ∧ (∀ (r : List Int), r ∈ rows_18 → r.length = (1 : Nat))
  ∧ ∀ (i : Nat), i < rows_14.length → (El.fn (Rv.elemOf [.i64] rows_14)).at i = Rv.elemOf [.i64] rows_18 i) ∧ ∃ (rows_19 : List (List Int)), Ob (List.length a.R = List.length a.R ∧ rows_19.length = List.length a.R ∧ (∀ (r
  : List Int), r ∈ rows_19 → r.length = (1 : Nat)) ∧ ∀ (i : Nat), i < List.length a.R → (El.fn (Rv.elemOf [.i64] a.R)).at i = Rv.elemOf [.i64] rows_19 i) ∧ Ob (rows_18.length ≤ (4000000 : Nat) ∧ rows_19.length ≤ (4000000 :
  Nat)) ∧ (¬samTo 1 rows_18 rows_19 rows_18.length → False) ∧ (¬¬samTo 1 rows_18 rows_19 rows_18.length → Ob (hasTabs [] B) ∧ True)) ∧ (¬samTo 1 [] rows_17 0 → False)) ∧ (¬v_10 = v_11 → False))) ∧ (¬C_ShareA [Dat.z n,
  Dat.l rows_15] → ∀ (v_10 : Int), v_10 = (0 : Int) → ∃ (rows_16 : List (List Int)), Ob (List.length a.R = List.length a.R ∧ rows_16.length = List.length a.R ∧ (∀ (r : List Int), r ∈ rows_16 → r.length = (1 : Nat)) ∧ ∀ (i
  : Nat), i < List.length a.R → (El.fn (Rv.elemOf [.i64] a.R)).at i = Rv.elemOf [.i64] rows_16 i) ∧ Ob (F_ShareR.named.pre [Dat.z n, Dat.l rows_16]) ∧ (C_ShareR [Dat.z n, Dat.l rows_16] → ∀ (v_11 : Int), v_11 = shrErr n
  rows_16 → (¬¬v_10 = v_11 → ∃ (rows_17 : List (List Int)), Ob (rows_15.length = rows_15.length ∧ rows_17.length = rows_15.length ∧ (∀ (r : List Int), r ∈ rows_17 → r.length = (1 : Nat)) ∧ ∀ (i : Nat), i < rows_15.length →
  (El.fn fun (i : Nat) ↦ [SV.i .i64 (dh rows_15 n.toNat i)]).at i = Rv.elemOf [.i64] rows_17 i) ∧ Ob (rows_17.length ≤ (4000000 : Nat) ∧ (0 : Nat) ≤ (4000000 : Nat)) ∧ (¬¬samTo 1 rows_17 [] rows_17.length → ∃ (rows_18 :
  List (List Int)), Ob (rows_14.length = rows_14.length ∧ rows_18.length = rows_14.length ∧ (∀ (r : List Int), r ∈ rows_18 → r.length = (1 : Nat)) ∧ ∀ (i : Nat), i < rows_14.length → (El.fn (Rv.elemOf [.i64] rows_14)).at i
  = Rv.elemOf [.i64] rows_18 i) ∧ ∃ (rows_19 : List (List Int)), Ob (List.length a.R = List.length a.R ∧ rows_19.length = List.length a.R ∧ (∀ (r : List Int), r ∈ rows_19 → r.length = (1 : Nat)) ∧ ∀ (i : Nat), i <
  List.length a.R → (El.fn (Rv.elemOf [.i64] a.R)).at i = Rv.elemOf [.i64] rows_19 i) ∧ Ob (rows_18.length ≤ (4000000 : Nat) ∧ rows_19.length ≤ (4000000 : Nat)) ∧ (¬samTo 1 rows_18 rows_19 rows_18.length → False) ∧
  (¬¬samTo 1 rows_18 rows_19 rows_18.length → Ob (hasTabs [] B) ∧ True)) ∧ (¬samTo 1 rows_17 [] rows_17.length → False)) ∧ (¬v_10 = v_11 → False)) ∧ (¬C_ShareR [Dat.z n, Dat.l rows_16] → ∀ (v_11 : Int), v_11 = (0 : Int) →
  Ob (PlainE rows_16.length (El.fn fun (i : Nat) ↦ [SV.i .i64 (dh rows_16 n.toNat i)])) ∧ (¬¬v_10 = v_11 → ∃ (rows_17 : List (List Int)), Ob (rows_15.length = rows_15.length ∧ rows_17.length = rows_15.length ∧ (∀ (r : List
  Int), r ∈ rows_17 → r.length = (1 : Nat)) ∧ ∀ (i : Nat), i < rows_15.length → (El.fn fun (i : Nat) ↦ [SV.i .i64 (dh rows_15 n.toNat i)]).at i = Rv.elemOf [.i64] rows_17 i) ∧ ∃ (rows_18 : List (List Int)), Ob
  (rows_16.length = rows_16.length ∧ rows_18.length = rows_16.length ∧ (∀ (r : List Int), r ∈ rows_18 → r.length = (1 : Nat)) ∧ ∀ (i : Nat), i < rows_16.length → (El.fn fun (i : Nat) ↦ [SV.i .i64 (dh rows_16 n.toNat
  i)]).at i = Rv.elemOf [.i64] rows_18 i) ∧ Ob (rows_17.length ≤ (4000000 : Nat) ∧ rows_18.length ≤ (4000000 : Nat)) ∧ (¬¬samTo 1 rows_17 rows_18 rows_17.length → ∃ (rows_19 : List (List Int)), Ob (rows_14.length =
  rows_14.length ∧ rows_19.length = rows_14.length ∧ (∀ (r : List Int), r ∈ rows_19 → r.length = (1 : Nat)) ∧ ∀ (i : Nat), i < rows_14.length → (El.fn (Rv.elemOf [.i64] rows_14)).at i = Rv.elemOf [.i64] rows_19 i) ∧ ∃
  (rows_20 : List (List Int)), Ob (List.length a.R = List.length a.R ∧ rows_20.length = List.length a.R ∧ (∀ (r : List Int), r ∈ rows_20 → r.length = (1 : Nat)) ∧ ∀ (i : Nat), i < List.length a.R → (El.fn (Rv.elemOf [.i64]
  a.R)).at i = Rv.elemOf [.i64] rows_20 i) ∧ Ob (rows_19.length ≤ (4000000 : Nat) ∧ rows_20.length ≤ (4000000 : Nat)) ∧ (¬samTo 1 rows_19 rows_20 rows_19.length → False) ∧ (¬¬samTo 1 rows_19 rows_20 rows_19.length → Ob
  (hasTabs [] B) ∧ True)) ∧ (¬samTo 1 rows_17 rows_18 rows_17.length → False)) ∧ (¬v_10 = v_11 → False))))) ∧ (¬samTo 1 [] rows_11 0 → False)) ∧ (¬v_8 = v_9 → False))) ∧ (¬C_ShareA [Dat.z v_5, Dat.l rows_9] → ∀ (v_8 :
  Int), v_8 = (0 : Int) → ∃ (rows_10 : List (List Int)), Ob (List.length a.R = List.length a.R ∧ rows_10.length = List.length a.R ∧ (∀ (r : List Int), r ∈ rows_10 → r.length = (1 : Nat)) ∧ ∀ (i : Nat), i < List.length a.R
  → (El.fn (Rv.elemOf [.i64] a.R)).at i = Rv.elemOf [.i64] rows_10 i) ∧ Ob (F_ShareR.named.pre [Dat.z v_5, Dat.l rows_10]) ∧ (C_ShareR [Dat.z v_5, Dat.l rows_10] → ∀ (v_9 : Int), v_9 = shrErr v_5 rows_10 → (¬¬v_8 = v_9 → ∃
  (rows_11 : List (List Int)), Ob (rows_9.length = rows_9.length ∧ rows_11.length = rows_9.length ∧ (∀ (r : List Int), r ∈ rows_11 → r.length = (1 : Nat)) ∧ ∀ (i : Nat), i < rows_9.length → (El.fn fun (i : Nat) ↦ [SV.i
  .i64 (dh rows_9 v_5.toNat i)]).at i = Rv.elemOf [.i64] rows_11 i) ∧ Ob (rows_11.length ≤ (4000000 : Nat) ∧ (0 : Nat) ≤ (4000000 : Nat)) ∧ (¬¬samTo 1 rows_11 [] rows_11.length → ∃ (rows_12 : List (List Int)), Ob
  (rows_8.length = rows_8.length ∧ rows_12.length = rows_8.length ∧ (∀ (r : List Int), r ∈ rows_12 → r.length = (1 : Nat)) ∧ ∀ (i : Nat), i < rows_8.length → (El.fn (Rv.elemOf [.i64] rows_8)).at i = Rv.elemOf [.i64]
  rows_12 i) ∧ ∃ (rows_13 : List (List Int)), Ob (List.length a.R = List.length a.R ∧ rows_13.length = List.length a.R ∧ (∀ (r : List Int), r ∈ rows_13 → r.length = (1 : Nat)) ∧ ∀ (i : Nat), i < List.length a.R → (El.fn
  (Rv.elemOf [.i64] a.R)).at i = Rv.elemOf [.i64] rows_13 i) ∧ Ob (rows_12.length ≤ (4000000 : Nat) ∧ rows_13.length ≤ (4000000 : Nat)) ∧ (¬samTo 1 rows_12 rows_13 rows_12.length → False) ∧ (¬¬samTo 1 rows_12 rows_13
  rows_12.length → ∃ (rows_14 : List (List Int)), Ob (List.length a.R = List.length a.R ∧ rows_14.length = List.length a.R ∧ (∀ (r : List Int), r ∈ rows_14 → r.length = (1 : Nat)) ∧ ∀ (i : Nat), i < List.length a.R →
  (El.fn (Rv.elemOf [.i64] a.R)).at i = Rv.elemOf [.i64] rows_14 i) ∧ Ob (F_Ints.named.pre [Dat.l rows_14]) ∧ ∃ (rows_15 : List (List Int)), Ob (rows_14.length = rows_14.length ∧ rows_15.length = rows_14.length ∧ (∀ (r :
  List Int), r ∈ rows_15 → r.length = (1 : Nat)) ∧ ∀ (i : Nat), i < rows_14.length → (El.fn (Rv.elemOf [.i64] rows_14)).at i = Rv.elemOf [.i64] rows_15 i) ∧ Ob (F_ShareA.named.pre [Dat.z n, Dat.l rows_15]) ∧ (C_ShareA
  [Dat.z n, Dat.l rows_15] → ∀ (v_10 : Int), v_10 = shrErr n rows_15 → ∃ (rows_16 : List (List Int)), Ob (List.length a.R = List.length a.R ∧ rows_16.length = List.length a.R ∧ (∀ (r : List Int), r ∈ rows_16 → r.length =
  (1 : Nat)) ∧ ∀ (i : Nat), i < List.length a.R → (El.fn (Rv.elemOf [.i64] a.R)).at i = Rv.elemOf [.i64] rows_16 i) ∧ Ob (F_ShareR.named.pre [Dat.z n, Dat.l rows_16]) ∧ (C_ShareR [Dat.z n, Dat.l rows_16] → ∀ (v_11 : Int),
  v_11 = shrErr n rows_16 → (¬¬v_10 = v_11 → Ob ((0 : Nat) ≤ (4000000 : Nat) ∧ (0 : Nat) ≤ (4000000 : Nat)) ∧ (¬¬samTo 1 [] [] 0 → ∃ (rows_17 : List (List Int)), Ob (rows_14.length = rows_14.length ∧ rows_17.length =
  rows_14.length ∧ (∀ (r : List Int), r ∈ rows_17 → r.length = (1 : Nat)) ∧ ∀ (i : Nat), i < rows_14.length → (El.fn (Rv.elemOf [.i64] rows_14)).at i = Rv.elemOf [.i64] rows_17 i) ∧ ∃ (rows_18 : List (List Int)), Ob
  (List.length a.R = List.length a.R ∧ rows_18.length = List.length a.R ∧ (∀ (r : List Int), r ∈ rows_18 → r.length = (1 : Nat)) ∧ ∀ (i : Nat), i < List.length a.R → (El.fn (Rv.elemOf [.i64] a.R)).at i = Rv.elemOf [.i64]
  rows_18 i) ∧ Ob (rows_17.length ≤ (4000000 : Nat) ∧ rows_18.length ≤ (4000000 : Nat)) ∧ (¬samTo 1 rows_17 rows_18 rows_17.length → False) ∧ (¬¬samTo 1 rows_17 rows_18 rows_17.length → Ob (hasTabs [] B) ∧ True)) ∧ (¬samTo
  1 [] [] 0 → False)) ∧ (¬v_10 = v_11 → False)) ∧ (¬C_ShareR [Dat.z n, Dat.l rows_16] → ∀ (v_11 : Int), v_11 = (0 : Int) → Ob (PlainE rows_16.length (El.fn fun (i : Nat) ↦ [SV.i .i64 (dh rows_16 n.toNat i)])) ∧ (¬¬v_10 =
  v_11 → ∃ (rows_17 : List (List Int)), Ob (rows_16.length = rows_16.length ∧ rows_17.length = rows_16.length ∧ (∀ (r : List Int), r ∈ rows_17 → r.length = (1 : Nat)) ∧ ∀ (i : Nat), i < rows_16.length → (El.fn fun (i :
  Nat) ↦ [SV.i .i64 (dh rows_16 n.toNat i)]).at i = Rv.elemOf [.i64] rows_17 i) ∧ Ob ((0 : Nat) ≤ (4000000 : Nat) ∧ rows_17.length ≤ (4000000 : Nat)) ∧ (¬¬samTo 1 [] rows_17 0 → ∃ (rows_18 : List (List Int)), Ob
  (rows_14.length = rows_14.length ∧ rows_18.length = rows_14.length ∧ (∀ (r : List Int), r ∈ rows_18 → r.length = (1 : Nat)) ∧ ∀ (i : Nat), i < rows_14.length → (El.fn (Rv.elemOf [.i64] rows_14)).at i = Rv.elemOf [.i64]
  rows_18 i) ∧ ∃ (rows_19 : List (List Int)), Ob (List.length a.R = List.length a.R ∧ rows_19.length = List.length a.R ∧ (∀ (r : List Int), r ∈ rows_19 → r.length = (1 : Nat)) ∧ ∀ (i : Nat), i < List.length a.R → (El.fn
  (Rv.elemOf [.i64] a.R)).at i = Rv.elemOf [.i64] rows_19 i) ∧ Ob (rows_18.length ≤ (4000000 : Nat) ∧ rows_19.length ≤ (4000000 : Nat)) ∧ (¬samTo 1 rows_18 rows_19 rows_18.length → False) ∧ (¬¬samTo 1 rows_18 rows_19
  rows_18.length → Ob (hasTabs [] B) ∧ True)) ∧ (¬samTo 1 [] rows_17 0 → False)) ∧ (¬v_10 = v_11 → False))) ∧ (¬C_ShareA [Dat.z n, Dat.l rows_15] → ∀ (v_10 : Int), v_10 = (0 : Int) → ∃ (rows_16 : List (List Int)), Ob
  (List.length a.R = List.length a.R ∧ rows_16.length = List.length a.R ∧ (∀ (r : List Int), r ∈ rows_16 → r.length = (1 : Nat)) ∧ ∀ (i : Nat), i < List.length a.R → (El.fn (Rv.elemOf [.i64] a.R)).at i = Rv.elemOf [.i64]
  rows_16 i) ∧ Ob (F_ShareR.named.pre [Dat.z n, Dat.l rows_16]) ∧ (C_ShareR [Dat.z n, Dat.l rows_16] → ∀ (v_11 : Int), v_11 = shrErr n rows_16 → (¬¬v_10 = v_11 → ∃ (rows_17 : List (List Int)), Ob (rows_15.length =
  rows_15.length ∧ rows_17.length = rows_15.length ∧ (∀ (r : List Int), r ∈ rows_17 → r.length = (1 : Nat)) ∧ ∀ (i : Nat), i < rows_15.length → (El.fn fun (i : Nat) ↦ [SV.i .i64 (dh rows_15 n.toNat i)]).at i = Rv.elemOf
  [.i64] rows_17 i) ∧ Ob (rows_17.length ≤ (4000000 : Nat) ∧ (0 : Nat) ≤ (4000000 : Nat)) ∧ (¬¬samTo 1 rows_17 [] rows_17.length → ∃ (rows_18 : List (List Int)), Ob (rows_14.length = rows_14.length ∧ rows_18.length =
  rows_14.length ∧ (∀ (r : List Int), r ∈ rows_18 → r.length = (1 : Nat)) ∧ ∀ (i : Nat), i < rows_14.length → (El.fn (Rv.elemOf [.i64] rows_14)).at i = Rv.elemOf [.i64] rows_18 i) ∧ ∃ (rows_19 : List (List Int)), Ob
  (List.length a.R = List.length a.R ∧ rows_19.length = List.length a.R ∧ (∀ (r : List Int), r ∈ rows_19 → r.length = (1 : Nat)) ∧ ∀ (i : Nat), i < List.length a.R → (El.fn (Rv.elemOf [.i64] a.R)).at i = Rv.elemOf [.i64]
  rows_19 i) ∧ Ob (rows_18.length ≤ (4000000 : Nat) ∧ rows_19.length ≤ (4000000 : Nat)) ∧ (¬samTo 1 rows_18 rows_19 rows_18.length → False) ∧ (¬¬samTo 1 rows_18 rows_19 rows_18.length → Ob (hasTabs [] B) ∧ True)) ∧ (¬samTo
  1 rows_17 [] rows_17.length → False)) ∧ (¬v_10 = v_11 → False)) ∧ (¬C_ShareR [Dat.z n, Dat.l rows_16] → ∀ (v_11 : Int), v_11 = (0 : Int) → Ob (PlainE rows_16.length (El.fn fun (i : Nat) ↦ [SV.i .i64 (dh rows_16 n.toNat
  i)])) ∧ (¬¬v_10 = v_11 → ∃ (rows_17 : List (List Int)), Ob (rows_15.length = rows_15.length ∧ rows_17.length = rows_15.length ∧ (∀ (r : List Int), r ∈ rows_17 → r.length = (1 : Nat)) ∧ ∀ (i : Nat), i < rows_15.length →
  (El.fn fun (i : Nat) ↦ [SV.i .i64 (dh rows_15 n.toNat i)]).at i = Rv.elemOf [.i64] rows_17 i) ∧ ∃ (rows_18 : List (List Int)), Ob (rows_16.length = rows_16.length ∧ rows_18.length = rows_16.length ∧ (∀ (r : List Int), r
  ∈ rows_18 → r.length = (1 : Nat)) ∧ ∀ (i : Nat), i < rows_16.length → (El.fn fun (i : Nat) ↦ [SV.i .i64 (dh rows_16 n.toNat i)]).at i = Rv.elemOf [.i64] rows_18 i) ∧ Ob (rows_17.length ≤ (4000000 : Nat) ∧ rows_18.length
  ≤ (4000000 : Nat)) ∧ (¬¬samTo 1 rows_17 rows_18 rows_17.length → ∃ (rows_19 : List (List Int)), Ob (rows_14.length = rows_14.length ∧ rows_19.length = rows_14.length ∧ (∀ (r : List Int), r ∈ rows_19 → r.length = (1 :
  Nat)) ∧ ∀ (i : Nat), i < rows_14.length → (El.fn (Rv.elemOf [.i64] rows_14)).at i = Rv.elemOf [.i64] rows_19 i) ∧ ∃ (rows_20 : List (List Int)), Ob (List.length a.R = List.length a.R ∧ rows_20.length = List.length a.R ∧
  (∀ (r : List Int), r ∈ rows_20 → r.length = (1 : Nat)) ∧ ∀ (i : Nat), i < List.length a.R → (El.fn (Rv.elemOf [.i64] a.R)).at i = Rv.elemOf [.i64] rows_20 i) ∧ Ob (rows_19.length ≤ (4000000 : Nat) ∧ rows_20.length ≤
  (4000000 : Nat)) ∧ (¬samTo 1 rows_19 rows_20 rows_19.length → False) ∧ (¬¬samTo 1 rows_19 rows_20 rows_19.length → Ob (hasTabs [] B) ∧ True)) ∧ (¬samTo 1 rows_17 rows_18 rows_17.length → False)) ∧ (¬v_10 = v_11 →
  False))))) ∧ (¬samTo 1 rows_11 [] rows_11.length → False)) ∧ (¬v_8 = v_9 → False)) ∧ (¬C_ShareR [Dat.z v_5, Dat.l rows_10] → ∀ (v_9 : Int), v_9 = (0 : Int) → Ob (PlainE rows_10.length (El.fn fun (i : Nat) ↦ [SV.i .i64
  (dh rows_10 v_5.toNat i)])) ∧ (¬¬v_8 = v_9 → ∃ (rows_11 : List (List Int)), Ob (rows_9.length = rows_9.length ∧ rows_11.length = rows_9.length ∧ (∀ (r : List Int), r ∈ rows_11 → r.length = (1 : Nat)) ∧ ∀ (i : Nat), i <
  rows_9.length → (El.fn fun (i : Nat) ↦ [SV.i .i64 (dh rows_9 v_5.toNat i)]).at i = Rv.elemOf [.i64] rows_11 i) ∧ ∃ (rows_12 : List (List Int)), Ob (rows_10.length = rows_10.length ∧ rows_12.length = rows_10.length ∧ (∀
  (r : List Int), r ∈ rows_12 → r.length = (1 : Nat)) ∧ ∀ (i : Nat), i < rows_10.length → (El.fn fun (i : Nat) ↦ [SV.i .i64 (dh rows_10 v_5.toNat i)]).at i = Rv.elemOf [.i64] rows_12 i) ∧ Ob (rows_11.length ≤ (4000000 :
  Nat) ∧ rows_12.length ≤ (4000000 : Nat)) ∧ (¬¬samTo 1 rows_11 rows_12 rows_11.length → ∃ (rows_13 : List (List Int)), Ob (rows_8.length = rows_8.length ∧ rows_13.length = rows_8.length ∧ (∀ (r : List Int), r ∈ rows_13 →
  r.length = (1 : Nat)) ∧ ∀ (i : Nat), i < rows_8.length → (El.fn (Rv.elemOf [.i64] rows_8)).at i = Rv.elemOf [.i64] rows_13 i) ∧ ∃ (rows_14 : List (List Int)), Ob (List.length a.R = List.length a.R ∧ rows_14.length =
  List.length a.R ∧ (∀ (r : List Int), r ∈ rows_14 → r.length = (1 : Nat)) ∧ ∀ (i : Nat), i < List.length a.R → (El.fn (Rv.elemOf [.i64] a.R)).at i = Rv.elemOf [.i64] rows_14 i) ∧ Ob (rows_13.length ≤ (4000000 : Nat) ∧
  rows_14.length ≤ (4000000 : Nat)) ∧ (¬samTo 1 rows_13 rows_14 rows_13.length → False) ∧ (¬¬samTo 1 rows_13 rows_14 rows_13.length → ∃ (rows_15 : List (List Int)), Ob (List.length a.R = List.length a.R ∧ rows_15.length =
  List.length a.R ∧ (∀ (r : List Int), r ∈ rows_15 → r.length = (1 : Nat)) ∧ ∀ (i : Nat), i < List.length a.R → (El.fn (Rv.elemOf [.i64] a.R)).at i = Rv.elemOf [.i64] rows_15 i) ∧ Ob (F_Ints.named.pre [Dat.l rows_15]) ∧ ∃
  (rows_16 : List (List Int)), Ob (rows_15.length = rows_15.length ∧ rows_16.length = rows_15.length ∧ (∀ (r : List Int), r ∈ rows_16 → r.length = (1 : Nat)) ∧ ∀ (i : Nat), i < rows_15.length → (El.fn (Rv.elemOf [.i64]
  rows_15)).at i = Rv.elemOf [.i64] rows_16 i) ∧ Ob (F_ShareA.named.pre [Dat.z n, Dat.l rows_16]) ∧ (C_ShareA [Dat.z n, Dat.l rows_16] → ∀ (v_10 : Int), v_10 = shrErr n rows_16 → ∃ (rows_17 : List (List Int)), Ob
  (List.length a.R = List.length a.R ∧ rows_17.length = List.length a.R ∧ (∀ (r : List Int), r ∈ rows_17 → r.length = (1 : Nat)) ∧ ∀ (i : Nat), i < List.length a.R → (El.fn (Rv.elemOf [.i64] a.R)).at i = Rv.elemOf [.i64]
  rows_17 i) ∧ Ob (F_ShareR.named.pre [Dat.z n, Dat.l rows_17]) ∧ (C_ShareR [Dat.z n, Dat.l rows_17] → ∀ (v_11 : Int), v_11 = shrErr n rows_17 → (¬¬v_10 = v_11 → Ob ((0 : Nat) ≤ (4000000 : Nat) ∧ (0 : Nat) ≤ (4000000 :
  Nat)) ∧ (¬¬samTo 1 [] [] 0 → ∃ (rows_18 : List (List Int)), Ob (rows_15.length = rows_15.length ∧ rows_18.length = rows_15.length ∧ (∀ (r : List Int), r ∈ rows_18 → r.length = (1 : Nat)) ∧ ∀ (i : Nat), i < rows_15.length
  → (El.fn (Rv.elemOf [.i64] rows_15)).at i = Rv.elemOf [.i64] rows_18 i) ∧ ∃ (rows_19 : List (List Int)), Ob (List.length a.R = List.length a.R ∧ rows_19.length = List.length a.R ∧ (∀ (r : List Int), r ∈ rows_19 →
  r.length = (1 : Nat)) ∧ ∀ (i : Nat), i < List.length a.R → (El.fn (Rv.elemOf [.i64] a.R)).at i = Rv.elemOf [.i64] rows_19 i) ∧ Ob (rows_18.length ≤ (4000000 : Nat) ∧ rows_19.length ≤ (4000000 : Nat)) ∧ (¬samTo 1 rows_18
  rows_19 rows_18.length → False) ∧ (¬¬samTo 1 rows_18 rows_19 rows_18.length → Ob (hasTabs [] B) ∧ True)) ∧ (¬samTo 1 [] [] 0 → False)) ∧ (¬v_10 = v_11 → False)) ∧ (¬C_ShareR [Dat.z n, Dat.l rows_17] → ∀ (v_11 : Int),
  v_11 = (0 : Int) → Ob (PlainE rows_17.length (El.fn fun (i : Nat) ↦ [SV.i .i64 (dh rows_17 n.toNat i)])) ∧ (¬¬v_10 = v_11 → ∃ (rows_18 : List (List Int)), Ob (rows_17.length = rows_17.length ∧ rows_18.length =
  rows_17.length ∧ (∀ (r : List Int), r ∈ rows_18 → r.length = (1 : Nat)) ∧ ∀ (i : Nat), i < rows_17.length → (El.fn fun (i : Nat) ↦ [SV.i .i64 (dh rows_17 n.toNat i)]).at i = Rv.elemOf [.i64] rows_18 i) ∧ Ob ((0 : Nat) ≤
  (4000000 : Nat) ∧ rows_18.length ≤ (4000000 : Nat)) ∧ (¬¬samTo 1 [] rows_18 0 → ∃ (rows_19 : List (List Int)), Ob (rows_15.length = rows_15.length ∧ rows_19.length = rows_15.length ∧ (∀ (r : List Int), r ∈ rows_19 →
  r.length = (1 : Nat)) ∧ ∀ (i : Nat), i < rows_15.length → (El.fn (Rv.elemOf [.i64] rows_15)).at i = Rv.elemOf [.i64] rows_19 i) ∧ ∃ (rows_20 : List (List Int)), Ob (List.length a.R = List.length a.R ∧ rows_20.length =
  List.length a.R ∧ (∀ (r : List Int), r ∈ rows_20 → r.length = (1 : Nat)) ∧ ∀ (i : Nat), i < List.length a.R → (El.fn (Rv.elemOf [.i64] a.R)).at i = Rv.elemOf [.i64] rows_20 i) ∧ Ob (rows_19.length ≤ (4000000 : Nat) ∧
  rows_20.length ≤ (4000000 : Nat)) ∧ (¬samTo 1 rows_19 rows_20 rows_19.length → False) ∧ (¬¬samTo 1 rows_19 rows_20 rows_19.length → Ob (hasTabs [] B) ∧ True)) ∧ (¬samTo 1 [] rows_18 0 → False)) ∧ (¬v_10 = v_11 → False)))
  ∧ (¬C_ShareA [Dat.z n, Dat.l rows_16] → ∀ (v_10 : Int), v_10 = (0 : Int) → ∃ (rows_17 : List (List Int)), Ob (List.length a.R = List.length a.R ∧ rows_17.length = List.length a.R ∧ (∀ (r : List Int), r ∈ rows_17 →
  r.length = (1 : Nat)) ∧ ∀ (i : Nat), i < List.length a.R → (El.fn (Rv.elemOf [.i64] a.R)).at i = Rv.elemOf [.i64] rows_17 i) ∧ Ob (F_ShareR.named.pre [Dat.z n, Dat.l rows_17]) ∧ (C_ShareR [Dat.z n, Dat.l rows_17] → ∀
  (v_11 : Int), v_11 = shrErr n rows_17 → (¬¬v_10 = v_11 → ∃ (rows_18 : List (List Int)), Ob (rows_16.length = rows_16.length ∧ rows_18.length = rows_16.length ∧ (∀ (r : List Int), r ∈ rows_18 → r.length = (1 : Nat)) ∧ ∀
  (i : Nat), i < rows_16.length → (El.fn fun (i : Nat) ↦ [SV.i .i64 (dh rows_16 n.toNat i)]).at i = Rv.elemOf [.i64] rows_18 i) ∧ Ob (rows_18.length ≤ (4000000 : Nat) ∧ (0 : Nat) ≤ (4000000 : Nat)) ∧ (¬¬samTo 1 rows_18 []
  rows_18.length → ∃ (rows_19 : List (List Int)), Ob (rows_15.length = rows_15.length ∧ rows_19.length = rows_15.length ∧ (∀ (r : List Int), r ∈ rows_19 → r.length = (1 : Nat)) ∧ ∀ (i : Nat), i < rows_15.length → (El.fn
  (Rv.elemOf [.i64] rows_15)).at i = Rv.elemOf [.i64] rows_19 i) ∧ ∃ (rows_20 : List (List Int)), Ob (List.length a.R = List.length a.R ∧ rows_20.length = List.length a.R ∧ (∀ (r : List Int), r ∈ rows_20 → r.length = (1 :
  Nat)) ∧ ∀ (i : Nat), i < List.length a.R → (El.fn (Rv.elemOf [.i64] a.R)).at i = Rv.elemOf [.i64] rows_20 i) ∧ Ob (rows_19.length ≤ (4000000 : Nat) ∧ rows_20.length ≤ (4000000 : Nat)) ∧ (¬samTo 1 rows_19 rows_20
  rows_19.length → False) ∧ (¬¬samTo 1 rows_19 rows_20 rows_19.length → Ob (hasTabs [] B) ∧ True)) ∧ (¬samTo 1 rows_18 [] rows_18.length → False)) ∧ (¬v_10 = v_11 → False)) ∧ (¬C_ShareR [Dat.z n, Dat.l rows_17] → ∀ (v_11 :
  Int), v_11 = (0 : Int) → Ob (PlainE rows_17.length (El.fn fun (i : Nat) ↦ [SV.i .i64 (dh rows_17 n.toNat i)])) ∧ (¬¬v_10 = v_11 → ∃ (rows_18 : List (List Int)), Ob (rows_16.length = rows_16.length ∧ rows_18.length =
  rows_16.length ∧ (∀ (r : List Int), r ∈ rows_18 → r.length = (1 : Nat)) ∧ ∀ (i : Nat), i < rows_16.length → (El.fn fun (i : Nat) ↦ [SV.i .i64 (dh rows_16 n.toNat i)]).at i = Rv.elemOf [.i64] rows_18 i) ∧ ∃ (rows_19 :
  List (List Int)), Ob (rows_17.length = rows_17.length ∧ rows_19.length = rows_17.length ∧ (∀ (r : List Int), r ∈ rows_19 → r.length = (1 : Nat)) ∧ ∀ (i : Nat), i < rows_17.length → (El.fn fun (i : Nat) ↦ [SV.i .i64 (dh
  rows_17 n.toNat i)]).at i = Rv.elemOf [.i64] rows_19 i) ∧ Ob (rows_18.length ≤ (4000000 : Nat) ∧ rows_19.length ≤ (4000000 : Nat)) ∧ (¬¬samTo 1 rows_18 rows_19 rows_18.length → ∃ (rows_20 : List (List Int)), Ob
  (rows_15.length = rows_15.length ∧ rows_20.length = rows_15.length ∧ (∀ (r : List Int), r ∈ rows_20 → r.length = (1 : Nat)) ∧ ∀ (i : Nat), i < rows_15.length → (El.fn (Rv.elemOf [.i64] rows_15)).at i = Rv.elemOf [.i64]
  rows_20 i) ∧ ∃ (rows_21 : List (List Int)), Ob (List.length a.R = List.length a.R ∧ rows_21.length = List.length a.R ∧ (∀ (r : List Int), r ∈ rows_21 → r.length = (1 : Nat)) ∧ ∀ (i : Nat), i < List.length a.R → (El.fn
  (Rv.elemOf [.i64] a.R)).at i = Rv.elemOf [.i64] rows_21 i) ∧ Ob (rows_20.length ≤ (4000000 : Nat) ∧ rows_21.length ≤ (4000000 : Nat)) ∧ (¬samTo 1 rows_20 rows_21 rows_20.length → False) ∧ (¬¬samTo 1 rows_20 rows_21
  rows_20.length → Ob (hasTabs [] B) ∧ True)) ∧ (¬samTo 1 rows_18 rows_19 rows_18.length → False)) ∧ (¬v_10 = v_11 → False))))) ∧ (¬samTo 1 rows_11 rows_12 rows_11.length → False)) ∧ (¬v_8 = v_9 → False))))) ∧ (¬samTo 1 []
  [] 0 → False)) ∧ (¬v_6 = v_7 → False)) ∧ (¬C_ShareR [Dat.z n, Dat.l rows_5] → ∀ (v_7 : Int), v_7 = (0 : Int) → Ob (PlainE rows_5.length (El.fn fun (i : Nat) ↦ [SV.i .i64 (dh rows_5 n.toNat i)])) ∧ (¬¬v_6 = v_7 → ∃
  (rows_6 : List (List Int)), Ob (rows_5.length = rows_5.length ∧ rows_6.length = rows_5.length ∧ (∀ (r : List Int), r ∈ rows_6 → r.length = (1 : Nat)) ∧ ∀ (i : Nat), i < rows_5.length → (El.fn fun (i : Nat) ↦ [SV.i .i64
  (dh rows_5 n.toNat i)]).at i = Rv.elemOf [.i64] rows_6 i) ∧ Ob ((0 : Nat) ≤ (4000000 : Nat) ∧ rows_6.length ≤ (4000000 : Nat)) ∧ (¬¬samTo 1 [] rows_6 0 → ∃ (rows_7 : List (List Int)), Ob (rows_3.length = rows_3.length ∧
  rows_7.length = rows_3.length ∧ (∀ (r : List Int), r ∈ rows_7 → r.length = (1 : Nat)) ∧ ∀ (i : Nat), i < rows_3.length → (El.fn (Rv.elemOf [.i64] rows_3)).at i = Rv.elemOf [.i64] rows_7 i) ∧ ∃ (rows_8 : List (List Int)),
  Ob (IsLst B x rows.length 1 (Rv.elemOf [.i64] rows) ∧ rows_8.length = rows.length ∧ (∀ (r : List Int), r ∈ rows_8 → r.length = (1 : Nat)) ∧ ∀ (i : Nat), i < rows.length → Rv.elemOf [.i64] rows i = Rv.elemOf [.i64] rows_8
  i) ∧ Ob (rows_7.length ≤ (4000000 : Nat) ∧ rows_8.length ≤ (4000000 : Nat)) ∧ (¬samTo 1 rows_7 rows_8 rows_7.length → False) ∧ (¬¬samTo 1 rows_7 rows_8 rows_7.length → ∃ (rows_9 : List (List Int)), Ob (List.length a.R =
  List.length a.R ∧ rows_9.length = List.length a.R ∧ (∀ (r : List Int), r ∈ rows_9 → r.length = (1 : Nat)) ∧ ∀ (i : Nat), i < List.length a.R → (El.fn (Rv.elemOf [.i64] a.R)).at i = Rv.elemOf [.i64] rows_9 i) ∧ Ob
  (F_Ints.named.pre [Dat.l rows_9]) ∧ ∃ (rows_10 : List (List Int)), Ob (rows_9.length = rows_9.length ∧ rows_10.length = rows_9.length ∧ (∀ (r : List Int), r ∈ rows_10 → r.length = (1 : Nat)) ∧ ∀ (i : Nat), i <
  rows_9.length → (El.fn (Rv.elemOf [.i64] rows_9)).at i = Rv.elemOf [.i64] rows_10 i) ∧ Ob (F_ShareA.named.pre [Dat.z v_5, Dat.l rows_10]) ∧ (C_ShareA [Dat.z v_5, Dat.l rows_10] → ∀ (v_8 : Int), v_8 = shrErr v_5 rows_10 →
  ∃ (rows_11 : List (List Int)), Ob (List.length a.R = List.length a.R ∧ rows_11.length = List.length a.R ∧ (∀ (r : List Int), r ∈ rows_11 → r.length = (1 : Nat)) ∧ ∀ (i : Nat), i < List.length a.R → (El.fn (Rv.elemOf
  [.i64] a.R)).at i = Rv.elemOf [.i64] rows_11 i) ∧ Ob (F_ShareR.named.pre [Dat.z v_5, Dat.l rows_11]) ∧ (C_ShareR [Dat.z v_5, Dat.l rows_11] → ∀ (v_9 : Int), v_9 = shrErr v_5 rows_11 → (¬¬v_8 = v_9 → Ob ((0 : Nat) ≤
  (4000000 : Nat) ∧ (0 : Nat) ≤ (4000000 : Nat)) ∧ (¬¬samTo 1 [] [] 0 → ∃ (rows_12 : List (List Int)), Ob (rows_9.length = rows_9.length ∧ rows_12.length = rows_9.length ∧ (∀ (r : List Int), r ∈ rows_12 → r.length = (1 :
  Nat)) ∧ ∀ (i : Nat), i < rows_9.length → (El.fn (Rv.elemOf [.i64] rows_9)).at i = Rv.elemOf [.i64] rows_12 i) ∧ ∃ (rows_13 : List (List Int)), Ob (List.length a.R = List.length a.R ∧ rows_13.length = List.length a.R ∧ (∀
  (r : List Int), r ∈ rows_13 → r.length = (1 : Nat)) ∧ ∀ (i : Nat), i < List.length a.R → (El.fn (Rv.elemOf [.i64] a.R)).at i = Rv.elemOf [.i64] rows_13 i) ∧ Ob (rows_12.length ≤ (4000000 : Nat) ∧ rows_13.length ≤
  (4000000 : Nat)) ∧ (¬samTo 1 rows_12 rows_13 rows_12.length → False) ∧ (¬¬samTo 1 rows_12 rows_13 rows_12.length → ∃ (rows_14 : List (List Int)), Ob (List.length a.R = List.length a.R ∧ rows_14.length = List.length a.R ∧
  (∀ (r : List Int), r ∈ rows_14 → r.length = (1 : Nat)) ∧ ∀ (i : Nat), i < List.length a.R → (El.fn (Rv.elemOf [.i64] a.R)).at i = Rv.elemOf [.i64] rows_14 i) ∧ Ob (F_Ints.named.pre [Dat.l rows_14]) ∧ ∃ (rows_15 : List
  (List Int)), Ob (rows_14.length = rows_14.length ∧ rows_15.length = rows_14.length ∧ (∀ (r : List Int), r ∈ rows_15 → r.length = (1 : Nat)) ∧ ∀ (i : Nat), i < rows_14.length → (El.fn (Rv.elemOf [.i64] rows_14)).at i =
  Rv.elemOf [.i64] rows_15 i) ∧ Ob (F_ShareA.named.pre [Dat.z n, Dat.l rows_15]) ∧ (C_ShareA [Dat.z n, Dat.l rows_15] → ∀ (v_10 : Int), v_10 = shrErr n rows_15 → ∃ (rows_16 : List (List Int)), Ob (List.length a.R =
  List.length a.R ∧ rows_16.length = List.length a.R ∧ (∀ (r : List Int), r ∈ rows_16 → r.length = (1 : Nat)) ∧ ∀ (i : Nat), i < List.length a.R → (El.fn (Rv.elemOf [.i64] a.R)).at i = Rv.elemOf [.i64] rows_16 i) ∧ Ob
  (F_ShareR.named.pre [Dat.z n, Dat.l rows_16]) ∧ (C_ShareR [Dat.z n, Dat.l rows_16] → ∀ (v_11 : Int), v_11 = shrErr n rows_16 → (¬¬v_10 = v_11 → Ob ((0 : Nat) ≤ (4000000 : Nat) ∧ (0 : Nat) ≤ (4000000 : Nat)) ∧ (¬¬samTo 1
  [] [] 0 → ∃ (rows_17 : List (List Int)), Ob (rows_14.length = rows_14.length ∧ rows_17.length = rows_14.length ∧ (∀ (r : List Int), r ∈ rows_17 → r.length = (1 : Nat)) ∧ ∀ (i : Nat), i < rows_14.length → (El.fn
  (Rv.elemOf [.i64] rows_14)).at i = Rv.elemOf [.i64] rows_17 i) ∧ ∃ (rows_18 : List (List Int)), Ob (List.length a.R = List.length a.R ∧ rows_18.length = List.length a.R ∧ (∀ (r : List Int), r ∈ rows_18 → r.length = (1 :
  Nat)) ∧ ∀ (i : Nat), i < List.length a.R → (El.fn (Rv.elemOf [.i64] a.R)).at i = Rv.elemOf [.i64] rows_18 i) ∧ Ob (rows_17.length ≤ (4000000 : Nat) ∧ rows_18.length ≤ (4000000 : Nat)) ∧ (¬samTo 1 rows_17 rows_18
  rows_17.length → False) ∧ (¬¬samTo 1 rows_17 rows_18 rows_17.length → Ob (hasTabs [] B) ∧ True)) ∧ (¬samTo 1 [] [] 0 → False)) ∧ (¬v_10 = v_11 → False)) ∧ (¬C_ShareR [Dat.z n, Dat.l rows_16] → ∀ (v_11 : Int), v_11 = (0 :
  Int) → Ob (PlainE rows_16.length (El.fn fun (i : Nat) ↦ [SV.i .i64 (dh rows_16 n.toNat i)])) ∧ (¬¬v_10 = v_11 → ∃ (rows_17 : List (List Int)), Ob (rows_16.length = rows_16.length ∧ rows_17.length = rows_16.length ∧ (∀ (r
  : List Int), r ∈ rows_17 → r.length = (1 : Nat)) ∧ ∀ (i : Nat), i < rows_16.length → (El.fn fun (i : Nat) ↦ [SV.i .i64 (dh rows_16 n.toNat i)]).at i = Rv.elemOf [.i64] rows_17 i) ∧ Ob ((0 : Nat) ≤ (4000000 : Nat) ∧
  rows_17.length ≤ (4000000 : Nat)) ∧ (¬¬samTo 1 [] rows_17 0 → ∃ (rows_18 : List (List Int)), Ob (rows_14.length = rows_14.length ∧ rows_18.length = rows_14.length ∧ (∀ (r : List Int), r ∈ rows_18 → r.length = (1 : Nat))
  ∧ ∀ (i : Nat), i < rows_14.length → (El.fn (Rv.elemOf [.i64] rows_14)).at i = Rv.elemOf [.i64] rows_18 i) ∧ ∃ (rows_19 : List (List Int)), Ob (List.length a.R = List.length a.R ∧ rows_19.length = List.length a.R ∧ (∀ (r
  : List Int), r ∈ rows_19 → r.length = (1 : Nat)) ∧ ∀ (i : Nat), i < List.length a.R → (El.fn (Rv.elemOf [.i64] a.R)).at i = Rv.elemOf [.i64] rows_19 i) ∧ Ob (rows_18.length ≤ (4000000 : Nat) ∧ rows_19.length ≤ (4000000 :
  Nat)) ∧ (¬samTo 1 rows_18 rows_19 rows_18.length → False) ∧ (¬¬samTo 1 rows_18 rows_19 rows_18.length → Ob (hasTabs [] B) ∧ True)) ∧ (¬samTo 1 [] rows_17 0 → False)) ∧ (¬v_10 = v_11 → False))) ∧ (¬C_ShareA [Dat.z n,
  Dat.l rows_15] → ∀ (v_10 : Int), v_10 = (0 : Int) → ∃ (rows_16 : List (List Int)), Ob (List.length a.R = List.length a.R ∧ rows_16.length = List.length a.R ∧ (∀ (r : List Int), r ∈ rows_16 → r.length = (1 : Nat)) ∧ ∀ (i
  : Nat), i < List.length a.R → (El.fn (Rv.elemOf [.i64] a.R)).at i = Rv.elemOf [.i64] rows_16 i) ∧ Ob (F_ShareR.named.pre [Dat.z n, Dat.l rows_16]) ∧ (C_ShareR [Dat.z n, Dat.l rows_16] → ∀ (v_11 : Int), v_11 = shrErr n
  rows_16 → (¬¬v_10 = v_11 → ∃ (rows_17 : List (List Int)), Ob (rows_15.length = rows_15.length ∧ rows_17.length = rows_15.length ∧ (∀ (r : List Int), r ∈ rows_17 → r.length = (1 : Nat)) ∧ ∀ (i : Nat), i < rows_15.length →
  (El.fn fun (i : Nat) ↦ [SV.i .i64 (dh rows_15 n.toNat i)]).at i = Rv.elemOf [.i64] rows_17 i) ∧ Ob (rows_17.length ≤ (4000000 : Nat) ∧ (0 : Nat) ≤ (4000000 : Nat)) ∧ (¬¬samTo 1 rows_17 [] rows_17.length → ∃ (rows_18 :
  List (List Int)), Ob (rows_14.length = rows_14.length ∧ rows_18.length = rows_14.length ∧ (∀ (r : List Int), r ∈ rows_18 → r.length = (1 : Nat)) ∧ ∀ (i : Nat), i < rows_14.length → (El.fn (Rv.elemOf [.i64] rows_14)).at i
  = Rv.elemOf [.i64] rows_18 i) ∧ ∃ (rows_19 : List (List Int)), Ob (List.length a.R = List.length a.R ∧ rows_19.length = List.length a.R ∧ (∀ (r : List Int), r ∈ rows_19 → r.length = (1 : Nat)) ∧ ∀ (i : Nat), i <
  List.length a.R → (El.fn (Rv.elemOf [.i64] a.R)).at i = Rv.elemOf [.i64] rows_19 i) ∧ Ob (rows_18.length ≤ (4000000 : Nat) ∧ rows_19.length ≤ (4000000 : Nat)) ∧ (¬samTo 1 rows_18 rows_19 rows_18.length → False) ∧
  (¬¬samTo 1 rows_18 rows_19 rows_18.length → Ob (hasTabs [] B) ∧ True)) ∧ (¬samTo 1 rows_17 [] rows_17.length → False)) ∧ (¬v_10 = v_11 → False)) ∧ (¬C_ShareR [Dat.z n, Dat.l rows_16] → ∀ (v_11 : Int), v_11 = (0 : Int) →
  Ob (PlainE rows_16.length (El.fn fun (i : Nat) ↦ [SV.i .i64 (dh rows_16 n.toNat i)])) ∧ (¬¬v_10 = v_11 → ∃ (rows_17 : List (List Int)), Ob (rows_15.length = rows_15.length ∧ rows_17.length = rows_15.length ∧ (∀ (r : List
  Int), r ∈ rows_17 → r.length = (1 : Nat)) ∧ ∀ (i : Nat), i < rows_15.length → (El.fn fun (i : Nat) ↦ [SV.i .i64 (dh rows_15 n.toNat i)]).at i = Rv.elemOf [.i64] rows_17 i) ∧ ∃ (rows_18 : List (List Int)), Ob
  (rows_16.length = rows_16.length ∧ rows_18.length = rows_16.length ∧ (∀ (r : List Int), r ∈ rows_18 → r.length = (1 : Nat)) ∧ ∀ (i : Nat), i < rows_16.length → (El.fn fun (i : Nat) ↦ [SV.i .i64 (dh rows_16 n.toNat
  i)]).at i = Rv.elemOf [.i64] rows_18 i) ∧ Ob (rows_17.length ≤ (4000000 : Nat) ∧ rows_18.length ≤ (4000000 : Nat)) ∧ (¬¬samTo 1 rows_17 rows_18 rows_17.length → ∃ (rows_19 : List (List Int)), Ob (rows_14.length =
  rows_14.length ∧ rows_19.length = rows_14.length ∧ (∀ (r : List Int), r ∈ rows_19 → r.length = (1 : Nat)) ∧ ∀ (i : Nat), i < rows_14.length → (El.fn (Rv.elemOf [.i64] rows_14)).at i = Rv.elemOf [.i64] rows_19 i) ∧ ∃
  (rows_20 : List (List Int)), Ob (List.length a.R = List.length a.R ∧ rows_20.length = List.length a.R ∧ (∀ (r : List Int), r ∈ rows_20 → r.length = (1 : Nat)) ∧ ∀ (i : Nat), i < List.length a.R → (El.fn (Rv.elemOf [.i64]
  a.R)).at i = Rv.elemOf [.i64] rows_20 i) ∧ Ob (rows_19.length ≤ (4000000 : Nat) ∧ rows_20.length ≤ (4000000 : Nat)) ∧ (¬samTo 1 rows_19 rows_20 rows_19.length → False) ∧ (¬¬samTo 1 rows_19 rows_20 rows_19.length → Ob
  (hasTabs [] B) ∧ True)) ∧ (¬samTo 1 rows_17 rows_18 rows_17.length → False)) ∧ (¬v_10 = v_11 → False))))) ∧ (¬samTo 1 [] [] 0 → False)) ∧ (¬v_8 = v_9 → False)) ∧ (¬C_ShareR [Dat.z v_5, Dat.l rows_11] → ∀ (v_9 : Int), v_9
  = (0 : Int) → Ob (PlainE rows_11.length (El.fn fun (i : Nat) ↦ [SV.i .i64 (dh rows_11 v_5.toNat i)])) ∧ (¬¬v_8 = v_9 → ∃ (rows_12 : List (List Int)), Ob (rows_11.length = rows_11.length ∧ rows_12.length = rows_11.length
  ∧ (∀ (r : List Int), r ∈ rows_12 → r.length = (1 : Nat)) ∧ ∀ (i : Nat), i < rows_11.length → (El.fn fun (i : Nat) ↦ [SV.i .i64 (dh rows_11 v_5.toNat i)]).at i = Rv.elemOf [.i64] rows_12 i) ∧ Ob ((0 : Nat) ≤ (4000000 :
  Nat) ∧ rows_12.length ≤ (4000000 : Nat)) ∧ (¬¬samTo 1 [] rows_12 0 → ∃ (rows_13 : List (List Int)), Ob (rows_9.length = rows_9.length ∧ rows_13.length = rows_9.length ∧ (∀ (r : List Int), r ∈ rows_13 → r.length = (1 :
  Nat)) ∧ ∀ (i : Nat), i < rows_9.length → (El.fn (Rv.elemOf [.i64] rows_9)).at i = Rv.elemOf [.i64] rows_13 i) ∧ ∃ (rows_14 : List (List Int)), Ob (List.length a.R = List.length a.R ∧ rows_14.length = List.length a.R ∧ (∀
  (r : List Int), r ∈ rows_14 → r.length = (1 : Nat)) ∧ ∀ (i : Nat), i < List.length a.R → (El.fn (Rv.elemOf [.i64] a.R)).at i = Rv.elemOf [.i64] rows_14 i) ∧ Ob (rows_13.length ≤ (4000000 : Nat) ∧ rows_14.length ≤
  (4000000 : Nat)) ∧ (¬samTo 1 rows_13 rows_14 rows_13.length → False) ∧ (¬¬samTo 1 rows_13 rows_14 rows_13.length → ∃ (rows_15 : List (List Int)), Ob (List.length a.R = List.length a.R ∧ rows_15.length = List.length a.R ∧
  (∀ (r : List Int), r ∈ rows_15 → r.length = (1 : Nat)) ∧ ∀ (i : Nat), i < List.length a.R → (El.fn (Rv.elemOf [.i64] a.R)).at i = Rv.elemOf [.i64] rows_15 i) ∧ Ob (F_Ints.named.pre [Dat.l rows_15]) ∧ ∃ (rows_16 : List
  (List Int)), Ob (rows_15.length = rows_15.length ∧ rows_16.length = rows_15.length ∧ (∀ (r : List Int), r ∈ rows_16 → r.length = (1 : Nat)) ∧ ∀ (i : Nat), i < rows_15.length → (El.fn (Rv.elemOf [.i64] rows_15)).at i =
  Rv.elemOf [.i64] rows_16 i) ∧ Ob (F_ShareA.named.pre [Dat.z n, Dat.l rows_16]) ∧ (C_ShareA [Dat.z n, Dat.l rows_16] → ∀ (v_10 : Int), v_10 = shrErr n rows_16 → ∃ (rows_17 : List (List Int)), Ob (List.length a.R =
  List.length a.R ∧ rows_17.length = List.length a.R ∧ (∀ (r : List Int), r ∈ rows_17 → r.length = (1 : Nat)) ∧ ∀ (i : Nat), i < List.length a.R → (El.fn (Rv.elemOf [.i64] a.R)).at i = Rv.elemOf [.i64] rows_17 i) ∧ Ob
  (F_ShareR.named.pre [Dat.z n, Dat.l rows_17]) ∧ (C_ShareR [Dat.z n, Dat.l rows_17] → ∀ (v_11 : Int), v_11 = shrErr n rows_17 → (¬¬v_10 = v_11 → Ob ((0 : Nat) ≤ (4000000 : Nat) ∧ (0 : Nat) ≤ (4000000 : Nat)) ∧ (¬¬samTo 1
  [] [] 0 → ∃ (rows_18 : List (List Int)), Ob (rows_15.length = rows_15.length ∧ rows_18.length = rows_15.length ∧ (∀ (r : List Int), r ∈ rows_18 → r.length = (1 : Nat)) ∧ ∀ (i : Nat), i < rows_15.length → (El.fn
  (Rv.elemOf [.i64] rows_15)).at i = Rv.elemOf [.i64] rows_18 i) ∧ ∃ (rows_19 : List (List Int)), Ob (List.length a.R = List.length a.R ∧ rows_19.length = List.length a.R ∧ (∀ (r : List Int), r ∈ rows_19 → r.length = (1 :
  Nat)) ∧ ∀ (i : Nat), i < List.length a.R → (El.fn (Rv.elemOf [.i64] a.R)).at i = Rv.elemOf [.i64] rows_19 i) ∧ Ob (rows_18.length ≤ (4000000 : Nat) ∧ rows_19.length ≤ (4000000 : Nat)) ∧ (¬samTo 1 rows_18 rows_19
  rows_18.length → False) ∧ (¬¬samTo 1 rows_18 rows_19 rows_18.length → Ob (hasTabs [] B) ∧ True)) ∧ (¬samTo 1 [] [] 0 → False)) ∧ (¬v_10 = v_11 → False)) ∧ (¬C_ShareR [Dat.z n, Dat.l rows_17] → ∀ (v_11 : Int), v_11 = (0 :
  Int) → Ob (PlainE rows_17.length (El.fn fun (i : Nat) ↦ [SV.i .i64 (dh rows_17 n.toNat i)])) ∧ (¬¬v_10 = v_11 → ∃ (rows_18 : List (List Int)), Ob (rows_17.length = rows_17.length ∧ rows_18.length = rows_17.length ∧ (∀ (r
  : List Int), r ∈ rows_18 → r.length = (1 : Nat)) ∧ ∀ (i : Nat), i < rows_17.length → (El.fn fun (i : Nat) ↦ [SV.i .i64 (dh rows_17 n.toNat i)]).at i = Rv.elemOf [.i64] rows_18 i) ∧ Ob ((0 : Nat) ≤ (4000000 : Nat) ∧
  rows_18.length ≤ (4000000 : Nat)) ∧ (¬¬samTo 1 [] rows_18 0 → ∃ (rows_19 : List (List Int)), Ob (rows_15.length = rows_15.length ∧ rows_19.length = rows_15.length ∧ (∀ (r : List Int), r ∈ rows_19 → r.length = (1 : Nat))
  ∧ ∀ (i : Nat), i < rows_15.length → (El.fn (Rv.elemOf [.i64] rows_15)).at i = Rv.elemOf [.i64] rows_19 i) ∧ ∃ (rows_20 : List (List Int)), Ob (List.length a.R = List.length a.R ∧ rows_20.length = List.length a.R ∧ (∀ (r
  : List Int), r ∈ rows_20 → r.length = (1 : Nat)) ∧ ∀ (i : Nat), i < List.length a.R → (El.fn (Rv.elemOf [.i64] a.R)).at i = Rv.elemOf [.i64] rows_20 i) ∧ Ob (rows_19.length ≤ (4000000 : Nat) ∧ rows_20.length ≤ (4000000 :
  Nat)) ∧ (¬samTo 1 rows_19 rows_20 rows_19.length → False) ∧ (¬¬samTo 1 rows_19 rows_20 rows_19.length → Ob (hasTabs [] B) ∧ True)) ∧ (¬samTo 1 [] rows_18 0 → False)) ∧ (¬v_10 = v_11 → False))) ∧ (¬C_ShareA [Dat.z n,
  Dat.l rows_16] → ∀ (v_10 : Int), v_10 = (0 : Int) → ∃ (rows_17 : List (List Int)), Ob (List.length a.R = List.length a.R ∧ rows_17.length = List.length a.R ∧ (∀ (r : List Int), r ∈ rows_17 → r.length = (1 : Nat)) ∧ ∀ (i
  : Nat), i < List.length a.R → (El.fn (Rv.elemOf [.i64] a.R)).at i = Rv.elemOf [.i64] rows_17 i) ∧ Ob (F_ShareR.named.pre [Dat.z n, Dat.l rows_17]) ∧ (C_ShareR [Dat.z n, Dat.l rows_17] → ∀ (v_11 : Int), v_11 = shrErr n
  rows_17 → (¬¬v_10 = v_11 → ∃ (rows_18 : List (List Int)), Ob (rows_16.length = rows_16.length ∧ rows_18.length = rows_16.length ∧ (∀ (r : List Int), r ∈ rows_18 → r.length = (1 : Nat)) ∧ ∀ (i : Nat), i < rows_16.length →
  (El.fn fun (i : Nat) ↦ [SV.i .i64 (dh rows_16 n.toNat i)]).at i = Rv.elemOf [.i64] rows_18 i) ∧ Ob (rows_18.length ≤ (4000000 : Nat) ∧ (0 : Nat) ≤ (4000000 : Nat)) ∧ (¬¬samTo 1 rows_18 [] rows_18.length → ∃ (rows_19 :
  List (List Int)), Ob (rows_15.length = rows_15.length ∧ rows_19.length = rows_15.length ∧ (∀ (r : List Int), r ∈ rows_19 → r.length = (1 : Nat)) ∧ ∀ (i : Nat), i < rows_15.length → (El.fn (Rv.elemOf [.i64] rows_15)).at i
  = Rv.elemOf [.i64] rows_19 i) ∧ ∃ (rows_20 : List (List Int)), Ob (List.length a.R = List.length a.R ∧ rows_20.length = List.length a.R ∧ (∀ (r : List Int), r ∈ rows_20 → r.length = (1 : Nat)) ∧ ∀ (i : Nat), i <
  List.length a.R → (El.fn (Rv.elemOf [.i64] a.R)).at i = Rv.elemOf [.i64] rows_20 i) ∧ Ob (rows_19.length ≤ (4000000 : Nat) ∧ rows_20.length ≤ (4000000 : Nat)) ∧ (¬samTo 1 rows_19 rows_20 rows_19.length → False) ∧
  (¬¬samTo 1 rows_19 rows_20 rows_19.length → Ob (hasTabs [] B) ∧ True)) ∧ (¬samTo 1 rows_18 [] rows_18.length → False)) ∧ (¬v_10 = v_11 → False)) ∧ (¬C_ShareR [Dat.z n, Dat.l rows_17] → ∀ (v_11 : Int), v_11 = (0 : Int) →
  Ob (PlainE rows_17.length (El.fn fun (i : Nat) ↦ [SV.i .i64 (dh rows_17 n.toNat i)])) ∧ (¬¬v_10 = v_11 → ∃ (rows_18 : List (List Int)), Ob (rows_16.length = rows_16.length ∧ rows_18.length = rows_16.length ∧ (∀ (r : List
  Int), r ∈ rows_18 → r.length = (1 : Nat)) ∧ ∀ (i : Nat), i < rows_16.length → (El.fn fun (i : Nat) ↦ [SV.i .i64 (dh rows_16 n.toNat i)]).at i = Rv.elemOf [.i64] rows_18 i) ∧ ∃ (rows_19 : List (List Int)), Ob
  (rows_17.length = rows_17.length ∧ rows_19.length = rows_17.length ∧ (∀ (r : List Int), r ∈ rows_19 → r.length = (1 : Nat)) ∧ ∀ (i : Nat), i < rows_17.length → (El.fn fun (i : Nat) ↦ [SV.i .i64 (dh rows_17 n.toNat
  i)]).at i = Rv.elemOf [.i64] rows_19 i) ∧ Ob (rows_18.length ≤ (4000000 : Nat) ∧ rows_19.length ≤ (4000000 : Nat)) ∧ (¬¬samTo 1 rows_18 rows_19 rows_18.length → ∃ (rows_20 : List (List Int)), Ob (rows_15.length =
  rows_15.length ∧ rows_20.length = rows_15.length ∧ (∀ (r : List Int), r ∈ rows_20 → r.length = (1 : Nat)) ∧ ∀ (i : Nat), i < rows_15.length → (El.fn (Rv.elemOf [.i64] rows_15)).at i = Rv.elemOf [.i64] rows_20 i) ∧ ∃
  (rows_21 : List (List Int)), Ob (List.length a.R = List.length a.R ∧ rows_21.length = List.length a.R ∧ (∀ (r : List Int), r ∈ rows_21 → r.length = (1 : Nat)) ∧ ∀ (i : Nat), i < List.length a.R → (El.fn (Rv.elemOf [.i64]
  a.R)).at i = Rv.elemOf [.i64] rows_21 i) ∧ Ob (rows_20.length ≤ (4000000 : Nat) ∧ rows_21.length ≤ (4000000 : Nat)) ∧ (¬samTo 1 rows_20 rows_21 rows_20.length → False) ∧ (¬¬samTo 1 rows_20 rows_21 rows_20.length → Ob
  (hasTabs [] B) ∧ True)) ∧ (¬samTo 1 rows_18 rows_19 rows_18.length → False)) ∧ (¬v_10 = v_11 → False))))) ∧ (¬samTo 1 [] rows_12 0 → False)) ∧ (¬v_8 = v_9 → False))) ∧ (¬C_ShareA [Dat.z v_5, Dat.l rows_10] → ∀ (v_8 :
  Int), v_8 = (0 : Int) → ∃ (rows_11 : List (List Int)), Ob (List.length a.R = List.length a.R ∧ rows_11.length = List.length a.R ∧ (∀ (r : List Int), r ∈ rows_11 → r.length = (1 : Nat)) ∧ ∀ (i : Nat), i < List.length a.R
  → (El.fn (Rv.elemOf [.i64] a.R)).at i = Rv.elemOf [.i64] rows_11 i) ∧ Ob (F_ShareR.named.pre [Dat.z v_5, Dat.l rows_11]) ∧ (C_ShareR [Dat.z v_5, Dat.l rows_11] → ∀ (v_9 : Int), v_9 = shrErr v_5 rows_11 → (¬¬v_8 = v_9 → ∃
  (rows_12 : List (List Int)), Ob (rows_10.length = rows_10.length ∧ rows_12.length = rows_10.length ∧ (∀ (r : List Int), r ∈ rows_12 → r.length = (1 : Nat)) ∧ ∀ (i : Nat), i < rows_10.length → (El.fn fun (i : Nat) ↦ [SV.i
  .i64 (dh rows_10 v_5.toNat i)]).at i = Rv.elemOf [.i64] rows_12 i) ∧ Ob (rows_12.length ≤ (4000000 : Nat) ∧ (0 : Nat) ≤ (4000000 : Nat)) ∧ (¬¬samTo 1 rows_12 [] rows_12.length → ∃ (rows_13 : List (List Int)), Ob
  (rows_9.length = rows_9.length ∧ rows_13.length = rows_9.length ∧ (∀ (r : List Int), r ∈ rows_13 → r.length = (1 : Nat)) ∧ ∀ (i : Nat), i < rows_9.length → (El.fn (Rv.elemOf [.i64] rows_9)).at i = Rv.elemOf [.i64]
  rows_13 i) ∧ ∃ (rows_14 : List (List Int)), Ob (List.length a.R = List.length a.R ∧ rows_14.length = List.length a.R ∧ (∀ (r : List Int), r ∈ rows_14 → r.length = (1 : Nat)) ∧ ∀ (i : Nat), i < List.length a.R → (El.fn
  (Rv.elemOf [.i64] a.R)).at i = Rv.elemOf [.i64] rows_14 i) ∧ Ob (rows_13.length ≤ (4000000 : Nat) ∧ rows_14.length ≤ (4000000 : Nat)) ∧ (¬samTo 1 rows_13 rows_14 rows_13.length → False) ∧ (¬¬samTo 1 rows_13 rows_14
  rows_13.length → ∃ (rows_15 : List (List Int)), Ob (List.length a.R = List.length a.R ∧ rows_15.length = List.length a.R ∧ (∀ (r : List Int), r ∈ rows_15 → r.length = (1 : Nat)) ∧ ∀ (i : Nat), i < List.length a.R →
  (El.fn (Rv.elemOf [.i64] a.R)).at i = Rv.elemOf [.i64] rows_15 i) ∧ Ob (F_Ints.named.pre [Dat.l rows_15]) ∧ ∃ (rows_16 : List (List Int)), Ob (rows_15.length = rows_15.length ∧ rows_16.length = rows_15.length ∧ (∀ (r :
  List Int), r ∈ rows_16 → r.length = (1 : Nat)) ∧ ∀ (i : Nat), i < rows_15.length → (El.fn (Rv.elemOf [.i64] rows_15)).at i = Rv.elemOf [.i64] rows_16 i) ∧ Ob (F_ShareA.named.pre [Dat.z n, Dat.l rows_16]) ∧ (C_ShareA
  [Dat.z n, Dat.l rows_16] → ∀ (v_10 : Int), v_10 = shrErr n rows_16 → ∃ (rows_17 : List (List Int)), Ob (List.length a.R = List.length a.R ∧ rows_17.length = List.length a.R ∧ (∀ (r : List Int), r ∈ rows_17 → r.length =
  (1 : Nat)) ∧ ∀ (i : Nat), i < List.length a.R → (El.fn (Rv.elemOf [.i64] a.R)).at i = Rv.elemOf [.i64] rows_17 i) ∧ Ob (F_ShareR.named.pre [Dat.z n, Dat.l rows_17]) ∧ (C_ShareR [Dat.z n, Dat.l rows_17] → ∀ (v_11 : Int),
  v_11 = shrErr n rows_17 → (¬¬v_10 = v_11 → Ob ((0 : Nat) ≤ (4000000 : Nat) ∧ (0 : Nat) ≤ (4000000 : Nat)) ∧ (¬¬samTo 1 [] [] 0 → ∃ (rows_18 : List (List Int)), Ob (rows_15.length = rows_15.length ∧ rows_18.length =
  rows_15.length ∧ (∀ (r : List Int), r ∈ rows_18 → r.length = (1 : Nat)) ∧ ∀ (i : Nat), i < rows_15.length → (El.fn (Rv.elemOf [.i64] rows_15)).at i = Rv.elemOf [.i64] rows_18 i) ∧ ∃ (rows_19 : List (List Int)), Ob
  (List.length a.R = List.length a.R ∧ rows_19.length = List.length a.R ∧ (∀ (r : List Int), r ∈ rows_19 → r.length = (1 : Nat)) ∧ ∀ (i : Nat), i < List.length a.R → (El.fn (Rv.elemOf [.i64] a.R)).at i = Rv.elemOf [.i64]
  rows_19 i) ∧ Ob (rows_18.length ≤ (4000000 : Nat) ∧ rows_19.length ≤ (4000000 : Nat)) ∧ (¬samTo 1 rows_18 rows_19 rows_18.length → False) ∧ (¬¬samTo 1 rows_18 rows_19 rows_18.length → Ob (hasTabs [] B) ∧ True)) ∧ (¬samTo
  1 [] [] 0 → False)) ∧ (¬v_10 = v_11 → False)) ∧ (¬C_ShareR [Dat.z n, Dat.l rows_17] → ∀ (v_11 : Int), v_11 = (0 : Int) → Ob (PlainE rows_17.length (El.fn fun (i : Nat) ↦ [SV.i .i64 (dh rows_17 n.toNat i)])) ∧ (¬¬v_10 =
  v_11 → ∃ (rows_18 : List (List Int)), Ob (rows_17.length = rows_17.length ∧ rows_18.length = rows_17.length ∧ (∀ (r : List Int), r ∈ rows_18 → r.length = (1 : Nat)) ∧ ∀ (i : Nat), i < rows_17.length → (El.fn fun (i :
  Nat) ↦ [SV.i .i64 (dh rows_17 n.toNat i)]).at i = Rv.elemOf [.i64] rows_18 i) ∧ Ob ((0 : Nat) ≤ (4000000 : Nat) ∧ rows_18.length ≤ (4000000 : Nat)) ∧ (¬¬samTo 1 [] rows_18 0 → ∃ (rows_19 : List (List Int)), Ob
  (rows_15.length = rows_15.length ∧ rows_19.length = rows_15.length ∧ (∀ (r : List Int), r ∈ rows_19 → r.length = (1 : Nat)) ∧ ∀ (i : Nat), i < rows_15.length → (El.fn (Rv.elemOf [.i64] rows_15)).at i = Rv.elemOf [.i64]
  rows_19 i) ∧ ∃ (rows_20 : List (List Int)), Ob (List.length a.R = List.length a.R ∧ rows_20.length = List.length a.R ∧ (∀ (r : List Int), r ∈ rows_20 → r.length = (1 : Nat)) ∧ ∀ (i : Nat), i < List.length a.R → (El.fn
  (Rv.elemOf [.i64] a.R)).at i = Rv.elemOf [.i64] rows_20 i) ∧ Ob (rows_19.length ≤ (4000000 : Nat) ∧ rows_20.length ≤ (4000000 : Nat)) ∧ (¬samTo 1 rows_19 rows_20 rows_19.length → False) ∧ (¬¬samTo 1 rows_19 rows_20
  rows_19.length → Ob (hasTabs [] B) ∧ True)) ∧ (¬samTo 1 [] rows_18 0 → False)) ∧ (¬v_10 = v_11 → False))) ∧ (¬C_ShareA [Dat.z n, Dat.l rows_16] → ∀ (v_10 : Int), v_10 = (0 : Int) → ∃ (rows_17 : List (List Int)), Ob
  (List.length a.R = List.length a.R ∧ rows_17.length = List.length a.R ∧ (∀ (r : List Int), r ∈ rows_17 → r.length = (1 : Nat)) ∧ ∀ (i : Nat), i < List.length a.R → (El.fn (Rv.elemOf [.i64] a.R)).at i = Rv.elemOf [.i64]
  rows_17 i) ∧ Ob (F_ShareR.named.pre [Dat.z n, Dat.l rows_17]) ∧ (C_ShareR [Dat.z n, Dat.l rows_17] → ∀ (v_11 : Int), v_11 = shrErr n rows_17 → (¬¬v_10 = v_11 → ∃ (rows_18 : List (List Int)), Ob (rows_16.length =
  rows_16.length ∧ rows_18.length = rows_16.length ∧ (∀ (r : List Int), r ∈ rows_18 → r.length = (1 : Nat)) ∧ ∀ (i : Nat), i < rows_16.length → (El.fn fun (i : Nat) ↦ [SV.i .i64 (dh rows_16 n.toNat i)]).at i = Rv.elemOf
  [.i64] rows_18 i) ∧ Ob (rows_18.length ≤ (4000000 : Nat) ∧ (0 : Nat) ≤ (4000000 : Nat)) ∧ (¬¬samTo 1 rows_18 [] rows_18.length → ∃ (rows_19 : List (List Int)), Ob (rows_15.length = rows_15.length ∧ rows_19.length =
  rows_15.length ∧ (∀ (r : List Int), r ∈ rows_19 → r.length = (1 : Nat)) ∧ ∀ (i : Nat), i < rows_15.length → (El.fn (Rv.elemOf [.i64] rows_15)).at i = Rv.elemOf [.i64] rows_19 i) ∧ ∃ (rows_20 : List (List Int)), Ob
  (List.length a.R = List.length a.R ∧ rows_20.length = List.length a.R ∧ (∀ (r : List Int), r ∈ rows_20 → r.length = (1 : Nat)) ∧ ∀ (i : Nat), i < List.length a.R → (El.fn (Rv.elemOf [.i64] a.R)).at i = Rv.elemOf [.i64]
  rows_20 i) ∧ Ob (rows_19.length ≤ (4000000 : Nat) ∧ rows_20.length ≤ (4000000 : Nat)) ∧ (¬samTo 1 rows_19 rows_20 rows_19.length → False) ∧ (¬¬samTo 1 rows_19 rows_20 rows_19.length → Ob (hasTabs [] B) ∧ True)) ∧ (¬samTo
  1 rows_18 [] rows_18.length → False)) ∧ (¬v_10 = v_11 → False)) ∧ (¬C_ShareR [Dat.z n, Dat.l rows_17] → ∀ (v_11 : Int), v_11 = (0 : Int) → Ob (PlainE rows_17.length (El.fn fun (i : Nat) ↦ [SV.i .i64 (dh rows_17 n.toNat
  i)])) ∧ (¬¬v_10 = v_11 → ∃ (rows_18 : List (List Int)), Ob (rows_16.length = rows_16.length ∧ rows_18.length = rows_16.length ∧ (∀ (r : List Int), r ∈ rows_18 → r.length = (1 : Nat)) ∧ ∀ (i : Nat), i < rows_16.length →
  (El.fn fun (i : Nat) ↦ [SV.i .i64 (dh rows_16 n.toNat i)]).at i = Rv.elemOf [.i64] rows_18 i) ∧ ∃ (rows_19 : List (List Int)), Ob (rows_17.length = rows_17.length ∧ rows_19.length = rows_17.length ∧ (∀ (r : List Int), r
  ∈ rows_19 → r.length = (1 : Nat)) ∧ ∀ (i : Nat), i < rows_17.length → (El.fn fun (i : Nat) ↦ [SV.i .i64 (dh rows_17 n.toNat i)]).at i = Rv.elemOf [.i64] rows_19 i) ∧ Ob (rows_18.length ≤ (4000000 : Nat) ∧ rows_19.length
  ≤ (4000000 : Nat)) ∧ (¬¬samTo 1 rows_18 rows_19 rows_18.length → ∃ (rows_20 : List (List Int)), Ob (rows_15.length = rows_15.length ∧ rows_20.length = rows_15.length ∧ (∀ (r : List Int), r ∈ rows_20 → r.length = (1 :
  Nat)) ∧ ∀ (i : Nat), i < rows_15.length → (El.fn (Rv.elemOf [.i64] rows_15)).at i = Rv.elemOf [.i64] rows_20 i) ∧ ∃ (rows_21 : List (List Int)), Ob (List.length a.R = List.length a.R ∧ rows_21.length = List.length a.R ∧
  (∀ (r : List Int), r ∈ rows_21 → r.length = (1 : Nat)) ∧ ∀ (i : Nat), i < List.length a.R → (El.fn (Rv.elemOf [.i64] a.R)).at i = Rv.elemOf [.i64] rows_21 i) ∧ Ob (rows_20.length ≤ (4000000 : Nat) ∧ rows_21.length ≤
  (4000000 : Nat)) ∧ (¬samTo 1 rows_20 rows_21 rows_20.length → False) ∧ (¬¬samTo 1 rows_20 rows_21 rows_20.length → Ob (hasTabs [] B) ∧ True)) ∧ (¬samTo 1 rows_18 rows_19 rows_18.length → False)) ∧ (¬v_10 = v_11 →
  False))))) ∧ (¬samTo 1 rows_12 [] rows_12.length → False)) ∧ (¬v_8 = v_9 → False)) ∧ (¬C_ShareR [Dat.z v_5, Dat.l rows_11] → ∀ (v_9 : Int), v_9 = (0 : Int) → Ob (PlainE rows_11.length (El.fn fun (i : Nat) ↦ [SV.i .i64
  (dh rows_11 v_5.toNat i)])) ∧ (¬¬v_8 = v_9 → ∃ (rows_12 : List (List Int)), Ob (rows_10.length = rows_10.length ∧ rows_12.length = rows_10.length ∧ (∀ (r : List Int), r ∈ rows_12 → r.length = (1 : Nat)) ∧ ∀ (i : Nat), i
  < rows_10.length → (El.fn fun (i : Nat) ↦ [SV.i .i64 (dh rows_10 v_5.toNat i)]).at i = Rv.elemOf [.i64] rows_12 i) ∧ ∃ (rows_13 : List (List Int)), Ob (rows_11.length = rows_11.length ∧ rows_13.length = rows_11.length ∧
  (∀ (r : List Int), r ∈ rows_13 → r.length = (1 : Nat)) ∧ ∀ (i : Nat), i < rows_11.length → (El.fn fun (i : Nat) ↦ [SV.i .i64 (dh rows_11 v_5.toNat i)]).at i = Rv.elemOf [.i64] rows_13 i) ∧ Ob (rows_12.length ≤ (4000000 :
  Nat) ∧ rows_13.length ≤ (4000000 : Nat)) ∧ (¬¬samTo 1 rows_12 rows_13 rows_12.length → ∃ (rows_14 : List (List Int)), Ob (rows_9.length = rows_9.length ∧ rows_14.length = rows_9.length ∧ (∀ (r : List Int), r ∈ rows_14 →
  r.length = (1 : Nat)) ∧ ∀ (i : Nat), i < rows_9.length → (El.fn (Rv.elemOf [.i64] rows_9)).at i = Rv.elemOf [.i64] rows_14 i) ∧ ∃ (rows_15 : List (List Int)), Ob (List.length a.R = List.length a.R ∧ rows_15.length =
  List.length a.R ∧ (∀ (r : List Int), r ∈ rows_15 → r.length = (1 : Nat)) ∧ ∀ (i : Nat), i < List.length a.R → (El.fn (Rv.elemOf [.i64] a.R)).at i = Rv.elemOf [.i64] rows_15 i) ∧ Ob (rows_14.length ≤ (4000000 : Nat) ∧
  rows_15.length ≤ (4000000 : Nat)) ∧ (¬samTo 1 rows_14 rows_15 rows_14.length → False) ∧ (¬¬samTo 1 rows_14 rows_15 rows_14.length → ∃ (rows_16 : List (List Int)), Ob (List.length a.R = List.length a.R ∧ rows_16.length =
  List.length a.R ∧ (∀ (r : List Int), r ∈ rows_16 → r.length = (1 : Nat)) ∧ ∀ (i : Nat), i < List.length a.R → (El.fn (Rv.elemOf [.i64] a.R)).at i = Rv.elemOf [.i64] rows_16 i) ∧ Ob (F_Ints.named.pre [Dat.l rows_16]) ∧ ∃
  (rows_17 : List (List Int)), Ob (rows_16.length = rows_16.length ∧ rows_17.length = rows_16.length ∧ (∀ (r : List Int), r ∈ rows_17 → r.length = (1 : Nat)) ∧ ∀ (i : Nat), i < rows_16.length → (El.fn (Rv.elemOf [.i64]
  rows_16)).at i = Rv.elemOf [.i64] rows_17 i) ∧ Ob (F_ShareA.named.pre [Dat.z n, Dat.l rows_17]) ∧ (C_ShareA [Dat.z n, Dat.l rows_17] → ∀ (v_10 : Int), v_10 = shrErr n rows_17 → ∃ (rows_18 : List (List Int)), Ob
  (List.length a.R = List.length a.R ∧ rows_18.length = List.length a.R ∧ (∀ (r : List Int), r ∈ rows_18 → r.length = (1 : Nat)) ∧ ∀ (i : Nat), i < List.length a.R → (El.fn (Rv.elemOf [.i64] a.R)).at i = Rv.elemOf [.i64]
  rows_18 i) ∧ Ob (F_ShareR.named.pre [Dat.z n, Dat.l rows_18]) ∧ (C_ShareR [Dat.z n, Dat.l rows_18] → ∀ (v_11 : Int), v_11 = shrErr n rows_18 → (¬¬v_10 = v_11 → Ob ((0 : Nat) ≤ (4000000 : Nat) ∧ (0 : Nat) ≤ (4000000 :
  Nat)) ∧ (¬¬samTo 1 [] [] 0 → ∃ (rows_19 : List (List Int)), Ob (rows_16.length = rows_16.length ∧ rows_19.length = rows_16.length ∧ (∀ (r : List Int), r ∈ rows_19 → r.length = (1 : Nat)) ∧ ∀ (i : Nat), i < rows_16.length
  → (El.fn (Rv.elemOf [.i64] rows_16)).at i = Rv.elemOf [.i64] rows_19 i) ∧ ∃ (rows_20 : List (List Int)), Ob (List.length a.R = List.length a.R ∧ rows_20.length = List.length a.R ∧ (∀ (r : List Int), r ∈ rows_20 →
  r.length = (1 : Nat)) ∧ ∀ (i : Nat), i < List.length a.R → (El.fn (Rv.elemOf [.i64] a.R)).at i = Rv.elemOf [.i64] rows_20 i) ∧ Ob (rows_19.length ≤ (4000000 : Nat) ∧ rows_20.length ≤ (4000000 : Nat)) ∧ (¬samTo 1 rows_19
  rows_20 rows_19.length → False) ∧ (¬¬samTo 1 rows_19 rows_20 rows_19.length → Ob (hasTabs [] B) ∧ True)) ∧ (¬samTo 1 [] [] 0 → False)) ∧ (¬v_10 = v_11 → False)) ∧ (¬C_ShareR [Dat.z n, Dat.l rows_18] → ∀ (v_11 : Int),
  v_11 = (0 : Int) → Ob (PlainE rows_18.length (El.fn fun (i : Nat) ↦ [SV.i .i64 (dh rows_18 n.toNat i)])) ∧ (¬¬v_10 = v_11 → ∃ (rows_19 : List (List Int)), Ob (rows_18.length = rows_18.length ∧ rows_19.length =
  rows_18.length ∧ (∀ (r : List Int), r ∈ rows_19 → r.length = (1 : Nat)) ∧ ∀ (i : Nat), i < rows_18.length → (El.fn fun (i : Nat) ↦ [SV.i .i64 (dh rows_18 n.toNat i)]).at i = Rv.elemOf [.i64] rows_19 i) ∧ Ob ((0 : Nat) ≤
  (4000000 : Nat) ∧ rows_19.length ≤ (4000000 : Nat)) ∧ (¬¬samTo 1 [] rows_19 0 → ∃ (rows_20 : List (List Int)), Ob (rows_16.length = rows_16.length ∧ rows_20.length = rows_16.length ∧ (∀ (r : List Int), r ∈ rows_20 →
  r.length = (1 : Nat)) ∧ ∀ (i : Nat), i < rows_16.length → (El.fn (Rv.elemOf [.i64] rows_16)).at i = Rv.elemOf [.i64] rows_20 i) ∧ ∃ (rows_21 : List (List Int)), Ob (List.length a.R = List.length a.R ∧ rows_21.length =
  List.length a.R ∧ (∀ (r : List Int), r ∈ rows_21 → r.length = (1 : Nat)) ∧ ∀ (i : Nat), i < List.length a.R → (El.fn (Rv.elemOf [.i64] a.R)).at i = Rv.elemOf [.i64] rows_21 i) ∧ Ob (rows_20.length ≤ (4000000 : Nat) ∧
  rows_21.length ≤ (4000000 : Nat)) ∧ (¬samTo 1 rows_20 rows_21 rows_20.length → False) ∧ (¬¬samTo 1 rows_20 rows_21 rows_20.length → Ob (hasTabs [] B) ∧ True)) ∧ (¬samTo 1 [] rows_19 0 → False)) ∧ (¬v_10 = v_11 → False)))
  ∧ (¬C_ShareA [Dat.z n, Dat.l rows_17] → ∀ (v_10 : Int), v_10 = (0 : Int) → ∃ (rows_18 : List (List Int)), Ob (List.length a.R = List.length a.R ∧ rows_18.length = List.length a.R ∧ (∀ (r : List Int), r ∈ rows_18 →
  r.length = (1 : Nat)) ∧ ∀ (i : Nat), i < List.length a.R → (El.fn (Rv.elemOf [.i64] a.R)).at i = Rv.elemOf [.i64] rows_18 i) ∧ Ob (F_ShareR.named.pre [Dat.z n, Dat.l rows_18]) ∧ (C_ShareR [Dat.z n, Dat.l rows_18] → ∀
  (v_11 : Int), v_11 = shrErr n rows_18 → (¬¬v_10 = v_11 → ∃ (rows_19 : List (List Int)), Ob (rows_17.length = rows_17.length ∧ rows_19.length = rows_17.length ∧ (∀ (r : List Int), r ∈ rows_19 → r.length = (1 : Nat)) ∧ ∀
  (i : Nat), i < rows_17.length → (El.fn fun (i : Nat) ↦ [SV.i .i64 (dh rows_17 n.toNat i)]).at i = Rv.elemOf [.i64] rows_19 i) ∧ Ob (rows_19.length ≤ (4000000 : Nat) ∧ (0 : Nat) ≤ (4000000 : Nat)) ∧ (¬¬samTo 1 rows_19 []
  rows_19.length → ∃ (rows_20 : List (List Int)), Ob (rows_16.length = rows_16.length ∧ rows_20.length = rows_16.length ∧ (∀ (r : List Int), r ∈ rows_20 → r.length = (1 : Nat)) ∧ ∀ (i : Nat), i < rows_16.length → (El.fn
  (Rv.elemOf [.i64] rows_16)).at i = Rv.elemOf [.i64] rows_20 i) ∧ ∃ (rows_21 : List (List Int)), Ob (List.length a.R = List.length a.R ∧ rows_21.length = List.length a.R ∧ (∀ (r : List Int), r ∈ rows_21 → r.length = (1 :
  Nat)) ∧ ∀ (i : Nat), i < List.length a.R → (El.fn (Rv.elemOf [.i64] a.R)).at i = Rv.elemOf [.i64] rows_21 i) ∧ Ob (rows_20.length ≤ (4000000 : Nat) ∧ rows_21.length ≤ (4000000 : Nat)) ∧ (¬samTo 1 rows_20 rows_21
  rows_20.length → False) ∧ (¬¬samTo 1 rows_20 rows_21 rows_20.length → Ob (hasTabs [] B) ∧ True)) ∧ (¬samTo 1 rows_19 [] rows_19.length → False)) ∧ (¬v_10 = v_11 → False)) ∧ (¬C_ShareR [Dat.z n, Dat.l rows_18] → ∀ (v_11 :
  Int), v_11 = (0 : Int) → Ob (PlainE rows_18.length (El.fn fun (i : Nat) ↦ [SV.i .i64 (dh rows_18 n.toNat i)])) ∧ (¬¬v_10 = v_11 → ∃ (rows_19 : List (List Int)), Ob (rows_17.length = rows_17.length ∧ rows_19.length =
  rows_17.length ∧ (∀ (r : List Int), r ∈ rows_19 → r.length = (1 : Nat)) ∧ ∀ (i : Nat), i < rows_17.length → (El.fn fun (i : Nat) ↦ [SV.i .i64 (dh rows_17 n.toNat i)]).at i = Rv.elemOf [.i64] rows_19 i) ∧ ∃ (rows_20 :
  List (List Int)), Ob (rows_18.length = rows_18.length ∧ rows_20.length = rows_18.length ∧ (∀ (r : List Int), r ∈ rows_20 → r.length = (1 : Nat)) ∧ ∀ (i : Nat), i < rows_18.length → (El.fn fun (i : Nat) ↦ [SV.i .i64 (dh
  rows_18 n.toNat i)]).at i = Rv.elemOf [.i64] rows_20 i) ∧ Ob (rows_19.length ≤ (4000000 : Nat) ∧ rows_20.length ≤ (4000000 : Nat)) ∧ (¬¬samTo 1 rows_19 rows_20 rows_19.length → ∃ (rows_21 : List (List Int)), Ob
  (rows_16.length = rows_16.length ∧ rows_21.length = rows_16.length ∧ (∀ (r : List Int), r ∈ rows_21 → r.length = (1 : Nat)) ∧ ∀ (i : Nat), i < rows_16.length → (El.fn (Rv.elemOf [.i64] rows_16)).at i = Rv.elemOf [.i64]
  rows_21 i) ∧ ∃ (rows_22 : List (List Int)), Ob (List.length a.R = List.length a.R ∧ rows_22.length = List.length a.R ∧ (∀ (r : List Int), r ∈ rows_22 → r.length = (1 : Nat)) ∧ ∀ (i : Nat), i < List.length a.R → (El.fn
  (Rv.elemOf [.i64] a.R)).at i = Rv.elemOf [.i64] rows_22 i) ∧ Ob (rows_21.length ≤ (4000000 : Nat) ∧ rows_22.length ≤ (4000000 : Nat)) ∧ (¬samTo 1 rows_21 rows_22 rows_21.length → False) ∧ (¬¬samTo 1 rows_21 rows_22
  rows_21.length → Ob (hasTabs [] B) ∧ True)) ∧ (¬samTo 1 rows_19 rows_20 rows_19.length → False)) ∧ (¬v_10 = v_11 → False))))) ∧ (¬samTo 1 rows_12 rows_13 rows_12.length → False)) ∧ (¬v_8 = v_9 → False))))) ∧ (¬samTo 1 []
  rows_6 0 → False)) ∧ (¬v_6 = v_7 → False))) ∧ (¬C_ShareA [Dat.z n, Dat.l rows_4] → ∀ (v_6 : Int), v_6 = (0 : Int) → Ob (IsLst B x rows.length 1 (Rv.elemOf [.i64] rows)) ∧ ∃ (rows_5 : List (List Int)), Ob (IsLst B x
  rows.length 1 (Rv.elemOf [.i64] rows) ∧ rows_5.length = rows.length ∧ (∀ (r : List Int), r ∈ rows_5 → r.length = (1 : Nat)) ∧ ∀ (i : Nat), i < rows.length → Rv.elemOf [.i64] rows i = Rv.elemOf [.i64] rows_5 i) ∧ Ob
  (F_ShareR.named.pre [Dat.z n, Dat.l rows_5]) ∧ (C_ShareR [Dat.z n, Dat.l rows_5] → ∀ (v_7 : Int), v_7 = shrErr n rows_5 → (¬¬v_6 = v_7 → ∃ (rows_6 : List (List Int)), Ob (rows_4.length = rows_4.length ∧ rows_6.length =
  rows_4.length ∧ (∀ (r : List Int), r ∈ rows_6 → r.length = (1 : Nat)) ∧ ∀ (i : Nat), i < rows_4.length → (El.fn fun (i : Nat) ↦ [SV.i .i64 (dh rows_4 n.toNat i)]).at i = Rv.elemOf [.i64] rows_6 i) ∧ Ob (rows_6.length ≤
  (4000000 : Nat) ∧ (0 : Nat) ≤ (4000000 : Nat)) ∧ (¬¬samTo 1 rows_6 [] rows_6.length → ∃ (rows_7 : List (List Int)), Ob (rows_3.length = rows_3.length ∧ rows_7.length = rows_3.length ∧ (∀ (r : List Int), r ∈ rows_7 →
  r.length = (1 : Nat)) ∧ ∀ (i : Nat), i < rows_3.length → (El.fn (Rv.elemOf [.i64] rows_3)).at i = Rv.elemOf [.i64] rows_7 i) ∧ ∃ (rows_8 : List (List Int)), Ob (IsLst B x rows.length 1 (Rv.elemOf [.i64] rows) ∧
  rows_8.length = rows.length ∧ (∀ (r : List Int), r ∈ rows_8 → r.length = (1 : Nat)) ∧ ∀ (i : Nat), i < rows.length → Rv.elemOf [.i64] rows i = Rv.elemOf [.i64] rows_8 i) ∧ Ob (rows_7.length ≤ (4000000 : Nat) ∧
  rows_8.length ≤ (4000000 : Nat)) ∧ (¬samTo 1 rows_7 rows_8 rows_7.length → False) ∧ (¬¬samTo 1 rows_7 rows_8 rows_7.length → ∃ (rows_9 : List (List Int)), Ob (List.length a.R = List.length a.R ∧ rows_9.length =
  List.length a.R ∧ (∀ (r : List Int), r ∈ rows_9 → r.length = (1 : Nat)) ∧ ∀ (i : Nat), i < List.length a.R → (El.fn (Rv.elemOf [.i64] a.R)).at i = Rv.elemOf [.i64] rows_9 i) ∧ Ob (F_Ints.named.pre [Dat.l rows_9]) ∧ ∃
  (rows_10 : List (List Int)), Ob (rows_9.length = rows_9.length ∧ rows_10.length = rows_9.length ∧ (∀ (r : List Int), r ∈ rows_10 → r.length = (1 : Nat)) ∧ ∀ (i : Nat), i < rows_9.length → (El.fn (Rv.elemOf [.i64]
  rows_9)).at i = Rv.elemOf [.i64] rows_10 i) ∧ Ob (F_ShareA.named.pre [Dat.z v_5, Dat.l rows_10]) ∧ (C_ShareA [Dat.z v_5, Dat.l rows_10] → ∀ (v_8 : Int), v_8 = shrErr v_5 rows_10 → ∃ (rows_11 : List (List Int)), Ob
  (List.length a.R = List.length a.R ∧ rows_11.length = List.length a.R ∧ (∀ (r : List Int), r ∈ rows_11 → r.length = (1 : Nat)) ∧ ∀ (i : Nat), i < List.length a.R → (El.fn (Rv.elemOf [.i64] a.R)).at i = Rv.elemOf [.i64]
  rows_11 i) ∧ Ob (F_ShareR.named.pre [Dat.z v_5, Dat.l rows_11]) ∧ (C_ShareR [Dat.z v_5, Dat.l rows_11] → ∀ (v_9 : Int), v_9 = shrErr v_5 rows_11 → (¬¬v_8 = v_9 → Ob ((0 : Nat) ≤ (4000000 : Nat) ∧ (0 : Nat) ≤ (4000000 :
  Nat)) ∧ (¬¬samTo 1 [] [] 0 → ∃ (rows_12 : List (List Int)), Ob (rows_9.length = rows_9.length ∧ rows_12.length = rows_9.length ∧ (∀ (r : List Int), r ∈ rows_12 → r.length = (1 : Nat)) ∧ ∀ (i : Nat), i < rows_9.length →
  (El.fn (Rv.elemOf [.i64] rows_9)).at i = Rv.elemOf [.i64] rows_12 i) ∧ ∃ (rows_13 : List (List Int)), Ob (List.length a.R = List.length a.R ∧ rows_13.length = List.length a.R ∧ (∀ (r : List Int), r ∈ rows_13 → r.length =
  (1 : Nat)) ∧ ∀ (i : Nat), i < List.length a.R → (El.fn (Rv.elemOf [.i64] a.R)).at i = Rv.elemOf [.i64] rows_13 i) ∧ Ob (rows_12.length ≤ (4000000 : Nat) ∧ rows_13.length ≤ (4000000 : Nat)) ∧ (¬samTo 1 rows_12 rows_13
  rows_12.length → False) ∧ (¬¬samTo 1 rows_12 rows_13 rows_12.length → ∃ (rows_14 : List (List Int)), Ob (List.length a.R = List.length a.R ∧ rows_14.length = List.length a.R ∧ (∀ (r : List Int), r ∈ rows_14 → r.length =
  (1 : Nat)) ∧ ∀ (i : Nat), i < List.length a.R → (El.fn (Rv.elemOf [.i64] a.R)).at i = Rv.elemOf [.i64] rows_14 i) ∧ Ob (F_Ints.named.pre [Dat.l rows_14]) ∧ ∃ (rows_15 : List (List Int)), Ob (rows_14.length =
  rows_14.length ∧ rows_15.length = rows_14.length ∧ (∀ (r : List Int), r ∈ rows_15 → r.length = (1 : Nat)) ∧ ∀ (i : Nat), i < rows_14.length → (El.fn (Rv.elemOf [.i64] rows_14)).at i = Rv.elemOf [.i64] rows_15 i) ∧ Ob
  (F_ShareA.named.pre [Dat.z n, Dat.l rows_15]) ∧ (C_ShareA [Dat.z n, Dat.l rows_15] → ∀ (v_10 : Int), v_10 = shrErr n rows_15 → ∃ (rows_16 : List (List Int)), Ob (List.length a.R = List.length a.R ∧ rows_16.length =
  List.length a.R ∧ (∀ (r : List Int), r ∈ rows_16 → r.length = (1 : Nat)) ∧ ∀ (i : Nat), i < List.length a.R → (El.fn (Rv.elemOf [.i64] a.R)).at i = Rv.elemOf [.i64] rows_16 i) ∧ Ob (F_ShareR.named.pre [Dat.z n, Dat.l
  rows_16]) ∧ (C_ShareR [Dat.z n, Dat.l rows_16] → ∀ (v_11 : Int), v_11 = shrErr n rows_16 → (¬¬v_10 = v_11 → Ob ((0 : Nat) ≤ (4000000 : Nat) ∧ (0 : Nat) ≤ (4000000 : Nat)) ∧ (¬¬samTo 1 [] [] 0 → ∃ (rows_17 : List (List
  Int)), Ob (rows_14.length = rows_14.length ∧ rows_17.length = rows_14.length ∧ (∀ (r : List Int), r ∈ rows_17 → r.length = (1 : Nat)) ∧ ∀ (i : Nat), i < rows_14.length → (El.fn (Rv.elemOf [.i64] rows_14)).at i =
  Rv.elemOf [.i64] rows_17 i) ∧ ∃ (rows_18 : List (List Int)), Ob (List.length a.R = List.length a.R ∧ rows_18.length = List.length a.R ∧ (∀ (r : List Int), r ∈ rows_18 → r.length = (1 : Nat)) ∧ ∀ (i : Nat), i <
  List.length a.R → (El.fn (Rv.elemOf [.i64] a.R)).at i = Rv.elemOf [.i64] rows_18 i) ∧ Ob (rows_17.length ≤ (4000000 : Nat) ∧ rows_18.length ≤ (4000000 : Nat)) ∧ (¬samTo 1 rows_17 rows_18 rows_17.length → False) ∧
  (¬¬samTo 1 rows_17 rows_18 rows_17.length → Ob (hasTabs [] B) ∧ True)) ∧ (¬samTo 1 [] [] 0 → False)) ∧ (¬v_10 = v_11 → False)) ∧ (¬C_ShareR [Dat.z n, Dat.l rows_16] → ∀ (v_11 : Int), v_11 = (0 : Int) → Ob (PlainE
  rows_16.length (El.fn fun (i : Nat) ↦ [SV.i .i64 (dh rows_16 n.toNat i)])) ∧ (¬¬v_10 = v_11 → ∃ (rows_17 : List (List Int)), Ob (rows_16.length = rows_16.length ∧ rows_17.length = rows_16.length ∧ (∀ (r : List Int), r ∈
  rows_17 → r.length = (1 : Nat)) ∧ ∀ (i : Nat), i < rows_16.length → (El.fn fun (i : Nat) ↦ [SV.i .i64 (dh rows_16 n.toNat i)]).at i = Rv.elemOf [.i64] rows_17 i) ∧ Ob ((0 : Nat) ≤ (4000000 : Nat) ∧ rows_17.length ≤
  (4000000 : Nat)) ∧ (¬¬samTo 1 [] rows_17 0 → ∃ (rows_18 : List (List Int)), Ob (rows_14.length = rows_14.length ∧ rows_18.length = rows_14.length ∧ (∀ (r : List Int), r ∈ rows_18 → r.length = (1 : Nat)) ∧ ∀ (i : Nat), i
  < rows_14.length → (El.fn (Rv.elemOf [.i64] rows_14)).at i = Rv.elemOf [.i64] rows_18 i) ∧ ∃ (rows_19 : List (List Int)), Ob (List.length a.R = List.length a.R ∧ rows_19.length = List.length a.R ∧ (∀ (r : List Int), r ∈
  rows_19 → r.length = (1 : Nat)) ∧ ∀ (i : Nat), i < List.length a.R → (El.fn (Rv.elemOf [.i64] a.R)).at i = Rv.elemOf [.i64] rows_19 i) ∧ Ob (rows_18.length ≤ (4000000 : Nat) ∧ rows_19.length ≤ (4000000 : Nat)) ∧ (¬samTo
  1 rows_18 rows_19 rows_18.length → False) ∧ (¬¬samTo 1 rows_18 rows_19 rows_18.length → Ob (hasTabs [] B) ∧ True)) ∧ (¬samTo 1 [] rows_17 0 → False)) ∧ (¬v_10 = v_11 → False))) ∧ (¬C_ShareA [Dat.z n, Dat.l rows_15] → ∀
  (v_10 : Int), v_10 = (0 : Int) → ∃ (rows_16 : List (List Int)), Ob (List.length a.R = List.length a.R ∧ rows_16.length = List.length a.R ∧ (∀ (r : List Int), r ∈ rows_16 → r.length = (1 : Nat)) ∧ ∀ (i : Nat), i <
  List.length a.R → (El.fn (Rv.elemOf [.i64] a.R)).at i = Rv.elemOf [.i64] rows_16 i) ∧ Ob (F_ShareR.named.pre [Dat.z n, Dat.l rows_16]) ∧ (C_ShareR [Dat.z n, Dat.l rows_16] → ∀ (v_11 : Int), v_11 = shrErr n rows_16 →
  (¬¬v_10 = v_11 → ∃ (rows_17 : List (List Int)), Ob (rows_15.length = rows_15.length ∧ rows_17.length = rows_15.length ∧ (∀ (r : List Int), r ∈ rows_17 → r.length = (1 : Nat)) ∧ ∀ (i : Nat), i < rows_15.length → (El.fn
  fun (i : Nat) ↦ [SV.i .i64 (dh rows_15 n.toNat i)]).at i = Rv.elemOf [.i64] rows_17 i) ∧ Ob (rows_17.length ≤ (4000000 : Nat) ∧ (0 : Nat) ≤ (4000000 : Nat)) ∧ (¬¬samTo 1 rows_17 [] rows_17.length → ∃ (rows_18 : List
  (List Int)), Ob (rows_14.length = rows_14.length ∧ rows_18.length = rows_14.length ∧ (∀ (r : List Int), r ∈ rows_18 → r.length = (1 : Nat)) ∧ ∀ (i : Nat), i < rows_14.length → (El.fn (Rv.elemOf [.i64] rows_14)).at i =
  Rv.elemOf [.i64] rows_18 i) ∧ ∃ (rows_19 : List (List Int)), Ob (List.length a.R = List.length a.R ∧ rows_19.length = List.length a.R ∧ (∀ (r : List Int), r ∈ rows_19 → r.length = (1 : Nat)) ∧ ∀ (i : Nat), i <
  List.length a.R → (El.fn (Rv.elemOf [.i64] a.R)).at i = Rv.elemOf [.i64] rows_19 i) ∧ Ob (rows_18.length ≤ (4000000 : Nat) ∧ rows_19.length ≤ (4000000 : Nat)) ∧ (¬samTo 1 rows_18 rows_19 rows_18.length → False) ∧
  (¬¬samTo 1 rows_18 rows_19 rows_18.length → Ob (hasTabs [] B) ∧ True)) ∧ (¬samTo 1 rows_17 [] rows_17.length → False)) ∧ (¬v_10 = v_11 → False)) ∧ (¬C_ShareR [Dat.z n, Dat.l rows_16] → ∀ (v_11 : Int), v_11 = (0 : Int) →
  Ob (PlainE rows_16.length (El.fn fun (i : Nat) ↦ [SV.i .i64 (dh rows_16 n.toNat i)])) ∧ (¬¬v_10 = v_11 → ∃ (rows_17 : List (List Int)), Ob (rows_15.length = rows_15.length ∧ rows_17.length = rows_15.length ∧ (∀ (r : List
  Int), r ∈ rows_17 → r.length = (1 : Nat)) ∧ ∀ (i : Nat), i < rows_15.length → (El.fn fun (i : Nat) ↦ [SV.i .i64 (dh rows_15 n.toNat i)]).at i = Rv.elemOf [.i64] rows_17 i) ∧ ∃ (rows_18 : List (List Int)), Ob
  (rows_16.length = rows_16.length ∧ rows_18.length = rows_16.length ∧ (∀ (r : List Int), r ∈ rows_18 → r.length = (1 : Nat)) ∧ ∀ (i : Nat), i < rows_16.length → (El.fn fun (i : Nat) ↦ [SV.i .i64 (dh rows_16 n.toNat
  i)]).at i = Rv.elemOf [.i64] rows_18 i) ∧ Ob (rows_17.length ≤ (4000000 : Nat) ∧ rows_18.length ≤ (4000000 : Nat)) ∧ (¬¬samTo 1 rows_17 rows_18 rows_17.length → ∃ (rows_19 : List (List Int)), Ob (rows_14.length =
  rows_14.length ∧ rows_19.length = rows_14.length ∧ (∀ (r : List Int), r ∈ rows_19 → r.length = (1 : Nat)) ∧ ∀ (i : Nat), i < rows_14.length → (El.fn (Rv.elemOf [.i64] rows_14)).at i = Rv.elemOf [.i64] rows_19 i) ∧ ∃
  (rows_20 : List (List Int)), Ob (List.length a.R = List.length a.R ∧ rows_20.length = List.length a.R ∧ (∀ (r : List Int), r ∈ rows_20 → r.length = (1 : Nat)) ∧ ∀ (i : Nat), i < List.length a.R → (El.fn (Rv.elemOf [.i64]
  a.R)).at i = Rv.elemOf [.i64] rows_20 i) ∧ Ob (rows_19.length ≤ (4000000 : Nat) ∧ rows_20.length ≤ (4000000 : Nat)) ∧ (¬samTo 1 rows_19 rows_20 rows_19.length → False) ∧ (¬¬samTo 1 rows_19 rows_20 rows_19.length → Ob
  (hasTabs [] B) ∧ True)) ∧ (¬samTo 1 rows_17 rows_18 rows_17.length → False)) ∧ (¬v_10 = v_11 → False))))) ∧ (¬samTo 1 [] [] 0 → False)) ∧ (¬v_8 = v_9 → False)) ∧ (¬C_ShareR [Dat.z v_5, Dat.l rows_11] → ∀ (v_9 : Int), v_9
  = (0 : Int) → Ob (PlainE rows_11.length (El.fn fun (i : Nat) ↦ [SV.i .i64 (dh rows_11 v_5.toNat i)])) ∧ (¬¬v_8 = v_9 → ∃ (rows_12 : List (List Int)), Ob (rows_11.length = rows_11.length ∧ rows_12.length = rows_11.length
  ∧ (∀ (r : List Int), r ∈ rows_12 → r.length = (1 : Nat)) ∧ ∀ (i : Nat), i < rows_11.length → (El.fn fun (i : Nat) ↦ [SV.i .i64 (dh rows_11 v_5.toNat i)]).at i = Rv.elemOf [.i64] rows_12 i) ∧ Ob ((0 : Nat) ≤ (4000000 :
  Nat) ∧ rows_12.length ≤ (4000000 : Nat)) ∧ (¬¬samTo 1 [] rows_12 0 → ∃ (rows_13 : List (List Int)), Ob (rows_9.length = rows_9.length ∧ rows_13.length = rows_9.length ∧ (∀ (r : List Int), r ∈ rows_13 → r.length = (1 :
  Nat)) ∧ ∀ (i : Nat), i < rows_9.length → (El.fn (Rv.elemOf [.i64] rows_9)).at i = Rv.elemOf [.i64] rows_13 i) ∧ ∃ (rows_14 : List (List Int)), Ob (List.length a.R = List.length a.R ∧ rows_14.length = List.length a.R ∧ (∀
  (r : List Int), r ∈ rows_14 → r.length = (1 : Nat)) ∧ ∀ (i : Nat), i < List.length a.R → (El.fn (Rv.elemOf [.i64] a.R)).at i = Rv.elemOf [.i64] rows_14 i) ∧ Ob (rows_13.length ≤ (4000000 : Nat) ∧ rows_14.length ≤
  (4000000 : Nat)) ∧ (¬samTo 1 rows_13 rows_14 rows_13.length → False) ∧ (¬¬samTo 1 rows_13 rows_14 rows_13.length → ∃ (rows_15 : List (List Int)), Ob (List.length a.R = List.length a.R ∧ rows_15.length = List.length a.R ∧
  (∀ (r : List Int), r ∈ rows_15 → r.length = (1 : Nat)) ∧ ∀ (i : Nat), i < List.length a.R → (El.fn (Rv.elemOf [.i64] a.R)).at i = Rv.elemOf [.i64] rows_15 i) ∧ Ob (F_Ints.named.pre [Dat.l rows_15]) ∧ ∃ (rows_16 : List
  (List Int)), Ob (rows_15.length = rows_15.length ∧ rows_16.length = rows_15.length ∧ (∀ (r : List Int), r ∈ rows_16 → r.length = (1 : Nat)) ∧ ∀ (i : Nat), i < rows_15.length → (El.fn (Rv.elemOf [.i64] rows_15)).at i =
  Rv.elemOf [.i64] rows_16 i) ∧ Ob (F_ShareA.named.pre [Dat.z n, Dat.l rows_16]) ∧ (C_ShareA [Dat.z n, Dat.l rows_16] → ∀ (v_10 : Int), v_10 = shrErr n rows_16 → ∃ (rows_17 : List (List Int)), Ob (List.length a.R =
  List.length a.R ∧ rows_17.length = List.length a.R ∧ (∀ (r : List Int), r ∈ rows_17 → r.length = (1 : Nat)) ∧ ∀ (i : Nat), i < List.length a.R → (El.fn (Rv.elemOf [.i64] a.R)).at i = Rv.elemOf [.i64] rows_17 i) ∧ Ob
  (F_ShareR.named.pre [Dat.z n, Dat.l rows_17]) ∧ (C_ShareR [Dat.z n, Dat.l rows_17] → ∀ (v_11 : Int), v_11 = shrErr n rows_17 → (¬¬v_10 = v_11 → Ob ((0 : Nat) ≤ (4000000 : Nat) ∧ (0 : Nat) ≤ (4000000 : Nat)) ∧ (¬¬samTo 1
  [] [] 0 → ∃ (rows_18 : List (List Int)), Ob (rows_15.length = rows_15.length ∧ rows_18.length = rows_15.length ∧ (∀ (r : List Int), r ∈ rows_18 → r.length = (1 : Nat)) ∧ ∀ (i : Nat), i < rows_15.length → (El.fn
  (Rv.elemOf [.i64] rows_15)).at i = Rv.elemOf [.i64] rows_18 i) ∧ ∃ (rows_19 : List (List Int)), Ob (List.length a.R = List.length a.R ∧ rows_19.length = List.length a.R ∧ (∀ (r : List Int), r ∈ rows_19 → r.length = (1 :
  Nat)) ∧ ∀ (i : Nat), i < List.length a.R → (El.fn (Rv.elemOf [.i64] a.R)).at i = Rv.elemOf [.i64] rows_19 i) ∧ Ob (rows_18.length ≤ (4000000 : Nat) ∧ rows_19.length ≤ (4000000 : Nat)) ∧ (¬samTo 1 rows_18 rows_19
  rows_18.length → False) ∧ (¬¬samTo 1 rows_18 rows_19 rows_18.length → Ob (hasTabs [] B) ∧ True)) ∧ (¬samTo 1 [] [] 0 → False)) ∧ (¬v_10 = v_11 → False)) ∧ (¬C_ShareR [Dat.z n, Dat.l rows_17] → ∀ (v_11 : Int), v_11 = (0 :
  Int) → Ob (PlainE rows_17.length (El.fn fun (i : Nat) ↦ [SV.i .i64 (dh rows_17 n.toNat i)])) ∧ (¬¬v_10 = v_11 → ∃ (rows_18 : List (List Int)), Ob (rows_17.length = rows_17.length ∧ rows_18.length = rows_17.length ∧ (∀ (r
  : List Int), r ∈ rows_18 → r.length = (1 : Nat)) ∧ ∀ (i : Nat), i < rows_17.length → (El.fn fun (i : Nat) ↦ [SV.i .i64 (dh rows_17 n.toNat i)]).at i = Rv.elemOf [.i64] rows_18 i) ∧ Ob ((0 : Nat) ≤ (4000000 : Nat) ∧
  rows_18.length ≤ (4000000 : Nat)) ∧ (¬¬samTo 1 [] rows_18 0 → ∃ (rows_19 : List (List Int)), Ob (rows_15.length = rows_15.length ∧ rows_19.length = rows_15.length ∧ (∀ (r : List Int), r ∈ rows_19 → r.length = (1 : Nat))
  ∧ ∀ (i : Nat), i < rows_15.length → (El.fn (Rv.elemOf [.i64] rows_15)).at i = Rv.elemOf [.i64] rows_19 i) ∧ ∃ (rows_20 : List (List Int)), Ob (List.length a.R = List.length a.R ∧ rows_20.length = List.length a.R ∧ (∀ (r
  : List Int), r ∈ rows_20 → r.length = (1 : Nat)) ∧ ∀ (i : Nat), i < List.length a.R → (El.fn (Rv.elemOf [.i64] a.R)).at i = Rv.elemOf [.i64] rows_20 i) ∧ Ob (rows_19.length ≤ (4000000 : Nat) ∧ rows_20.length ≤ (4000000 :
  Nat)) ∧ (¬samTo 1 rows_19 rows_20 rows_19.length → False) ∧ (¬¬samTo 1 rows_19 rows_20 rows_19.length → Ob (hasTabs [] B) ∧ True)) ∧ (¬samTo 1 [] rows_18 0 → False)) ∧ (¬v_10 = v_11 → False))) ∧ (¬C_ShareA [Dat.z n,
  Dat.l rows_16] → ∀ (v_10 : Int), v_10 = (0 : Int) → ∃ (rows_17 : List (List Int)), Ob (List.length a.R = List.length a.R ∧ rows_17.length = List.length a.R ∧ (∀ (r : List Int), r ∈ rows_17 → r.length = (1 : Nat)) ∧ ∀ (i
  : Nat), i < List.length a.R → (El.fn (Rv.elemOf [.i64] a.R)).at i = Rv.elemOf [.i64] rows_17 i) ∧ Ob (F_ShareR.named.pre [Dat.z n, Dat.l rows_17]) ∧ (C_ShareR [Dat.z n, Dat.l rows_17] → ∀ (v_11 : Int), v_11 = shrErr n
  rows_17 → (¬¬v_10 = v_11 → ∃ (rows_18 : List (List Int)), Ob (rows_16.length = rows_16.length ∧ rows_18.length = rows_16.length ∧ (∀ (r : List Int), r ∈ rows_18 → r.length = (1 : Nat)) ∧ ∀ (i : Nat), i < rows_16.length →
  (El.fn fun (i : Nat) ↦ [SV.i .i64 (dh rows_16 n.toNat i)]).at i = Rv.elemOf [.i64] rows_18 i) ∧ Ob (rows_18.length ≤ (4000000 : Nat) ∧ (0 : Nat) ≤ (4000000 : Nat)) ∧ (¬¬samTo 1 rows_18 [] rows_18.length → ∃ (rows_19 :
  List (List Int)), Ob (rows_15.length = rows_15.length ∧ rows_19.length = rows_15.length ∧ (∀ (r : List Int), r ∈ rows_19 → r.length = (1 : Nat)) ∧ ∀ (i : Nat), i < rows_15.length → (El.fn (Rv.elemOf [.i64] rows_15)).at i
  = Rv.elemOf [.i64] rows_19 i) ∧ ∃ (rows_20 : List (List Int)), Ob (List.length a.R = List.length a.R ∧ rows_20.length = List.length a.R ∧ (∀ (r : List Int), r ∈ rows_20 → r.length = (1 : Nat)) ∧ ∀ (i : Nat), i <
  List.length a.R → (El.fn (Rv.elemOf [.i64] a.R)).at i = Rv.elemOf [.i64] rows_20 i) ∧ Ob (rows_19.length ≤ (4000000 : Nat) ∧ rows_20.length ≤ (4000000 : Nat)) ∧ (¬samTo 1 rows_19 rows_20 rows_19.length → False) ∧
  (¬¬samTo 1 rows_19 rows_20 rows_19.length → Ob (hasTabs [] B) ∧ True)) ∧ (¬samTo 1 rows_18 [] rows_18.length → False)) ∧ (¬v_10 = v_11 → False)) ∧ (¬C_ShareR [Dat.z n, Dat.l rows_17] → ∀ (v_11 : Int), v_11 = (0 : Int) →
  Ob (PlainE rows_17.length (El.fn fun (i : Nat) ↦ [SV.i .i64 (dh rows_17 n.toNat i)])) ∧ (¬¬v_10 = v_11 → ∃ (rows_18 : List (List Int)), Ob (rows_16.length = rows_16.length ∧ rows_18.length = rows_16.length ∧ (∀ (r : List
  Int), r ∈ rows_18 → r.length = (1 : Nat)) ∧ ∀ (i : Nat), i < rows_16.length → (El.fn fun (i : Nat) ↦ [SV.i .i64 (dh rows_16 n.toNat i)]).at i = Rv.elemOf [.i64] rows_18 i) ∧ ∃ (rows_19 : List (List Int)), Ob
  (rows_17.length = rows_17.length ∧ rows_19.length = rows_17.length ∧ (∀ (r : List Int), r ∈ rows_19 → r.length = (1 : Nat)) ∧ ∀ (i : Nat), i < rows_17.length → (El.fn fun (i : Nat) ↦ [SV.i .i64 (dh rows_17 n.toNat
  i)]).at i = Rv.elemOf [.i64] rows_19 i) ∧ Ob (rows_18.length ≤ (4000000 : Nat) ∧ rows_19.length ≤ (4000000 : Nat)) ∧ (¬¬samTo 1 rows_18 rows_19 rows_18.length → ∃ (rows_20 : List (List Int)), Ob (rows_15.length =
  rows_15.length ∧ rows_20.length = rows_15.length ∧ (∀ (r : List Int), r ∈ rows_20 → r.length = (1 : Nat)) ∧ ∀ (i : Nat), i < rows_15.length → (El.fn (Rv.elemOf [.i64] rows_15)).at i = Rv.elemOf [.i64] rows_20 i) ∧ ∃
  (rows_21 : List (List Int)), Ob (List.length a.R = List.length a.R ∧ rows_21.length = List.length a.R ∧ (∀ (r : List Int), r ∈ rows_21 → r.length = (1 : Nat)) ∧ ∀ (i : Nat), i < List.length a.R → (El.fn (Rv.elemOf [.i64]
  a.R)).at i = Rv.elemOf [.i64] rows_21 i) ∧ Ob (rows_20.length ≤ (4000000 : Nat) ∧ rows_21.length ≤ (4000000 : Nat)) ∧ (¬samTo 1 rows_20 rows_21 rows_20.length → False) ∧ (¬¬samTo 1 rows_20 rows_21 rows_20.length → Ob
  (hasTabs [] B) ∧ True)) ∧ (¬samTo 1 rows_18 rows_19 rows_18.length → False)) ∧ (¬v_10 = v_11 → False))))) ∧ (¬samTo 1 [] rows_12 0 → False)) ∧ (¬v_8 = v_9 → False))) ∧ (¬C_ShareA [Dat.z v_5, Dat.l rows_10] → ∀ (v_8 :
  Int), v_8 = (0 : Int) → ∃ (rows_11 : List (List Int)), Ob (List.length a.R = List.length a.R ∧ rows_11.length = List.length a.R ∧ (∀ (r : List Int), r ∈ rows_11 → r.length = (1 : Nat)) ∧ ∀ (i : Nat), i < List.length a.R
  → (El.fn (Rv.elemOf [.i64] a.R)).at i = Rv.elemOf [.i64] rows_11 i) ∧ Ob (F_ShareR.named.pre [Dat.z v_5, Dat.l rows_11]) ∧ (C_ShareR [Dat.z v_5, Dat.l rows_11] → ∀ (v_9 : Int), v_9 = shrErr v_5 rows_11 → (¬¬v_8 = v_9 → ∃
  (rows_12 : List (List Int)), Ob (rows_10.length = rows_10.length ∧ rows_12.length = rows_10.length ∧ (∀ (r : List Int), r ∈ rows_12 → r.length = (1 : Nat)) ∧ ∀ (i : Nat), i < rows_10.length → (El.fn fun (i : Nat) ↦ [SV.i
  .i64 (dh rows_10 v_5.toNat i)]).at i = Rv.elemOf [.i64] rows_12 i) ∧ Ob (rows_12.length ≤ (4000000 : Nat) ∧ (0 : Nat) ≤ (4000000 : Nat)) ∧ (¬¬samTo 1 rows_12 [] rows_12.length → ∃ (rows_13 : List (List Int)), Ob
  (rows_9.length = rows_9.length ∧ rows_13.length = rows_9.length ∧ (∀ (r : List Int), r ∈ rows_13 → r.length = (1 : Nat)) ∧ ∀ (i : Nat), i < rows_9.length → (El.fn (Rv.elemOf [.i64] rows_9)).at i = Rv.elemOf [.i64]
  rows_13 i) ∧ ∃ (rows_14 : List (List Int)), Ob (List.length a.R = List.length a.R ∧ rows_14.length = List.length a.R ∧ (∀ (r : List Int), r ∈ rows_14 → r.length = (1 : Nat)) ∧ ∀ (i : Nat), i < List.length a.R → (El.fn
  (Rv.elemOf [.i64] a.R)).at i = Rv.elemOf [.i64] rows_14 i) ∧ Ob (rows_13.length ≤ (4000000 : Nat) ∧ rows_14.length ≤ (4000000 : Nat)) ∧ (¬samTo 1 rows_13 rows_14 rows_13.length → False) ∧ (¬¬samTo 1 rows_13 rows_14
  rows_13.length → ∃ (rows_15 : List (List Int)), Ob (List.length a.R = List.length a.R ∧ rows_15.length = List.length a.R ∧ (∀ (r : List Int), r ∈ rows_15 → r.length = (1 : Nat)) ∧ ∀ (i : Nat), i < List.length a.R →
  (El.fn (Rv.elemOf [.i64] a.R)).at i = Rv.elemOf [.i64] rows_15 i) ∧ Ob (F_Ints.named.pre [Dat.l rows_15]) ∧ ∃ (rows_16 : List (List Int)), Ob (rows_15.length = rows_15.length ∧ rows_16.length = rows_15.length ∧ (∀ (r :
  List Int), r ∈ rows_16 → r.length = (1 : Nat)) ∧ ∀ (i : Nat), i < rows_15.length → (El.fn (Rv.elemOf [.i64] rows_15)).at i = Rv.elemOf [.i64] rows_16 i) ∧ Ob (F_ShareA.named.pre [Dat.z n, Dat.l rows_16]) ∧ (C_ShareA
  [Dat.z n, Dat.l rows_16] → ∀ (v_10 : Int), v_10 = shrErr n rows_16 → ∃ (rows_17 : List (List Int)), Ob (List.length a.R = List.length a.R ∧ rows_17.length = List.length a.R ∧ (∀ (r : List Int), r ∈ rows_17 → r.length =
  (1 : Nat)) ∧ ∀ (i : Nat), i < List.length a.R → (El.fn (Rv.elemOf [.i64] a.R)).at i = Rv.elemOf [.i64] rows_17 i) ∧ Ob (F_ShareR.named.pre [Dat.z n, Dat.l rows_17]) ∧ (C_ShareR [Dat.z n, Dat.l rows_17] → ∀ (v_11 : Int),
  v_11 = shrErr n rows_17 → (¬¬v_10 = v_11 → Ob ((0 : Nat) ≤ (4000000 : Nat) ∧ (0 : Nat) ≤ (4000000 : Nat)) ∧ (¬¬samTo 1 [] [] 0 → ∃ (rows_18 : List (List Int)), Ob (rows_15.length = rows_15.length ∧ rows_18.length =
  rows_15.length ∧ (∀ (r : List Int), r ∈ rows_18 → r.length = (1 : Nat)) ∧ ∀ (i : Nat), i < rows_15.length → (El.fn (Rv.elemOf [.i64] rows_15)).at i = Rv.elemOf [.i64] rows_18 i) ∧ ∃ (rows_19 : List (List Int)), Ob
  (List.length a.R = List.length a.R ∧ rows_19.length = List.length a.R ∧ (∀ (r : List Int), r ∈ rows_19 → r.length = (1 : Nat)) ∧ ∀ (i : Nat), i < List.length a.R → (El.fn (Rv.elemOf [.i64] a.R)).at i = Rv.elemOf [.i64]
  rows_19 i) ∧ Ob (rows_18.length ≤ (4000000 : Nat) ∧ rows_19.length ≤ (4000000 : Nat)) ∧ (¬samTo 1 rows_18 rows_19 rows_18.length → False) ∧ (¬¬samTo 1 rows_18 rows_19 rows_18.length → Ob (hasTabs [] B) ∧ True)) ∧ (¬samTo
  1 [] [] 0 → False)) ∧ (¬v_10 = v_11 → False)) ∧ (¬C_ShareR [Dat.z n, Dat.l rows_17] → ∀ (v_11 : Int), v_11 = (0 : Int) → Ob (PlainE rows_17.length (El.fn fun (i : Nat) ↦ [SV.i .i64 (dh rows_17 n.toNat i)])) ∧ (¬¬v_10 =
  v_11 → ∃ (rows_18 : List (List Int)), Ob (rows_17.length = rows_17.length ∧ rows_18.length = rows_17.length ∧ (∀ (r : List Int), r ∈ rows_18 → r.length = (1 : Nat)) ∧ ∀ (i : Nat), i < rows_17.length → (El.fn fun (i :
  Nat) ↦ [SV.i .i64 (dh rows_17 n.toNat i)]).at i = Rv.elemOf [.i64] rows_18 i) ∧ Ob ((0 : Nat) ≤ (4000000 : Nat) ∧ rows_18.length ≤ (4000000 : Nat)) ∧ (¬¬samTo 1 [] rows_18 0 → ∃ (rows_19 : List (List Int)), Ob
  (rows_15.length = rows_15.length ∧ rows_19.length = rows_15.length ∧ (∀ (r : List Int), r ∈ rows_19 → r.length = (1 : Nat)) ∧ ∀ (i : Nat), i < rows_15.length → (El.fn (Rv.elemOf [.i64] rows_15)).at i = Rv.elemOf [.i64]
  rows_19 i) ∧ ∃ (rows_20 : List (List Int)), Ob (List.length a.R = List.length a.R ∧ rows_20.length = List.length a.R ∧ (∀ (r : List Int), r ∈ rows_20 → r.length = (1 : Nat)) ∧ ∀ (i : Nat), i < List.length a.R → (El.fn
  (Rv.elemOf [.i64] a.R)).at i = Rv.elemOf [.i64] rows_20 i) ∧ Ob (rows_19.length ≤ (4000000 : Nat) ∧ rows_20.length ≤ (4000000 : Nat)) ∧ (¬samTo 1 rows_19 rows_20 rows_19.length → False) ∧ (¬¬samTo 1 rows_19 rows_20
  rows_19.length → Ob (hasTabs [] B) ∧ True)) ∧ (¬samTo 1 [] rows_18 0 → False)) ∧ (¬v_10 = v_11 → False))) ∧ (¬C_ShareA [Dat.z n, Dat.l rows_16] → ∀ (v_10 : Int), v_10 = (0 : Int) → ∃ (rows_17 : List (List Int)), Ob
  (List.length a.R = List.length a.R ∧ rows_17.length = List.length a.R ∧ (∀ (r : List Int), r ∈ rows_17 → r.length = (1 : Nat)) ∧ ∀ (i : Nat), i < List.length a.R → (El.fn (Rv.elemOf [.i64] a.R)).at i = Rv.elemOf [.i64]
  rows_17 i) ∧ Ob (F_ShareR.named.pre [Dat.z n, Dat.l rows_17]) ∧ (C_ShareR [Dat.z n, Dat.l rows_17] → ∀ (v_11 : Int), v_11 = shrErr n rows_17 → (¬¬v_10 = v_11 → ∃ (rows_18 : List (List Int)), Ob (rows_16.length =
  rows_16.length ∧ rows_18.length = rows_16.length ∧ (∀ (r : List Int), r ∈ rows_18 → r.length = (1 : Nat)) ∧ ∀ (i : Nat), i < rows_16.length → (El.fn fun (i : Nat) ↦ [SV.i .i64 (dh rows_16 n.toNat i)]).at i = Rv.elemOf
  [.i64] rows_18 i) ∧ Ob (rows_18.length ≤ (4000000 : Nat) ∧ (0 : Nat) ≤ (4000000 : Nat)) ∧ (¬¬samTo 1 rows_18 [] rows_18.length → ∃ (rows_19 : List (List Int)), Ob (rows_15.length = rows_15.length ∧ rows_19.length =
  rows_15.length ∧ (∀ (r : List Int), r ∈ rows_19 → r.length = (1 : Nat)) ∧ ∀ (i : Nat), i < rows_15.length → (El.fn (Rv.elemOf [.i64] rows_15)).at i = Rv.elemOf [.i64] rows_19 i) ∧ ∃ (rows_20 : List (List Int)), Ob
  (List.length a.R = List.length a.R ∧ rows_20.length = List.length a.R ∧ (∀ (r : List Int), r ∈ rows_20 → r.length = (1 : Nat)) ∧ ∀ (i : Nat), i < List.length a.R → (El.fn (Rv.elemOf [.i64] a.R)).at i = Rv.elemOf [.i64]
  rows_20 i) ∧ Ob (rows_19.length ≤ (4000000 : Nat) ∧ rows_20.length ≤ (4000000 : Nat)) ∧ (¬samTo 1 rows_19 rows_20 rows_19.length → False) ∧ (¬¬samTo 1 rows_19 rows_20 rows_19.length → Ob (hasTabs [] B) ∧ True)) ∧ (¬samTo
  1 rows_18 [] rows_18.length → False)) ∧ (¬v_10 = v_11 → False)) ∧ (¬C_ShareR [Dat.z n, Dat.l rows_17] → ∀ (v_11 : Int), v_11 = (0 : Int) → Ob (PlainE rows_17.length (El.fn fun (i : Nat) ↦ [SV.i .i64 (dh rows_17 n.toNat
  i)])) ∧ (¬¬v_10 = v_11 → ∃ (rows_18 : List (List Int)), Ob (rows_16.length = rows_16.length ∧ rows_18.length = rows_16.length ∧ (∀ (r : List Int), r ∈ rows_18 → r.length = (1 : Nat)) ∧ ∀ (i : Nat), i < rows_16.length →
  (El.fn fun (i : Nat) ↦ [SV.i .i64 (dh rows_16 n.toNat i)]).at i = Rv.elemOf [.i64] rows_18 i) ∧ ∃ (rows_19 : List (List Int)), Ob (rows_17.length = rows_17.length ∧ rows_19.length = rows_17.length ∧ (∀ (r : List Int), r
  ∈ rows_19 → r.length = (1 : Nat)) ∧ ∀ (i : Nat), i < rows_17.length → (El.fn fun (i : Nat) ↦ [SV.i .i64 (dh rows_17 n.toNat i)]).at i = Rv.elemOf [.i64] rows_19 i) ∧ Ob (rows_18.length ≤ (4000000 : Nat) ∧ rows_19.length
  ≤ (4000000 : Nat)) ∧ (¬¬samTo 1 rows_18 rows_19 rows_18.length → ∃ (rows_20 : List (List Int)), Ob (rows_15.length = rows_15.length ∧ rows_20.length = rows_15.length ∧ (∀ (r : List Int), r ∈ rows_20 → r.length = (1 :
  Nat)) ∧ ∀ (i : Nat), i < rows_15.length → (El.fn (Rv.elemOf [.i64] rows_15)).at i = Rv.elemOf [.i64] rows_20 i) ∧ ∃ (rows_21 : List (List Int)), Ob (List.length a.R = List.length a.R ∧ rows_21.length = List.length a.R ∧
  (∀ (r : List Int), r ∈ rows_21 → r.length = (1 : Nat)) ∧ ∀ (i : Nat), i < List.length a.R → (El.fn (Rv.elemOf [.i64] a.R)).at i = Rv.elemOf [.i64] rows_21 i) ∧ Ob (rows_20.length ≤ (4000000 : Nat) ∧ rows_21.length ≤
  (4000000 : Nat)) ∧ (¬samTo 1 rows_20 rows_21 rows_20.length → False) ∧ (¬¬samTo 1 rows_20 rows_21 rows_20.length → Ob (hasTabs [] B) ∧ True)) ∧ (¬samTo 1 rows_18 rows_19 rows_18.length → False)) ∧ (¬v_10 = v_11 →
  False))))) ∧ (¬samTo 1 rows_12 [] rows_12.length → False)) ∧ (¬v_8 = v_9 → False)) ∧ (¬C_ShareR [Dat.z v_5, Dat.l rows_11] → ∀ (v_9 : Int), v_9 = (0 : Int) → Ob (PlainE rows_11.length (El.fn fun (i : Nat) ↦ [SV.i .i64
  (dh rows_11 v_5.toNat i)])) ∧ (¬¬v_8 = v_9 → ∃ (rows_12 : List (List Int)), Ob (rows_10.length = rows_10.length ∧ rows_12.length = rows_10.length ∧ (∀ (r : List Int), r ∈ rows_12 → r.length = (1 : Nat)) ∧ ∀ (i : Nat), i
  < rows_10.length → (El.fn fun (i : Nat) ↦ [SV.i .i64 (dh rows_10 v_5.toNat i)]).at i = Rv.elemOf [.i64] rows_12 i) ∧ ∃ (rows_13 : List (List Int)), Ob (rows_11.length = rows_11.length ∧ rows_13.length = rows_11.length ∧
  (∀ (r : List Int), r ∈ rows_13 → r.length = (1 : Nat)) ∧ ∀ (i : Nat), i < rows_11.length → (El.fn fun (i : Nat) ↦ [SV.i .i64 (dh rows_11 v_5.toNat i)]).at i = Rv.elemOf [.i64] rows_13 i) ∧ Ob (rows_12.length ≤ (4000000 :
  Nat) ∧ rows_13.length ≤ (4000000 : Nat)) ∧ (¬¬samTo 1 rows_12 rows_13 rows_12.length → ∃ (rows_14 : List (List Int)), Ob (rows_9.length = rows_9.length ∧ rows_14.length = rows_9.length ∧ (∀ (r : List Int), r ∈ rows_14 →
  r.length = (1 : Nat)) ∧ ∀ (i : Nat), i < rows_9.length → (El.fn (Rv.elemOf [.i64] rows_9)).at i = Rv.elemOf [.i64] rows_14 i) ∧ ∃ (rows_15 : List (List Int)), Ob (List.length a.R = List.length a.R ∧ rows_15.length =
  List.length a.R ∧ (∀ (r : List Int), r ∈ rows_15 → r.length = (1 : Nat)) ∧ ∀ (i : Nat), i < List.length a.R → (El.fn (Rv.elemOf [.i64] a.R)).at i = Rv.elemOf [.i64] rows_15 i) ∧ Ob (rows_14.length ≤ (4000000 : Nat) ∧
  rows_15.length ≤ (4000000 : Nat)) ∧ (¬samTo 1 rows_14 rows_15 rows_14.length → False) ∧ (¬¬samTo 1 rows_14 rows_15 rows_14.length → ∃ (rows_16 : List (List Int)), Ob (List.length a.R = List.length a.R ∧ rows_16.length =
  List.length a.R ∧ (∀ (r : List Int), r ∈ rows_16 → r.length = (1 : Nat)) ∧ ∀ (i : Nat), i < List.length a.R → (El.fn (Rv.elemOf [.i64] a.R)).at i = Rv.elemOf [.i64] rows_16 i) ∧ Ob (F_Ints.named.pre [Dat.l rows_16]) ∧ ∃
  (rows_17 : List (List Int)), Ob (rows_16.length = rows_16.length ∧ rows_17.length = rows_16.length ∧ (∀ (r : List Int), r ∈ rows_17 → r.length = (1 : Nat)) ∧ ∀ (i : Nat), i < rows_16.length → (El.fn (Rv.elemOf [.i64]
  rows_16)).at i = Rv.elemOf [.i64] rows_17 i) ∧ Ob (F_ShareA.named.pre [Dat.z n, Dat.l rows_17]) ∧ (C_ShareA [Dat.z n, Dat.l rows_17] → ∀ (v_10 : Int), v_10 = shrErr n rows_17 → ∃ (rows_18 : List (List Int)), Ob
  (List.length a.R = List.length a.R ∧ rows_18.length = List.length a.R ∧ (∀ (r : List Int), r ∈ rows_18 → r.length = (1 : Nat)) ∧ ∀ (i : Nat), i < List.length a.R → (El.fn (Rv.elemOf [.i64] a.R)).at i = Rv.elemOf [.i64]
  rows_18 i) ∧ Ob (F_ShareR.named.pre [Dat.z n, Dat.l rows_18]) ∧ (C_ShareR [Dat.z n, Dat.l rows_18] → ∀ (v_11 : Int), v_11 = shrErr n rows_18 → (¬¬v_10 = v_11 → Ob ((0 : Nat) ≤ (4000000 : Nat) ∧ (0 : Nat) ≤ (4000000 :
  Nat)) ∧ (¬¬samTo 1 [] [] 0 → ∃ (rows_19 : List (List Int)), Ob (rows_16.length = rows_16.length ∧ rows_19.length = rows_16.length ∧ (∀ (r : List Int), r ∈ rows_19 → r.length = (1 : Nat)) ∧ ∀ (i : Nat), i < rows_16.length
  → (El.fn (Rv.elemOf [.i64] rows_16)).at i = Rv.elemOf [.i64] rows_19 i) ∧ ∃ (rows_20 : List (List Int)), Ob (List.length a.R = List.length a.R ∧ rows_20.length = List.length a.R ∧ (∀ (r : List Int), r ∈ rows_20 →
  r.length = (1 : Nat)) ∧ ∀ (i : Nat), i < List.length a.R → (El.fn (Rv.elemOf [.i64] a.R)).at i = Rv.elemOf [.i64] rows_20 i) ∧ Ob (rows_19.length ≤ (4000000 : Nat) ∧ rows_20.length ≤ (4000000 : Nat)) ∧ (¬samTo 1 rows_19
  rows_20 rows_19.length → False) ∧ (¬¬samTo 1 rows_19 rows_20 rows_19.length → Ob (hasTabs [] B) ∧ True)) ∧ (¬samTo 1 [] [] 0 → False)) ∧ (¬v_10 = v_11 → False)) ∧ (¬C_ShareR [Dat.z n, Dat.l rows_18] → ∀ (v_11 : Int),
  v_11 = (0 : Int) → Ob (PlainE rows_18.length (El.fn fun (i : Nat) ↦ [SV.i .i64 (dh rows_18 n.toNat i)])) ∧ (¬¬v_10 = v_11 → ∃ (rows_19 : List (List Int)), Ob (rows_18.length = rows_18.length ∧ rows_19.length =
  rows_18.length ∧ (∀ (r : List Int), r ∈ rows_19 → r.length = (1 : Nat)) ∧ ∀ (i : Nat), i < rows_18.length → (El.fn fun (i : Nat) ↦ [SV.i .i64 (dh rows_18 n.toNat i)]).at i = Rv.elemOf [.i64] rows_19 i) ∧ Ob ((0 : Nat) ≤
  (4000000 : Nat) ∧ rows_19.length ≤ (4000000 : Nat)) ∧ (¬¬samTo 1 [] rows_19 0 → ∃ (rows_20 : List (List Int)), Ob (rows_16.length = rows_16.length ∧ rows_20.length = rows_16.length ∧ (∀ (r : List Int), r ∈ rows_20 →
  r.length = (1 : Nat)) ∧ ∀ (i : Nat), i < rows_16.length → (El.fn (Rv.elemOf [.i64] rows_16)).at i = Rv.elemOf [.i64] rows_20 i) ∧ ∃ (rows_21 : List (List Int)), Ob (List.length a.R = List.length a.R ∧ rows_21.length =
  List.length a.R ∧ (∀ (r : List Int), r ∈ rows_21 → r.length = (1 : Nat)) ∧ ∀ (i : Nat), i < List.length a.R → (El.fn (Rv.elemOf [.i64] a.R)).at i = Rv.elemOf [.i64] rows_21 i) ∧ Ob (rows_20.length ≤ (4000000 : Nat) ∧
  rows_21.length ≤ (4000000 : Nat)) ∧ (¬samTo 1 rows_20 rows_21 rows_20.length → False) ∧ (¬¬samTo 1 rows_20 rows_21 rows_20.length → Ob (hasTabs [] B) ∧ True)) ∧ (¬samTo 1 [] rows_19 0 → False)) ∧ (¬v_10 = v_11 → False)))
  ∧ (¬C_ShareA [Dat.z n, Dat.l rows_17] → ∀ (v_10 : Int), v_10 = (0 : Int) → ∃ (rows_18 : List (List Int)), Ob (List.length a.R = List.length a.R ∧ rows_18.length = List.length a.R ∧ (∀ (r : List Int), r ∈ rows_18 →
  r.length = (1 : Nat)) ∧ ∀ (i : Nat), i < List.length a.R → (El.fn (Rv.elemOf [.i64] a.R)).at i = Rv.elemOf [.i64] rows_18 i) ∧ Ob (F_ShareR.named.pre [Dat.z n, Dat.l rows_18]) ∧ (C_ShareR [Dat.z n, Dat.l rows_18] → ∀
  (v_11 : Int), v_11 = shrErr n rows_18 → (¬¬v_10 = v_11 → ∃ (rows_19 : List (List Int)), Ob (rows_17.length = rows_17.length ∧ rows_19.length = rows_17.length ∧ (∀ (r : List Int), r ∈ rows_19 → r.length = (1 : Nat)) ∧ ∀
  (i : Nat), i < rows_17.length → (El.fn fun (i : Nat) ↦ [SV.i .i64 (dh rows_17 n.toNat i)]).at i = Rv.elemOf [.i64] rows_19 i) ∧ Ob (rows_19.length ≤ (4000000 : Nat) ∧ (0 : Nat) ≤ (4000000 : Nat)) ∧ (¬¬samTo 1 rows_19 []
  rows_19.length → ∃ (rows_20 : List (List Int)), Ob (rows_16.length = rows_16.length ∧ rows_20.length = rows_16.length ∧ (∀ (r : List Int), r ∈ rows_20 → r.length = (1 : Nat)) ∧ ∀ (i : Nat), i < rows_16.length → (El.fn
  (Rv.elemOf [.i64] rows_16)).at i = Rv.elemOf [.i64] rows_20 i) ∧ ∃ (rows_21 : List (List Int)), Ob (List.length a.R = List.length a.R ∧ rows_21.length = List.length a.R ∧ (∀ (r : List Int), r ∈ rows_21 → r.length = (1 :
  Nat)) ∧ ∀ (i : Nat), i < List.length a.R → (El.fn (Rv.elemOf [.i64] a.R)).at i = Rv.elemOf [.i64] rows_21 i) ∧ Ob (rows_20.length ≤ (4000000 : Nat) ∧ rows_21.length ≤ (4000000 : Nat)) ∧ (¬samTo 1 rows_20 rows_21
  rows_20.length → False) ∧ (¬¬samTo 1 rows_20 rows_21 rows_20.length → Ob (hasTabs [] B) ∧ True)) ∧ (¬samTo 1 rows_19 [] rows_19.length → False)) ∧ (¬v_10 = v_11 → False)) ∧ (¬C_ShareR [Dat.z n, Dat.l rows_18] → ∀ (v_11 :
  Int), v_11 = (0 : Int) → Ob (PlainE rows_18.length (El.fn fun (i : Nat) ↦ [SV.i .i64 (dh rows_18 n.toNat i)])) ∧ (¬¬v_10 = v_11 → ∃ (rows_19 : List (List Int)), Ob (rows_17.length = rows_17.length ∧ rows_19.length =
  rows_17.length ∧ (∀ (r : List Int), r ∈ rows_19 → r.length = (1 : Nat)) ∧ ∀ (i : Nat), i < rows_17.length → (El.fn fun (i : Nat) ↦ [SV.i .i64 (dh rows_17 n.toNat i)]).at i = Rv.elemOf [.i64] rows_19 i) ∧ ∃ (rows_20 :
  List (List Int)), Ob (rows_18.length = rows_18.length ∧ rows_20.length = rows_18.length ∧ (∀ (r : List Int), r ∈ rows_20 → r.length = (1 : Nat)) ∧ ∀ (i : Nat), i < rows_18.length → (El.fn fun (i : Nat) ↦ [SV.i .i64 (dh
  rows_18 n.toNat i)]).at i = Rv.elemOf [.i64] rows_20 i) ∧ Ob (rows_19.length ≤ (4000000 : Nat) ∧ rows_20.length ≤ (4000000 : Nat)) ∧ (¬¬samTo 1 rows_19 rows_20 rows_19.length → ∃ (rows_21 : List (List Int)), Ob
  (rows_16.length = rows_16.length ∧ rows_21.length = rows_16.length ∧ (∀ (r : List Int), r ∈ rows_21 → r.length = (1 : Nat)) ∧ ∀ (i : Nat), i < rows_16.length → (El.fn (Rv.elemOf [.i64] rows_16)).at i = Rv.elemOf [.i64]
  rows_21 i) ∧ ∃ (rows_22 : List (List Int)), Ob (List.length a.R = List.length a.R ∧ rows_22.length = List.length a.R ∧ (∀ (r : List Int), r ∈ rows_22 → r.length = (1 : Nat)) ∧ ∀ (i : Nat), i < List.length a.R → (El.fn
  (Rv.elemOf [.i64] a.R)).at i = Rv.elemOf [.i64] rows_22 i) ∧ Ob (rows_21.length ≤ (4000000 : Nat) ∧ rows_22.length ≤ (4000000 : Nat)) ∧ (¬samTo 1 rows_21 rows_22 rows_21.length → False) ∧ (¬¬samTo 1 rows_21 rows_22
  rows_21.length → Ob (hasTabs [] B) ∧ True)) ∧ (¬samTo 1 rows_19 rows_20 rows_19.length → False)) ∧ (¬v_10 = v_11 → False))))) ∧ (¬samTo 1 rows_12 rows_13 rows_12.length → False)) ∧ (¬v_8 = v_9 → False))))) ∧ (¬samTo 1
  rows_6 [] rows_6.length → False)) ∧ (¬v_6 = v_7 → False)) ∧ (¬C_ShareR [Dat.z n, Dat.l rows_5] → ∀ (v_7 : Int), v_7 = (0 : Int) → Ob (PlainE rows_5.length (El.fn fun (i : Nat) ↦ [SV.i .i64 (dh rows_5 n.toNat i)])) ∧
  (¬¬v_6 = v_7 → ∃ (rows_6 : List (List Int)), Ob (rows_4.length = rows_4.length ∧ rows_6.length = rows_4.length ∧ (∀ (r : List Int), r ∈ rows_6 → r.length = (1 : Nat)) ∧ ∀ (i : Nat), i < rows_4.length → (El.fn fun (i :
  Nat) ↦ [SV.i .i64 (dh rows_4 n.toNat i)]).at i = Rv.elemOf [.i64] rows_6 i) ∧ ∃ (rows_7 : List (List Int)), Ob (rows_5.length = rows_5.length ∧ rows_7.length = rows_5.length ∧ (∀ (r : List Int), r ∈ rows_7 → r.length =
  (1 : Nat)) ∧ ∀ (i : Nat), i < rows_5.length → (El.fn fun (i : Nat) ↦ [SV.i .i64 (dh rows_5 n.toNat i)]).at i = Rv.elemOf [.i64] rows_7 i) ∧ Ob (rows_6.length ≤ (4000000 : Nat) ∧ rows_7.length ≤ (4000000 : Nat)) ∧
  (¬¬samTo 1 rows_6 rows_7 rows_6.length → ∃ (rows_8 : List (List Int)), Ob (rows_3.length = rows_3.length ∧ rows_8.length = rows_3.length ∧ (∀ (r : List Int), r ∈ rows_8 → r.length = (1 : Nat)) ∧ ∀ (i : Nat), i <
  rows_3.length → (El.fn (Rv.elemOf [.i64] rows_3)).at i = Rv.elemOf [.i64] rows_8 i) ∧ ∃ (rows_9 : List (List Int)), Ob (IsLst B x rows.length 1 (Rv.elemOf [.i64] rows) ∧ rows_9.length = rows.length ∧ (∀ (r : List Int), r
  ∈ rows_9 → r.length = (1 : Nat)) ∧ ∀ (i : Nat), i < rows.length → Rv.elemOf [.i64] rows i = Rv.elemOf [.i64] rows_9 i) ∧ Ob (rows_8.length ≤ (4000000 : Nat) ∧ rows_9.length ≤ (4000000 : Nat)) ∧ (¬samTo 1 rows_8 rows_9
  rows_8.length → False) ∧ (¬¬samTo 1 rows_8 rows_9 rows_8.length → ∃ (rows_10 : List (List Int)), Ob (List.length a.R = List.length a.R ∧ rows_10.length = List.length a.R ∧ (∀ (r : List Int), r ∈ rows_10 → r.length = (1 :
  Nat)) ∧ ∀ (i : Nat), i < List.length a.R → (El.fn (Rv.elemOf [.i64] a.R)).at i = Rv.elemOf [.i64] rows_10 i) ∧ Ob (F_Ints.named.pre [Dat.l rows_10]) ∧ ∃ (rows_11 : List (List Int)), Ob (rows_10.length = rows_10.length ∧
  rows_11.length = rows_10.length ∧ (∀ (r : List Int), r ∈ rows_11 → r.length = (1 : Nat)) ∧ ∀ (i : Nat), i < rows_10.length → (El.fn (Rv.elemOf [.i64] rows_10)).at i = Rv.elemOf [.i64] rows_11 i) ∧ Ob (F_ShareA.named.pre
  [Dat.z v_5, Dat.l rows_11]) ∧ (C_ShareA [Dat.z v_5, Dat.l rows_11] → ∀ (v_8 : Int), v_8 = shrErr v_5 rows_11 → ∃ (rows_12 : List (List Int)), Ob (List.length a.R = List.length a.R ∧ rows_12.length = List.length a.R ∧ (∀
  (r : List Int), r ∈ rows_12 → r.length = (1 : Nat)) ∧ ∀ (i : Nat), i < List.length a.R → (El.fn (Rv.elemOf [.i64] a.R)).at i = Rv.elemOf [.i64] rows_12 i) ∧ Ob (F_ShareR.named.pre [Dat.z v_5, Dat.l rows_12]) ∧ (C_ShareR
  [Dat.z v_5, Dat.l rows_12] → ∀ (v_9 : Int), v_9 = shrErr v_5 rows_12 → (¬¬v_8 = v_9 → Ob ((0 : Nat) ≤ (4000000 : Nat) ∧ (0 : Nat) ≤ (4000000 : Nat)) ∧ (¬¬samTo 1 [] [] 0 → ∃ (rows_13 : List (List Int)), Ob
  (rows_10.length = rows_10.length ∧ rows_13.length = rows_10.length ∧ (∀ (r : List Int), r ∈ rows_13 → r.length = (1 : Nat)) ∧ ∀ (i : Nat), i < rows_10.length → (El.fn (Rv.elemOf [.i64] rows_10)).at i = Rv.elemOf [.i64]
  rows_13 i) ∧ ∃ (rows_14 : List (List Int)), Ob (List.length a.R = List.length a.R ∧ rows_14.length = List.length a.R ∧ (∀ (r : List Int), r ∈ rows_14 → r.length = (1 : Nat)) ∧ ∀ (i : Nat), i < List.length a.R → (El.fn
  (Rv.elemOf [.i64] a.R)).at i = Rv.elemOf [.i64] rows_14 i) ∧ Ob (rows_13.length ≤ (4000000 : Nat) ∧ rows_14.length ≤ (4000000 : Nat)) ∧ (¬samTo 1 rows_13 rows_14 rows_13.length → False) ∧ (¬¬samTo 1 rows_13 rows_14
  rows_13.length → ∃ (rows_15 : List (List Int)), Ob (List.length a.R = List.length a.R ∧ rows_15.length = List.length a.R ∧ (∀ (r : List Int), r ∈ rows_15 → r.length = (1 : Nat)) ∧ ∀ (i : Nat), i < List.length a.R →
  (El.fn (Rv.elemOf [.i64] a.R)).at i = Rv.elemOf [.i64] rows_15 i) ∧ Ob (F_Ints.named.pre [Dat.l rows_15]) ∧ ∃ (rows_16 : List (List Int)), Ob (rows_15.length = rows_15.length ∧ rows_16.length = rows_15.length ∧ (∀ (r :
  List Int), r ∈ rows_16 → r.length = (1 : Nat)) ∧ ∀ (i : Nat), i < rows_15.length → (El.fn (Rv.elemOf [.i64] rows_15)).at i = Rv.elemOf [.i64] rows_16 i) ∧ Ob (F_ShareA.named.pre [Dat.z n, Dat.l rows_16]) ∧ (C_ShareA
  [Dat.z n, Dat.l rows_16] → ∀ (v_10 : Int), v_10 = shrErr n rows_16 → ∃ (rows_17 : List (List Int)), Ob (List.length a.R = List.length a.R ∧ rows_17.length = List.length a.R ∧ (∀ (r : List Int), r ∈ rows_17 → r.length =
  (1 : Nat)) ∧ ∀ (i : Nat), i < List.length a.R → (El.fn (Rv.elemOf [.i64] a.R)).at i = Rv.elemOf [.i64] rows_17 i) ∧ Ob (F_ShareR.named.pre [Dat.z n, Dat.l rows_17]) ∧ (C_ShareR [Dat.z n, Dat.l rows_17] → ∀ (v_11 : Int),
  v_11 = shrErr n rows_17 → (¬¬v_10 = v_11 → Ob ((0 : Nat) ≤ (4000000 : Nat) ∧ (0 : Nat) ≤ (4000000 : Nat)) ∧ (¬¬samTo 1 [] [] 0 → ∃ (rows_18 : List (List Int)), Ob (rows_15.length = rows_15.length ∧ rows_18.length =
  rows_15.length ∧ (∀ (r : List Int), r ∈ rows_18 → r.length = (1 : Nat)) ∧ ∀ (i : Nat), i < rows_15.length → (El.fn (Rv.elemOf [.i64] rows_15)).at i = Rv.elemOf [.i64] rows_18 i) ∧ ∃ (rows_19 : List (List Int)), Ob
  (List.length a.R = List.length a.R ∧ rows_19.length = List.length a.R ∧ (∀ (r : List Int), r ∈ rows_19 → r.length = (1 : Nat)) ∧ ∀ (i : Nat), i < List.length a.R → (El.fn (Rv.elemOf [.i64] a.R)).at i = Rv.elemOf [.i64]
  rows_19 i) ∧ Ob (rows_18.length ≤ (4000000 : Nat) ∧ rows_19.length ≤ (4000000 : Nat)) ∧ (¬samTo 1 rows_18 rows_19 rows_18.length → False) ∧ (¬¬samTo 1 rows_18 rows_19 rows_18.length → Ob (hasTabs [] B) ∧ True)) ∧ (¬samTo
  1 [] [] 0 → False)) ∧ (¬v_10 = v_11 → False)) ∧ (¬C_ShareR [Dat.z n, Dat.l rows_17] → ∀ (v_11 : Int), v_11 = (0 : Int) → Ob (PlainE rows_17.length (El.fn fun (i : Nat) ↦ [SV.i .i64 (dh rows_17 n.toNat i)])) ∧ (¬¬v_10 =
  v_11 → ∃ (rows_18 : List (List Int)), Ob (rows_17.length = rows_17.length ∧ rows_18.length = rows_17.length ∧ (∀ (r : List Int), r ∈ rows_18 → r.length = (1 : Nat)) ∧ ∀ (i : Nat), i < rows_17.length → (El.fn fun (i :
  Nat) ↦ [SV.i .i64 (dh rows_17 n.toNat i)]).at i = Rv.elemOf [.i64] rows_18 i) ∧ Ob ((0 : Nat) ≤ (4000000 : Nat) ∧ rows_18.length ≤ (4000000 : Nat)) ∧ (¬¬samTo 1 [] rows_18 0 → ∃ (rows_19 : List (List Int)), Ob
  (rows_15.length = rows_15.length ∧ rows_19.length = rows_15.length ∧ (∀ (r : List Int), r ∈ rows_19 → r.length = (1 : Nat)) ∧ ∀ (i : Nat), i < rows_15.length → (El.fn (Rv.elemOf [.i64] rows_15)).at i = Rv.elemOf [.i64]
  rows_19 i) ∧ ∃ (rows_20 : List (List Int)), Ob (List.length a.R = List.length a.R ∧ rows_20.length = List.length a.R ∧ (∀ (r : List Int), r ∈ rows_20 → r.length = (1 : Nat)) ∧ ∀ (i : Nat), i < List.length a.R → (El.fn
  (Rv.elemOf [.i64] a.R)).at i = Rv.elemOf [.i64] rows_20 i) ∧ Ob (rows_19.length ≤ (4000000 : Nat) ∧ rows_20.length ≤ (4000000 : Nat)) ∧ (¬samTo 1 rows_19 rows_20 rows_19.length → False) ∧ (¬¬samTo 1 rows_19 rows_20
  rows_19.length → Ob (hasTabs [] B) ∧ True)) ∧ (¬samTo 1 [] rows_18 0 → False)) ∧ (¬v_10 = v_11 → False))) ∧ (¬C_ShareA [Dat.z n, Dat.l rows_16] → ∀ (v_10 : Int), v_10 = (0 : Int) → ∃ (rows_17 : List (List Int)), Ob
  (List.length a.R = List.length a.R ∧ rows_17.length = List.length a.R ∧ (∀ (r : List Int), r ∈ rows_17 → r.length = (1 : Nat)) ∧ ∀ (i : Nat), i < List.length a.R → (El.fn (Rv.elemOf [.i64] a.R)).at i = Rv.elemOf [.i64]
  rows_17 i) ∧ Ob (F_ShareR.named.pre [Dat.z n, Dat.l rows_17]) ∧ (C_ShareR [Dat.z n, Dat.l rows_17] → ∀ (v_11 : Int), v_11 = shrErr n rows_17 → (¬¬v_10 = v_11 → ∃ (rows_18 : List (List Int)), Ob (rows_16.length =
  rows_16.length ∧ rows_18.length = rows_16.length ∧ (∀ (r : List Int), r ∈ rows_18 → r.length = (1 : Nat)) ∧ ∀ (i : Nat), i < rows_16.length → (El.fn fun (i : Nat) ↦ [SV.i .i64 (dh rows_16 n.toNat i)]).at i = Rv.elemOf
  [.i64] rows_18 i) ∧ Ob (rows_18.length ≤ (4000000 : Nat) ∧ (0 : Nat) ≤ (4000000 : Nat)) ∧ (¬¬samTo 1 rows_18 [] rows_18.length → ∃ (rows_19 : List (List Int)), Ob (rows_15.length = rows_15.length ∧ rows_19.length =
  rows_15.length ∧ (∀ (r : List Int), r ∈ rows_19 → r.length = (1 : Nat)) ∧ ∀ (i : Nat), i < rows_15.length → (El.fn (Rv.elemOf [.i64] rows_15)).at i = Rv.elemOf [.i64] rows_19 i) ∧ ∃ (rows_20 : List (List Int)), Ob
  (List.length a.R = List.length a.R ∧ rows_20.length = List.length a.R ∧ (∀ (r : List Int), r ∈ rows_20 → r.length = (1 : Nat)) ∧ ∀ (i : Nat), i < List.length a.R → (El.fn (Rv.elemOf [.i64] a.R)).at i = Rv.elemOf [.i64]
  rows_20 i) ∧ Ob (rows_19.length ≤ (4000000 : Nat) ∧ rows_20.length ≤ (4000000 : Nat)) ∧ (¬samTo 1 rows_19 rows_20 rows_19.length → False) ∧ (¬¬samTo 1 rows_19 rows_20 rows_19.length → Ob (hasTabs [] B) ∧ True)) ∧ (¬samTo
  1 rows_18 [] rows_18.length → False)) ∧ (¬v_10 = v_11 → False)) ∧ (¬C_ShareR [Dat.z n, Dat.l rows_17] → ∀ (v_11 : Int), v_11 = (0 : Int) → Ob (PlainE rows_17.length (El.fn fun (i : Nat) ↦ [SV.i .i64 (dh rows_17 n.toNat
  i)])) ∧ (¬¬v_10 = v_11 → ∃ (rows_18 : List (List Int)), Ob (rows_16.length = rows_16.length ∧ rows_18.length = rows_16.length ∧ (∀ (r : List Int), r ∈ rows_18 → r.length = (1 : Nat)) ∧ ∀ (i : Nat), i < rows_16.length →
  (El.fn fun (i : Nat) ↦ [SV.i .i64 (dh rows_16 n.toNat i)]).at i = Rv.elemOf [.i64] rows_18 i) ∧ ∃ (rows_19 : List (List Int)), Ob (rows_17.length = rows_17.length ∧ rows_19.length = rows_17.length ∧ (∀ (r : List Int), r
  ∈ rows_19 → r.length = (1 : Nat)) ∧ ∀ (i : Nat), i < rows_17.length → (El.fn fun (i : Nat) ↦ [SV.i .i64 (dh rows_17 n.toNat i)]).at i = Rv.elemOf [.i64] rows_19 i) ∧ Ob (rows_18.length ≤ (4000000 : Nat) ∧ rows_19.length
  ≤ (4000000 : Nat)) ∧ (¬¬samTo 1 rows_18 rows_19 rows_18.length → ∃ (rows_20 : List (List Int)), Ob (rows_15.length = rows_15.length ∧ rows_20.length = rows_15.length ∧ (∀ (r : List Int), r ∈ rows_20 → r.length = (1 :
  Nat)) ∧ ∀ (i : Nat), i < rows_15.length → (El.fn (Rv.elemOf [.i64] rows_15)).at i = Rv.elemOf [.i64] rows_20 i) ∧ ∃ (rows_21 : List (List Int)), Ob (List.length a.R = List.length a.R ∧ rows_21.length = List.length a.R ∧
  (∀ (r : List Int), r ∈ rows_21 → r.length = (1 : Nat)) ∧ ∀ (i : Nat), i < List.length a.R → (El.fn (Rv.elemOf [.i64] a.R)).at i = Rv.elemOf [.i64] rows_21 i) ∧ Ob (rows_20.length ≤ (4000000 : Nat) ∧ rows_21.length ≤
  (4000000 : Nat)) ∧ (¬samTo 1 rows_20 rows_21 rows_20.length → False) ∧ (¬¬samTo 1 rows_20 rows_21 rows_20.length → Ob (hasTabs [] B) ∧ True)) ∧ (¬samTo 1 rows_18 rows_19 rows_18.length → False)) ∧ (¬v_10 = v_11 →
  False))))) ∧ (¬samTo 1 [] [] 0 → False)) ∧ (¬v_8 = v_9 → False)) ∧ (¬C_ShareR [Dat.z v_5, Dat.l rows_12] → ∀ (v_9 : Int), v_9 = (0 : Int) → Ob (PlainE rows_12.length (El.fn fun (i : Nat) ↦ [SV.i .i64 (dh rows_12
  v_5.toNat i)])) ∧ (¬¬v_8 = v_9 → ∃ (rows_13 : List (List Int)), Ob (rows_12.length = rows_12.length ∧ rows_13.length = rows_12.length ∧ (∀ (r : List Int), r ∈ rows_13 → r.length = (1 : Nat)) ∧ ∀ (i : Nat), i <
  rows_12.length → (El.fn fun (i : Nat) ↦ [SV.i .i64 (dh rows_12 v_5.toNat i)]).at i = Rv.elemOf [.i64] rows_13 i) ∧ Ob ((0 : Nat) ≤ (4000000 : Nat) ∧ rows_13.length ≤ (4000000 : Nat)) ∧ (¬¬samTo 1 [] rows_13 0 → ∃
  (rows_14 : List (List Int)), Ob (rows_10.length = rows_10.length ∧ rows_14.length = rows_10.length ∧ (∀ (r : List Int), r ∈ rows_14 → r.length = (1 : Nat)) ∧ ∀ (i : Nat), i < rows_10.length → (El.fn (Rv.elemOf [.i64]
  rows_10)).at i = Rv.elemOf [.i64] rows_14 i) ∧ ∃ (rows_15 : List (List Int)), Ob (List.length a.R = List.length a.R ∧ rows_15.length = List.length a.R ∧ (∀ (r : List Int), r ∈ rows_15 → r.length = (1 : Nat)) ∧ ∀ (i :
  Nat), i < List.length a.R → (El.fn (Rv.elemOf [.i64] a.R)).at i = Rv.elemOf [.i64] rows_15 i) ∧ Ob (rows_14.length ≤ (4000000 : Nat) ∧ rows_15.length ≤ (4000000 : Nat)) ∧ (¬samTo 1 rows_14 rows_15 rows_14.length → False)
  ∧ (¬¬samTo 1 rows_14 rows_15 rows_14.length → ∃ (rows_16 : List (List Int)), Ob (List.length a.R = List.length a.R ∧ rows_16.length = List.length a.R ∧ (∀ (r : List Int), r ∈ rows_16 → r.length = (1 : Nat)) ∧ ∀ (i :
  Nat), i < List.length a.R → (El.fn (Rv.elemOf [.i64] a.R)).at i = Rv.elemOf [.i64] rows_16 i) ∧ Ob (F_Ints.named.pre [Dat.l rows_16]) ∧ ∃ (rows_17 : List (List Int)), Ob (rows_16.length = rows_16.length ∧ rows_17.length
  = rows_16.length ∧ (∀ (r : List Int), r ∈ rows_17 → r.length = (1 : Nat)) ∧ ∀ (i : Nat), i < rows_16.length → (El.fn (Rv.elemOf [.i64] rows_16)).at i = Rv.elemOf [.i64] rows_17 i) ∧ Ob (F_ShareA.named.pre [Dat.z n, Dat.l
  rows_17]) ∧ (C_ShareA [Dat.z n, Dat.l rows_17] → ∀ (v_10 : Int), v_10 = shrErr n rows_17 → ∃ (rows_18 : List (List Int)), Ob (List.length a.R = List.length a.R ∧ rows_18.length = List.length a.R ∧ (∀ (r : List Int), r ∈
  rows_18 → r.length = (1 : Nat)) ∧ ∀ (i : Nat), i < List.length a.R → (El.fn (Rv.elemOf [.i64] a.R)).at i = Rv.elemOf [.i64] rows_18 i) ∧ Ob (F_ShareR.named.pre [Dat.z n, Dat.l rows_18]) ∧ (C_ShareR [Dat.z n, Dat.l
  rows_18] → ∀ (v_11 : Int), v_11 = shrErr n rows_18 → (¬¬v_10 = v_11 → Ob ((0 : Nat) ≤ (4000000 : Nat) ∧ (0 : Nat) ≤ (4000000 : Nat)) ∧ (¬¬samTo 1 [] [] 0 → ∃ (rows_19 : List (List Int)), Ob (rows_16.length =
  rows_16.length ∧ rows_19.length = rows_16.length ∧ (∀ (r : List Int), r ∈ rows_19 → r.length = (1 : Nat)) ∧ ∀ (i : Nat), i < rows_16.length → (El.fn (Rv.elemOf [.i64] rows_16)).at i = Rv.elemOf [.i64] rows_19 i) ∧ ∃
  (rows_20 : List (List Int)), Ob (List.length a.R = List.length a.R ∧ rows_20.length = List.length a.R ∧ (∀ (r : List Int), r ∈ rows_20 → r.length = (1 : Nat)) ∧ ∀ (i : Nat), i < List.length a.R → (El.fn (Rv.elemOf [.i64]
  a.R)).at i = Rv.elemOf [.i64] rows_20 i) ∧ Ob (rows_19.length ≤ (4000000 : Nat) ∧ rows_20.length ≤ (4000000 : Nat)) ∧ (¬samTo 1 rows_19 rows_20 rows_19.length → False) ∧ (¬¬samTo 1 rows_19 rows_20 rows_19.length → Ob
  (hasTabs [] B) ∧ True)) ∧ (¬samTo 1 [] [] 0 → False)) ∧ (¬v_10 = v_11 → False)) ∧ (¬C_ShareR [Dat.z n, Dat.l rows_18] → ∀ (v_11 : Int), v_11 = (0 : Int) → Ob (PlainE rows_18.length (El.fn fun (i : Nat) ↦ [SV.i .i64 (dh
  rows_18 n.toNat i)])) ∧ (¬¬v_10 = v_11 → ∃ (rows_19 : List (List Int)), Ob (rows_18.length = rows_18.length ∧ rows_19.length = rows_18.length ∧ (∀ (r : List Int), r ∈ rows_19 → r.length = (1 : Nat)) ∧ ∀ (i : Nat), i <
  rows_18.length → (El.fn fun (i : Nat) ↦ [SV.i .i64 (dh rows_18 n.toNat i)]).at i = Rv.elemOf [.i64] rows_19 i) ∧ Ob ((0 : Nat) ≤ (4000000 : Nat) ∧ rows_19.length ≤ (4000000 : Nat)) ∧ (¬¬samTo 1 [] rows_19 0 → ∃ (rows_20
  : List (List Int)), Ob (rows_16.length = rows_16.length ∧ rows_20.length = rows_16.length ∧ (∀ (r : List Int), r ∈ rows_20 → r.length = (1 : Nat)) ∧ ∀ (i : Nat), i < rows_16.length → (El.fn (Rv.elemOf [.i64] rows_16)).at
  i = Rv.elemOf [.i64] rows_20 i) ∧ ∃ (rows_21 : List (List Int)), Ob (List.length a.R = List.length a.R ∧ rows_21.length = List.length a.R ∧ (∀ (r : List Int), r ∈ rows_21 → r.length = (1 : Nat)) ∧ ∀ (i : Nat), i <
  List.length a.R → (El.fn (Rv.elemOf [.i64] a.R)).at i = Rv.elemOf [.i64] rows_21 i) ∧ Ob (rows_20.length ≤ (4000000 : Nat) ∧ rows_21.length ≤ (4000000 : Nat)) ∧ (¬samTo 1 rows_20 rows_21 rows_20.length → False) ∧
  (¬¬samTo 1 rows_20 rows_21 rows_20.length → Ob (hasTabs [] B) ∧ True)) ∧ (¬samTo 1 [] rows_19 0 → False)) ∧ (¬v_10 = v_11 → False))) ∧ (¬C_ShareA [Dat.z n, Dat.l rows_17] → ∀ (v_10 : Int), v_10 = (0 : Int) → ∃ (rows_18 :
  List (List Int)), Ob (List.length a.R = List.length a.R ∧ rows_18.length = List.length a.R ∧ (∀ (r : List Int), r ∈ rows_18 → r.length = (1 : Nat)) ∧ ∀ (i : Nat), i < List.length a.R → (El.fn (Rv.elemOf [.i64] a.R)).at i
  = Rv.elemOf [.i64] rows_18 i) ∧ Ob (F_ShareR.named.pre [Dat.z n, Dat.l rows_18]) ∧ (C_ShareR [Dat.z n, Dat.l rows_18] → ∀ (v_11 : Int), v_11 = shrErr n rows_18 → (¬¬v_10 = v_11 → ∃ (rows_19 : List (List Int)), Ob
  (rows_17.length = rows_17.length ∧ rows_19.length = rows_17.length ∧ (∀ (r : List Int), r ∈ rows_19 → r.length = (1 : Nat)) ∧ ∀ (i : Nat), i < rows_17.length → (El.fn fun (i : Nat) ↦ [SV.i .i64 (dh rows_17 n.toNat
  i)]).at i = Rv.elemOf [.i64] rows_19 i) ∧ Ob (rows_19.length ≤ (4000000 : Nat) ∧ (0 : Nat) ≤ (4000000 : Nat)) ∧ (¬¬samTo 1 rows_19 [] rows_19.length → ∃ (rows_20 : List (List Int)), Ob (rows_16.length = rows_16.length ∧
  rows_20.length = rows_16.length ∧ (∀ (r : List Int), r ∈ rows_20 → r.length = (1 : Nat)) ∧ ∀ (i : Nat), i < rows_16.length → (El.fn (Rv.elemOf [.i64] rows_16)).at i = Rv.elemOf [.i64] rows_20 i) ∧ ∃ (rows_21 : List (List
  Int)), Ob (List.length a.R = List.length a.R ∧ rows_21.length = List.length a.R ∧ (∀ (r : List Int), r ∈ rows_21 → r.length = (1 : Nat)) ∧ ∀ (i : Nat), i < List.length a.R → (El.fn (Rv.elemOf [.i64] a.R)).at i =
  Rv.elemOf [.i64] rows_21 i) ∧ Ob (rows_20.length ≤ (4000000 : Nat) ∧ rows_21.length ≤ (4000000 : Nat)) ∧ (¬samTo 1 rows_20 rows_21 rows_20.length → False) ∧ (¬¬samTo 1 rows_20 rows_21 rows_20.length → Ob (hasTabs [] B) ∧
  True)) ∧ (¬samTo 1 rows_19 [] rows_19.length → False)) ∧ (¬v_10 = v_11 → False)) ∧ (¬C_ShareR [Dat.z n, Dat.l rows_18] → ∀ (v_11 : Int), v_11 = (0 : Int) → Ob (PlainE rows_18.length (El.fn fun (i : Nat) ↦ [SV.i .i64 (dh
  rows_18 n.toNat i)])) ∧ (¬¬v_10 = v_11 → ∃ (rows_19 : List (List Int)), Ob (rows_17.length = rows_17.length ∧ rows_19.length = rows_17.length ∧ (∀ (r : List Int), r ∈ rows_19 → r.length = (1 : Nat)) ∧ ∀ (i : Nat), i <
  rows_17.length → (El.fn fun (i : Nat) ↦ [SV.i .i64 (dh rows_17 n.toNat i)]).at i = Rv.elemOf [.i64] rows_19 i) ∧ ∃ (rows_20 : List (List Int)), Ob (rows_18.length = rows_18.length ∧ rows_20.length = rows_18.length ∧ (∀
  (r : List Int), r ∈ rows_20 → r.length = (1 : Nat)) ∧ ∀ (i : Nat), i < rows_18.length → (El.fn fun (i : Nat) ↦ [SV.i .i64 (dh rows_18 n.toNat i)]).at i = Rv.elemOf [.i64] rows_20 i) ∧ Ob (rows_19.length ≤ (4000000 : Nat)
  ∧ rows_20.length ≤ (4000000 : Nat)) ∧ (¬¬samTo 1 rows_19 rows_20 rows_19.length → ∃ (rows_21 : List (List Int)), Ob (rows_16.length = rows_16.length ∧ rows_21.length = rows_16.length ∧ (∀ (r : List Int), r ∈ rows_21 →
  r.length = (1 : Nat)) ∧ ∀ (i : Nat), i < rows_16.length → (El.fn (Rv.elemOf [.i64] rows_16)).at i = Rv.elemOf [.i64] rows_21 i) ∧ ∃ (rows_22 : List (List Int)), Ob (List.length a.R = List.length a.R ∧ rows_22.length =
  List.length a.R ∧ (∀ (r : List Int), r ∈ rows_22 → r.length = (1 : Nat)) ∧ ∀ (i : Nat), i < List.length a.R → (El.fn (Rv.elemOf [.i64] a.R)).at i = Rv.elemOf [.i64] rows_22 i) ∧ Ob (rows_21.length ≤ (4000000 : Nat) ∧
  rows_22.length ≤ (4000000 : Nat)) ∧ (¬samTo 1 rows_21 rows_22 rows_21.length → False) ∧ (¬¬samTo 1 rows_21 rows_22 rows_21.length → Ob (hasTabs [] B) ∧ True)) ∧ (¬samTo 1 rows_19 rows_20 rows_19.length → False)) ∧ (¬v_10
  = v_11 → False))))) ∧ (¬samTo 1 [] rows_13 0 → False)) ∧ (¬v_8 = v_9 → False))) ∧ (¬C_ShareA [Dat.z v_5, Dat.l rows_11] → ∀ (v_8 : Int), v_8 = (0 : Int) → ∃ (rows_12 : List (List Int)), Ob (List.length a.R = List.length
  a.R ∧ rows_12.length = List.length a.R ∧ (∀ (r : List Int), r ∈ rows_12 → r.length = (1 : Nat)) ∧ ∀ (i : Nat), i < List.length a.R → (El.fn (Rv.elemOf [.i64] a.R)).at i = Rv.elemOf [.i64] rows_12 i) ∧ Ob
  (F_ShareR.named.pre [Dat.z v_5, Dat.l rows_12]) ∧ (C_ShareR [Dat.z v_5, Dat.l rows_12] → ∀ (v_9 : Int), v_9 = shrErr v_5 rows_12 → (¬¬v_8 = v_9 → ∃ (rows_13 : List (List Int)), Ob (rows_11.length = rows_11.length ∧
  rows_13.length = rows_11.length ∧ (∀ (r : List Int), r ∈ rows_13 → r.length = (1 : Nat)) ∧ ∀ (i : Nat), i < rows_11.length → (El.fn fun (i : Nat) ↦ [SV.i .i64 (dh rows_11 v_5.toNat i)]).at i = Rv.elemOf [.i64] rows_13 i)
  ∧ Ob (rows_13.length ≤ (4000000 : Nat) ∧ (0 : Nat) ≤ (4000000 : Nat)) ∧ (¬¬samTo 1 rows_13 [] rows_13.length → ∃ (rows_14 : List (List Int)), Ob (rows_10.length = rows_10.length ∧ rows_14.length = rows_10.length ∧ (∀ (r
  : List Int), r ∈ rows_14 → r.length = (1 : Nat)) ∧ ∀ (i : Nat), i < rows_10.length → (El.fn (Rv.elemOf [.i64] rows_10)).at i = Rv.elemOf [.i64] rows_14 i) ∧ ∃ (rows_15 : List (List Int)), Ob (List.length a.R =
  List.length a.R ∧ rows_15.length = List.length a.R ∧ (∀ (r : List Int), r ∈ rows_15 → r.length = (1 : Nat)) ∧ ∀ (i : Nat), i < List.length a.R → (El.fn (Rv.elemOf [.i64] a.R)).at i = Rv.elemOf [.i64] rows_15 i) ∧ Ob
  (rows_14.length ≤ (4000000 : Nat) ∧ rows_15.length ≤ (4000000 : Nat)) ∧ (¬samTo 1 rows_14 rows_15 rows_14.length → False) ∧ (¬¬samTo 1 rows_14 rows_15 rows_14.length → ∃ (rows_16 : List (List Int)), Ob (List.length a.R =
  List.length a.R ∧ rows_16.length = List.length a.R ∧ (∀ (r : List Int), r ∈ rows_16 → r.length = (1 : Nat)) ∧ ∀ (i : Nat), i < List.length a.R → (El.fn (Rv.elemOf [.i64] a.R)).at i = Rv.elemOf [.i64] rows_16 i) ∧ Ob
  (F_Ints.named.pre [Dat.l rows_16]) ∧ ∃ (rows_17 : List (List Int)), Ob (rows_16.length = rows_16.length ∧ rows_17.length = rows_16.length ∧ (∀ (r : List Int), r ∈ rows_17 → r.length = (1 : Nat)) ∧ ∀ (i : Nat), i <
  rows_16.length → (El.fn (Rv.elemOf [.i64] rows_16)).at i = Rv.elemOf [.i64] rows_17 i) ∧ Ob (F_ShareA.named.pre [Dat.z n, Dat.l rows_17]) ∧ (C_ShareA [Dat.z n, Dat.l rows_17] → ∀ (v_10 : Int), v_10 = shrErr n rows_17 → ∃
  (rows_18 : List (List Int)), Ob (List.length a.R = List.length a.R ∧ rows_18.length = List.length a.R ∧ (∀ (r : List Int), r ∈ rows_18 → r.length = (1 : Nat)) ∧ ∀ (i : Nat), i < List.length a.R → (El.fn (Rv.elemOf [.i64]
  a.R)).at i = Rv.elemOf [.i64] rows_18 i) ∧ Ob (F_ShareR.named.pre [Dat.z n, Dat.l rows_18]) ∧ (C_ShareR [Dat.z n, Dat.l rows_18] → ∀ (v_11 : Int), v_11 = shrErr n rows_18 → (¬¬v_10 = v_11 → Ob ((0 : Nat) ≤ (4000000 :
  Nat) ∧ (0 : Nat) ≤ (4000000 : Nat)) ∧ (¬¬samTo 1 [] [] 0 → ∃ (rows_19 : List (List Int)), Ob (rows_16.length = rows_16.length ∧ rows_19.length = rows_16.length ∧ (∀ (r : List Int), r ∈ rows_19 → r.length = (1 : Nat)) ∧ ∀
  (i : Nat), i < rows_16.length → (El.fn (Rv.elemOf [.i64] rows_16)).at i = Rv.elemOf [.i64] rows_19 i) ∧ ∃ (rows_20 : List (List Int)), Ob (List.length a.R = List.length a.R ∧ rows_20.length = List.length a.R ∧ (∀ (r :
  List Int), r ∈ rows_20 → r.length = (1 : Nat)) ∧ ∀ (i : Nat), i < List.length a.R → (El.fn (Rv.elemOf [.i64] a.R)).at i = Rv.elemOf [.i64] rows_20 i) ∧ Ob (rows_19.length ≤ (4000000 : Nat) ∧ rows_20.length ≤ (4000000 :
  Nat)) ∧ (¬samTo 1 rows_19 rows_20 rows_19.length → False) ∧ (¬¬samTo 1 rows_19 rows_20 rows_19.length → Ob (hasTabs [] B) ∧ True)) ∧ (¬samTo 1 [] [] 0 → False)) ∧ (¬v_10 = v_11 → False)) ∧ (¬C_ShareR [Dat.z n, Dat.l
  rows_18] → ∀ (v_11 : Int), v_11 = (0 : Int) → Ob (PlainE rows_18.length (El.fn fun (i : Nat) ↦ [SV.i .i64 (dh rows_18 n.toNat i)])) ∧ (¬¬v_10 = v_11 → ∃ (rows_19 : List (List Int)), Ob (rows_18.length = rows_18.length ∧
  rows_19.length = rows_18.length ∧ (∀ (r : List Int), r ∈ rows_19 → r.length = (1 : Nat)) ∧ ∀ (i : Nat), i < rows_18.length → (El.fn fun (i : Nat) ↦ [SV.i .i64 (dh rows_18 n.toNat i)]).at i = Rv.elemOf [.i64] rows_19 i) ∧
  Ob ((0 : Nat) ≤ (4000000 : Nat) ∧ rows_19.length ≤ (4000000 : Nat)) ∧ (¬¬samTo 1 [] rows_19 0 → ∃ (rows_20 : List (List Int)), Ob (rows_16.length = rows_16.length ∧ rows_20.length = rows_16.length ∧ (∀ (r : List Int), r
  ∈ rows_20 → r.length = (1 : Nat)) ∧ ∀ (i : Nat), i < rows_16.length → (El.fn (Rv.elemOf [.i64] rows_16)).at i = Rv.elemOf [.i64] rows_20 i) ∧ ∃ (rows_21 : List (List Int)), Ob (List.length a.R = List.length a.R ∧
  rows_21.length = List.length a.R ∧ (∀ (r : List Int), r ∈ rows_21 → r.length = (1 : Nat)) ∧ ∀ (i : Nat), i < List.length a.R → (El.fn (Rv.elemOf [.i64] a.R)).at i = Rv.elemOf [.i64] rows_21 i) ∧ Ob (rows_20.length ≤
  (4000000 : Nat) ∧ rows_21.length ≤ (4000000 : Nat)) ∧ (¬samTo 1 rows_20 rows_21 rows_20.length → False) ∧ (¬¬samTo 1 rows_20 rows_21 rows_20.length → Ob (hasTabs [] B) ∧ True)) ∧ (¬samTo 1 [] rows_19 0 → False)) ∧ (¬v_10
  = v_11 → False))) ∧ (¬C_ShareA [Dat.z n, Dat.l rows_17] → ∀ (v_10 : Int), v_10 = (0 : Int) → ∃ (rows_18 : List (List Int)), Ob (List.length a.R = List.length a.R ∧ rows_18.length = List.length a.R ∧ (∀ (r : List Int), r
  ∈ rows_18 → r.length = (1 : Nat)) ∧ ∀ (i : Nat), i < List.length a.R → (El.fn (Rv.elemOf [.i64] a.R)).at i = Rv.elemOf [.i64] rows_18 i) ∧ Ob (F_ShareR.named.pre [Dat.z n, Dat.l rows_18]) ∧ (C_ShareR [Dat.z n, Dat.l
  rows_18] → ∀ (v_11 : Int), v_11 = shrErr n rows_18 → (¬¬v_10 = v_11 → ∃ (rows_19 : List (List Int)), Ob (rows_17.length = rows_17.length ∧ rows_19.length = rows_17.length ∧ (∀ (r : List Int), r ∈ rows_19 → r.length = (1
  : Nat)) ∧ ∀ (i : Nat), i < rows_17.length → (El.fn fun (i : Nat) ↦ [SV.i .i64 (dh rows_17 n.toNat i)]).at i = Rv.elemOf [.i64] rows_19 i) ∧ Ob (rows_19.length ≤ (4000000 : Nat) ∧ (0 : Nat) ≤ (4000000 : Nat)) ∧ (¬¬samTo 1
  rows_19 [] rows_19.length → ∃ (rows_20 : List (List Int)), Ob (rows_16.length = rows_16.length ∧ rows_20.length = rows_16.length ∧ (∀ (r : List Int), r ∈ rows_20 → r.length = (1 : Nat)) ∧ ∀ (i : Nat), i < rows_16.length
  → (El.fn (Rv.elemOf [.i64] rows_16)).at i = Rv.elemOf [.i64] rows_20 i) ∧ ∃ (rows_21 : List (List Int)), Ob (List.length a.R = List.length a.R ∧ rows_21.length = List.length a.R ∧ (∀ (r : List Int), r ∈ rows_21 →
  r.length = (1 : Nat)) ∧ ∀ (i : Nat), i < List.length a.R → (El.fn (Rv.elemOf [.i64] a.R)).at i = Rv.elemOf [.i64] rows_21 i) ∧ Ob (rows_20.length ≤ (4000000 : Nat) ∧ rows_21.length ≤ (4000000 : Nat)) ∧ (¬samTo 1 rows_20
  rows_21 rows_20.length → False) ∧ (¬¬samTo 1 rows_20 rows_21 rows_20.length → Ob (hasTabs [] B) ∧ True)) ∧ (¬samTo 1 rows_19 [] rows_19.length → False)) ∧ (¬v_10 = v_11 → False)) ∧ (¬C_ShareR [Dat.z n, Dat.l rows_18] → ∀
  (v_11 : Int), v_11 = (0 : Int) → Ob (PlainE rows_18.length (El.fn fun (i : Nat) ↦ [SV.i .i64 (dh rows_18 n.toNat i)])) ∧ (¬¬v_10 = v_11 → ∃ (rows_19 : List (List Int)), Ob (rows_17.length = rows_17.length ∧
  rows_19.length = rows_17.length ∧ (∀ (r : List Int), r ∈ rows_19 → r.length = (1 : Nat)) ∧ ∀ (i : Nat), i < rows_17.length → (El.fn fun (i : Nat) ↦ [SV.i .i64 (dh rows_17 n.toNat i)]).at i = Rv.elemOf [.i64] rows_19 i) ∧
  ∃ (rows_20 : List (List Int)), Ob (rows_18.length = rows_18.length ∧ rows_20.length = rows_18.length ∧ (∀ (r : List Int), r ∈ rows_20 → r.length = (1 : Nat)) ∧ ∀ (i : Nat), i < rows_18.length → (El.fn fun (i : Nat) ↦
  [SV.i .i64 (dh rows_18 n.toNat i)]).at i = Rv.elemOf [.i64] rows_20 i) ∧ Ob (rows_19.length ≤ (4000000 : Nat) ∧ rows_20.length ≤ (4000000 : Nat)) ∧ (¬¬samTo 1 rows_19 rows_20 rows_19.length → ∃ (rows_21 : List (List
  Int)), Ob (rows_16.length = rows_16.length ∧ rows_21.length = rows_16.length ∧ (∀ (r : List Int), r ∈ rows_21 → r.length = (1 : Nat)) ∧ ∀ (i : Nat), i < rows_16.length → (El.fn (Rv.elemOf [.i64] rows_16)).at i =
  Rv.elemOf [.i64] rows_21 i) ∧ ∃ (rows_22 : List (List Int)), Ob (List.length a.R = List.length a.R ∧ rows_22.length = List.length a.R ∧ (∀ (r : List Int), r ∈ rows_22 → r.length = (1 : Nat)) ∧ ∀ (i : Nat), i <
  List.length a.R → (El.fn (Rv.elemOf [.i64] a.R)).at i = Rv.elemOf [.i64] rows_22 i) ∧ Ob (rows_21.length ≤ (4000000 : Nat) ∧ rows_22.length ≤ (4000000 : Nat)) ∧ (¬samTo 1 rows_21 rows_22 rows_21.length → False) ∧
  (¬¬samTo 1 rows_21 rows_22 rows_21.length → Ob (hasTabs [] B) ∧ True)) ∧ (¬samTo 1 rows_19 rows_20 rows_19.length → False)) ∧ (¬v_10 = v_11 → False))))) ∧ (¬samTo 1 rows_13 [] rows_13.length → False)) ∧ (¬v_8 = v_9 →
  False)) ∧ (¬C_ShareR [Dat.z v_5, Dat.l rows_12] → ∀ (v_9 : Int), v_9 = (0 : Int) → Ob (PlainE rows_12.length (El.fn fun (i : Nat) ↦ [SV.i .i64 (dh rows_12 v_5.toNat i)])) ∧ (¬¬v_8 = v_9 → ∃ (rows_13 : List (List Int)),
  Ob (rows_11.length = rows_11.length ∧ rows_13.length = rows_11.length ∧ (∀ (r : List Int), r ∈ rows_13 → r.length = (1 : Nat)) ∧ ∀ (i : Nat), i < rows_11.length → (El.fn fun (i : Nat) ↦ [SV.i .i64 (dh rows_11 v_5.toNat
  i)]).at i = Rv.elemOf [.i64] rows_13 i) ∧ ∃ (rows_14 : List (List Int)), Ob (rows_12.length = rows_12.length ∧ rows_14.length = rows_12.length ∧ (∀ (r : List Int), r ∈ rows_14 → r.length = (1 : Nat)) ∧ ∀ (i : Nat), i <
  rows_12.length → (El.fn fun (i : Nat) ↦ [SV.i .i64 (dh rows_12 v_5.toNat i)]).at i = Rv.elemOf [.i64] rows_14 i) ∧ Ob (rows_13.length ≤ (4000000 : Nat) ∧ rows_14.length ≤ (4000000 : Nat)) ∧ (¬¬samTo 1 rows_13 rows_14
  rows_13.length → ∃ (rows_15 : List (List Int)), Ob (rows_10.length = rows_10.length ∧ rows_15.length = rows_10.length ∧ (∀ (r : List Int), r ∈ rows_15 → r.length = (1 : Nat)) ∧ ∀ (i : Nat), i < rows_10.length → (El.fn
  (Rv.elemOf [.i64] rows_10)).at i = Rv.elemOf [.i64] rows_15 i) ∧ ∃ (rows_16 : List (List Int)), Ob (List.length a.R = List.length a.R ∧ rows_16.length = List.length a.R ∧ (∀ (r : List Int), r ∈ rows_16 → r.length = (1 :
  Nat)) ∧ ∀ (i : Nat), i < List.length a.R → (El.fn (Rv.elemOf [.i64] a.R)).at i = Rv.elemOf [.i64] rows_16 i) ∧ Ob (rows_15.length ≤ (4000000 : Nat) ∧ rows_16.length ≤ (4000000 : Nat)) ∧ (¬samTo 1 rows_15 rows_16
  rows_15.length → False) ∧ (¬¬samTo 1 rows_15 rows_16 rows_15.length → ∃ (rows_17 : List (List Int)), Ob (List.length a.R = List.length a.R ∧ rows_17.length = List.length a.R ∧ (∀ (r : List Int), r ∈ rows_17 → r.length =
  (1 : Nat)) ∧ ∀ (i : Nat), i < List.length a.R → (El.fn (Rv.elemOf [.i64] a.R)).at i = Rv.elemOf [.i64] rows_17 i) ∧ Ob (F_Ints.named.pre [Dat.l rows_17]) ∧ ∃ (rows_18 : List (List Int)), Ob (rows_17.length =
  rows_17.length ∧ rows_18.length = rows_17.length ∧ (∀ (r : List Int), r ∈ rows_18 → r.length = (1 : Nat)) ∧ ∀ (i : Nat), i < rows_17.length → (El.fn (Rv.elemOf [.i64] rows_17)).at i = Rv.elemOf [.i64] rows_18 i) ∧ Ob
  (F_ShareA.named.pre [Dat.z n, Dat.l rows_18]) ∧ (C_ShareA [Dat.z n, Dat.l rows_18] → ∀ (v_10 : Int), v_10 = shrErr n rows_18 → ∃ (rows_19 : List (List Int)), Ob (List.length a.R = List.length a.R ∧ rows_19.length =
  List.length a.R ∧ (∀ (r : List Int), r ∈ rows_19 → r.length = (1 : Nat)) ∧ ∀ (i : Nat), i < List.length a.R → (El.fn (Rv.elemOf [.i64] a.R)).at i = Rv.elemOf [.i64] rows_19 i) ∧ Ob (F_ShareR.named.pre [Dat.z n, Dat.l
  rows_19]) ∧ (C_ShareR [Dat.z n, Dat.l rows_19] → ∀ (v_11 : Int), v_11 = shrErr n rows_19 → (¬¬v_10 = v_11 → Ob ((0 : Nat) ≤ (4000000 : Nat) ∧ (0 : Nat) ≤ (4000000 : Nat)) ∧ (¬¬samTo 1 [] [] 0 → ∃ (rows_20 : List (List
  Int)), Ob (rows_17.length = rows_17.length ∧ rows_20.length = rows_17.length ∧ (∀ (r : List Int), r ∈ rows_20 → r.length = (1 : Nat)) ∧ ∀ (i : Nat), i < rows_17.length → (El.fn (Rv.elemOf [.i64] rows_17)).at i =
  Rv.elemOf [.i64] rows_20 i) ∧ ∃ (rows_21 : List (List Int)), Ob (List.length a.R = List.length a.R ∧ rows_21.length = List.length a.R ∧ (∀ (r : List Int), r ∈ rows_21 → r.length = (1 : Nat)) ∧ ∀ (i : Nat), i <
  List.length a.R → (El.fn (Rv.elemOf [.i64] a.R)).at i = Rv.elemOf [.i64] rows_21 i) ∧ Ob (rows_20.length ≤ (4000000 : Nat) ∧ rows_21.length ≤ (4000000 : Nat)) ∧ (¬samTo 1 rows_20 rows_21 rows_20.length → False) ∧
  (¬¬samTo 1 rows_20 rows_21 rows_20.length → Ob (hasTabs [] B) ∧ True)) ∧ (¬samTo 1 [] [] 0 → False)) ∧ (¬v_10 = v_11 → False)) ∧ (¬C_ShareR [Dat.z n, Dat.l rows_19] → ∀ (v_11 : Int), v_11 = (0 : Int) → Ob (PlainE
  rows_19.length (El.fn fun (i : Nat) ↦ [SV.i .i64 (dh rows_19 n.toNat i)])) ∧ (¬¬v_10 = v_11 → ∃ (rows_20 : List (List Int)), Ob (rows_19.length = rows_19.length ∧ rows_20.length = rows_19.length ∧ (∀ (r : List Int), r ∈
  rows_20 → r.length = (1 : Nat)) ∧ ∀ (i : Nat), i < rows_19.length → (El.fn fun (i : Nat) ↦ [SV.i .i64 (dh rows_19 n.toNat i)]).at i = Rv.elemOf [.i64] rows_20 i) ∧ Ob ((0 : Nat) ≤ (4000000 : Nat) ∧ rows_20.length ≤
  (4000000 : Nat)) ∧ (¬¬samTo 1 [] rows_20 0 → ∃ (rows_21 : List (List Int)), Ob (rows_17.length = rows_17.length ∧ rows_21.length = rows_17.length ∧ (∀ (r : List Int), r ∈ rows_21 → r.length = (1 : Nat)) ∧ ∀ (i : Nat), i
  < rows_17.length → (El.fn (Rv.elemOf [.i64] rows_17)).at i = Rv.elemOf [.i64] rows_21 i) ∧ ∃ (rows_22 : List (List Int)), Ob (List.length a.R = List.length a.R ∧ rows_22.length = List.length a.R ∧ (∀ (r : List Int), r ∈
  rows_22 → r.length = (1 : Nat)) ∧ ∀ (i : Nat), i < List.length a.R → (El.fn (Rv.elemOf [.i64] a.R)).at i = Rv.elemOf [.i64] rows_22 i) ∧ Ob (rows_21.length ≤ (4000000 : Nat) ∧ rows_22.length ≤ (4000000 : Nat)) ∧ (¬samTo
  1 rows_21 rows_22 rows_21.length → False) ∧ (¬¬samTo 1 rows_21 rows_22 rows_21.length → Ob (hasTabs [] B) ∧ True)) ∧ (¬samTo 1 [] rows_20 0 → False)) ∧ (¬v_10 = v_11 → False))) ∧ (¬C_ShareA [Dat.z n, Dat.l rows_18] → ∀
  (v_10 : Int), v_10 = (0 : Int) → ∃ (rows_19 : List (List Int)), Ob (List.length a.R = List.length a.R ∧ rows_19.length = List.length a.R ∧ (∀ (r : List Int), r ∈ rows_19 → r.length = (1 : Nat)) ∧ ∀ (i : Nat), i <
  List.length a.R → (El.fn (Rv.elemOf [.i64] a.R)).at i = Rv.elemOf [.i64] rows_19 i) ∧ Ob (F_ShareR.named.pre [Dat.z n, Dat.l rows_19]) ∧ (C_ShareR [Dat.z n, Dat.l rows_19] → ∀ (v_11 : Int), v_11 = shrErr n rows_19 →
  (¬¬v_10 = v_11 → ∃ (rows_20 : List (List Int)), Ob (rows_18.length = rows_18.length ∧ rows_20.length = rows_18.length ∧ (∀ (r : List Int), r ∈ rows_20 → r.length = (1 : Nat)) ∧ ∀ (i : Nat), i < rows_18.length → (El.fn
  fun (i : Nat) ↦ [SV.i .i64 (dh rows_18 n.toNat i)]).at i = Rv.elemOf [.i64] rows_20 i) ∧ Ob (rows_20.length ≤ (4000000 : Nat) ∧ (0 : Nat) ≤ (4000000 : Nat)) ∧ (¬¬samTo 1 rows_20 [] rows_20.length → ∃ (rows_21 : List
  (List Int)), Ob (rows_17.length = rows_17.length ∧ rows_21.length = rows_17.length ∧ (∀ (r : List Int), r ∈ rows_21 → r.length = (1 : Nat)) ∧ ∀ (i : Nat), i < rows_17.length → (El.fn (Rv.elemOf [.i64] rows_17)).at i =
  Rv.elemOf [.i64] rows_21 i) ∧ ∃ (rows_22 : List (List Int)), Ob (List.length a.R = List.length a.R ∧ rows_22.length = List.length a.R ∧ (∀ (r : List Int), r ∈ rows_22 → r.length = (1 : Nat)) ∧ ∀ (i : Nat), i <
  List.length a.R → (El.fn (Rv.elemOf [.i64] a.R)).at i = Rv.elemOf [.i64] rows_22 i) ∧ Ob (rows_21.length ≤ (4000000 : Nat) ∧ rows_22.length ≤ (4000000 : Nat)) ∧ (¬samTo 1 rows_21 rows_22 rows_21.length → False) ∧
  (¬¬samTo 1 rows_21 rows_22 rows_21.length → Ob (hasTabs [] B) ∧ True)) ∧ (¬samTo 1 rows_20 [] rows_20.length → False)) ∧ (¬v_10 = v_11 → False)) ∧ (¬C_ShareR [Dat.z n, Dat.l rows_19] → ∀ (v_11 : Int), v_11 = (0 : Int) →
  Ob (PlainE rows_19.length (El.fn fun (i : Nat) ↦ [SV.i .i64 (dh rows_19 n.toNat i)])) ∧ (¬¬v_10 = v_11 → ∃ (rows_20 : List (List Int)), Ob (rows_18.length = rows_18.length ∧ rows_20.length = rows_18.length ∧ (∀ (r : List
  Int), r ∈ rows_20 → r.length = (1 : Nat)) ∧ ∀ (i : Nat), i < rows_18.length → (El.fn fun (i : Nat) ↦ [SV.i .i64 (dh rows_18 n.toNat i)]).at i = Rv.elemOf [.i64] rows_20 i) ∧ ∃ (rows_21 : List (List Int)), Ob
  (rows_19.length = rows_19.length ∧ rows_21.length = rows_19.length ∧ (∀ (r : List Int), r ∈ rows_21 → r.length = (1 : Nat)) ∧ ∀ (i : Nat), i < rows_19.length → (El.fn fun (i : Nat) ↦ [SV.i .i64 (dh rows_19 n.toNat
  i)]).at i = Rv.elemOf [.i64] rows_21 i) ∧ Ob (rows_20.length ≤ (4000000 : Nat) ∧ rows_21.length ≤ (4000000 : Nat)) ∧ (¬¬samTo 1 rows_20 rows_21 rows_20.length → ∃ (rows_22 : List (List Int)), Ob (rows_17.length =
  rows_17.length ∧ rows_22.length = rows_17.length ∧ (∀ (r : List Int), r ∈ rows_22 → r.length = (1 : Nat)) ∧ ∀ (i : Nat), i < rows_17.length → (El.fn (Rv.elemOf [.i64] rows_17)).at i = Rv.elemOf [.i64] rows_22 i) ∧ ∃
  (rows_23 : List (List Int)), Ob (List.length a.R = List.length a.R ∧ rows_23.length = List.length a.R ∧ (∀ (r : List Int), r ∈ rows_23 → r.length = (1 : Nat)) ∧ ∀ (i : Nat), i < List.length a.R → (El.fn (Rv.elemOf [.i64]
  a.R)).at i = Rv.elemOf [.i64] rows_23 i) ∧ Ob (rows_22.length ≤ (4000000 : Nat) ∧ rows_23.length ≤ (4000000 : Nat)) ∧ (¬samTo 1 rows_22 rows_23 rows_22.length → False) ∧ (¬¬samTo 1 rows_22 rows_23 rows_22.length → Ob
  (hasTabs [] B) ∧ True)) ∧ (¬samTo 1 rows_20 rows_21 rows_20.length → False)) ∧ (¬v_10 = v_11 → False))))) ∧ (¬samTo 1 rows_13 rows_14 rows_13.length → False)) ∧ (¬v_8 = v_9 → False))))) ∧ (¬samTo 1 rows_6 rows_7
  rows_6.length → False)) ∧ (¬v_6 = v_7 → False)))))

set_option linter.unusedSimpArgs false in
set_option maxRecDepth 4000 in
set_option maxHeartbeats 8000000 in
theorem v_law : V_law := by
  unfold V_law
  intro B htab q xt T hx hox hr xz N hz hoz hrz hN
  have hN : N.length ≤ 9223372036854775807 := hN
  refine ⟨⟨hx⟩, fun _ => ⟨⟨htab⟩, trivial⟩, fun hT => ?_⟩
  have hT : T.length ≤ 20 := by omega
  refine ⟨N, ⟨⟨hz, rfl, hrz, fun _ _ => rfl⟩⟩, ⟨hN⟩, ?_⟩
  obtain ⟨a, ha⟩ : ∃ a, tideK N N.length = a := ⟨_, rfl⟩
  rw [ha]
  clear ha
  refine ⟨⟨by show (7 : Int) ≤ 9223372036854775807; omega⟩, ?_⟩
  intro v hv v1 hv1
  have b1 : 0 ≤ v1 ∧ v1 ≤ 6 := by
    have h := belowV_in a 7
    rw [← hv1] at h
    clear hv hv1
    omega
  clear hv hv1
  constructor
  · refine ⟨⟨v1, v, []⟩, ⟨⟨by show ((0 : Nat) : Int) + v1 ≤ 6; omega, b1.1, fun r h => by simp at h⟩⟩, ?_⟩
    dsimp only
    repeat' (with_reducible apply And.intro)
    all_goals first | exact ⟨rfl⟩ | exact ⟨hx⟩ | exact ⟨plain_elemOf _ _ _⟩ | exact ⟨by omega⟩ | trivial
  clear b1
  clear v1 v
  intro v hv
  intros
  have l1 := hv.l
  have i1 := hv.i
  constructor
  · intro h1
    refine ⟨⟨by show 2 ≤ 1000; omega⟩, ?_⟩
    intro v8 hv8 v9 hv9
    have b9 : v9 = 4 ∨ v9 = 41 := by rw [hv9]; exact ofV_two _ _ _
    clear hv8 hv9
    refine ⟨⟨by show v9 ≤ 9223372036854775807; omega⟩, ?_⟩
    intro v10 hv10 v11 hv11
    clear hv10 hv11
    have hsn := snoc1' (R := v.R) (x := v11) rfl
    have hlen : (v.R ++ [[v11]]).length = v.R.length + 1 := by simp
    rw [← hlen] at hsn
    have hok : (Ow.mk (v.i - 1) v10 (v.R ++ [[v11]])).Ok := by
      refine ⟨by show ((v.R ++ [[v11]]).length : Int) + (v.i - 1) ≤ 6; omega, by show 0 ≤ v.i - 1; omega, ?_⟩
      intro r hr
      rcases List.mem_append.1 hr with h | h
      · exact hv.r r h
      · rw [List.mem_singleton.1 h]; rfl
    refine ⟨⟨rfl, fun i hi => rfl⟩, ⟨by omega⟩, ⟨rfl⟩, ⟨by simp only [InR]; omega⟩, ⟨v.i - 1, v10, v.R ++ [[v11]]⟩, ⟨⟨hok, by show (v.i - 1).toNat < v.i.toNat; omega⟩⟩, ?_⟩
    dsimp only
    repeat' (with_reducible apply And.intro)
    all_goals first | exact ⟨rfl⟩ | exact ⟨hx⟩ | exact ⟨plain_elemOf _ _ _⟩ | exact ⟨hlen.symm⟩ | exact ⟨⟨hlen.symm, hsn⟩⟩ | exact ⟨by omega⟩ | trivial
  intro h1
  have hR : v.R.length ≤ 6 := by omega
  have hvr := hv.r
  refine ⟨⟨by show 2 ≤ 1000; omega⟩, ?_⟩
  intro v8 hv8 v9 hv9
  have b9 : v9 = 10 ∨ v9 = 200 := by rw [hv9]; exact ofV_two _ _ _
  clear hv8 hv9
  refine ⟨⟨by show v9 ≤ 9223372036854775807; omega⟩, ?_⟩
  intro v10 hv10 v11 hv11
  clear hv10 hv11
  refine ⟨⟨hox⟩, T, ⟨⟨hx, rfl, hr, fun _ _ => rfl⟩⟩, ⟨show T.length ≤ 4000000 by omega⟩, T, ⟨⟨rfl, rfl, hr, fun _ _ => rfl⟩⟩, ⟨show T.length ≤ 4000000 by omega⟩, fun c => ?_, fun c => ?_⟩
  intro w1 hw1
  refine ⟨⟨hx⟩, T, ⟨⟨hx, rfl, hr, fun _ _ => rfl⟩⟩, ⟨show T.length ≤ 4000000 by omega⟩, fun d => ?_, fun d => absurd c d⟩
  intro w2 hw2
  refine ⟨fun _ => ⟨⟨by omega, by omega⟩, fun _ => ?_, fun h => h (sam_self _ _ _)⟩, fun h => h (hw1.trans hw2.symm)⟩
  clear hw1 hw2
  refine ⟨T, ⟨⟨rfl, rfl, hr, fun _ _ => rfl⟩⟩, T, ⟨⟨hx, rfl, hr, fun _ _ => rfl⟩⟩, ⟨⟨by omega, by omega⟩⟩, fun h => h (sam_self _ _ _), fun _ => ?_⟩
  rotate_left
  intro w1 hw1
  refine ⟨⟨hx⟩, T, ⟨⟨hx, rfl, hr, fun _ _ => rfl⟩⟩, ⟨show T.length ≤ 4000000 by omega⟩, fun d => absurd d c, fun d => ?_⟩
  intro w2 hw2
  refine ⟨⟨plain_fn1' _ _⟩, fun _ => ?_, fun h => h (hw1.trans hw2.symm)⟩
  clear hw1 hw2
  refine ⟨listD (dh T (q).toNat) T.length, ⟨⟨rfl, listD_len _ _, listD_row _ _, fun i hi => listD_at _ hi⟩⟩, listD (dh T (q).toNat) T.length, ⟨⟨rfl, listD_len _ _, listD_row _ _, fun i hi => listD_at _ hi⟩⟩, ⟨⟨by rw [listD_len]; omega, by rw [listD_len]; omega⟩⟩, fun _ => ?_, fun h => h (sam_self _ _ _)⟩
  refine ⟨T, ⟨⟨rfl, rfl, hr, fun _ _ => rfl⟩⟩, T, ⟨⟨hx, rfl, hr, fun _ _ => rfl⟩⟩, ⟨⟨by omega, by omega⟩⟩, fun h => h (sam_self _ _ _), fun _ => ?_⟩
  rotate_left
  all_goals (
    refine ⟨v.R, ⟨⟨rfl, rfl, hvr, fun _ _ => rfl⟩⟩, ⟨show v.R.length ≤ 4000000 by omega⟩, v.R, ⟨⟨rfl, rfl, hvr, fun _ _ => rfl⟩⟩, ⟨show v.R.length ≤ 4000000 by omega⟩, fun c => ?_, fun c => ?_⟩
    intro w1 hw1
    refine ⟨v.R, ⟨⟨rfl, rfl, hvr, fun _ _ => rfl⟩⟩, ⟨show v.R.length ≤ 4000000 by omega⟩, fun d => ?_, fun d => absurd c d⟩
    intro w2 hw2
    refine ⟨fun _ => ⟨⟨by omega, by omega⟩, fun _ => ?_, fun h => h (sam_self _ _ _)⟩, fun h => h (hw1.trans hw2.symm)⟩
    clear hw1 hw2
    refine ⟨v.R, ⟨⟨rfl, rfl, hvr, fun _ _ => rfl⟩⟩, v.R, ⟨⟨rfl, rfl, hvr, fun _ _ => rfl⟩⟩, ⟨⟨by omega, by omega⟩⟩, fun h => h (sam_self _ _ _), fun _ => ?_⟩
    rotate_left
    intro w1 hw1
    refine ⟨v.R, ⟨⟨rfl, rfl, hvr, fun _ _ => rfl⟩⟩, ⟨show v.R.length ≤ 4000000 by omega⟩, fun d => absurd d c, fun d => ?_⟩
    intro w2 hw2
    refine ⟨⟨plain_fn1' _ _⟩, fun _ => ?_, fun h => h (hw1.trans hw2.symm)⟩
    clear hw1 hw2
    refine ⟨listD (dh v.R (v11).toNat) v.R.length, ⟨⟨rfl, listD_len _ _, listD_row _ _, fun i hi => listD_at _ hi⟩⟩, listD (dh v.R (v11).toNat) v.R.length, ⟨⟨rfl, listD_len _ _, listD_row _ _, fun i hi => listD_at _ hi⟩⟩, ⟨⟨by rw [listD_len]; omega, by rw [listD_len]; omega⟩⟩, fun _ => ?_, fun h => h (sam_self _ _ _)⟩
    refine ⟨v.R, ⟨⟨rfl, rfl, hvr, fun _ _ => rfl⟩⟩, v.R, ⟨⟨rfl, rfl, hvr, fun _ _ => rfl⟩⟩, ⟨⟨by omega, by omega⟩⟩, fun h => h (sam_self _ _ _), fun _ => ?_⟩
    rotate_left
    )
  all_goals (
    refine ⟨v.R, ⟨⟨rfl, rfl, hvr, fun _ _ => rfl⟩⟩, ⟨show v.R.length ≤ 4000000 by omega⟩, v.R, ⟨⟨rfl, rfl, hvr, fun _ _ => rfl⟩⟩, ⟨show v.R.length ≤ 4000000 by omega⟩, fun c => ?_, fun c => ?_⟩
    intro w1 hw1
    refine ⟨v.R, ⟨⟨rfl, rfl, hvr, fun _ _ => rfl⟩⟩, ⟨show v.R.length ≤ 4000000 by omega⟩, fun d => ?_, fun d => absurd c d⟩
    intro w2 hw2
    refine ⟨fun _ => ⟨⟨by omega, by omega⟩, fun _ => ?_, fun h => h (sam_self _ _ _)⟩, fun h => h (hw1.trans hw2.symm)⟩
    clear hw1 hw2
    refine ⟨v.R, ⟨⟨rfl, rfl, hvr, fun _ _ => rfl⟩⟩, v.R, ⟨⟨rfl, rfl, hvr, fun _ _ => rfl⟩⟩, ⟨⟨by omega, by omega⟩⟩, fun h => h (sam_self _ _ _), fun _ => ?_⟩
    rotate_left
    intro w1 hw1
    refine ⟨v.R, ⟨⟨rfl, rfl, hvr, fun _ _ => rfl⟩⟩, ⟨show v.R.length ≤ 4000000 by omega⟩, fun d => absurd d c, fun d => ?_⟩
    intro w2 hw2
    refine ⟨⟨plain_fn1' _ _⟩, fun _ => ?_, fun h => h (hw1.trans hw2.symm)⟩
    clear hw1 hw2
    refine ⟨listD (dh v.R (q).toNat) v.R.length, ⟨⟨rfl, listD_len _ _, listD_row _ _, fun i hi => listD_at _ hi⟩⟩, listD (dh v.R (q).toNat) v.R.length, ⟨⟨rfl, listD_len _ _, listD_row _ _, fun i hi => listD_at _ hi⟩⟩, ⟨⟨by rw [listD_len]; omega, by rw [listD_len]; omega⟩⟩, fun _ => ?_, fun h => h (sam_self _ _ _)⟩
    refine ⟨v.R, ⟨⟨rfl, rfl, hvr, fun _ _ => rfl⟩⟩, v.R, ⟨⟨rfl, rfl, hvr, fun _ _ => rfl⟩⟩, ⟨⟨by omega, by omega⟩⟩, fun h => h (sam_self _ _ _), fun _ => ?_⟩
    rotate_left
    )
  all_goals exact ⟨⟨htab⟩, trivial⟩

theorem e_law : V_law = needL P [F_SameInts] [F_TideOf.named, F_Below.named, F_Of.named, F_Ints.named, F_ShareA.named, F_ShareR.named] 5 ([] : Tabs) A_law F_law := by kernel_rfl

theorem n_law : Ob (needL P [F_SameInts] [F_TideOf.named, F_Below.named, F_Of.named, F_Ints.named, F_ShareA.named, F_ShareR.named] 5 ([] : Tabs) A_law F_law) := by
  rw [← e_law]
  exact ⟨v_law⟩

theorem l_law : (([F_SameInts] : List Fn0).all fun G => !Nat.beq G.g 5) = true := rfl
theorem le_law : ([F_TideOf.named, F_Below.named, F_Of.named, F_Ints.named, F_ShareA.named, F_ShareR.named].all fun G => !Nat.beq G.g 5) = true := rfl
theorem c_law : ∀ F ∈ ([F_SameInts] : List Fn0), F.Ok P := by
  intro F h
  simp only [List.mem_cons, List.not_mem_nil, or_false] at h
  rcases h with rfl
  · exact SameInts_ok

theorem ce_law : ∀ F ∈ [F_TideOf.named, F_Below.named, F_Of.named, F_Ints.named, F_ShareA.named, F_ShareR.named], F.Ok P := by
  intro F h
  simp only [List.mem_cons, List.not_mem_nil, or_false] at h
  rcases h with rfl | rfl | rfl | rfl | rfl | rfl
  · exact TideOf_ok.named
  · exact Below_ok.named
  · exact Of_ok.named
  · exact Ints_ok.named
  · exact ShareA_ok.named
  · exact ShareR_ok.named

end Go.Proofs.Ytpnnknhenhnmhaa.Sy
