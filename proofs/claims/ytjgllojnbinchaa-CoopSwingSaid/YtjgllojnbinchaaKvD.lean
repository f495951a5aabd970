/- Motions: who may still decide. -/
import Derived.Test.YtjgllojnbinchaaSyP2
import Derived.Test.YtjgllojnbinchaaGrM
import Derived.Test.YtjgllojnbinchaaStM
import Derived.Test.YtjgllojnbinchaaVtM
import Derived.Test.YtjgllojnbinchaaKvM
import Derived.Test.YtjgllojnbinchaaKvN
import Derived.Test.YtjgllojnbinchaaKtT
import Derived.Test.YtjgllojnbinchaaKtA
import Derived.Test.YtjgllojnbinchaaKtB
import Derived.Test.YtjgllojnbinchaaKtS
import Derived.Test.YtjgllojnbinchaaKtM
import Derived.Test.YtjgllojnbinchaaKtN
import Derived.Test.YtjgllojnbinchaaKvB
import Derived.Test.YtjgllojnbinchaaKvC
import Derived.Test.YtjgllojnbinchaaSyP2
import Derived.KernelRfl
import Derived.Test.YtjgllojnbinchaaProg
namespace Go.Proofs.Ytjgllojnbinchaa.Sy
open Go Go.Rv
set_option linter.unusedVariables false

noncomputable def F_turnsOn : FnE := ⟨41, none, [.agg [.l [.i64], .l [.i64], .i .i64], i64], fun l => match l with | [.l W, .l V, .z need, .z mem] => MotOk W V need ∧ 0 ≤ mem ∧ mem < W.length ∧ cell V mem.toNat 0 = 0 | _ => False, fun l => match l with | [.l W, .l V, .z need, .z mem] => [.p (swg W V need mem.toNat)] | _ => [], fun l => match l with | [.l W, .l V, .z need, .z mem] => [] | _ => [], fun l => match l with | [.l W, .l V, .z need, .z mem] => [] | _ => [], false, none⟩
noncomputable def A_turnsOn : List SV → List Dat → Nat → List SV → Ann := fun _ _ _ _ => noAnn
noncomputable def A_turnsOn_1 : List SV → List Dat → List SV → List SObj → Nat → List SV → Ann := fun _ _ _ _ _ _ => noAnn
noncomputable def A_turnsOn_2 : List SV → List Dat → List SV → List SObj → Nat → List SV → Ann := fun xs ds ar bs n ts => match xs with
  | [.agg [.lst xw _ _ _, .lst xv _ _ _, .i _ _], .i _ _] => match ds with
    | [.l W, .l V, .z need, .z mem] => match n with
      | 2 => ⟨Nat, fun k => [some (SV.yl ((5 : Nat))), some (SV.ptr ((3 : Nat)) ((0 : Nat))), none, some (.gsl 6 (opnN V k) 1 true), none, none, none, none, none, none, none, some (SV.lst xv V.length ((1 : Nat)) (Rv.elemOf [IntKind.i64] V)), some (SV.i IntKind.i64 (↑V.length : Int)), some (.i .i64 k), none, none, none, none, none, none, none, none, none, none, none, none, none, none, none, none, none, none, none, none, none, none, none, none, none, none, none, none, none, none, none, none, none, none, none, none, none, none, none, none, none, none, none, none], fun k => [.gr (opnN V k) 1 (.fn (Rv.elemOf [.i64] (undR V k))) .gr true, .dead, SObj.dead, SObj.cells [SV.lst xw W.length ((1 : Nat)) (Rv.elemOf [IntKind.i64] W), SV.lst xv V.length ((1 : Nat)) (Rv.elemOf [IntKind.i64] V), SV.i IntKind.i64 need] Kd.ex, SObj.cells [SV.v (Value.bool false)] Kd.ex, SObj.cells [SV.i IntKind.i64 mem] Kd.ex, SObj.cells [SV.lst xw W.length ((1 : Nat)) (Rv.elemOf [IntKind.i64] W), SV.lst xv V.length ((1 : Nat)) (Rv.elemOf [IntKind.i64] V), SV.i IntKind.i64 need] Kd.ex], fun k => k ≤ V.length, fun k => V.length - k, 0⟩
      | 8 => ⟨Nat, fun w => [some (SV.yl ((5 : Nat))), some (SV.ptr ((3 : Nat)) ((0 : Nat))), none, some (.gsl 6 (opnN V V.length) 1 true), none, none, none, none, none, none, none, none, none, none, none, none, none, none, none, none, none, none, none, none, none, none, none, some (.i .i64 (1 * 2 ^ ((opnN V V.length : Nat) : Int).toNat)), some (.i .i64 w), none, none, none, none, none, none, none, none, none, none, none, none, none, none, none, none, none, none, none, none, none, none, none, none, none, none, none, none, none], fun w => [.gr (opnN V V.length) 1 (.fn (Rv.elemOf [.i64] (undR V V.length))) .gr true, .dead, SObj.dead, SObj.cells [SV.lst xw W.length ((1 : Nat)) (Rv.elemOf [IntKind.i64] W), SV.lst xv V.length ((1 : Nat)) (Rv.elemOf [IntKind.i64] V), SV.i IntKind.i64 need] Kd.ex, SObj.cells [SV.v (Value.bool false)] Kd.ex, SObj.cells [SV.i IntKind.i64 mem] Kd.ex, SObj.cells [SV.lst xw W.length ((1 : Nat)) (Rv.elemOf [IntKind.i64] W), SV.lst xv V.length ((1 : Nat)) (Rv.elemOf [IntKind.i64] V), SV.i IntKind.i64 need] Kd.ex], fun w => w ≤ 2 ^ (opnN V V.length) ∧ ∀ s, s < w → ¬ trn W V need mem.toNat s, fun w => 2 ^ (opnN V V.length) - w, 0⟩
      | 12 => (match lget ts 6 with | some (SV.i _ w0) => ⟨Nat, fun i => [some (SV.yl ((5 : Nat))), some (SV.ptr ((3 : Nat)) ((0 : Nat))), none, some (SV.gsl ((6 : Nat)) (opnN V V.length) ((1 : Nat)) true), none, none, some (SV.i IntKind.i64 w0), some (.gsl 7 V.length 1 false), none, none, none, none, none, none, none, none, none, none, none, none, none, none, none, none, none, none, none, some (SV.i IntKind.i64 ((1 : Int) * (2 : Int) ^ (↑(opnN V V.length) : Int).toNat)), some (.i .i64 w0), none, none, none, none, none, some (SV.gsl ((6 : Nat)) (opnN V V.length) ((1 : Nat)) true), some (SV.i IntKind.i64 (↑(opnN V V.length) : Int)), some (.i .i64 i), none, none, none, none, none, none, none, none, none, none, none, none, none, none, none, none, none, none, none, none, none], fun i => [.gr V.length 1 (.fn fun k => [.i .i64 (wayP V w0.toNat i k)]) .gr false, SObj.gr (opnN V V.length) ((1 : Nat)) (El.fn (Rv.elemOf [IntKind.i64] (undR V V.length))) Kd.gr true, .dead, SObj.dead, SObj.cells [SV.lst xw W.length ((1 : Nat)) (Rv.elemOf [IntKind.i64] W), SV.lst xv V.length ((1 : Nat)) (Rv.elemOf [IntKind.i64] V), SV.i IntKind.i64 need] Kd.ex, SObj.cells [SV.v (Value.bool false)] Kd.ex, SObj.cells [SV.i IntKind.i64 mem] Kd.ex, SObj.cells [SV.lst xw W.length ((1 : Nat)) (Rv.elemOf [IntKind.i64] W), SV.lst xv V.length ((1 : Nat)) (Rv.elemOf [IntKind.i64] V), SV.i IntKind.i64 need] Kd.ex], fun i => i ≤ opnN V V.length, fun i => opnN V V.length - i, 0⟩ | _ => noAnn)
      | _ => noAnn
    | _ => noAnn
  | _ => noAnn
noncomputable def I_turnsOn : List SV → List Dat → List In := fun xs ds => [⟨38, A_turnsOn_1 xs ds⟩, ⟨55, A_turnsOn_2 xs ds⟩]

def V_turnsOn : Prop :=
  ∀ (B : RW) (x : RV) (rows : List (List Int)), IsLst B x rows.length 1 (Rv.elemOf [.i64] rows) → oneB x = true → (∀ (row : List Int), row ∈ rows → row.length = (1 : Nat)) → ∀ (x_1 : RV) (rows_1 : List (List Int)), IsLst B
  x_1 rows_1.length 1 (Rv.elemOf [.i64] rows_1) → oneB x_1 = true → (∀ (row : List Int), row ∈ rows_1 → row.length = (1 : Nat)) → ∀ (n n_1 : Int), F_turnsOn.pre ([Dat.l rows, Dat.l rows_1, Dat.z n] ++ ([Dat.z n_1] ++ []))
  → ∀ (R : LR), R.b = B.n + (5 : Nat) → Ob (IsLst B x_1 rows_1.length 1 (Rv.elemOf [.i64] rows_1)) ∧ (∃ (a : Nat), Ob (a ≤ rows_1.length) ∧ Ob (opnN rows_1 a = (0 : Nat)) ∧ Ob (SV.lst x_1 rows_1.length 1 (Rv.elemOf [.i64]
  rows_1) = SV.lst x_1 rows_1.length 1 (Rv.elemOf [.i64] rows_1)) ∧ Ob ((↑rows_1.length : Int) = (↑rows_1.length : Int)) ∧ Ob ((0 : Int) = (↑a : Int)) ∧ Ob (opnN rows_1 a = (0 : Nat)) ∧ Ob (R = R) ∧ Ob (SV.lst x
  rows.length 1 (Rv.elemOf [.i64] rows) = SV.lst x rows.length 1 (Rv.elemOf [.i64] rows)) ∧ Ob (SV.lst x_1 rows_1.length 1 (Rv.elemOf [.i64] rows_1) = SV.lst x_1 rows_1.length 1 (Rv.elemOf [.i64] rows_1)) ∧ Ob (n = n) ∧ Ob
  (SV.v (Value.bool false) = SV.v (Value.bool false)) ∧ Ob (n_1 = n_1) ∧ Ob (SV.lst x rows.length 1 (Rv.elemOf [.i64] rows) = SV.lst x rows.length 1 (Rv.elemOf [.i64] rows)) ∧ Ob (SV.lst x_1 rows_1.length 1 (Rv.elemOf
  [.i64] rows_1) = SV.lst x_1 rows_1.length 1 (Rv.elemOf [.i64] rows_1)) ∧ Ob (n = n) ∧ Ob (IsLst B x_1 rows_1.length 1 (Rv.elemOf [.i64] rows_1)) ∧ Ob (PlainE (opnN rows_1 a) (El.fn (Rv.elemOf [.i64] (undR rows_1 a)))) ∧
  Ob (R.b ≤ B.n + (6 : Nat)) ∧ Ob (IsLst B x rows.length 1 (Rv.elemOf [.i64] rows)) ∧ Ob (IsLst B x_1 rows_1.length 1 (Rv.elemOf [.i64] rows_1)) ∧ Ob (IsLst B x rows.length 1 (Rv.elemOf [.i64] rows)) ∧ Ob (IsLst B x_1
  rows_1.length 1 (Rv.elemOf [.i64] rows_1)) ∧ True) ∧ ∀ (a : Nat), a ≤ rows_1.length → ∀ (z z_1 z_2 z_3 z_4 z_5 z_6 z_7 z_8 z_9 z_10 z_11 z_12 z_13 z_14 z_15 z_16 z_17 z_18 z_19 z_20 z_21 z_22 z_23 z_24 z_25 z_26 z_27
  z_28 z_29 z_30 z_31 z_32 z_33 z_34 z_35 z_36 z_37 z_38 z_39 z_40 z_41 z_42 z_43 z_44 z_45 z_46 z_47 z_48 z_49 z_50 z_51 : Value), ((↑a : Int) < (↑rows_1.length : Int) → Ob ((0 : Int) ≤ (↑a : Int) ∧ a < rows_1.length ∧
  IsLst B x_1 rows_1.length 1 (Rv.elemOf [.i64] rows_1)) ∧ Ob (IsLst B x_1 rows_1.length 1 (Rv.elemOf [.i64] rows_1) ∧ a < rows_1.length) ∧ (cell rows_1 a 0 = (0 : Int) → Ob (opnN rows_1 a = opnN rows_1 a ∧ ∀ (i : Nat), i
  < opnN rows_1 a → ((El.fn (Rv.elemOf [.i64] (undR rows_1 a))).at i).length = (1 : Nat)) ∧ Ob ((opnN rows_1 a + (1 : Nat)) * (2 : Nat) * (9 : Nat) ≤ (1099511627776 : Nat)) ∧ Ob (opnN rows_1 a = opnN rows_1 a) ∧ Ob (InR
  .i64 ((↑a : Int) + (1 : Int))) ∧ ∃ (a' : Nat), Ob (a' ≤ rows_1.length ∧ rows_1.length - a' < rows_1.length - a) ∧ Ob (opnN rows_1 a + (1 : Nat) = opnN rows_1 a') ∧ Ob (SV.lst x_1 rows_1.length 1 (Rv.elemOf [.i64] rows_1)
  = SV.lst x_1 rows_1.length 1 (Rv.elemOf [.i64] rows_1)) ∧ Ob ((↑rows_1.length : Int) = (↑rows_1.length : Int)) ∧ Ob ((↑a : Int) + (1 : Int) = (↑a' : Int)) ∧ Ob (opnN rows_1 a + (1 : Nat) = opnN rows_1 a' ∧ ∀ (i : Nat), i
  < opnN rows_1 a' → (behind (opnN rows_1 a) (El.fn (Rv.elemOf [.i64] (undR rows_1 a))) 1 (litEl [SV.i .i64 (↑a : Int)] 1 1)).at i = (El.fn (Rv.elemOf [.i64] (undR rows_1 a'))).at i) ∧ Ob (R = R) ∧ Ob (SV.lst x rows.length
  1 (Rv.elemOf [.i64] rows) = SV.lst x rows.length 1 (Rv.elemOf [.i64] rows)) ∧ Ob (SV.lst x_1 rows_1.length 1 (Rv.elemOf [.i64] rows_1) = SV.lst x_1 rows_1.length 1 (Rv.elemOf [.i64] rows_1)) ∧ Ob (n = n) ∧ Ob (SV.v
  (Value.bool false) = SV.v (Value.bool false)) ∧ Ob (n_1 = n_1) ∧ Ob (SV.lst x rows.length 1 (Rv.elemOf [.i64] rows) = SV.lst x rows.length 1 (Rv.elemOf [.i64] rows)) ∧ Ob (SV.lst x_1 rows_1.length 1 (Rv.elemOf [.i64]
  rows_1) = SV.lst x_1 rows_1.length 1 (Rv.elemOf [.i64] rows_1)) ∧ Ob (n = n) ∧ Ob (IsLst B x_1 rows_1.length 1 (Rv.elemOf [.i64] rows_1)) ∧ Ob (PlainE (opnN rows_1 a') (El.fn (Rv.elemOf [.i64] (undR rows_1 a')))) ∧ Ob
  (R.b ≤ B.n + (6 : Nat)) ∧ Ob (IsLst B x rows.length 1 (Rv.elemOf [.i64] rows)) ∧ Ob (IsLst B x_1 rows_1.length 1 (Rv.elemOf [.i64] rows_1)) ∧ Ob (IsLst B x rows.length 1 (Rv.elemOf [.i64] rows)) ∧ Ob (IsLst B x_1
  rows_1.length 1 (Rv.elemOf [.i64] rows_1)) ∧ True) ∧ (¬cell rows_1 a 0 = (0 : Int) → Ob (InR .i64 ((↑a : Int) + (1 : Int))) ∧ ∃ (a' : Nat), Ob (a' ≤ rows_1.length ∧ rows_1.length - a' < rows_1.length - a) ∧ Ob (opnN
  rows_1 a = opnN rows_1 a') ∧ Ob (SV.lst x_1 rows_1.length 1 (Rv.elemOf [.i64] rows_1) = SV.lst x_1 rows_1.length 1 (Rv.elemOf [.i64] rows_1)) ∧ Ob ((↑rows_1.length : Int) = (↑rows_1.length : Int)) ∧ Ob ((↑a : Int) + (1 :
  Int) = (↑a' : Int)) ∧ Ob (opnN rows_1 a = opnN rows_1 a' ∧ ∀ (i : Nat), i < opnN rows_1 a' → (El.fn (Rv.elemOf [.i64] (undR rows_1 a))).at i = (El.fn (Rv.elemOf [.i64] (undR rows_1 a'))).at i) ∧ Ob (R = R) ∧ Ob (SV.lst x
  rows.length 1 (Rv.elemOf [.i64] rows) = SV.lst x rows.length 1 (Rv.elemOf [.i64] rows)) ∧ Ob (SV.lst x_1 rows_1.length 1 (Rv.elemOf [.i64] rows_1) = SV.lst x_1 rows_1.length 1 (Rv.elemOf [.i64] rows_1)) ∧ Ob (n = n) ∧ Ob
  (SV.v (Value.bool false) = SV.v (Value.bool false)) ∧ Ob (n_1 = n_1) ∧ Ob (SV.lst x rows.length 1 (Rv.elemOf [.i64] rows) = SV.lst x rows.length 1 (Rv.elemOf [.i64] rows)) ∧ Ob (SV.lst x_1 rows_1.length 1 (Rv.elemOf
  [.i64] rows_1) = SV.lst x_1 rows_1.length 1 (Rv.elemOf [.i64] rows_1)) ∧ Ob (n = n) ∧ Ob (IsLst B x_1 rows_1.length 1 (Rv.elemOf [.i64] rows_1)) ∧ Ob (PlainE (opnN rows_1 a') (El.fn (Rv.elemOf [.i64] (undR rows_1 a'))))
  ∧ Ob (R.b ≤ B.n + (6 : Nat)) ∧ Ob (IsLst B x rows.length 1 (Rv.elemOf [.i64] rows)) ∧ Ob (IsLst B x_1 rows_1.length 1 (Rv.elemOf [.i64] rows_1)) ∧ Ob (IsLst B x rows.length 1 (Rv.elemOf [.i64] rows)) ∧ Ob (IsLst B x_1
  rows_1.length 1 (Rv.elemOf [.i64] rows_1)) ∧ True)) ∧ (¬(↑a : Int) < (↑rows_1.length : Int) → Ob ((0 : Int) ≤ (1 : Int) ∧ (0 : Int) ≤ (↑(opnN rows_1 a) : Int) ∧ (↑(opnN rows_1 a) : Int) ≤ (↑64 : Int) ∧ InR .i64 ((1 :
  Int) * (2 : Int) ^ (↑(opnN rows_1 a) : Int).toNat)) ∧ (∃ (a_1 : Nat), Ob (a_1 ≤ (2 : Nat) ^ opnN rows_1 rows_1.length ∧ ∀ (s : Nat), s < a_1 → ¬trn rows rows_1 n n_1.toNat s) ∧ Ob (opnN rows_1 a = opnN rows_1
  rows_1.length) ∧ Ob ((1 : Int) * (2 : Int) ^ (↑(opnN rows_1 a) : Int).toNat = (1 : Int) * (2 : Int) ^ (↑(opnN rows_1 rows_1.length) : Int).toNat) ∧ Ob ((0 : Int) = (↑a_1 : Int)) ∧ Ob (opnN rows_1 a = opnN rows_1
  rows_1.length ∧ ∀ (i : Nat), i < opnN rows_1 rows_1.length → (El.fn (Rv.elemOf [.i64] (undR rows_1 a))).at i = (El.fn (Rv.elemOf [.i64] (undR rows_1 rows_1.length))).at i) ∧ Ob (R = R) ∧ Ob (SV.lst x rows.length 1
  (Rv.elemOf [.i64] rows) = SV.lst x rows.length 1 (Rv.elemOf [.i64] rows)) ∧ Ob (SV.lst x_1 rows_1.length 1 (Rv.elemOf [.i64] rows_1) = SV.lst x_1 rows_1.length 1 (Rv.elemOf [.i64] rows_1)) ∧ Ob (n = n) ∧ Ob (SV.v
  (Value.bool false) = SV.v (Value.bool false)) ∧ Ob (n_1 = n_1) ∧ Ob (SV.lst x rows.length 1 (Rv.elemOf [.i64] rows) = SV.lst x rows.length 1 (Rv.elemOf [.i64] rows)) ∧ Ob (SV.lst x_1 rows_1.length 1 (Rv.elemOf [.i64]
  rows_1) = SV.lst x_1 rows_1.length 1 (Rv.elemOf [.i64] rows_1)) ∧ Ob (n = n) ∧ Ob (PlainE (opnN rows_1 rows_1.length) (El.fn (Rv.elemOf [.i64] (undR rows_1 rows_1.length)))) ∧ Ob (R.b ≤ B.n + (6 : Nat)) ∧ Ob (IsLst B x
  rows.length 1 (Rv.elemOf [.i64] rows)) ∧ Ob (IsLst B x_1 rows_1.length 1 (Rv.elemOf [.i64] rows_1)) ∧ Ob (IsLst B x rows.length 1 (Rv.elemOf [.i64] rows)) ∧ Ob (IsLst B x_1 rows_1.length 1 (Rv.elemOf [.i64] rows_1)) ∧
  True) ∧ ∀ (a_1 : Nat), (a_1 ≤ (2 : Nat) ^ opnN rows_1 rows_1.length ∧ ∀ (s : Nat), s < a_1 → ¬trn rows rows_1 n n_1.toNat s) → ∀ (z_52 z_53 z_54 z_55 z_56 z_57 z_58 z_59 z_60 z_61 z_62 z_63 z_64 z_65 z_66 z_67 z_68 z_69
  z_70 z_71 z_72 z_73 z_74 z_75 z_76 z_77 z_78 z_79 z_80 z_81 z_82 z_83 z_84 z_85 z_86 z_87 z_88 z_89 z_90 z_91 z_92 z_93 z_94 z_95 z_96 z_97 z_98 z_99 z_100 z_101 z_102 z_103 z_104 : Value), ((↑a_1 : Int) < (1 : Int) * (2
  : Int) ^ (↑(opnN rows_1 rows_1.length) : Int).toNat → ∃ (rows_2 : List (List Int)), Ob (IsLst B x_1 rows_1.length 1 (Rv.elemOf [.i64] rows_1) ∧ rows_2.length = rows_1.length ∧ (∀ (r : List Int), r ∈ rows_2 → r.length =
  (1 : Nat)) ∧ ∀ (i : Nat), i < rows_1.length → Rv.elemOf [.i64] rows_1 i = Rv.elemOf [.i64] rows_2 i) ∧ Ob (F_Clone.pre [Dat.l rows_2]) ∧ (∃ (a_2 : Nat), Ob (a_2 ≤ opnN rows_1 rows_1.length) ∧ Ob (opnN rows_1
  rows_1.length = opnN rows_1 rows_1.length) ∧ Ob ((↑a_1 : Int) = (↑a_1 : Int)) ∧ Ob (rows_2.length = rows_1.length) ∧ Ob ((1 : Int) * (2 : Int) ^ (↑(opnN rows_1 rows_1.length) : Int).toNat = (1 : Int) * (2 : Int) ^
  (↑(opnN rows_1 rows_1.length) : Int).toNat) ∧ Ob ((↑a_1 : Int) = (↑a_1 : Int)) ∧ Ob (opnN rows_1 rows_1.length = opnN rows_1 rows_1.length) ∧ Ob ((↑(opnN rows_1 rows_1.length) : Int) = (↑(opnN rows_1 rows_1.length) :
  Int)) ∧ Ob ((0 : Int) = (↑a_2 : Int)) ∧ Ob (rows_2.length = rows_1.length ∧ ∀ (i : Nat), i < rows_1.length → (El.fn (Rv.elemOf [.i64] rows_2)).at i = (El.fn fun (k : Nat) ↦ [SV.i .i64 (wayP rows_1 a_1 a_2 k)]).at i) ∧ Ob
  (opnN rows_1 rows_1.length = opnN rows_1 rows_1.length ∧ ∀ (i : Nat), i < opnN rows_1 rows_1.length → (El.fn (Rv.elemOf [.i64] (undR rows_1 rows_1.length))).at i = (El.fn (Rv.elemOf [.i64] (undR rows_1
  rows_1.length))).at i) ∧ Ob (R = R) ∧ Ob (SV.lst x rows.length 1 (Rv.elemOf [.i64] rows) = SV.lst x rows.length 1 (Rv.elemOf [.i64] rows)) ∧ Ob (SV.lst x_1 rows_1.length 1 (Rv.elemOf [.i64] rows_1) = SV.lst x_1
  rows_1.length 1 (Rv.elemOf [.i64] rows_1)) ∧ Ob (n = n) ∧ Ob (SV.v (Value.bool false) = SV.v (Value.bool false)) ∧ Ob (n_1 = n_1) ∧ Ob (SV.lst x rows.length 1 (Rv.elemOf [.i64] rows) = SV.lst x rows.length 1 (Rv.elemOf
  [.i64] rows)) ∧ Ob (SV.lst x_1 rows_1.length 1 (Rv.elemOf [.i64] rows_1) = SV.lst x_1 rows_1.length 1 (Rv.elemOf [.i64] rows_1)) ∧ Ob (n = n) ∧ Ob (PlainE rows_1.length (El.fn fun (k : Nat) ↦ [SV.i .i64 (wayP rows_1 a_1
  a_2 k)])) ∧ Ob (PlainE (opnN rows_1 rows_1.length) (El.fn (Rv.elemOf [.i64] (undR rows_1 rows_1.length)))) ∧ Ob (R.b ≤ B.n + (6 : Nat)) ∧ Ob (IsLst B x rows.length 1 (Rv.elemOf [.i64] rows)) ∧ Ob (IsLst B x_1
  rows_1.length 1 (Rv.elemOf [.i64] rows_1)) ∧ Ob (IsLst B x rows.length 1 (Rv.elemOf [.i64] rows)) ∧ Ob (IsLst B x_1 rows_1.length 1 (Rv.elemOf [.i64] rows_1)) ∧ True) ∧ ∀ (a_2 : Nat), a_2 ≤ opnN rows_1 rows_1.length → ∀
  (z_105 z_106 z_107 z_108 z_109 z_110 z_111 z_112 z_113 z_114 z_115 z_116 z_117 z_118 z_119 z_120 z_121 z_122 z_123 z_124 z_125 z_126 z_127 z_128 z_129 z_130 z_131 z_132 z_133 z_134 z_135 z_136 z_137 z_138 z_139 z_140
  z_141 z_142 z_143 z_144 z_145 z_146 z_147 z_148 z_149 z_150 z_151 z_152 : Value), ((↑a_2 : Int) < (↑(opnN rows_1 rows_1.length) : Int) → Ob ((0 : Int) ≤ (↑a_2 : Int) ∧ a_2 < opnN rows_1 rows_1.length) ∧ Ob (a_2 < opnN
  rows_1 rows_1.length) ∧ Ob ((0 : Int) ≤ cell (undR rows_1 rows_1.length) a_2 0 ∧ (cell (undR rows_1 rows_1.length) a_2 0).toNat < rows_1.length) ∧ Ob ((cell (undR rows_1 rows_1.length) a_2 0).toNat < rows_1.length ∧
  ((El.fn fun (k : Nat) ↦ [SV.i .i64 (wayP rows_1 a_1 a_2 k)]).at (cell (undR rows_1 rows_1.length) a_2 0).toNat).length = (1 : Nat)) ∧ Ob ((0 : Int) ≤ (↑a_1 : Int) ∧ (0 : Int) ≤ (↑a_2 : Int) ∧ (↑a_2 : Int) ≤ (↑64 : Int) ∧
  InR .i64 ((↑a_1 : Int) / (2 : Int) ^ a_2)) ∧ Ob ((0 : Int) ≤ (↑a_1 : Int) / (2 : Int) ^ a_2 ∧ (0 : Int) ≤ (1 : Int) ∧ InR .i64 (andI ((↑a_1 : Int) / (2 : Int) ^ a_2) (1 : Int))) ∧ (andI ((↑a_1 : Int) / (2 : Int) ^ a_2)
  (1 : Int) = (1 : Int) → Ob ((0 : Int) ≤ cell (undR rows_1 rows_1.length) a_2 0 ∧ (cell (undR rows_1 rows_1.length) a_2 0).toNat < rows_1.length) ∧ Ob ((cell (undR rows_1 rows_1.length) a_2 0).toNat < rows_1.length ∧
  ((updL (El.fn fun (k : Nat) ↦ [SV.i .i64 (wayP rows_1 a_1 a_2 k)]) (cell (undR rows_1 rows_1.length) a_2 0).toNat 0 [SV.i .i64 (1 : Int)]).at (cell (undR rows_1 rows_1.length) a_2 0).toNat).length = (1 : Nat)) ∧ Ob (InR
  .i64 ((↑a_2 : Int) + (1 : Int))) ∧ ∃ (a' : Nat), Ob (a' ≤ opnN rows_1 rows_1.length ∧ opnN rows_1 rows_1.length - a' < opnN rows_1 rows_1.length - a_2) ∧ Ob (opnN rows_1 rows_1.length = opnN rows_1 rows_1.length) ∧ Ob
  ((↑a_1 : Int) = (↑a_1 : Int)) ∧ Ob (rows_1.length = rows_1.length) ∧ Ob ((1 : Int) * (2 : Int) ^ (↑(opnN rows_1 rows_1.length) : Int).toNat = (1 : Int) * (2 : Int) ^ (↑(opnN rows_1 rows_1.length) : Int).toNat) ∧ Ob
  ((↑a_1 : Int) = (↑a_1 : Int)) ∧ Ob (opnN rows_1 rows_1.length = opnN rows_1 rows_1.length) ∧ Ob ((↑(opnN rows_1 rows_1.length) : Int) = (↑(opnN rows_1 rows_1.length) : Int)) ∧ Ob ((↑a_2 : Int) + (1 : Int) = (↑a' : Int))
  ∧ Ob (rows_1.length = rows_1.length ∧ ∀ (i : Nat), i < rows_1.length → (updL (updL (El.fn fun (k : Nat) ↦ [SV.i .i64 (wayP rows_1 a_1 a_2 k)]) (cell (undR rows_1 rows_1.length) a_2 0).toNat 0 [SV.i .i64 (1 : Int)]) (cell
  (undR rows_1 rows_1.length) a_2 0).toNat 0 [SV.i .i64 (2 : Int)]).at i = (El.fn fun (k : Nat) ↦ [SV.i .i64 (wayP rows_1 a_1 a' k)]).at i) ∧ Ob (opnN rows_1 rows_1.length = opnN rows_1 rows_1.length ∧ ∀ (i : Nat), i <
  opnN rows_1 rows_1.length → (El.fn (Rv.elemOf [.i64] (undR rows_1 rows_1.length))).at i = (El.fn (Rv.elemOf [.i64] (undR rows_1 rows_1.length))).at i) ∧ Ob (R = R) ∧ Ob (SV.lst x rows.length 1 (Rv.elemOf [.i64] rows) =
  SV.lst x rows.length 1 (Rv.elemOf [.i64] rows)) ∧ Ob (SV.lst x_1 rows_1.length 1 (Rv.elemOf [.i64] rows_1) = SV.lst x_1 rows_1.length 1 (Rv.elemOf [.i64] rows_1)) ∧ Ob (n = n) ∧ Ob (SV.v (Value.bool false) = SV.v
  (Value.bool false)) ∧ Ob (n_1 = n_1) ∧ Ob (SV.lst x rows.length 1 (Rv.elemOf [.i64] rows) = SV.lst x rows.length 1 (Rv.elemOf [.i64] rows)) ∧ Ob (SV.lst x_1 rows_1.length 1 (Rv.elemOf [.i64] rows_1) = SV.lst x_1
  rows_1.length 1 (Rv.elemOf [.i64] rows_1)) ∧ Ob (n = n) ∧ Ob (PlainE rows_1.length (El.fn fun (k : Nat) ↦ [SV.i .i64 (wayP rows_1 a_1 a' k)])) ∧ Ob (PlainE (opnN rows_1 rows_1.length) (El.fn (Rv.elemOf [.i64] (undR
  rows_1 rows_1.length)))) ∧ Ob (R.b ≤ B.n + (6 : Nat)) ∧ Ob (IsLst B x rows.length 1 (Rv.elemOf [.i64] rows)) ∧ Ob (IsLst B x_1 rows_1.length 1 (Rv.elemOf [.i64] rows_1)) ∧ Ob (IsLst B x rows.length 1 (Rv.elemOf [.i64]
  rows)) ∧ Ob (IsLst B x_1 rows_1.length 1 (Rv.elemOf [.i64] rows_1)) ∧ True) ∧ (¬andI ((↑a_1 : Int) / (2 : Int) ^ a_2) (1 : Int) = (1 : Int) → Ob (InR .i64 ((↑a_2 : Int) + (1 : Int))) ∧ ∃ (a' : Nat), Ob (a' ≤ opnN rows_1
  rows_1.length ∧ opnN rows_1 rows_1.length - a' < opnN rows_1 rows_1.length - a_2) ∧ Ob (opnN rows_1 rows_1.length = opnN rows_1 rows_1.length) ∧ Ob ((↑a_1 : Int) = (↑a_1 : Int)) ∧ Ob (rows_1.length = rows_1.length) ∧ Ob
  ((1 : Int) * (2 : Int) ^ (↑(opnN rows_1 rows_1.length) : Int).toNat = (1 : Int) * (2 : Int) ^ (↑(opnN rows_1 rows_1.length) : Int).toNat) ∧ Ob ((↑a_1 : Int) = (↑a_1 : Int)) ∧ Ob (opnN rows_1 rows_1.length = opnN rows_1
  rows_1.length) ∧ Ob ((↑(opnN rows_1 rows_1.length) : Int) = (↑(opnN rows_1 rows_1.length) : Int)) ∧ Ob ((↑a_2 : Int) + (1 : Int) = (↑a' : Int)) ∧ Ob (rows_1.length = rows_1.length ∧ ∀ (i : Nat), i < rows_1.length → (updL
  (El.fn fun (k : Nat) ↦ [SV.i .i64 (wayP rows_1 a_1 a_2 k)]) (cell (undR rows_1 rows_1.length) a_2 0).toNat 0 [SV.i .i64 (1 : Int)]).at i = (El.fn fun (k : Nat) ↦ [SV.i .i64 (wayP rows_1 a_1 a' k)]).at i) ∧ Ob (opnN
  rows_1 rows_1.length = opnN rows_1 rows_1.length ∧ ∀ (i : Nat), i < opnN rows_1 rows_1.length → (El.fn (Rv.elemOf [.i64] (undR rows_1 rows_1.length))).at i = (El.fn (Rv.elemOf [.i64] (undR rows_1 rows_1.length))).at i) ∧
  Ob (R = R) ∧ Ob (SV.lst x rows.length 1 (Rv.elemOf [.i64] rows) = SV.lst x rows.length 1 (Rv.elemOf [.i64] rows)) ∧ Ob (SV.lst x_1 rows_1.length 1 (Rv.elemOf [.i64] rows_1) = SV.lst x_1 rows_1.length 1 (Rv.elemOf [.i64]
  rows_1)) ∧ Ob (n = n) ∧ Ob (SV.v (Value.bool false) = SV.v (Value.bool false)) ∧ Ob (n_1 = n_1) ∧ Ob (SV.lst x rows.length 1 (Rv.elemOf [.i64] rows) = SV.lst x rows.length 1 (Rv.elemOf [.i64] rows)) ∧ Ob (SV.lst x_1
  rows_1.length 1 (Rv.elemOf [.i64] rows_1) = SV.lst x_1 rows_1.length 1 (Rv.elemOf [.i64] rows_1)) ∧ Ob (n = n) ∧ Ob (PlainE rows_1.length (El.fn fun (k : Nat) ↦ [SV.i .i64 (wayP rows_1 a_1 a' k)])) ∧ Ob (PlainE (opnN
  rows_1 rows_1.length) (El.fn (Rv.elemOf [.i64] (undR rows_1 rows_1.length)))) ∧ Ob (R.b ≤ B.n + (6 : Nat)) ∧ Ob (IsLst B x rows.length 1 (Rv.elemOf [.i64] rows)) ∧ Ob (IsLst B x_1 rows_1.length 1 (Rv.elemOf [.i64]
  rows_1)) ∧ Ob (IsLst B x rows.length 1 (Rv.elemOf [.i64] rows)) ∧ Ob (IsLst B x_1 rows_1.length 1 (Rv.elemOf [.i64] rows_1)) ∧ True)) ∧ (¬(↑a_2 : Int) < (↑(opnN rows_1 rows_1.length) : Int) → Ob (B = B) ∧ Ob (R = R) ∧ Ob
  ((0 : Int) ≤ n_1 ∧ n_1.toNat < rows_1.length) ∧ Ob (n_1.toNat < rows_1.length) ∧ (¬¬wayP rows_1 a_1 a_2 n_1.toNat = (1 : Int) → ∃ (rows_3 : List (List Int)), Ob (IsLst B x rows.length 1 (Rv.elemOf [.i64] rows) ∧
  rows_3.length = rows.length ∧ (∀ (r : List Int), r ∈ rows_3 → r.length = (1 : Nat)) ∧ ∀ (i : Nat), i < rows.length → Rv.elemOf [.i64] rows i = Rv.elemOf [.i64] rows_3 i) ∧ ∃ (rows_4 : List (List Int)), Ob (IsLst B x_1
  rows_1.length 1 (Rv.elemOf [.i64] rows_1) ∧ rows_4.length = rows_1.length ∧ (∀ (r : List Int), r ∈ rows_4 → r.length = (1 : Nat)) ∧ ∀ (i : Nat), i < rows_1.length → Rv.elemOf [.i64] rows_1 i = Rv.elemOf [.i64] rows_4 i)
  ∧ ∃ (rows_5 : List (List Int)), Ob (rows_1.length = rows_1.length ∧ rows_5.length = rows_1.length ∧ (∀ (r : List Int), r ∈ rows_5 → r.length = (1 : Nat)) ∧ ∀ (i : Nat), i < rows_1.length → (El.fn fun (k : Nat) ↦ [SV.i
  .i64 (wayP rows_1 a_1 a_2 k)]).at i = Rv.elemOf [.i64] rows_5 i) ∧ Ob (WtOk rows_3 ∧ rows_5.length = rows_3.length ∧ rows_3.length ≤ (100 : Nat) ∧ (0 : Int) ≤ n ∧ n ≤ (1000000 : Int)) ∧ (¬passN rows_3 n (yesS rows_3
  rows_5 rows_3.length) → Ob (InR .i64 ((↑a_1 : Int) + (1 : Int))) ∧ ∃ (a' : Nat), Ob ((a' ≤ (2 : Nat) ^ opnN rows_1 rows_1.length ∧ ∀ (s : Nat), s < a' → ¬trn rows rows_1 n n_1.toNat s) ∧ (2 : Nat) ^ opnN rows_1
  rows_1.length - a' < (2 : Nat) ^ opnN rows_1 rows_1.length - a_1) ∧ Ob (opnN rows_1 rows_1.length = opnN rows_1 rows_1.length) ∧ Ob ((1 : Int) * (2 : Int) ^ (↑(opnN rows_1 rows_1.length) : Int).toNat = (1 : Int) * (2 :
  Int) ^ (↑(opnN rows_1 rows_1.length) : Int).toNat) ∧ Ob ((↑a_1 : Int) + (1 : Int) = (↑a' : Int)) ∧ Ob (opnN rows_1 rows_1.length = opnN rows_1 rows_1.length ∧ ∀ (i : Nat), i < opnN rows_1 rows_1.length → (El.fn
  (Rv.elemOf [.i64] (undR rows_1 rows_1.length))).at i = (El.fn (Rv.elemOf [.i64] (undR rows_1 rows_1.length))).at i) ∧ Ob (R = R) ∧ Ob (SV.lst x rows.length 1 (Rv.elemOf [.i64] rows) = SV.lst x rows.length 1 (Rv.elemOf
  [.i64] rows)) ∧ Ob (SV.lst x_1 rows_1.length 1 (Rv.elemOf [.i64] rows_1) = SV.lst x_1 rows_1.length 1 (Rv.elemOf [.i64] rows_1)) ∧ Ob (n = n) ∧ Ob (SV.v (Value.bool false) = SV.v (Value.bool false)) ∧ Ob (n_1 = n_1) ∧ Ob
  (SV.lst x rows.length 1 (Rv.elemOf [.i64] rows) = SV.lst x rows.length 1 (Rv.elemOf [.i64] rows)) ∧ Ob (SV.lst x_1 rows_1.length 1 (Rv.elemOf [.i64] rows_1) = SV.lst x_1 rows_1.length 1 (Rv.elemOf [.i64] rows_1)) ∧ Ob (n
  = n) ∧ Ob (PlainE (opnN rows_1 rows_1.length) (El.fn (Rv.elemOf [.i64] (undR rows_1 rows_1.length)))) ∧ Ob (R.b ≤ B.n + (6 : Nat)) ∧ Ob (IsLst B x rows.length 1 (Rv.elemOf [.i64] rows)) ∧ Ob (IsLst B x_1 rows_1.length 1
  (Rv.elemOf [.i64] rows_1)) ∧ Ob (IsLst B x rows.length 1 (Rv.elemOf [.i64] rows)) ∧ Ob (IsLst B x_1 rows_1.length 1 (Rv.elemOf [.i64] rows_1)) ∧ True) ∧ (¬¬passN rows_3 n (yesS rows_3 rows_5 rows_3.length) → Ob ((0 :
  Int) ≤ n_1 ∧ n_1.toNat < rows_1.length) ∧ Ob (n_1.toNat < rows_1.length ∧ ((El.fn fun (k : Nat) ↦ [SV.i .i64 (wayP rows_1 a_1 a_2 k)]).at n_1.toNat).length = (1 : Nat)) ∧ ∃ (rows_6 : List (List Int)), Ob (IsLst B x
  rows.length 1 (Rv.elemOf [.i64] rows) ∧ rows_6.length = rows.length ∧ (∀ (r : List Int), r ∈ rows_6 → r.length = (1 : Nat)) ∧ ∀ (i : Nat), i < rows.length → Rv.elemOf [.i64] rows i = Rv.elemOf [.i64] rows_6 i) ∧ ∃
  (rows_7 : List (List Int)), Ob (IsLst B x_1 rows_1.length 1 (Rv.elemOf [.i64] rows_1) ∧ rows_7.length = rows_1.length ∧ (∀ (r : List Int), r ∈ rows_7 → r.length = (1 : Nat)) ∧ ∀ (i : Nat), i < rows_1.length → Rv.elemOf
  [.i64] rows_1 i = Rv.elemOf [.i64] rows_7 i) ∧ ∃ (rows_8 : List (List Int)), Ob (rows_1.length = rows_1.length ∧ rows_8.length = rows_1.length ∧ (∀ (r : List Int), r ∈ rows_8 → r.length = (1 : Nat)) ∧ ∀ (i : Nat), i <
  rows_1.length → (updL (El.fn fun (k : Nat) ↦ [SV.i .i64 (wayP rows_1 a_1 a_2 k)]) n_1.toNat 0 [SV.i .i64 (2 : Int)]).at i = Rv.elemOf [.i64] rows_8 i) ∧ Ob (WtOk rows_6 ∧ rows_8.length = rows_6.length ∧ rows_6.length ≤
  (100 : Nat) ∧ (0 : Int) ≤ n ∧ n ≤ (1000000 : Int)) ∧ (¬passN rows_6 n (yesS rows_6 rows_8 rows_6.length) → Ob (true = true ↔ swg rows rows_1 n n_1.toNat) ∧ True) ∧ (¬¬passN rows_6 n (yesS rows_6 rows_8 rows_6.length) →
  Ob (InR .i64 ((↑a_1 : Int) + (1 : Int))) ∧ ∃ (a' : Nat), Ob ((a' ≤ (2 : Nat) ^ opnN rows_1 rows_1.length ∧ ∀ (s : Nat), s < a' → ¬trn rows rows_1 n n_1.toNat s) ∧ (2 : Nat) ^ opnN rows_1 rows_1.length - a' < (2 : Nat) ^
  opnN rows_1 rows_1.length - a_1) ∧ Ob (opnN rows_1 rows_1.length = opnN rows_1 rows_1.length) ∧ Ob ((1 : Int) * (2 : Int) ^ (↑(opnN rows_1 rows_1.length) : Int).toNat = (1 : Int) * (2 : Int) ^ (↑(opnN rows_1
  rows_1.length) : Int).toNat) ∧ Ob ((↑a_1 : Int) + (1 : Int) = (↑a' : Int)) ∧ Ob (opnN rows_1 rows_1.length = opnN rows_1 rows_1.length ∧ ∀ (i : Nat), i < opnN rows_1 rows_1.length → (El.fn (Rv.elemOf [.i64] (undR rows_1
  rows_1.length))).at i = (El.fn (Rv.elemOf [.i64] (undR rows_1 rows_1.length))).at i) ∧ Ob (R = R) ∧ Ob (SV.lst x rows.length 1 (Rv.elemOf [.i64] rows) = SV.lst x rows.length 1 (Rv.elemOf [.i64] rows)) ∧ Ob (SV.lst x_1
  rows_1.length 1 (Rv.elemOf [.i64] rows_1) = SV.lst x_1 rows_1.length 1 (Rv.elemOf [.i64] rows_1)) ∧ Ob (n = n) ∧ Ob (SV.v (Value.bool false) = SV.v (Value.bool false)) ∧ Ob (n_1 = n_1) ∧ Ob (SV.lst x rows.length 1
  (Rv.elemOf [.i64] rows) = SV.lst x rows.length 1 (Rv.elemOf [.i64] rows)) ∧ Ob (SV.lst x_1 rows_1.length 1 (Rv.elemOf [.i64] rows_1) = SV.lst x_1 rows_1.length 1 (Rv.elemOf [.i64] rows_1)) ∧ Ob (n = n) ∧ Ob (PlainE (opnN
  rows_1 rows_1.length) (El.fn (Rv.elemOf [.i64] (undR rows_1 rows_1.length)))) ∧ Ob (R.b ≤ B.n + (6 : Nat)) ∧ Ob (IsLst B x rows.length 1 (Rv.elemOf [.i64] rows)) ∧ Ob (IsLst B x_1 rows_1.length 1 (Rv.elemOf [.i64]
  rows_1)) ∧ Ob (IsLst B x rows.length 1 (Rv.elemOf [.i64] rows)) ∧ Ob (IsLst B x_1 rows_1.length 1 (Rv.elemOf [.i64] rows_1)) ∧ True))) ∧ (¬wayP rows_1 a_1 a_2 n_1.toNat = (1 : Int) → Ob (InR .i64 ((↑a_1 : Int) + (1 :
  Int))) ∧ ∃ (a' : Nat), Ob ((a' ≤ (2 : Nat) ^ opnN rows_1 rows_1.length ∧ ∀ (s : Nat), s < a' → ¬trn rows rows_1 n n_1.toNat s) ∧ (2 : Nat) ^ opnN rows_1 rows_1.length - a' < (2 : Nat) ^ opnN rows_1 rows_1.length - a_1) ∧
  Ob (opnN rows_1 rows_1.length = opnN rows_1 rows_1.length) ∧ Ob ((1 : Int) * (2 : Int) ^ (↑(opnN rows_1 rows_1.length) : Int).toNat = (1 : Int) * (2 : Int) ^ (↑(opnN rows_1 rows_1.length) : Int).toNat) ∧ Ob ((↑a_1 : Int)
  + (1 : Int) = (↑a' : Int)) ∧ Ob (opnN rows_1 rows_1.length = opnN rows_1 rows_1.length ∧ ∀ (i : Nat), i < opnN rows_1 rows_1.length → (El.fn (Rv.elemOf [.i64] (undR rows_1 rows_1.length))).at i = (El.fn (Rv.elemOf [.i64]
  (undR rows_1 rows_1.length))).at i) ∧ Ob (R = R) ∧ Ob (SV.lst x rows.length 1 (Rv.elemOf [.i64] rows) = SV.lst x rows.length 1 (Rv.elemOf [.i64] rows)) ∧ Ob (SV.lst x_1 rows_1.length 1 (Rv.elemOf [.i64] rows_1) = SV.lst
  x_1 rows_1.length 1 (Rv.elemOf [.i64] rows_1)) ∧ Ob (n = n) ∧ Ob (SV.v (Value.bool false) = SV.v (Value.bool false)) ∧ Ob (n_1 = n_1) ∧ Ob (SV.lst x rows.length 1 (Rv.elemOf [.i64] rows) = SV.lst x rows.length 1
  (Rv.elemOf [.i64] rows)) ∧ Ob (SV.lst x_1 rows_1.length 1 (Rv.elemOf [.i64] rows_1) = SV.lst x_1 rows_1.length 1 (Rv.elemOf [.i64] rows_1)) ∧ Ob (n = n) ∧ Ob (PlainE (opnN rows_1 rows_1.length) (El.fn (Rv.elemOf [.i64]
  (undR rows_1 rows_1.length)))) ∧ Ob (R.b ≤ B.n + (6 : Nat)) ∧ Ob (IsLst B x rows.length 1 (Rv.elemOf [.i64] rows)) ∧ Ob (IsLst B x_1 rows_1.length 1 (Rv.elemOf [.i64] rows_1)) ∧ Ob (IsLst B x rows.length 1 (Rv.elemOf
  [.i64] rows)) ∧ Ob (IsLst B x_1 rows_1.length 1 (Rv.elemOf [.i64] rows_1)) ∧ True))) ∧ (¬(↑a_1 : Int) < (1 : Int) * (2 : Int) ^ (↑(opnN rows_1 rows_1.length) : Int).toNat → Ob (false = true ↔ swg rows rows_1 n n_1.toNat)
  ∧ True))

set_option linter.unusedSimpArgs false in
set_option maxRecDepth 4000 in
set_option maxHeartbeats 2000000 in
theorem v_turnsOn : V_turnsOn := by
  unfold V_turnsOn
  intro B xw W hw how hrw xv V hv hov hrv need mem ⟨ok, hm0, hm1, hm2⟩
  simp only [Ob_iff, and_true, true_and]
  have l1 := ok.l
  have l2 := ok.v
  have hun := opnN_le V V.length
  intro R hR
  have hRb : R.b ≤ B.n + 6 := by omega
  refine ⟨hv, ⟨0, by omega, rfl, rfl, ?_⟩, ?_⟩
  · repeat' (first | assumption | exact plain_elemOf _ _ _ | exact plain_fn1 _ _ | (with_reducible rfl) | exact fun _ _ => rfl | exact fun _ _ => trivial | trivial | with_reducible apply And.intro)
  intro k hk
  intros
  refine ⟨fun h2 => ?_, fun h2 => ?_⟩
  · have hk' : k < V.length := by omega
    have hok := opnN_le V k
    have rk : InR .i64 ((k : Int) + 1) := by simp only [InR]; omega
    refine ⟨⟨by omega, hk', hv⟩, ⟨hv, hk'⟩, fun h3 => ?_, fun h3 => ?_⟩
    · have e1 : opnN V (k + 1) = opnN V k + 1 := by simp only [opnN, if_pos h3]
      have e2 : undR V (k + 1) = undR V k ++ [[(k : Int)]] := by simp only [undR, if_pos h3]
      have hs := snoc1 (x := (k : Int)) (undR_len V k)
      rw [← e2, ← e1] at hs
      refine ⟨fun _ _ => rfl, by omega, rk, k + 1, ⟨hk', by omega⟩, e1.symm, by omega, ⟨e1.symm, hs⟩, ?_⟩
      repeat' (first | assumption | exact plain_elemOf _ _ _ | exact plain_fn1 _ _ | (with_reducible rfl) | exact fun _ _ => rfl | exact fun _ _ => trivial | trivial | with_reducible apply And.intro)
    · have e1 : opnN V (k + 1) = opnN V k := by simp only [opnN, if_neg h3, Nat.add_zero]
      have e2 : undR V (k + 1) = undR V k := by simp only [undR, if_neg h3]
      refine ⟨rk, k + 1, ⟨hk', by omega⟩, e1.symm, by omega, ⟨e1.symm, fun i _ => by rw [e2]⟩, ?_⟩
      repeat' (first | assumption | exact plain_elemOf _ _ _ | exact plain_fn1 _ _ | (with_reducible rfl) | exact fun _ _ => rfl | exact fun _ _ => trivial | trivial | with_reducible apply And.intro)
  have ek : k = V.length := by omega
  subst ek
  have hts := trn_swg (need := need) hm2 (show mem.toNat < W.length by omega) l2
  have hat := undR_at V V.length
  have hall : ∀ w k, k < V.length → wayP V w (opnN V V.length) k = wayV V w k := fun w k h => wayP_all V w h
  obtain ⟨UR, hUR⟩ : ∃ UR, undR V V.length = UR := ⟨_, rfl⟩
  rw [hUR] at hat ⊢
  obtain ⟨u, hu⟩ : ∃ u, opnN V V.length = u := ⟨_, rfl⟩
  rw [hu] at hun hts hat hall ⊢
  clear hu hUR
  have hp1 : 2 ^ u ≤ 2 ^ 12 := Nat.pow_le_pow_right (by omega) (by omega)
  have hp0 : 0 < 2 ^ u := Nat.pow_pos (by omega)
  have hpc : (1 : Int) * 2 ^ ((u : Nat) : Int).toNat = ((2 ^ u : Nat) : Int) := by simp
  simp only [hpc]
  refine ⟨⟨by omega, by omega, by omega, by simp only [InR]; omega⟩, ⟨0, ⟨Nat.zero_le _, fun s hs => absurd hs (Nat.not_lt_zero _)⟩, ?_⟩, ?_⟩
  · repeat' (first | assumption | exact plain_elemOf _ _ _ | exact plain_fn1 _ _ | (with_reducible rfl) | exact fun _ _ => rfl | exact fun _ _ => trivial | trivial | with_reducible apply And.intro)
  clear hk h2
  intro w ⟨hw2, hnt⟩
  intros
  refine ⟨fun h2 => ?_, fun h2 => ?_⟩
  rotate_left
  · have ew : w = 2 ^ u := by omega
    subst ew
    exact ⟨fun h => absurd h (by decide), fun h => by obtain ⟨s, h3, h4⟩ := hts.2 h; exact absurd h4 (hnt s h3)⟩
  have hw3 : w < 2 ^ u := by omega
  refine ⟨V, ⟨hv, rfl, hrv, fun _ _ => rfl⟩, ⟨by omega, by omega⟩, ⟨0, Nat.zero_le _, rfl, rfl, ⟨rfl, fun k hk => ?_⟩, ?_⟩, ?_⟩
  · show [SV.i .i64 (cell V k 0)] = [SV.i .i64 (wayP V w 0 k)]
    rw [wayP_zero]
  · repeat' (first | assumption | exact plain_elemOf _ _ _ | exact plain_fn1 _ _ | (with_reducible rfl) | exact fun _ _ => rfl | exact fun _ _ => trivial | trivial | with_reducible apply And.intro)
  intro i hi
  intros
  refine ⟨fun h3 => ?_, fun h3 => ?_⟩
  · have hi' : i < u := by omega
    obtain ⟨p, p1, p2, p3, p4⟩ := hat i hi'
    have tp : (cell UR i 0).toNat = p := by rw [p2]; rfl
    have c0 : 0 ≤ cell UR i 0 := by omega
    have hst := fun k => wayP_step V w (k := k) p3
    rw [p4] at hst
    have hq : (w : Int) / 2 ^ i = ((w / 2 ^ i : Nat) : Int) := by simp
    have hq2 : w / 2 ^ i ≤ w := Nat.div_le_self _ _
    have hb : w / 2 ^ i % 2 < 2 := Nat.mod_lt _ (by omega)
    rw [tp, hq, and_one]
    obtain ⟨b, eb⟩ : ∃ b, w / 2 ^ i = b := ⟨_, rfl⟩
    rw [eb] at hq2 hb hst ⊢
    clear hq eb
    have ri : InR .i64 ((i : Int) + 1) := by simp only [InR]; omega
    refine ⟨⟨by omega, hi'⟩, hi', ⟨c0, p1⟩, ⟨p1, rfl⟩, ⟨by omega, by omega, by omega, by simp only [InR]; omega⟩, ⟨by omega, by omega, by simp only [InR]; omega⟩, fun h4 => ?_, fun h4 => ?_⟩
    · refine ⟨⟨c0, p1⟩, ⟨p1, len_upd1 _ _ _ _⟩, ri, i + 1, ⟨hi', by omega⟩, by omega, fun k hk => ?_, ?_⟩
      · rw [upd_at2]
        show _ = [SV.i .i64 (wayP V w (i + 1) k)]
        rw [hst k]
        by_cases e : k = p
        · rw [if_pos e, if_pos e, h4]
          rfl
        · rw [if_neg e, if_neg e]
      · repeat' (first | assumption | exact plain_elemOf _ _ _ | exact plain_fn1 _ _ | (with_reducible rfl) | exact fun _ _ => rfl | exact fun _ _ => trivial | trivial | with_reducible apply And.intro)
    · refine ⟨ri, i + 1, ⟨hi', by omega⟩, by omega, fun k hk => ?_, ?_⟩
      · rw [upd_at1]
        show _ = [SV.i .i64 (wayP V w (i + 1) k)]
        rw [hst k]
        by_cases e : k = p
        · rw [if_pos e, if_pos e, show ((b % 2 : Nat) : Int) = 0 by omega]
          rfl
        · rw [if_neg e, if_neg e]
      · repeat' (first | assumption | exact plain_elemOf _ _ _ | exact plain_fn1 _ _ | (with_reducible rfl) | exact fun _ _ => rfl | exact fun _ _ => trivial | trivial | with_reducible apply And.intro)
  have ei : i = u := by omega
  subst ei
  have hmV : 0 ≤ mem ∧ mem.toNat < V.length := ⟨hm0, by omega⟩
  have rw1 : InR .i64 ((w : Int) + 1) := by simp only [InR]; omega
  have nx : ¬ trn W V need mem.toNat w → w + 1 ≤ 2 ^ i ∧ ∀ s, s < w + 1 → ¬ trn W V need mem.toNat s := fun h => ⟨hw3, fun s hs => by
    by_cases e : s = w
    · subst e; exact h
    · exact hnt s (by omega)⟩
  have hm : wayP V w i mem.toNat = wayV V w mem.toNat := hall w _ hmV.2
  rw [hm]
  refine ⟨hmV, hmV.2, fun h4 => ?_, fun h4 => ?_⟩
  rotate_left
  · refine ⟨rw1, w + 1, ⟨nx fun h => h4 h.1, by omega⟩, by omega, ?_⟩
    repeat' (first | assumption | exact plain_elemOf _ _ _ | exact plain_fn1 _ _ | (with_reducible rfl) | exact fun _ _ => rfl | exact fun _ _ => trivial | trivial | with_reducible apply And.intro)
  have h4 := Classical.not_not.1 h4
  refine ⟨W, ⟨hw, rfl, hrw, fun _ _ => rfl⟩, V, ⟨hv, rfl, hrv, fun _ _ => rfl⟩, wayR V w V.length, ⟨wayR_len _ _ _, wayR_row _ _ _, fun k hk => ?_⟩, ⟨ok.w, (wayR_len _ _ _).trans l2, by omega, ok.n⟩, ?_⟩
  · show [SV.i .i64 (wayP V w i k)] = [SV.i .i64 (cell (wayR V w V.length) k 0)]
    rw [hall w k hk, wayR_cell V w hk]
  rw [yes_way W V w V.length W.length (by omega), yesW_F]
  refine ⟨fun h5 => ?_, fun h5 => ?_⟩
  · refine ⟨rw1, w + 1, ⟨nx fun h => h5 h.2.1, by omega⟩, by omega, ?_⟩
    repeat' (first | assumption | exact plain_elemOf _ _ _ | exact plain_fn1 _ _ | (with_reducible rfl) | exact fun _ _ => rfl | exact fun _ _ => trivial | trivial | with_reducible apply And.intro)
  have h5 := Classical.not_not.1 h5
  refine ⟨hmV, ⟨hmV.2, rfl⟩, W, ⟨hw, rfl, hrw, fun _ _ => rfl⟩, V, ⟨hv, rfl, hrv, fun _ _ => rfl⟩, rowsF (setF (wayV V w) mem.toNat 2) V.length, ⟨rowsF_len _ _, rowsF_row _ _, fun k hk => ?_⟩, ⟨ok.w, (rowsF_len _ _).trans l2, by omega, ok.n⟩, ?_⟩
  · rw [upd_at1]
    show _ = [SV.i .i64 (cell (rowsF (setF (wayV V w) mem.toNat 2) V.length) k 0)]
    rw [rowsF_cell _ hk, hall w k hk]
    rfl
  rw [yes_rows W _ V.length W.length (by omega)]
  refine ⟨fun h6 => ?_, fun h6 => ?_⟩
  · have := hts.1 ⟨w, hw3, h4, h5, h6⟩
    exact ⟨fun _ => this, fun _ => trivial⟩
  · refine ⟨rw1, w + 1, ⟨nx fun h => h.2.2 (Classical.not_not.1 h6), by omega⟩, by omega, ?_⟩
    repeat' (first | assumption | exact plain_elemOf _ _ _ | exact plain_fn1 _ _ | (with_reducible rfl) | exact fun _ _ => rfl | exact fun _ _ => trivial | trivial | with_reducible apply And.intro)

theorem e_turnsOn : V_turnsOn = needEI P [F_passes] [F_Clone] I_turnsOn A_turnsOn F_turnsOn := by kernel_rfl

theorem n_turnsOn : Ob (needEI P [F_passes] [F_Clone] I_turnsOn A_turnsOn F_turnsOn) := by
  rw [← e_turnsOn]
  exact ⟨v_turnsOn⟩

theorem b_turnsOn : ((P.funcs[41]?).any fun fn => fn.body.isSome) = true := by kernel_rfl

theorem turnsOn_ok : FnE.Ok P F_turnsOn := FnE.okI named (l := [F_passes]) (es := [F_Clone]) (I := I_turnsOn) (A := A_turnsOn) (by rfl) (by rfl) (by rfl) (by
  intro F h
  simp only [List.mem_cons, List.not_mem_nil, or_false] at h
  rcases h with rfl
  · exact passes_ok
) (by
  intro F h
  simp only [List.mem_cons, List.not_mem_nil, or_false] at h
  rcases h with rfl
  · exact Clone_ok
) b_turnsOn (by
  rintro ds h o ho n sz e k z rfl
  simp only [F_turnsOn] at ho
  split at ho <;> simp at ho) n_turnsOn

end Go.Proofs.Ytjgllojnbinchaa.Sy
