/- The law TankShares. -/
import Derived.Test.YtlnldabgbfcdcaaSyP2
import Derived.Test.YtlnldabgbfcdcaaGrM
import Derived.Test.YtlnldabgbfcdcaaStM
import Derived.Test.YtlnldabgbfcdcaaLrM
import Derived.Test.YtlnldabgbfcdcaaDhM
import Derived.Test.YtlnldabgbfcdcaaKtT
import Derived.Test.YtlnldabgbfcdcaaKtA
import Derived.Test.YtlnldabgbfcdcaaKtB
import Derived.Test.YtlnldabgbfcdcaaKtD
import Derived.Test.YtlnldabgbfcdcaaKtW
import Derived.Test.YtlnldabgbfcdcaaKtY
import Derived.Test.YtlnldabgbfcdcaaKtX
import Derived.Test.YtlnldabgbfcdcaaKtP
import Derived.Test.YtlnldabgbfcdcaaKtQ
import Derived.Test.YtlnldabgbfcdcaaKtR
import Derived.Test.YtlnldabgbfcdcaaSyP2
import Derived.KernelRfl
import Derived.Test.YtlnldabgbfcdcaaProg
namespace Go.Proofs.Ytlnldabgbfcdcaa.Sy
open Go Go.Rv
set_option linter.unusedVariables false

structure Lm where
  m : Int
  R : Rows
structure Lm.Ok (v : Lm) : Prop where
  l : v.R.length ≤ 8
  r : ∀ r ∈ v.R, r.length = 2
structure Lq where
  i : Nat
  q : Int
  R : Rows
structure Lq.Ok (v : Lq) : Prop where
  l : v.R.length ≤ 8
  i : v.i ≤ v.R.length
  r : ∀ r ∈ v.R, r.length = 2
  c : ∀ i, i < v.R.length → 0 ≤ cell v.R i 0 ∧ cell v.R i 0 < 300 ∧ 0 ≤ cell v.R i 1 ∧ cell v.R i 1 < 6
theorem Lq.Ok.bd {v : Lq} (h : v.Ok) : ∀ {k : Nat}, k ≤ v.R.length → 0 ≤ lotS v.R k + lotW v.R k ∧ lotS v.R k + lotW v.R k ≤ k * 305
  | 0, _ => by simp [lotS, lotW, sumF]
  | k + 1, hk => by
    have ih := h.bd (k := k) (by omega)
    have hc := h.c k (by omega)
    have e : ((k + 1 : Nat) : Int) * 305 = k * 305 + 305 := by rw [Int.natCast_add, Int.add_mul]; simp
    rw [e]
    simp only [lotS, lotW, sumF] at ih ⊢
    omega
def listU (f : Nat → Int) (n : Nat) : Rows := (List.range n).map fun i => [f i]
theorem listU_len (f : Nat → Int) (n : Nat) : (listU f n).length = n := by simp [listU]
theorem listU_row (f : Nat → Int) (n : Nat) : ∀ r ∈ listU f n, r.length = 1 := by
  intro r hr
  obtain ⟨i, _, rfl⟩ := List.mem_map.1 hr
  rfl
theorem listU_cell (f : Nat → Int) {n i : Nat} (h : i < n) : cell (listU f n) i 0 = f i := by
  unfold cell listU
  simp [List.getD_eq_getElem?_getD, h]
theorem listU_at (f : Nat → Int) {n i : Nat} (h : i < n) : (El.fn fun i => [SV.i .i64 (f i)]).at i = Rv.elemOf [.i64] (listU f n) i := by
  show [SV.i .i64 (f i)] = [SV.i .i64 (cell (listU f n) i 0)]
  rw [listU_cell f h]

noncomputable def F_law : LawF := ⟨3, [.one (.l [.i64, .i64]), i64, .one (.l [.i64])], fun l => match l with | [.l T, .z q, .l N] => N.length ≤ 9223372036854775807 | _ => False⟩
noncomputable def A_law : List SV → List Dat → Nat → List SV → Ann := fun xs ds n ts => match xs with
  | [.lst xt _ _ _, .i _ _, .lst xz _ _ _] => match ds with
    | [.l T, .z q, .l N] => match n with
      | 12 => ⟨Unit, fun _ => [], fun _ => [], fun _ => True, fun _ => 0, 4⟩
      | 13 => (match lget ts 13 with | some (SV.v w13) => ⟨Lm, fun v => [none, none, none, none, none, none, none, none, none, none, none, some (.sl 2 0 3 1), some (.sl 3 0 3 1), some (SV.v w13), none, none, none, none, none, none, none, none, none, none, none, none, none, none, none, none, none, none, none, none, none, none, none, none, none, none, none, none, none, none, none, none, none, none, none, none, none, none, none, none, none, none, none, none, none, none, none, none, none, none, none, none, none, none, none, none, none, none, none, none, none, none, none, none, none, none, none, none, none, none, none, none, none, none, none, none, none, none, none, none, none, none, none, none, none, none, none, none, none, none, none, none, none], fun v => [.cells [.i .i64 q, .i .i64 v.m, .i .i64 q] .ex, .cells [.lst xt T.length 2 (Rv.elemOf [.i64, .i64] T), .gsl 1 v.R.length 2 true, .gsl 1 v.R.length 2 true] .ex, .gr v.R.length 2 (.fn (Rv.elemOf [.i64, .i64] v.R)) .gr true, .dead], fun v => v.Ok, fun _ => 0, 1000000⟩ | _ => noAnn)
      | 7 => ⟨Lq, fun v => [some (SV.lst xt T.length ((2 : Nat)) (Rv.elemOf [IntKind.i64, IntKind.i64] T)), some (SV.i IntKind.i64 q), none, none, none, none, some (SV.v (Value.bool false)), some (SV.ptr ((0 : Nat)) ((0 : Nat))), some (.gsl 1 v.R.length 2 true), some (.i .i64 (lotS v.R v.i + lotW v.R v.i)), some (.i .i64 v.i), none, none, none, none, none, none, none, none, none, none, none, none, none, none, none, none, none, none, none, none, none, none, none, none, none, none, none, none, none, none, none, none, none, none, none, none, none, none, none, none, none, none, none, none, none, none, none, none, none, none, none, none, none, none, none, none, none, none, none, none, none, none, none, none, none, none, none, none, none, none, none, none, none, none, none, none, none, none, none, none, none, none, none, none, none, none, none, none, none, none, none, none, none, none, none, none], fun v => [.gr v.R.length 2 (.fn (Rv.elemOf [.i64, .i64] v.R)) .gr true, .cells [.i .u64 v.q] .ex], fun v => v.Ok, fun v => v.R.length - v.i, 0⟩
      | _ => noAnn
    | _ => noAnn
  | _ => noAnn

set_option maxRecDepth 10000 in
def V_law : Prop :=
  ∀ (B : RW), hasTabs [] B → ∀ (x : RV) (rows : List (List Int)), IsLst B x rows.length 2 (Rv.elemOf [.i64, .i64] rows) → oneB x = true → (∀ (row : List Int), row ∈ rows → row.length = (2 : Nat)) → ∀ (n : Int) (x_1 : RV)
  (rows_1 : List (List Int)), IsLst B x_1 rows_1.length 1 (Rv.elemOf [.i64] rows_1) → oneB x_1 = true → (∀ (row : List Int), row ∈ rows_1 → row.length = (1 : Nat)) → rows_1.length ≤ (9223372036854775807 : Nat) → Ob (IsLst
  B x rows.length 2 (Rv.elemOf [.i64, .i64] rows)) ∧ ((30 : Int) < (↑rows.length : Int) → Ob (hasTabs [] B) ∧ True) ∧ (¬(30 : Int) < (↑rows.length : Int) → ∃ (rows_2 : List (List Int)), Ob (IsLst B x_1 rows_1.length 1
  (Rv.elemOf [.i64] rows_1) ∧ rows_2.length = rows_1.length ∧ (∀ (r : List Int), r ∈ rows_2 → r.length = (1 : Nat)) ∧ ∀ (i : Nat), i < rows_1.length → Rv.elemOf [.i64] rows_1 i = Rv.elemOf [.i64] rows_2 i) ∧ Ob
  (F_TideOf.named.pre [Dat.l rows_2]) ∧ Ob (F_LotsOf.named.pre ([Dat.z (tideK rows_2 rows_2.length)] ++ [Dat.z (8 : Int)])) ∧ ∀ (v : Int), v = itQ ltQ (belowA (tideK rows_2 rows_2.length) ((8 : Int) + (1 : Int))) (belowV
  (tideK rows_2 rows_2.length) ((8 : Int) + (1 : Int))).toNat → (∃ (a : Lq), Ob a.Ok ∧ Ob (SV.lst x rows.length 2 (Rv.elemOf [.i64, .i64] rows) = SV.lst x rows.length 2 (Rv.elemOf [.i64, .i64] rows)) ∧ Ob (n = n) ∧ Ob
  (SV.v (Value.bool false) = SV.v (Value.bool false)) ∧ Ob ((belowV (tideK rows_2 rows_2.length) ((8 : Int) + (1 : Int))).toNat = List.length a.R) ∧ Ob ((0 : Int) = lotS a.R a.i + lotW a.R a.i) ∧ Ob ((0 : Int) = (↑a.i :
  Int)) ∧ Ob ((belowV (tideK rows_2 rows_2.length) ((8 : Int) + (1 : Int))).toNat = List.length a.R ∧ ∀ (i : Nat), i < List.length a.R → (El.fn (Rv.elemOf [.i64, .i64] (itR ltQ ltR (belowA (tideK rows_2 rows_2.length) ((8
  : Int) + (1 : Int))) (belowV (tideK rows_2 rows_2.length) ((8 : Int) + (1 : Int))).toNat))).at i = (El.fn (Rv.elemOf [.i64, .i64] a.R)).at i) ∧ Ob (v = a.q) ∧ Ob (IsLst B x rows.length 2 (Rv.elemOf [.i64, .i64] rows)) ∧
  Ob (PlainE (List.length a.R) (El.fn (Rv.elemOf [.i64, .i64] a.R))) ∧ True) ∧ ∀ (a : Lq), a.Ok → ∀ (z z_1 z_2 z_3 z_4 z_5 z_6 z_7 z_8 z_9 z_10 z_11 z_12 z_13 z_14 z_15 z_16 z_17 z_18 z_19 z_20 z_21 z_22 z_23 z_24 z_25
  z_26 z_27 z_28 z_29 z_30 z_31 z_32 z_33 z_34 z_35 z_36 z_37 z_38 z_39 z_40 z_41 z_42 z_43 z_44 z_45 z_46 z_47 z_48 z_49 z_50 z_51 z_52 z_53 z_54 z_55 z_56 z_57 z_58 z_59 z_60 z_61 z_62 z_63 z_64 z_65 z_66 z_67 z_68 z_69
  z_70 z_71 z_72 z_73 z_74 z_75 z_76 z_77 z_78 z_79 z_80 z_81 z_82 z_83 z_84 z_85 z_86 z_87 z_88 z_89 z_90 z_91 z_92 z_93 z_94 z_95 z_96 z_97 z_98 z_99 : Value), ((↑a.i : Int) < (↑(List.length a.R) : Int) → Ob ((0 : Int) ≤
  (↑a.i : Int) ∧ a.i < List.length a.R) ∧ Ob (a.i < List.length a.R) ∧ Ob (InR .i64 (lotS a.R a.i + lotW a.R a.i + cell a.R a.i 0)) ∧ Ob ((0 : Int) ≤ (↑a.i : Int) ∧ a.i < List.length a.R) ∧ Ob (a.i < List.length a.R) ∧ Ob
  (InR .i64 (lotS a.R a.i + lotW a.R a.i + cell a.R a.i 0 + cell a.R a.i 1)) ∧ Ob (InR .i64 ((↑a.i : Int) + (1 : Int))) ∧ ∃ (a' : Lq), Ob (a'.Ok ∧ List.length a'.R - a'.i < List.length a.R - a.i) ∧ Ob (SV.lst x rows.length
  2 (Rv.elemOf [.i64, .i64] rows) = SV.lst x rows.length 2 (Rv.elemOf [.i64, .i64] rows)) ∧ Ob (n = n) ∧ Ob (SV.v (Value.bool false) = SV.v (Value.bool false)) ∧ Ob (List.length a.R = List.length a'.R) ∧ Ob (lotS a.R a.i +
  lotW a.R a.i + cell a.R a.i 0 + cell a.R a.i 1 = lotS a'.R a'.i + lotW a'.R a'.i) ∧ Ob ((↑a.i : Int) + (1 : Int) = (↑a'.i : Int)) ∧ Ob (List.length a.R = List.length a'.R ∧ ∀ (i : Nat), i < List.length a'.R → (El.fn
  (Rv.elemOf [.i64, .i64] a.R)).at i = (El.fn (Rv.elemOf [.i64, .i64] a'.R)).at i) ∧ Ob (a.q = a'.q) ∧ Ob (IsLst B x rows.length 2 (Rv.elemOf [.i64, .i64] rows)) ∧ Ob (PlainE (List.length a'.R) (El.fn (Rv.elemOf [.i64,
  .i64] a'.R))) ∧ True) ∧ (¬(↑a.i : Int) < (↑(List.length a.R) : Int) → Ob (oneB x = true) ∧ Ob (F_From.named.pre ([Dat.z a.q] ++ [Dat.z (0 : Int), Dat.z (lotS a.R a.i + lotW a.R a.i)])) ∧ ∀ (v_1 : Int), v_1 = belowA a.q
  (lotS a.R a.i + lotW a.R a.i - (0 : Int) + (1 : Int)) → ∀ (v_2 : Int), v_2 = (0 : Int) + belowV a.q (lotS a.R a.i + lotW a.R a.i - (0 : Int) + (1 : Int)) → (∃ (rows_3 : List (List Int)), Ob (IsLst B x rows.length 2
  (Rv.elemOf [.i64, .i64] rows) ∧ rows_3.length = rows.length ∧ (∀ (r : List Int), r ∈ rows_3 → r.length = (2 : Nat)) ∧ ∀ (i : Nat), i < rows.length → Rv.elemOf [.i64, .i64] rows i = Rv.elemOf [.i64, .i64] rows_3 i) ∧ Ob
  (F_OwnLots.named.pre [Dat.l rows_3]) ∧ ∃ (rows_4 : List (List Int)), Ob (rows_3.length = rows_3.length ∧ rows_4.length = rows_3.length ∧ (∀ (r : List Int), r ∈ rows_4 → r.length = (2 : Nat)) ∧ ∀ (i : Nat), i <
  rows_3.length → (El.fn (Rv.elemOf [.i64, .i64] rows_3)).at i = Rv.elemOf [.i64, .i64] rows_4 i) ∧ Ob (F_ShareT.named.pre [Dat.l rows_4, Dat.z n]) ∧ (C_ShareT [Dat.l rows_4, Dat.z n] → ∀ (v_3 : Int), v_3 = lotErr n rows_4
  → Ob (IsLst B x rows.length 2 (Rv.elemOf [.i64, .i64] rows)) ∧ ∃ (rows_5 : List (List Int)), Ob (IsLst B x rows.length 2 (Rv.elemOf [.i64, .i64] rows) ∧ rows_5.length = rows.length ∧ (∀ (r : List Int), r ∈ rows_5 →
  r.length = (2 : Nat)) ∧ ∀ (i : Nat), i < rows.length → Rv.elemOf [.i64, .i64] rows i = Rv.elemOf [.i64, .i64] rows_5 i) ∧ Ob (F_ShareS.named.pre [Dat.l rows_5, Dat.z n]) ∧ (C_ShareS [Dat.l rows_5, Dat.z n] → ∀ (v_4 :
  Int), v_4 = lotErr n rows_5 → (¬¬v_3 = v_4 → Ob ((0 : Nat) ≤ (4000000 : Nat) ∧ (0 : Nat) ≤ (4000000 : Nat)) ∧ (¬¬samTo 1 [] [] 0 → ∃ (rows_6 : List (List Int)), Ob (rows_3.length = rows_3.length ∧ rows_6.length =
  rows_3.length ∧ (∀ (r : List Int), r ∈ rows_6 → r.length = (2 : Nat)) ∧ ∀ (i : Nat), i < rows_3.length → (El.fn (Rv.elemOf [.i64, .i64] rows_3)).at i = Rv.elemOf [.i64, .i64] rows_6 i) ∧ ∃ (rows_7 : List (List Int)), Ob
  (IsLst B x rows.length 2 (Rv.elemOf [.i64, .i64] rows) ∧ rows_7.length = rows.length ∧ (∀ (r : List Int), r ∈ rows_7 → r.length = (2 : Nat)) ∧ ∀ (i : Nat), i < rows.length → Rv.elemOf [.i64, .i64] rows i = Rv.elemOf
  [.i64, .i64] rows_7 i) ∧ Ob (rows_6.length ≤ (4000000 : Nat) ∧ rows_7.length ≤ (4000000 : Nat)) ∧ (¬samTo 2 rows_6 rows_7 rows_6.length → False) ∧ (¬¬samTo 2 rows_6 rows_7 rows_6.length → ∃ (a_1 : Lm), Ob a_1.Ok ∧ Ob
  (Value.int .i64 (0 : Int) = Value.int .i64 (0 : Int)) ∧ Ob (n = n) ∧ Ob (v_2 = a_1.m) ∧ Ob (n = n) ∧ Ob (SV.lst x rows.length 2 (Rv.elemOf [.i64, .i64] rows) = SV.lst x rows.length 2 (Rv.elemOf [.i64, .i64] rows)) ∧ Ob
  (List.length a.R = List.length a_1.R) ∧ Ob (List.length a.R = List.length a_1.R) ∧ Ob (List.length a.R = List.length a_1.R ∧ ∀ (i : Nat), i < List.length a_1.R → (El.fn (Rv.elemOf [.i64, .i64] a.R)).at i = (El.fn
  (Rv.elemOf [.i64, .i64] a_1.R)).at i) ∧ Ob (IsLst B x rows.length 2 (Rv.elemOf [.i64, .i64] rows)) ∧ Ob (PlainE (List.length a_1.R) (El.fn (Rv.elemOf [.i64, .i64] a_1.R))) ∧ True)) ∧ (¬samTo 1 [] [] 0 → False)) ∧ (¬v_3 =
  v_4 → False)) ∧ (¬C_ShareS [Dat.l rows_5, Dat.z n] → ∀ (v_4 : Int), v_4 = (0 : Int) → Ob (PlainE rows_5.length (El.fn fun (i : Nat) ↦ [SV.i .i64 (lotD n rows_5 i)])) ∧ (¬¬v_3 = v_4 → ∃ (rows_6 : List (List Int)), Ob
  (rows_5.length = rows_5.length ∧ rows_6.length = rows_5.length ∧ (∀ (r : List Int), r ∈ rows_6 → r.length = (1 : Nat)) ∧ ∀ (i : Nat), i < rows_5.length → (El.fn fun (i : Nat) ↦ [SV.i .i64 (lotD n rows_5 i)]).at i =
  Rv.elemOf [.i64] rows_6 i) ∧ Ob ((0 : Nat) ≤ (4000000 : Nat) ∧ rows_6.length ≤ (4000000 : Nat)) ∧ (¬¬samTo 1 [] rows_6 0 → ∃ (rows_7 : List (List Int)), Ob (rows_3.length = rows_3.length ∧ rows_7.length = rows_3.length ∧
  (∀ (r : List Int), r ∈ rows_7 → r.length = (2 : Nat)) ∧ ∀ (i : Nat), i < rows_3.length → (El.fn (Rv.elemOf [.i64, .i64] rows_3)).at i = Rv.elemOf [.i64, .i64] rows_7 i) ∧ ∃ (rows_8 : List (List Int)), Ob (IsLst B x
  rows.length 2 (Rv.elemOf [.i64, .i64] rows) ∧ rows_8.length = rows.length ∧ (∀ (r : List Int), r ∈ rows_8 → r.length = (2 : Nat)) ∧ ∀ (i : Nat), i < rows.length → Rv.elemOf [.i64, .i64] rows i = Rv.elemOf [.i64, .i64]
  rows_8 i) ∧ Ob (rows_7.length ≤ (4000000 : Nat) ∧ rows_8.length ≤ (4000000 : Nat)) ∧ (¬samTo 2 rows_7 rows_8 rows_7.length → False) ∧ (¬¬samTo 2 rows_7 rows_8 rows_7.length → ∃ (a_1 : Lm), Ob a_1.Ok ∧ Ob (Value.int .i64
  (0 : Int) = Value.int .i64 (0 : Int)) ∧ Ob (n = n) ∧ Ob (v_2 = a_1.m) ∧ Ob (n = n) ∧ Ob (SV.lst x rows.length 2 (Rv.elemOf [.i64, .i64] rows) = SV.lst x rows.length 2 (Rv.elemOf [.i64, .i64] rows)) ∧ Ob (List.length a.R
  = List.length a_1.R) ∧ Ob (List.length a.R = List.length a_1.R) ∧ Ob (List.length a.R = List.length a_1.R ∧ ∀ (i : Nat), i < List.length a_1.R → (El.fn (Rv.elemOf [.i64, .i64] a.R)).at i = (El.fn (Rv.elemOf [.i64, .i64]
  a_1.R)).at i) ∧ Ob (IsLst B x rows.length 2 (Rv.elemOf [.i64, .i64] rows)) ∧ Ob (PlainE (List.length a_1.R) (El.fn (Rv.elemOf [.i64, .i64] a_1.R))) ∧ True)) ∧ (¬samTo 1 [] rows_6 0 → False)) ∧ (¬v_3 = v_4 → False))) ∧
  (¬C_ShareT [Dat.l rows_4, Dat.z n] → ∀ (v_3 : Int), v_3 = (0 : Int) → Ob (IsLst B x rows.length 2 (Rv.elemOf [.i64, .i64] rows)) ∧ ∃ (rows_5 : List (List Int)), Ob (IsLst B x rows.length 2 (Rv.elemOf [.i64, .i64] rows) ∧
  rows_5.length = rows.length ∧ (∀ (r : List Int), r ∈ rows_5 → r.length = (2 : Nat)) ∧ ∀ (i : Nat), i < rows.length → Rv.elemOf [.i64, .i64] rows i = Rv.elemOf [.i64, .i64] rows_5 i) ∧ Ob (F_ShareS.named.pre [Dat.l
  rows_5, Dat.z n]) ∧ (C_ShareS [Dat.l rows_5, Dat.z n] → ∀ (v_4 : Int), v_4 = lotErr n rows_5 → (¬¬v_3 = v_4 → ∃ (rows_6 : List (List Int)), Ob (rows_4.length = rows_4.length ∧ rows_6.length = rows_4.length ∧ (∀ (r : List
  Int), r ∈ rows_6 → r.length = (1 : Nat)) ∧ ∀ (i : Nat), i < rows_4.length → (El.fn fun (i : Nat) ↦ [SV.i .i64 (lotD n rows_4 i)]).at i = Rv.elemOf [.i64] rows_6 i) ∧ Ob (rows_6.length ≤ (4000000 : Nat) ∧ (0 : Nat) ≤
  (4000000 : Nat)) ∧ (¬¬samTo 1 rows_6 [] rows_6.length → ∃ (rows_7 : List (List Int)), Ob (rows_3.length = rows_3.length ∧ rows_7.length = rows_3.length ∧ (∀ (r : List Int), r ∈ rows_7 → r.length = (2 : Nat)) ∧ ∀ (i :
  Nat), i < rows_3.length → (El.fn (Rv.elemOf [.i64, .i64] rows_3)).at i = Rv.elemOf [.i64, .i64] rows_7 i) ∧ ∃ (rows_8 : List (List Int)), Ob (IsLst B x rows.length 2 (Rv.elemOf [.i64, .i64] rows) ∧ rows_8.length =
  rows.length ∧ (∀ (r : List Int), r ∈ rows_8 → r.length = (2 : Nat)) ∧ ∀ (i : Nat), i < rows.length → Rv.elemOf [.i64, .i64] rows i = Rv.elemOf [.i64, .i64] rows_8 i) ∧ Ob (rows_7.length ≤ (4000000 : Nat) ∧ rows_8.length
  ≤ (4000000 : Nat)) ∧ (¬samTo 2 rows_7 rows_8 rows_7.length → False) ∧ (¬¬samTo 2 rows_7 rows_8 rows_7.length → ∃ (a_1 : Lm), Ob a_1.Ok ∧ Ob (Value.int .i64 (0 : Int) = Value.int .i64 (0 : Int)) ∧ Ob (n = n) ∧ Ob (v_2 =
  a_1.m) ∧ Ob (n = n) ∧ Ob (SV.lst x rows.length 2 (Rv.elemOf [.i64, .i64] rows) = SV.lst x rows.length 2 (Rv.elemOf [.i64, .i64] rows)) ∧ Ob (List.length a.R = List.length a_1.R) ∧ Ob (List.length a.R = List.length a_1.R)
  ∧ Ob (List.length a.R = List.length a_1.R ∧ ∀ (i : Nat), i < List.length a_1.R → (El.fn (Rv.elemOf [.i64, .i64] a.R)).at i = (El.fn (Rv.elemOf [.i64, .i64] a_1.R)).at i) ∧ Ob (IsLst B x rows.length 2 (Rv.elemOf [.i64,
  .i64] rows)) ∧ Ob (PlainE (List.length a_1.R) (El.fn (Rv.elemOf [.i64, .i64] a_1.R))) ∧ True)) ∧ (¬samTo 1 rows_6 [] rows_6.length → False)) ∧ (¬v_3 = v_4 → False)) ∧ (¬C_ShareS [Dat.l rows_5, Dat.z n] → ∀ (v_4 : Int),
  v_4 = (0 : Int) → Ob (PlainE rows_5.length (El.fn fun (i : Nat) ↦ [SV.i .i64 (lotD n rows_5 i)])) ∧ (¬¬v_3 = v_4 → ∃ (rows_6 : List (List Int)), Ob (rows_4.length = rows_4.length ∧ rows_6.length = rows_4.length ∧ (∀ (r :
  List Int), r ∈ rows_6 → r.length = (1 : Nat)) ∧ ∀ (i : Nat), i < rows_4.length → (El.fn fun (i : Nat) ↦ [SV.i .i64 (lotD n rows_4 i)]).at i = Rv.elemOf [.i64] rows_6 i) ∧ ∃ (rows_7 : List (List Int)), Ob (rows_5.length =
  rows_5.length ∧ rows_7.length = rows_5.length ∧ (∀ (r : List Int), r ∈ rows_7 → r.length = (1 : Nat)) ∧ ∀ (i : Nat), i < rows_5.length → (El.fn fun (i : Nat) ↦ [SV.i .i64 (lotD n rows_5 i)]).at i = Rv.elemOf [.i64]
  rows_7 i) ∧ Ob (rows_6.length ≤ (4000000 : Nat) ∧ rows_7.length ≤ (4000000 : Nat)) ∧ (¬¬samTo 1 rows_6 rows_7 rows_6.length → ∃ (rows_8 : List (List Int)), Ob (rows_3.length = rows_3.length ∧ rows_8.length =
  rows_3.length ∧ (∀ (r : List Int), r ∈ rows_8 → r.length = (2 : Nat)) ∧ ∀ (i : Nat), i < rows_3.length → (El.fn (Rv.elemOf [.i64, .i64] rows_3)).at i = Rv.elemOf [.i64, .i64] rows_8 i) ∧ ∃ (rows_9 : List (List Int)), Ob
  (IsLst B x rows.length 2 (Rv.elemOf [.i64, .i64] rows) ∧ rows_9.length = rows.length ∧ (∀ (r : List Int), r ∈ rows_9 → r.length = (2 : Nat)) ∧ ∀ (i : Nat), i < rows.length → Rv.elemOf [.i64, .i64] rows i = Rv.elemOf
  [.i64, .i64] rows_9 i) ∧ Ob (rows_8.length ≤ (4000000 : Nat) ∧ rows_9.length ≤ (4000000 : Nat)) ∧ (¬samTo 2 rows_8 rows_9 rows_8.length → False) ∧ (¬¬samTo 2 rows_8 rows_9 rows_8.length → ∃ (a_1 : Lm), Ob a_1.Ok ∧ Ob
  (Value.int .i64 (0 : Int) = Value.int .i64 (0 : Int)) ∧ Ob (n = n) ∧ Ob (v_2 = a_1.m) ∧ Ob (n = n) ∧ Ob (SV.lst x rows.length 2 (Rv.elemOf [.i64, .i64] rows) = SV.lst x rows.length 2 (Rv.elemOf [.i64, .i64] rows)) ∧ Ob
  (List.length a.R = List.length a_1.R) ∧ Ob (List.length a.R = List.length a_1.R) ∧ Ob (List.length a.R = List.length a_1.R ∧ ∀ (i : Nat), i < List.length a_1.R → (El.fn (Rv.elemOf [.i64, .i64] a.R)).at i = (El.fn
  (Rv.elemOf [.i64, .i64] a_1.R)).at i) ∧ Ob (IsLst B x rows.length 2 (Rv.elemOf [.i64, .i64] rows)) ∧ Ob (PlainE (List.length a_1.R) (El.fn (Rv.elemOf [.i64, .i64] a_1.R))) ∧ True)) ∧ (¬samTo 1 rows_6 rows_7 rows_6.length
  → False)) ∧ (¬v_3 = v_4 → False)))) ∧ ∀ (a_1 : Lm), a_1.Ok → ∀ (z_100 z_101 z_102 z_103 z_104 z_105 z_106 z_107 z_108 z_109 z_110 z_111 z_112 z_113 z_114 z_115 z_116 z_117 z_118 z_119 z_120 z_121 z_122 z_123 z_124 z_125
  z_126 z_127 z_128 z_129 z_130 z_131 z_132 z_133 z_134 z_135 z_136 z_137 z_138 z_139 z_140 z_141 z_142 z_143 z_144 z_145 z_146 z_147 z_148 z_149 z_150 z_151 z_152 z_153 z_154 z_155 z_156 z_157 z_158 z_159 z_160 z_161
  z_162 z_163 z_164 z_165 z_166 z_167 z_168 z_169 z_170 z_171 z_172 z_173 z_174 z_175 z_176 z_177 z_178 z_179 z_180 z_181 z_182 z_183 z_184 z_185 z_186 z_187 z_188 z_189 z_190 z_191 z_192 z_193 z_194 z_195 z_196 z_197
  z_198 z_199 z_200 z_201 z_202 z_203 : Value), (∃ (rows_3 : List (List Int)), Ob (List.length a_1.R = List.length a_1.R ∧ rows_3.length = List.length a_1.R ∧ (∀ (r : List Int), r ∈ rows_3 → r.length = (2 : Nat)) ∧ ∀ (i :
  Nat), i < List.length a_1.R → (El.fn (Rv.elemOf [.i64, .i64] a_1.R)).at i = Rv.elemOf [.i64, .i64] rows_3 i) ∧ Ob (F_OwnLots.named.pre [Dat.l rows_3]) ∧ ∃ (rows_4 : List (List Int)), Ob (rows_3.length = rows_3.length ∧
  rows_4.length = rows_3.length ∧ (∀ (r : List Int), r ∈ rows_4 → r.length = (2 : Nat)) ∧ ∀ (i : Nat), i < rows_3.length → (El.fn (Rv.elemOf [.i64, .i64] rows_3)).at i = Rv.elemOf [.i64, .i64] rows_4 i) ∧ Ob
  (F_ShareT.named.pre [Dat.l rows_4, Dat.z a_1.m]) ∧ (C_ShareT [Dat.l rows_4, Dat.z a_1.m] → ∀ (v_3 : Int), v_3 = lotErr a_1.m rows_4 → ∃ (rows_5 : List (List Int)), Ob (List.length a_1.R = List.length a_1.R ∧
  rows_5.length = List.length a_1.R ∧ (∀ (r : List Int), r ∈ rows_5 → r.length = (2 : Nat)) ∧ ∀ (i : Nat), i < List.length a_1.R → (El.fn (Rv.elemOf [.i64, .i64] a_1.R)).at i = Rv.elemOf [.i64, .i64] rows_5 i) ∧ Ob
  (F_ShareS.named.pre [Dat.l rows_5, Dat.z a_1.m]) ∧ (C_ShareS [Dat.l rows_5, Dat.z a_1.m] → ∀ (v_4 : Int), v_4 = lotErr a_1.m rows_5 → (¬¬v_3 = v_4 → Ob ((0 : Nat) ≤ (4000000 : Nat) ∧ (0 : Nat) ≤ (4000000 : Nat)) ∧
  (¬¬samTo 1 [] [] 0 → ∃ (rows_6 : List (List Int)), Ob (rows_3.length = rows_3.length ∧ rows_6.length = rows_3.length ∧ (∀ (r : List Int), r ∈ rows_6 → r.length = (2 : Nat)) ∧ ∀ (i : Nat), i < rows_3.length → (El.fn
  (Rv.elemOf [.i64, .i64] rows_3)).at i = Rv.elemOf [.i64, .i64] rows_6 i) ∧ ∃ (rows_7 : List (List Int)), Ob (List.length a_1.R = List.length a_1.R ∧ rows_7.length = List.length a_1.R ∧ (∀ (r : List Int), r ∈ rows_7 →
  r.length = (2 : Nat)) ∧ ∀ (i : Nat), i < List.length a_1.R → (El.fn (Rv.elemOf [.i64, .i64] a_1.R)).at i = Rv.elemOf [.i64, .i64] rows_7 i) ∧ Ob (rows_6.length ≤ (4000000 : Nat) ∧ rows_7.length ≤ (4000000 : Nat)) ∧
  (¬samTo 2 rows_6 rows_7 rows_6.length → False) ∧ (¬¬samTo 2 rows_6 rows_7 rows_6.length → ∃ (a_2 : Lm), Ob a_2.Ok ∧ Ob (Value.int .i64 (Int.ofNat 1) = Value.int .i64 (Int.ofNat 1)) ∧ Ob (n = n) ∧ Ob (a_1.m = a_2.m) ∧ Ob
  (n = n) ∧ Ob (SV.lst x rows.length 2 (Rv.elemOf [.i64, .i64] rows) = SV.lst x rows.length 2 (Rv.elemOf [.i64, .i64] rows)) ∧ Ob (List.length a_1.R = List.length a_2.R) ∧ Ob (List.length a_1.R = List.length a_2.R) ∧ Ob
  (List.length a_1.R = List.length a_2.R ∧ ∀ (i : Nat), i < List.length a_2.R → (El.fn (Rv.elemOf [.i64, .i64] a_1.R)).at i = (El.fn (Rv.elemOf [.i64, .i64] a_2.R)).at i) ∧ Ob (IsLst B x rows.length 2 (Rv.elemOf [.i64,
  .i64] rows)) ∧ Ob (PlainE (List.length a_2.R) (El.fn (Rv.elemOf [.i64, .i64] a_2.R))) ∧ True)) ∧ (¬samTo 1 [] [] 0 → False)) ∧ (¬v_3 = v_4 → False)) ∧ (¬C_ShareS [Dat.l rows_5, Dat.z a_1.m] → ∀ (v_4 : Int), v_4 = (0 :
  Int) → Ob (PlainE rows_5.length (El.fn fun (i : Nat) ↦ [SV.i .i64 (lotD a_1.m rows_5 i)])) ∧ (¬¬v_3 = v_4 → ∃ (rows_6 : List (List Int)), Ob (rows_5.length = rows_5.length ∧ rows_6.length = rows_5.length ∧ (∀ (r : List
  Int), r ∈ rows_6 → r.length = (1 : Nat)) ∧ ∀ (i : Nat), i < rows_5.length → (El.fn fun (i : Nat) ↦ [SV.i .i64 (lotD a_1.m rows_5 i)]).at i = Rv.elemOf [.i64] rows_6 i) ∧ Ob ((0 : Nat) ≤ (4000000 : Nat) ∧ rows_6.length ≤
  (4000000 : Nat)) ∧ (¬¬samTo 1 [] rows_6 0 → ∃ (rows_7 : List (List Int)), Ob (rows_3.length = rows_3.length ∧ rows_7.length = rows_3.length ∧ (∀ (r : List Int), r ∈ rows_7 → r.length = (2 : Nat)) ∧ ∀ (i : Nat), i <
  rows_3.length → (El.fn (Rv.elemOf [.i64, .i64] rows_3)).at i = Rv.elemOf [.i64, .i64] rows_7 i) ∧ ∃ (rows_8 : List (List Int)), Ob (List.length a_1.R = List.length a_1.R ∧ rows_8.length = List.length a_1.R ∧ (∀ (r : List
  Int), r ∈ rows_8 → r.length = (2 : Nat)) ∧ ∀ (i : Nat), i < List.length a_1.R → (El.fn (Rv.elemOf [.i64, .i64] a_1.R)).at i = Rv.elemOf [.i64, .i64] rows_8 i) ∧ Ob (rows_7.length ≤ (4000000 : Nat) ∧ rows_8.length ≤
  (4000000 : Nat)) ∧ (¬samTo 2 rows_7 rows_8 rows_7.length → False) ∧ (¬¬samTo 2 rows_7 rows_8 rows_7.length → ∃ (a_2 : Lm), Ob a_2.Ok ∧ Ob (Value.int .i64 (Int.ofNat 1) = Value.int .i64 (Int.ofNat 1)) ∧ Ob (n = n) ∧ Ob
  (a_1.m = a_2.m) ∧ Ob (n = n) ∧ Ob (SV.lst x rows.length 2 (Rv.elemOf [.i64, .i64] rows) = SV.lst x rows.length 2 (Rv.elemOf [.i64, .i64] rows)) ∧ Ob (List.length a_1.R = List.length a_2.R) ∧ Ob (List.length a_1.R =
  List.length a_2.R) ∧ Ob (List.length a_1.R = List.length a_2.R ∧ ∀ (i : Nat), i < List.length a_2.R → (El.fn (Rv.elemOf [.i64, .i64] a_1.R)).at i = (El.fn (Rv.elemOf [.i64, .i64] a_2.R)).at i) ∧ Ob (IsLst B x rows.length
  2 (Rv.elemOf [.i64, .i64] rows)) ∧ Ob (PlainE (List.length a_2.R) (El.fn (Rv.elemOf [.i64, .i64] a_2.R))) ∧ True)) ∧ (¬samTo 1 [] rows_6 0 → False)) ∧ (¬v_3 = v_4 → False))) ∧ (¬C_ShareT [Dat.l rows_4, Dat.z a_1.m] → ∀
  (v_3 : Int), v_3 = (0 : Int) → ∃ (rows_5 : List (List Int)), Ob (List.length a_1.R = List.length a_1.R ∧ rows_5.length = List.length a_1.R ∧ (∀ (r : List Int), r ∈ rows_5 → r.length = (2 : Nat)) ∧ ∀ (i : Nat), i <
  List.length a_1.R → (El.fn (Rv.elemOf [.i64, .i64] a_1.R)).at i = Rv.elemOf [.i64, .i64] rows_5 i) ∧ Ob (F_ShareS.named.pre [Dat.l rows_5, Dat.z a_1.m]) ∧ (C_ShareS [Dat.l rows_5, Dat.z a_1.m] → ∀ (v_4 : Int), v_4 =
  lotErr a_1.m rows_5 → (¬¬v_3 = v_4 → ∃ (rows_6 : List (List Int)), Ob (rows_4.length = rows_4.length ∧ rows_6.length = rows_4.length ∧ (∀ (r : List Int), r ∈ rows_6 → r.length = (1 : Nat)) ∧ ∀ (i : Nat), i <
  rows_4.length → (El.fn fun (i : Nat) ↦ [SV.i .i64 (lotD a_1.m rows_4 i)]).at i = Rv.elemOf [.i64] rows_6 i) ∧ Ob (rows_6.length ≤ (4000000 : Nat) ∧ (0 : Nat) ≤ (4000000 : Nat)) ∧ (¬¬samTo 1 rows_6 [] rows_6.length → ∃
  (rows_7 : List (List Int)), Ob (rows_3.length = rows_3.length ∧ rows_7.length = rows_3.length ∧ (∀ (r : List Int), r ∈ rows_7 → r.length = (2 : Nat)) ∧ ∀ (i : Nat), i < rows_3.length → (El.fn (Rv.elemOf [.i64, .i64]
  rows_3)).at i = Rv.elemOf [.i64, .i64] rows_7 i) ∧ ∃ (rows_8 : List (List Int)), Ob (List.length a_1.R = List.length a_1.R ∧ rows_8.length = List.length a_1.R ∧ (∀ (r : List Int), r ∈ rows_8 → r.length = (2 : Nat)) ∧ ∀
  (i : Nat), i < List.length a_1.R → (El.fn (Rv.elemOf [.i64, .i64] a_1.R)).at i = Rv.elemOf [.i64, .i64] rows_8 i) ∧ Ob (rows_7.length ≤ (4000000 : Nat) ∧ rows_8.length ≤ (4000000 : Nat)) ∧ (¬samTo 2 rows_7 rows_8
  rows_7.length → False) ∧ (¬¬samTo 2 rows_7 rows_8 rows_7.length → ∃ (a_2 : Lm), Ob a_2.Ok ∧ Ob (Value.int .i64 (Int.ofNat 1) = Value.int .i64 (Int.ofNat 1)) ∧ Ob (n = n) ∧ Ob (a_1.m = a_2.m) ∧ Ob (n = n) ∧ Ob (SV.lst x
  rows.length 2 (Rv.elemOf [.i64, .i64] rows) = SV.lst x rows.length 2 (Rv.elemOf [.i64, .i64] rows)) ∧ Ob (List.length a_1.R = List.length a_2.R) ∧ Ob (List.length a_1.R = List.length a_2.R) ∧ Ob (List.length a_1.R =
  List.length a_2.R ∧ ∀ (i : Nat), i < List.length a_2.R → (El.fn (Rv.elemOf [.i64, .i64] a_1.R)).at i = (El.fn (Rv.elemOf [.i64, .i64] a_2.R)).at i) ∧ Ob (IsLst B x rows.length 2 (Rv.elemOf [.i64, .i64] rows)) ∧ Ob
  (PlainE (List.length a_2.R) (El.fn (Rv.elemOf [.i64, .i64] a_2.R))) ∧ True)) ∧ (¬samTo 1 rows_6 [] rows_6.length → False)) ∧ (¬v_3 = v_4 → False)) ∧ (¬C_ShareS [Dat.l rows_5, Dat.z a_1.m] → ∀ (v_4 : Int), v_4 = (0 : Int)
  → Ob (PlainE rows_5.length (El.fn fun (i : Nat) ↦ [SV.i .i64 (lotD a_1.m rows_5 i)])) ∧ (¬¬v_3 = v_4 → ∃ (rows_6 : List (List Int)), Ob (rows_4.length = rows_4.length ∧ rows_6.length = rows_4.length ∧ (∀ (r : List Int),
  r ∈ rows_6 → r.length = (1 : Nat)) ∧ ∀ (i : Nat), i < rows_4.length → (El.fn fun (i : Nat) ↦ [SV.i .i64 (lotD a_1.m rows_4 i)]).at i = Rv.elemOf [.i64] rows_6 i) ∧ ∃ (rows_7 : List (List Int)), Ob (rows_5.length =
  rows_5.length ∧ rows_7.length = rows_5.length ∧ (∀ (r : List Int), r ∈ rows_7 → r.length = (1 : Nat)) ∧ ∀ (i : Nat), i < rows_5.length → (El.fn fun (i : Nat) ↦ [SV.i .i64 (lotD a_1.m rows_5 i)]).at i = Rv.elemOf [.i64]
  rows_7 i) ∧ Ob (rows_6.length ≤ (4000000 : Nat) ∧ rows_7.length ≤ (4000000 : Nat)) ∧ (¬¬samTo 1 rows_6 rows_7 rows_6.length → ∃ (rows_8 : List (List Int)), Ob (rows_3.length = rows_3.length ∧ rows_8.length =
  rows_3.length ∧ (∀ (r : List Int), r ∈ rows_8 → r.length = (2 : Nat)) ∧ ∀ (i : Nat), i < rows_3.length → (El.fn (Rv.elemOf [.i64, .i64] rows_3)).at i = Rv.elemOf [.i64, .i64] rows_8 i) ∧ ∃ (rows_9 : List (List Int)), Ob
  (List.length a_1.R = List.length a_1.R ∧ rows_9.length = List.length a_1.R ∧ (∀ (r : List Int), r ∈ rows_9 → r.length = (2 : Nat)) ∧ ∀ (i : Nat), i < List.length a_1.R → (El.fn (Rv.elemOf [.i64, .i64] a_1.R)).at i =
  Rv.elemOf [.i64, .i64] rows_9 i) ∧ Ob (rows_8.length ≤ (4000000 : Nat) ∧ rows_9.length ≤ (4000000 : Nat)) ∧ (¬samTo 2 rows_8 rows_9 rows_8.length → False) ∧ (¬¬samTo 2 rows_8 rows_9 rows_8.length → ∃ (a_2 : Lm), Ob
  a_2.Ok ∧ Ob (Value.int .i64 (Int.ofNat 1) = Value.int .i64 (Int.ofNat 1)) ∧ Ob (n = n) ∧ Ob (a_1.m = a_2.m) ∧ Ob (n = n) ∧ Ob (SV.lst x rows.length 2 (Rv.elemOf [.i64, .i64] rows) = SV.lst x rows.length 2 (Rv.elemOf
  [.i64, .i64] rows)) ∧ Ob (List.length a_1.R = List.length a_2.R) ∧ Ob (List.length a_1.R = List.length a_2.R) ∧ Ob (List.length a_1.R = List.length a_2.R ∧ ∀ (i : Nat), i < List.length a_2.R → (El.fn (Rv.elemOf [.i64,
  .i64] a_1.R)).at i = (El.fn (Rv.elemOf [.i64, .i64] a_2.R)).at i) ∧ Ob (IsLst B x rows.length 2 (Rv.elemOf [.i64, .i64] rows)) ∧ Ob (PlainE (List.length a_2.R) (El.fn (Rv.elemOf [.i64, .i64] a_2.R))) ∧ True)) ∧ (¬samTo 1
  rows_6 rows_7 rows_6.length → False)) ∧ (¬v_3 = v_4 → False)))) ∧ ∀ (a_2 : Lm), a_2.Ok → ∀ (z_204 z_205 z_206 z_207 z_208 z_209 z_210 z_211 z_212 z_213 z_214 z_215 z_216 z_217 z_218 z_219 z_220 z_221 z_222 z_223 z_224
  z_225 z_226 z_227 z_228 z_229 z_230 z_231 z_232 z_233 z_234 z_235 z_236 z_237 z_238 z_239 z_240 z_241 z_242 z_243 z_244 z_245 z_246 z_247 z_248 z_249 z_250 z_251 z_252 z_253 z_254 z_255 z_256 z_257 z_258 z_259 z_260
  z_261 z_262 z_263 z_264 z_265 z_266 z_267 z_268 z_269 z_270 z_271 z_272 z_273 z_274 z_275 z_276 z_277 z_278 z_279 z_280 z_281 z_282 z_283 z_284 z_285 z_286 z_287 z_288 z_289 z_290 z_291 z_292 z_293 z_294 z_295 z_296
  z_297 z_298 z_299 z_300 z_301 z_302 z_303 z_304 z_305 z_306 z_307 : Value), (∃ (rows_3 : List (List Int)), Ob (List.length a_2.R = List.length a_2.R ∧ rows_3.length = List.length a_2.R ∧ (∀ (r : List Int), r ∈ rows_3 →
  r.length = (2 : Nat)) ∧ ∀ (i : Nat), i < List.length a_2.R → (El.fn (Rv.elemOf [.i64, .i64] a_2.R)).at i = Rv.elemOf [.i64, .i64] rows_3 i) ∧ Ob (F_OwnLots.named.pre [Dat.l rows_3]) ∧ ∃ (rows_4 : List (List Int)), Ob
  (rows_3.length = rows_3.length ∧ rows_4.length = rows_3.length ∧ (∀ (r : List Int), r ∈ rows_4 → r.length = (2 : Nat)) ∧ ∀ (i : Nat), i < rows_3.length → (El.fn (Rv.elemOf [.i64, .i64] rows_3)).at i = Rv.elemOf [.i64,
  .i64] rows_4 i) ∧ Ob (F_ShareT.named.pre [Dat.l rows_4, Dat.z n]) ∧ (C_ShareT [Dat.l rows_4, Dat.z n] → ∀ (v_3 : Int), v_3 = lotErr n rows_4 → ∃ (rows_5 : List (List Int)), Ob (List.length a_2.R = List.length a_2.R ∧
  rows_5.length = List.length a_2.R ∧ (∀ (r : List Int), r ∈ rows_5 → r.length = (2 : Nat)) ∧ ∀ (i : Nat), i < List.length a_2.R → (El.fn (Rv.elemOf [.i64, .i64] a_2.R)).at i = Rv.elemOf [.i64, .i64] rows_5 i) ∧ Ob
  (F_ShareS.named.pre [Dat.l rows_5, Dat.z n]) ∧ (C_ShareS [Dat.l rows_5, Dat.z n] → ∀ (v_4 : Int), v_4 = lotErr n rows_5 → (¬¬v_3 = v_4 → Ob ((0 : Nat) ≤ (4000000 : Nat) ∧ (0 : Nat) ≤ (4000000 : Nat)) ∧ (¬¬samTo 1 [] [] 0
  → ∃ (rows_6 : List (List Int)), Ob (rows_3.length = rows_3.length ∧ rows_6.length = rows_3.length ∧ (∀ (r : List Int), r ∈ rows_6 → r.length = (2 : Nat)) ∧ ∀ (i : Nat), i < rows_3.length → (El.fn (Rv.elemOf [.i64, .i64]
  rows_3)).at i = Rv.elemOf [.i64, .i64] rows_6 i) ∧ ∃ (rows_7 : List (List Int)), Ob (List.length a_2.R = List.length a_2.R ∧ rows_7.length = List.length a_2.R ∧ (∀ (r : List Int), r ∈ rows_7 → r.length = (2 : Nat)) ∧ ∀
  (i : Nat), i < List.length a_2.R → (El.fn (Rv.elemOf [.i64, .i64] a_2.R)).at i = Rv.elemOf [.i64, .i64] rows_7 i) ∧ Ob (rows_6.length ≤ (4000000 : Nat) ∧ rows_7.length ≤ (4000000 : Nat)) ∧ (¬samTo 2 rows_6 rows_7
  rows_6.length → False) ∧ (¬¬samTo 2 rows_6 rows_7 rows_6.length → ∃ (a_3 : Lm), Ob a_3.Ok ∧ Ob (Value.int .i64 (Int.ofNat 2) = Value.int .i64 (Int.ofNat 2)) ∧ Ob (n = n) ∧ Ob (a_2.m = a_3.m) ∧ Ob (n = n) ∧ Ob (SV.lst x
  rows.length 2 (Rv.elemOf [.i64, .i64] rows) = SV.lst x rows.length 2 (Rv.elemOf [.i64, .i64] rows)) ∧ Ob (List.length a_2.R = List.length a_3.R) ∧ Ob (List.length a_2.R = List.length a_3.R) ∧ Ob (List.length a_2.R =
  List.length a_3.R ∧ ∀ (i : Nat), i < List.length a_3.R → (El.fn (Rv.elemOf [.i64, .i64] a_2.R)).at i = (El.fn (Rv.elemOf [.i64, .i64] a_3.R)).at i) ∧ Ob (IsLst B x rows.length 2 (Rv.elemOf [.i64, .i64] rows)) ∧ Ob
  (PlainE (List.length a_3.R) (El.fn (Rv.elemOf [.i64, .i64] a_3.R))) ∧ True)) ∧ (¬samTo 1 [] [] 0 → False)) ∧ (¬v_3 = v_4 → False)) ∧ (¬C_ShareS [Dat.l rows_5, Dat.z n] → ∀ (v_4 : Int), v_4 = (0 : Int) → Ob (PlainE
  rows_5.length (El.fn fun (i : Nat) ↦ [SV.i .i64 (lotD n rows_5 i)])) ∧ (¬¬v_3 = v_4 → ∃ (rows_6 : List (List Int)), Ob (rows_5.length = rows_5.length ∧ rows_6.length = rows_5.length ∧ (∀ (r : List Int), r ∈ rows_6 →
  r.length = (1 : Nat)) ∧ ∀ (i : Nat), i < rows_5.length → (El.fn fun (i : Nat) ↦ [SV.i .i64 (lotD n rows_5 i)]).at i = Rv.elemOf [.i64] rows_6 i) ∧ Ob ((0 : Nat) ≤ (4000000 : Nat) ∧ rows_6.length ≤ (4000000 : Nat)) ∧
  (¬¬samTo 1 [] rows_6 0 → ∃ (rows_7 : List (List Int)), Ob (rows_3.length = rows_3.length ∧ rows_7.length = rows_3.length ∧ (∀ (r : List Int), r ∈ rows_7 → r.length = (2 : Nat)) ∧ ∀ (i : Nat), i < rows_3.length → (El.fn
  (Rv.elemOf [.i64, .i64] rows_3)).at i = Rv.elemOf [.i64, .i64] rows_7 i) ∧ ∃ (rows_8 : List (List Int)), Ob (List.length a_2.R = List.length a_2.R ∧ rows_8.length = List.length a_2.R ∧ (∀ (r : List Int), r ∈ rows_8 →
  r.length = (2 : Nat)) ∧ ∀ (i : Nat), i < List.length a_2.R → (El.fn (Rv.elemOf [.i64, .i64] a_2.R)).at i = Rv.elemOf [.i64, .i64] rows_8 i) ∧ Ob (rows_7.length ≤ (4000000 : Nat) ∧ rows_8.length ≤ (4000000 : Nat)) ∧
  (¬samTo 2 rows_7 rows_8 rows_7.length → False) ∧ (¬¬samTo 2 rows_7 rows_8 rows_7.length → ∃ (a_3 : Lm), Ob a_3.Ok ∧ Ob (Value.int .i64 (Int.ofNat 2) = Value.int .i64 (Int.ofNat 2)) ∧ Ob (n = n) ∧ Ob (a_2.m = a_3.m) ∧ Ob
  (n = n) ∧ Ob (SV.lst x rows.length 2 (Rv.elemOf [.i64, .i64] rows) = SV.lst x rows.length 2 (Rv.elemOf [.i64, .i64] rows)) ∧ Ob (List.length a_2.R = List.length a_3.R) ∧ Ob (List.length a_2.R = List.length a_3.R) ∧ Ob
  (List.length a_2.R = List.length a_3.R ∧ ∀ (i : Nat), i < List.length a_3.R → (El.fn (Rv.elemOf [.i64, .i64] a_2.R)).at i = (El.fn (Rv.elemOf [.i64, .i64] a_3.R)).at i) ∧ Ob (IsLst B x rows.length 2 (Rv.elemOf [.i64,
  .i64] rows)) ∧ Ob (PlainE (List.length a_3.R) (El.fn (Rv.elemOf [.i64, .i64] a_3.R))) ∧ True)) ∧ (¬samTo 1 [] rows_6 0 → False)) ∧ (¬v_3 = v_4 → False))) ∧ (¬C_ShareT [Dat.l rows_4, Dat.z n] → ∀ (v_3 : Int), v_3 = (0 :
  Int) → ∃ (rows_5 : List (List Int)), Ob (List.length a_2.R = List.length a_2.R ∧ rows_5.length = List.length a_2.R ∧ (∀ (r : List Int), r ∈ rows_5 → r.length = (2 : Nat)) ∧ ∀ (i : Nat), i < List.length a_2.R → (El.fn
  (Rv.elemOf [.i64, .i64] a_2.R)).at i = Rv.elemOf [.i64, .i64] rows_5 i) ∧ Ob (F_ShareS.named.pre [Dat.l rows_5, Dat.z n]) ∧ (C_ShareS [Dat.l rows_5, Dat.z n] → ∀ (v_4 : Int), v_4 = lotErr n rows_5 → (¬¬v_3 = v_4 → ∃
  (rows_6 : List (List Int)), Ob (rows_4.length = rows_4.length ∧ rows_6.length = rows_4.length ∧ (∀ (r : List Int), r ∈ rows_6 → r.length = (1 : Nat)) ∧ ∀ (i : Nat), i < rows_4.length → (El.fn fun (i : Nat) ↦ [SV.i .i64
  (lotD n rows_4 i)]).at i = Rv.elemOf [.i64] rows_6 i) ∧ Ob (rows_6.length ≤ (4000000 : Nat) ∧ (0 : Nat) ≤ (4000000 : Nat)) ∧ (¬¬samTo 1 rows_6 [] rows_6.length → ∃ (rows_7 : List (List Int)), Ob (rows_3.length =
  rows_3.length ∧ rows_7.length = rows_3.length ∧ (∀ (r : List Int), r ∈ rows_7 → r.length = (2 : Nat)) ∧ ∀ (i : Nat), i < rows_3.length → (El.fn (Rv.elemOf [.i64, .i64] rows_3)).at i = Rv.elemOf [.i64, .i64] rows_7 i) ∧ ∃
  (rows_8 : List (List Int)), Ob (List.length a_2.R = List.length a_2.R ∧ rows_8.length = List.length a_2.R ∧ (∀ (r : List Int), r ∈ rows_8 → r.length = (2 : Nat)) ∧ ∀ (i : Nat), i < List.length a_2.R → (El.fn (Rv.elemOf
  [.i64, .i64] a_2.R)).at i = Rv.elemOf [.i64, .i64] rows_8 i) ∧ Ob (rows_7.length ≤ (4000000 : Nat) ∧ rows_8.length ≤ (4000000 : Nat)) ∧ (¬samTo 2 rows_7 rows_8 rows_7.length → False) ∧ (¬¬samTo 2 rows_7 rows_8
  rows_7.length → ∃ (a_3 : Lm), Ob a_3.Ok ∧ Ob (Value.int .i64 (Int.ofNat 2) = Value.int .i64 (Int.ofNat 2)) ∧ Ob (n = n) ∧ Ob (a_2.m = a_3.m) ∧ Ob (n = n) ∧ Ob (SV.lst x rows.length 2 (Rv.elemOf [.i64, .i64] rows) =
  SV.lst x rows.length 2 (Rv.elemOf [.i64, .i64] rows)) ∧ Ob (List.length a_2.R = List.length a_3.R) ∧ Ob (List.length a_2.R = List.length a_3.R) ∧ Ob (List.length a_2.R = List.length a_3.R ∧ ∀ (i : Nat), i < List.length
  a_3.R → (El.fn (Rv.elemOf [.i64, .i64] a_2.R)).at i = (El.fn (Rv.elemOf [.i64, .i64] a_3.R)).at i) ∧ Ob (IsLst B x rows.length 2 (Rv.elemOf [.i64, .i64] rows)) ∧ Ob (PlainE (List.length a_3.R) (El.fn (Rv.elemOf [.i64,
  .i64] a_3.R))) ∧ True)) ∧ (¬samTo 1 rows_6 [] rows_6.length → False)) ∧ (¬v_3 = v_4 → False)) ∧ (¬C_ShareS [Dat.l rows_5, Dat.z n] → ∀ (v_4 : Int), v_4 = (0 : Int) → Ob (PlainE rows_5.length (El.fn fun (i : Nat) ↦ [SV.i
  .i64 (lotD n rows_5 i)])) ∧ (¬¬v_3 = v_4 → ∃ (rows_6 : List (List Int)), Ob (rows_4.length = rows_4.length ∧ rows_6.length = rows_4.length ∧ (∀ (r : List Int), r ∈ rows_6 → r.length = (1 : Nat)) ∧ ∀ (i : Nat), i <
  rows_4.length → (El.fn fun (i : Nat) ↦ [SV.i .i64 (lotD n rows_4 i)]).at i = Rv.elemOf [.i64] rows_6 i) ∧ ∃ (rows_7 : List (List Int)), Ob (rows_5.length = rows_5.length ∧ rows_7.length = rows_5.length ∧ (∀ (r : List
  Int), r ∈ rows_7 → r.length = (1 : Nat)) ∧ ∀ (i : Nat), i < rows_5.length → (El.fn fun (i : Nat) ↦ [SV.i .i64 (lotD n rows_5 i)]).at i = Rv.elemOf [.i64] rows_7 i) ∧ Ob (rows_6.length ≤ (4000000 : Nat) ∧ rows_7.length ≤
  (4000000 : Nat)) ∧ (¬¬samTo 1 rows_6 rows_7 rows_6.length → ∃ (rows_8 : List (List Int)), Ob (rows_3.length = rows_3.length ∧ rows_8.length = rows_3.length ∧ (∀ (r : List Int), r ∈ rows_8 → r.length = (2 : Nat)) ∧ ∀ (i :
  Nat), i < rows_3.length → (El.fn (Rv.elemOf [.i64, .i64] rows_3)).at i = Rv.elemOf [.i64, .i64] rows_8 i) ∧ ∃ (rows_9 : List (List Int)), Ob (List.length a_2.R = List.length a_2.R ∧ rows_9.length = List.length a_2.R ∧ (∀
  (r : List Int), r ∈ rows_9 → r.length = (2 : Nat)) ∧ ∀ (i : Nat), i < List.length a_2.R → (El.fn (Rv.elemOf [.i64, .i64] a_2.R)).at i = Rv.elemOf [.i64, .i64] rows_9 i) ∧ Ob (rows_8.length ≤ (4000000 : Nat) ∧
  rows_9.length ≤ (4000000 : Nat)) ∧ (¬samTo 2 rows_8 rows_9 rows_8.length → False) ∧ (¬¬samTo 2 rows_8 rows_9 rows_8.length → ∃ (a_3 : Lm), Ob a_3.Ok ∧ Ob (Value.int .i64 (Int.ofNat 2) = Value.int .i64 (Int.ofNat 2)) ∧ Ob
  (n = n) ∧ Ob (a_2.m = a_3.m) ∧ Ob (n = n) ∧ Ob (SV.lst x rows.length 2 (Rv.elemOf [.i64, .i64] rows) = SV.lst x rows.length 2 (Rv.elemOf [.i64, .i64] rows)) ∧ Ob (List.length a_2.R = List.length a_3.R) ∧ Ob (List.length
  a_2.R = List.length a_3.R) ∧ Ob (List.length a_2.R = List.length a_3.R ∧ ∀ (i : Nat), i < List.length a_3.R → (El.fn (Rv.elemOf [.i64, .i64] a_2.R)).at i = (El.fn (Rv.elemOf [.i64, .i64] a_3.R)).at i) ∧ Ob (IsLst B x
  rows.length 2 (Rv.elemOf [.i64, .i64] rows)) ∧ Ob (PlainE (List.length a_3.R) (El.fn (Rv.elemOf [.i64, .i64] a_3.R))) ∧ True)) ∧ (¬samTo 1 rows_6 rows_7 rows_6.length → False)) ∧ (¬v_3 = v_4 → False)))) ∧ ∀ (a_3 : Lm),
  a_3.Ok → ∀ (z_308 z_309 z_310 z_311 z_312 z_313 z_314 z_315 z_316 z_317 z_318 z_319 z_320 z_321 z_322 z_323 z_324 z_325 z_326 z_327 z_328 z_329 z_330 z_331 z_332 z_333 z_334 z_335 z_336 z_337 z_338 z_339 z_340 z_341
  z_342 z_343 z_344 z_345 z_346 z_347 z_348 z_349 z_350 z_351 z_352 z_353 z_354 z_355 z_356 z_357 z_358 z_359 z_360 z_361 z_362 z_363 z_364 z_365 z_366 z_367 z_368 z_369 z_370 z_371 z_372 z_373 z_374 z_375 z_376 z_377
  z_378 z_379 z_380 z_381 z_382 z_383 z_384 z_385 z_386 z_387 z_388 z_389 z_390 z_391 z_392 z_393 z_394 z_395 z_396 z_397 z_398 z_399 z_400 z_401 z_402 z_403 z_404 z_405 z_406 z_407 z_408 z_409 z_410 z_411 : Value), Ob
  (hasTabs [] B) ∧ True))

set_option linter.unusedSimpArgs false in
set_option maxRecDepth 4000 in
set_option maxHeartbeats 8000000 in
theorem v_law : V_law := by
  unfold V_law
  intro B htab xt T hx hox hr q xz N hz hoz hrz hN
  have hN : N.length ≤ 9223372036854775807 := hN
  refine ⟨⟨hx⟩, fun _ => ⟨⟨htab⟩, trivial⟩, fun hT => ?_⟩
  have hT : T.length ≤ 30 := by omega
  refine ⟨N, ⟨⟨hz, rfl, hrz, fun _ _ => rfl⟩⟩, ⟨hN⟩, ?_⟩
  obtain ⟨a, ha⟩ : ∃ a, tideK N N.length = a := ⟨_, rfl⟩
  rw [ha]
  clear ha
  refine ⟨⟨by show (0 : Int) ≤ 8 ∧ (8 : Int) ≤ 1000; omega⟩, ?_⟩
  intro v hv
  clear hv
  have hk : (belowV a ((8 : Int) + 1)).toNat ≤ 8 := by
    have h := belowV_in a ((8 : Int) + 1)
    obtain ⟨x, hx⟩ : ∃ x, x = belowV a ((8 : Int) + 1) := ⟨_, rfl⟩
    rw [← hx] at h ⊢
    clear hx
    omega
  obtain ⟨k, ek⟩ : ∃ k, (belowV a ((8 : Int) + 1)).toNat = k := ⟨_, rfl⟩
  rw [ek] at hk ⊢
  clear ek
  obtain ⟨b, eb⟩ : ∃ b, belowA a ((8 : Int) + 1) = b := ⟨_, rfl⟩
  rw [eb]
  clear eb
  have lL := it_len ltQ ltR b k
  have rL : ∀ r ∈ itR ltQ ltR b k, r.length = 2 := it_mem (p := fun r => r.length = 2) (fun b => by obtain ⟨x, y, h, _⟩ := lt_in b; rw [h]; rfl) _
  have cL : ∀ i, i < k → 0 ≤ cell (itR ltQ ltR b k) i 0 ∧ cell (itR ltQ ltR b k) i 0 < 300 ∧ 0 ≤ cell (itR ltQ ltR b k) i 1 ∧ cell (itR ltQ ltR b k) i 1 < 6 := fun i hi => by
    rw [it_cell _ _ _ hi, it_cell _ _ _ hi]
    obtain ⟨x, y, h, h1⟩ := lt_in (itQ ltQ b i)
    rw [h]
    exact h1
  obtain ⟨L, eL⟩ : ∃ L, itR ltQ ltR b k = L := ⟨_, rfl⟩
  rw [eL] at lL rL cL ⊢
  clear eL
  subst lL
  constructor
  · refine ⟨⟨0, v, L⟩, ⟨⟨hk, Nat.zero_le _, rL, cL⟩⟩, ?_⟩
    dsimp only
    repeat' (with_reducible apply And.intro)
    all_goals first | exact ⟨rfl⟩ | exact ⟨hx⟩ | exact ⟨plain_elemOf _ _ _⟩ | exact ⟨⟨rfl, fun _ _ => rfl⟩⟩ | trivial
  intro v hv
  intros
  have l1 := hv.l
  constructor
  · intro h1
    have hi' : v.i < v.R.length := by omega
    have hb := hv.bd (k := v.i) (by omega)
    have hc := hv.c v.i hi'
    have q0 : (0 : Int) ≤ (v.i : Int) ∧ v.i < v.R.length := ⟨by omega, hi'⟩
    refine ⟨⟨q0⟩, ⟨hi'⟩, ⟨by simp only [InR]; omega⟩, ⟨q0⟩, ⟨hi'⟩, ⟨by simp only [InR]; omega⟩, ⟨by simp only [InR]; omega⟩, ⟨v.i + 1, v.q, v.R⟩, ⟨⟨⟨hv.l, hi', hv.r, hv.c⟩, by show v.R.length - (v.i + 1) < v.R.length - v.i; omega⟩⟩, ?_⟩
    dsimp only
    repeat' (with_reducible apply And.intro)
    all_goals first | exact ⟨rfl⟩ | exact ⟨hx⟩ | exact ⟨plain_elemOf _ _ _⟩ | exact ⟨⟨rfl, fun _ _ => rfl⟩⟩ | exact ⟨by simp only [lotS, lotW, sumF]; omega⟩ | trivial
  intro h1
  have hb := hv.bd hv.i
  have hR : v.R.length ≤ 8 := hv.l
  have hvr := hv.r
  obtain ⟨S, hS⟩ : ∃ S, lotS v.R v.i + lotW v.R v.i = S := ⟨_, rfl⟩
  rw [hS] at hb
  rw [hS]
  clear hS
  have hi := hv.i
  refine ⟨⟨hox⟩, ⟨by show (-1000000000000 : Int) ≤ 0 ∧ (0 : Int) ≤ 1000000000000 ∧ -1000000000000 ≤ S ∧ S ≤ 1000000000000; omega⟩, ?_⟩
  intro v1 hv1 v2 hv2
  clear hv1 hv2
  refine ⟨⟨T, ⟨⟨hx, rfl, hr, fun _ _ => rfl⟩⟩, ⟨show T.length ≤ 4000000 by omega⟩, T, ⟨⟨rfl, rfl, hr, fun _ _ => rfl⟩⟩, ⟨show T.length ≤ 4000000 by omega⟩, fun c => ?_, fun c => ?_⟩, ?_⟩
  · intro w1 hw1
    refine ⟨⟨hx⟩, T, ⟨⟨hx, rfl, hr, fun _ _ => rfl⟩⟩, ⟨show T.length ≤ 4000000 by omega⟩, fun d => ?_, fun d => absurd c d⟩
    intro w2 hw2
    refine ⟨fun _ => ⟨⟨by omega, by omega⟩, fun _ => ?_, fun h => h (sam_self _ _ _)⟩, fun h => h (hw1.trans hw2.symm)⟩
    clear hw1 hw2
    refine ⟨T, ⟨⟨rfl, rfl, hr, fun _ _ => rfl⟩⟩, T, ⟨⟨hx, rfl, hr, fun _ _ => rfl⟩⟩, ⟨⟨by omega, by omega⟩⟩, fun h => h (sam_self _ _ _), fun _ => ?_⟩
    refine ⟨⟨v2, v.R⟩, ⟨⟨hR, hvr⟩⟩, ?_⟩
    dsimp only
    repeat' (with_reducible apply And.intro)
    all_goals first | exact ⟨rfl⟩ | exact ⟨hx⟩ | exact ⟨plain_elemOf _ _ _⟩ | exact ⟨⟨rfl, fun _ _ => rfl⟩⟩ | trivial
  · intro w1 hw1
    refine ⟨⟨hx⟩, T, ⟨⟨hx, rfl, hr, fun _ _ => rfl⟩⟩, ⟨show T.length ≤ 4000000 by omega⟩, fun d => absurd d c, fun d => ?_⟩
    intro w2 hw2
    refine ⟨⟨plain_fnD _ _⟩, fun _ => ?_, fun h => h (hw1.trans hw2.symm)⟩
    clear hw1 hw2
    refine ⟨listU (lotD q T) T.length, ⟨⟨rfl, listU_len _ _, listU_row _ _, fun i hi => listU_at _ hi⟩⟩, listU (lotD q T) T.length, ⟨⟨rfl, listU_len _ _, listU_row _ _, fun i hi => listU_at _ hi⟩⟩, ⟨⟨by rw [listU_len]; omega, by rw [listU_len]; omega⟩⟩, fun _ => ?_, fun h => h (sam_self _ _ _)⟩
    refine ⟨T, ⟨⟨rfl, rfl, hr, fun _ _ => rfl⟩⟩, T, ⟨⟨hx, rfl, hr, fun _ _ => rfl⟩⟩, ⟨⟨by omega, by omega⟩⟩, fun h => h (sam_self _ _ _), fun _ => ?_⟩
    refine ⟨⟨v2, v.R⟩, ⟨⟨hR, hvr⟩⟩, ?_⟩
    dsimp only
    repeat' (with_reducible apply And.intro)
    all_goals first | exact ⟨rfl⟩ | exact ⟨hx⟩ | exact ⟨plain_elemOf _ _ _⟩ | exact ⟨⟨rfl, fun _ _ => rfl⟩⟩ | trivial
  clear hvr hR hi hb h1 hv l1 v
  intro v hv
  intros
  have hR : v.R.length ≤ 8 := hv.l
  have hvr := hv.r
  refine ⟨⟨v.R, ⟨⟨rfl, rfl, hvr, fun _ _ => rfl⟩⟩, ⟨show v.R.length ≤ 4000000 by omega⟩, v.R, ⟨⟨rfl, rfl, hvr, fun _ _ => rfl⟩⟩, ⟨show v.R.length ≤ 4000000 by omega⟩, fun c => ?_, fun c => ?_⟩, ?_⟩
  · intro w1 hw1
    refine ⟨v.R, ⟨⟨rfl, rfl, hvr, fun _ _ => rfl⟩⟩, ⟨show v.R.length ≤ 4000000 by omega⟩, fun d => ?_, fun d => absurd c d⟩
    intro w2 hw2
    refine ⟨fun _ => ⟨⟨by omega, by omega⟩, fun _ => ?_, fun h => h (sam_self _ _ _)⟩, fun h => h (hw1.trans hw2.symm)⟩
    clear hw1 hw2
    refine ⟨v.R, ⟨⟨rfl, rfl, hvr, fun _ _ => rfl⟩⟩, v.R, ⟨⟨rfl, rfl, hvr, fun _ _ => rfl⟩⟩, ⟨⟨by omega, by omega⟩⟩, fun h => h (sam_self _ _ _), fun _ => ?_⟩
    refine ⟨⟨v.m, v.R⟩, ⟨⟨hR, hvr⟩⟩, ?_⟩
    dsimp only
    repeat' (with_reducible apply And.intro)
    all_goals first | exact ⟨rfl⟩ | exact ⟨hx⟩ | exact ⟨plain_elemOf _ _ _⟩ | exact ⟨⟨rfl, fun _ _ => rfl⟩⟩ | trivial
  · intro w1 hw1
    refine ⟨v.R, ⟨⟨rfl, rfl, hvr, fun _ _ => rfl⟩⟩, ⟨show v.R.length ≤ 4000000 by omega⟩, fun d => absurd d c, fun d => ?_⟩
    intro w2 hw2
    refine ⟨⟨plain_fnD _ _⟩, fun _ => ?_, fun h => h (hw1.trans hw2.symm)⟩
    clear hw1 hw2
    refine ⟨listU (lotD v.m v.R) v.R.length, ⟨⟨rfl, listU_len _ _, listU_row _ _, fun i hi => listU_at _ hi⟩⟩, listU (lotD v.m v.R) v.R.length, ⟨⟨rfl, listU_len _ _, listU_row _ _, fun i hi => listU_at _ hi⟩⟩, ⟨⟨by rw [listU_len]; omega, by rw [listU_len]; omega⟩⟩, fun _ => ?_, fun h => h (sam_self _ _ _)⟩
    refine ⟨v.R, ⟨⟨rfl, rfl, hvr, fun _ _ => rfl⟩⟩, v.R, ⟨⟨rfl, rfl, hvr, fun _ _ => rfl⟩⟩, ⟨⟨by omega, by omega⟩⟩, fun h => h (sam_self _ _ _), fun _ => ?_⟩
    refine ⟨⟨v.m, v.R⟩, ⟨⟨hR, hvr⟩⟩, ?_⟩
    dsimp only
    repeat' (with_reducible apply And.intro)
    all_goals first | exact ⟨rfl⟩ | exact ⟨hx⟩ | exact ⟨plain_elemOf _ _ _⟩ | exact ⟨⟨rfl, fun _ _ => rfl⟩⟩ | trivial
  clear hvr hR hv v
  intro v hv
  intros
  have hR : v.R.length ≤ 8 := hv.l
  have hvr := hv.r
  refine ⟨⟨v.R, ⟨⟨rfl, rfl, hvr, fun _ _ => rfl⟩⟩, ⟨show v.R.length ≤ 4000000 by omega⟩, v.R, ⟨⟨rfl, rfl, hvr, fun _ _ => rfl⟩⟩, ⟨show v.R.length ≤ 4000000 by omega⟩, fun c => ?_, fun c => ?_⟩, ?_⟩
  · intro w1 hw1
    refine ⟨v.R, ⟨⟨rfl, rfl, hvr, fun _ _ => rfl⟩⟩, ⟨show v.R.length ≤ 4000000 by omega⟩, fun d => ?_, fun d => absurd c d⟩
    intro w2 hw2
    refine ⟨fun _ => ⟨⟨by omega, by omega⟩, fun _ => ?_, fun h => h (sam_self _ _ _)⟩, fun h => h (hw1.trans hw2.symm)⟩
    clear hw1 hw2
    refine ⟨v.R, ⟨⟨rfl, rfl, hvr, fun _ _ => rfl⟩⟩, v.R, ⟨⟨rfl, rfl, hvr, fun _ _ => rfl⟩⟩, ⟨⟨by omega, by omega⟩⟩, fun h => h (sam_self _ _ _), fun _ => ?_⟩
    refine ⟨⟨v.m, v.R⟩, ⟨⟨hR, hvr⟩⟩, ?_⟩
    dsimp only
    repeat' (with_reducible apply And.intro)
    all_goals first | exact ⟨rfl⟩ | exact ⟨hx⟩ | exact ⟨plain_elemOf _ _ _⟩ | exact ⟨⟨rfl, fun _ _ => rfl⟩⟩ | trivial
  · intro w1 hw1
    refine ⟨v.R, ⟨⟨rfl, rfl, hvr, fun _ _ => rfl⟩⟩, ⟨show v.R.length ≤ 4000000 by omega⟩, fun d => absurd d c, fun d => ?_⟩
    intro w2 hw2
    refine ⟨⟨plain_fnD _ _⟩, fun _ => ?_, fun h => h (hw1.trans hw2.symm)⟩
    clear hw1 hw2
    refine ⟨listU (lotD q v.R) v.R.length, ⟨⟨rfl, listU_len _ _, listU_row _ _, fun i hi => listU_at _ hi⟩⟩, listU (lotD q v.R) v.R.length, ⟨⟨rfl, listU_len _ _, listU_row _ _, fun i hi => listU_at _ hi⟩⟩, ⟨⟨by rw [listU_len]; omega, by rw [listU_len]; omega⟩⟩, fun _ => ?_, fun h => h (sam_self _ _ _)⟩
    refine ⟨v.R, ⟨⟨rfl, rfl, hvr, fun _ _ => rfl⟩⟩, v.R, ⟨⟨rfl, rfl, hvr, fun _ _ => rfl⟩⟩, ⟨⟨by omega, by omega⟩⟩, fun h => h (sam_self _ _ _), fun _ => ?_⟩
    refine ⟨⟨v.m, v.R⟩, ⟨⟨hR, hvr⟩⟩, ?_⟩
    dsimp only
    repeat' (with_reducible apply And.intro)
    all_goals first | exact ⟨rfl⟩ | exact ⟨hx⟩ | exact ⟨plain_elemOf _ _ _⟩ | exact ⟨⟨rfl, fun _ _ => rfl⟩⟩ | trivial
  intro v hv
  intros
  exact ⟨⟨htab⟩, trivial⟩

theorem e_law : V_law = needL P [F_SameInts, F_SameLots] [F_TideOf.named, F_LotsOf.named, F_From.named, F_OwnLots.named, F_ShareT.named, F_ShareS.named] 5 ([] : Tabs) A_law F_law := by kernel_rfl

theorem n_law : Ob (needL P [F_SameInts, F_SameLots] [F_TideOf.named, F_LotsOf.named, F_From.named, F_OwnLots.named, F_ShareT.named, F_ShareS.named] 5 ([] : Tabs) A_law F_law) := by
  rw [← e_law]
  exact ⟨v_law⟩

theorem l_law : (([F_SameInts, F_SameLots] : List Fn0).all fun G => !Nat.beq G.g 5) = true := rfl
theorem le_law : ([F_TideOf.named, F_LotsOf.named, F_From.named, F_OwnLots.named, F_ShareT.named, F_ShareS.named].all fun G => !Nat.beq G.g 5) = true := rfl
theorem c_law : ∀ F ∈ ([F_SameInts, F_SameLots] : List Fn0), F.Ok P := by
  intro F h
  simp only [List.mem_cons, List.not_mem_nil, or_false] at h
  rcases h with rfl | rfl
  · exact SameInts_ok
  · exact SameLots_ok

theorem ce_law : ∀ F ∈ [F_TideOf.named, F_LotsOf.named, F_From.named, F_OwnLots.named, F_ShareT.named, F_ShareS.named], F.Ok P := by
  intro F h
  simp only [List.mem_cons, List.not_mem_nil, or_false] at h
  rcases h with rfl | rfl | rfl | rfl | rfl | rfl
  · exact TideOf_ok.named
  · exact LotsOf_ok.named
  · exact From_ok.named
  · exact OwnLots_ok.named
  · exact ShareT_ok.named
  · exact ShareS_ok.named

end Go.Proofs.Ytlnldabgbfcdcaa.Sy
