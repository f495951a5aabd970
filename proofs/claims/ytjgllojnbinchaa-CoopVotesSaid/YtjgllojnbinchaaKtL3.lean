/- The law CoopVotes. -/
import Derived.Test.YtjgllojnbinchaaSyP2
import Derived.Test.YtjgllojnbinchaaGrM
import Derived.Test.YtjgllojnbinchaaStM
import Derived.Test.YtjgllojnbinchaaVtM
import Derived.Test.YtjgllojnbinchaaKtT
import Derived.Test.YtjgllojnbinchaaKtA
import Derived.Test.YtjgllojnbinchaaKtB
import Derived.Test.YtjgllojnbinchaaKtS
import Derived.Test.YtjgllojnbinchaaKtM
import Derived.Test.YtjgllojnbinchaaKtN
import Derived.Test.YtjgllojnbinchaaKvC
import Derived.Test.YtjgllojnbinchaaSyP2
import Derived.KernelRfl
import Derived.Test.YtjgllojnbinchaaProg
namespace Go.Proofs.Ytjgllojnbinchaa.Sy
open Go Go.Rv
set_option linter.unusedVariables false

structure Vs where
  s : Nat
  need : Int
  q : Int
  W : Rows
  V : Rows
def Vs.pas (v : Vs) (s : Nat) : Prop := passN v.W v.need (yesC v.W v.V s v.W.length)
structure Vs.Ok (v : Vs) : Prop where
  m : MotOk v.W v.V v.need
  l : v.W.length ≤ 7
  w : ∀ r ∈ v.W, r.length = 1
  v : ∀ r ∈ v.V, r.length = 1
theorem ex_succ0 {p : Nat → Prop} {s : Nat} {X : Prop} (hX : X ↔ p s) (h : ¬ ∃ t, t < s ∧ p t) : X ↔ ∃ t, t < s + 1 ∧ p t := by
  refine ⟨fun x => ⟨s, by omega, hX.1 x⟩, fun ⟨t, h1, h2⟩ => ?_⟩
  by_cases e : t = s
  · subst e; exact hX.2 h2
  · exact absurd ⟨t, by omega, h2⟩ h
theorem ex_succ1 {p : Nat → Prop} {s : Nat} (h : ∃ t, t < s ∧ p t) : true = true ↔ ∃ t, t < s + 1 ∧ p t := by
  obtain ⟨t, h1, h2⟩ := h
  exact ⟨fun _ => ⟨t, by omega, h2⟩, fun _ => rfl⟩
theorem ex_none {p : Nat → Prop} : false = true ↔ ∃ t, t < 0 ∧ p t := ⟨fun h => (by cases h), fun ⟨_, h, _⟩ => absurd h (Nat.not_lt_zero _)⟩
theorem passN_mono {W : Rows} {need x y : Int} (h : x ≤ y) (hp : passN W need x) : passN W need y := by
  unfold passN at *
  omega
theorem Vs.Ok.pas0 {v : Vs} : v.pas 0 ↔ passN v.W v.need (yesS v.W v.V v.W.length) := by
  unfold Vs.pas
  rw [yesC_zero]
theorem Vs.Ok.pas1 {v : Vs} (h : v.Ok) : v.pas (2 ^ v.V.length - 1) ↔ passN v.W v.need (yesS v.W v.V v.W.length + opnS v.W v.V v.W.length) := by
  unfold Vs.pas
  rw [yesC_full _ _ _ _ (by rw [h.m.v]; exact Nat.le_refl _)]
theorem Vs.Ok.lo {v : Vs} (h : v.Ok) (t : Nat) (hp : passN v.W v.need (yesS v.W v.V v.W.length)) : v.pas t := passN_mono (yesC_bd v.W v.V t fun i hi => (h.m.w i hi).1).1 hp
theorem Vs.Ok.hi {v : Vs} (h : v.Ok) {t : Nat} (hp : v.pas t) : passN v.W v.need (yesS v.W v.V v.W.length + opnS v.W v.V v.W.length) := passN_mono (yesC_bd v.W v.V t fun i hi => (h.m.w i hi).1).2 hp

noncomputable def F_law : LawF := ⟨6, [.one (.l [.i64])], fun l => match l with | [.l N] => N.length ≤ 9223372036854775807 | _ => False⟩
noncomputable def A_law : List SV → List Dat → Nat → List SV → Ann := fun xs ds n ts => match xs with
  | [.lst xz _ _ _] => match ds with
    | [.l N] => match n with
      | 5 => ⟨Vs, fun v => [none, none, some (SV.v (Value.bool false)), some (.gsl 1 v.W.length 1 true), some (.gsl 2 v.V.length 1 true), some (.i .i64 v.need), some (.i .i64 (decV v.W v.V v.need)), some (.i .i64 0), some (.p (∃ s, s < v.s ∧ v.pas s)), some (.p (∃ s, s < v.s ∧ ¬ v.pas s)), some (.i .i64 v.s), none, none, none, none, none, none, none, none, none, none, none, none, none, none, none, none, none, none, none, none, none, none, none, none, none, none, none, none, none, none, none, none, none, none, none, none, none, none, none, none, none, none, none, none, none, none, none, none, none, none, none, none], fun v => [.gr v.V.length 1 (.fn (Rv.elemOf [.i64] v.V)) .gr true, .gr v.W.length 1 (.fn (Rv.elemOf [.i64] v.W)) .gr true, .cells [.i .u64 v.q] .ex], fun v => v.Ok ∧ v.s ≤ 2 ^ v.V.length, fun v => 2 ^ v.V.length - v.s, 0⟩
      | _ => noAnn
    | _ => noAnn
  | _ => noAnn

def V_law : Prop :=
  ∀ (B : RW), hasTabs [] B → ∀ (x : RV) (rows : List (List Int)), IsLst B x rows.length 1 (Rv.elemOf [.i64] rows) → oneB x = true → (∀ (row : List Int), row ∈ rows → row.length = (1 : Nat)) → rows.length ≤
  (9223372036854775807 : Nat) → ∃ (rows_1 : List (List Int)), Ob (IsLst B x rows.length 1 (Rv.elemOf [.i64] rows) ∧ rows_1.length = rows.length ∧ (∀ (r : List Int), r ∈ rows_1 → r.length = (1 : Nat)) ∧ ∀ (i : Nat), i <
  rows.length → Rv.elemOf [.i64] rows i = Rv.elemOf [.i64] rows_1 i) ∧ Ob (F_TideOf.named.pre [Dat.l rows_1]) ∧ Ob (F_MotionOf.named.pre ([Dat.z (tideK rows_1 rows_1.length)] ++ [Dat.z (7 : Int)])) ∧ ∀ (v : Int), v = moZ
  (tideK rows_1 rows_1.length) (7 : Int) → ∀ (v_1 : Int), v_1 = moD (tideK rows_1 rows_1.length) (7 : Int) → ∃ (rows_2 : List (List Int)), Ob (moN (tideK rows_1 rows_1.length) (7 : Int) = moN (tideK rows_1 rows_1.length)
  (7 : Int) ∧ rows_2.length = moN (tideK rows_1 rows_1.length) (7 : Int) ∧ (∀ (r : List Int), r ∈ rows_2 → r.length = (1 : Nat)) ∧ ∀ (i : Nat), i < moN (tideK rows_1 rows_1.length) (7 : Int) → (El.fn (Rv.elemOf [.i64] (itR
  moQ moW (moA (tideK rows_1 rows_1.length) (7 : Int)) (moN (tideK rows_1 rows_1.length) (7 : Int))))).at i = Rv.elemOf [.i64] rows_2 i) ∧ ∃ (rows_3 : List (List Int)), Ob (moN (tideK rows_1 rows_1.length) (7 : Int) = moN
  (tideK rows_1 rows_1.length) (7 : Int) ∧ rows_3.length = moN (tideK rows_1 rows_1.length) (7 : Int) ∧ (∀ (r : List Int), r ∈ rows_3 → r.length = (1 : Nat)) ∧ ∀ (i : Nat), i < moN (tideK rows_1 rows_1.length) (7 : Int) →
  (El.fn (Rv.elemOf [.i64] (itR moQ moV (moA (tideK rows_1 rows_1.length) (7 : Int)) (moN (tideK rows_1 rows_1.length) (7 : Int))))).at i = Rv.elemOf [.i64] rows_3 i) ∧ Ob (F_Decide.named.pre [Dat.l rows_2, Dat.l rows_3,
  Dat.z v_1]) ∧ ∀ (v_2 : Int), v_2 = decV rows_2 rows_3 v_1 → ∀ (v_3 : Int), v_3 = motErr rows_2 rows_3 v_1 → (∃ (a : Vs), Ob (a.Ok ∧ a.s ≤ (2 : Nat) ^ List.length a.V) ∧ Ob (SV.v (Value.bool false) = SV.v (Value.bool
  false)) ∧ Ob (moN (tideK rows_1 rows_1.length) (7 : Int) = List.length a.W) ∧ Ob (moN (tideK rows_1 rows_1.length) (7 : Int) = List.length a.V) ∧ Ob (v_1 = a.need) ∧ Ob (v_2 = decV a.W a.V a.need) ∧ Ob (v_3 = (0 : Int))
  ∧ Ob (false = true ↔ ∃ (s : Nat), s < a.s ∧ a.pas s) ∧ Ob (false = true ↔ ∃ (s : Nat), s < a.s ∧ ¬a.pas s) ∧ Ob ((0 : Int) = (↑a.s : Int)) ∧ Ob (moN (tideK rows_1 rows_1.length) (7 : Int) = List.length a.V ∧ ∀ (i : Nat),
  i < List.length a.V → (El.fn (Rv.elemOf [.i64] (itR moQ moV (moA (tideK rows_1 rows_1.length) (7 : Int)) (moN (tideK rows_1 rows_1.length) (7 : Int))))).at i = (El.fn (Rv.elemOf [.i64] a.V)).at i) ∧ Ob (moN (tideK rows_1
  rows_1.length) (7 : Int) = List.length a.W ∧ ∀ (i : Nat), i < List.length a.W → (El.fn (Rv.elemOf [.i64] (itR moQ moW (moA (tideK rows_1 rows_1.length) (7 : Int)) (moN (tideK rows_1 rows_1.length) (7 : Int))))).at i =
  (El.fn (Rv.elemOf [.i64] a.W)).at i) ∧ Ob (v = a.q) ∧ Ob (PlainE (List.length a.V) (El.fn (Rv.elemOf [.i64] a.V))) ∧ Ob (PlainE (List.length a.W) (El.fn (Rv.elemOf [.i64] a.W))) ∧ True) ∧ ∀ (a : Vs), a.Ok ∧ a.s ≤ (2 :
  Nat) ^ List.length a.V → ∀ (z z_1 z_2 z_3 z_4 z_5 z_6 z_7 z_8 z_9 z_10 z_11 z_12 z_13 z_14 z_15 z_16 z_17 z_18 z_19 z_20 z_21 z_22 z_23 z_24 z_25 z_26 z_27 z_28 z_29 z_30 z_31 z_32 z_33 z_34 z_35 z_36 z_37 z_38 z_39 z_40
  z_41 z_42 z_43 z_44 z_45 z_46 z_47 z_48 z_49 z_50 z_51 z_52 z_53 : Value), Ob ((0 : Int) ≤ (1 : Int) ∧ (0 : Int) ≤ (↑(List.length a.V) : Int) ∧ (↑(List.length a.V) : Int) ≤ (↑64 : Int) ∧ InR .i64 ((1 : Int) * (2 : Int) ^
  List.length a.V)) ∧ ((↑a.s : Int) < (1 : Int) * (2 : Int) ^ List.length a.V → ∃ (rows_4 : List (List Int)), Ob (List.length a.V = List.length a.V ∧ rows_4.length = List.length a.V ∧ (∀ (r : List Int), r ∈ rows_4 →
  r.length = (1 : Nat)) ∧ ∀ (i : Nat), i < List.length a.V → (El.fn (Rv.elemOf [.i64] a.V)).at i = Rv.elemOf [.i64] rows_4 i) ∧ Ob (F_CastR.named.pre [Dat.l rows_4, Dat.z (↑a.s : Int)]) ∧ ∃ (rows_5 : List (List Int)), Ob
  (List.length a.W = List.length a.W ∧ rows_5.length = List.length a.W ∧ (∀ (r : List Int), r ∈ rows_5 → r.length = (1 : Nat)) ∧ ∀ (i : Nat), i < List.length a.W → (El.fn (Rv.elemOf [.i64] a.W)).at i = Rv.elemOf [.i64]
  rows_5 i) ∧ ∃ (rows_6 : List (List Int)), Ob (rows_4.length = rows_4.length ∧ rows_6.length = rows_4.length ∧ (∀ (r : List Int), r ∈ rows_6 → r.length = (1 : Nat)) ∧ ∀ (i : Nat), i < rows_4.length → (El.fn (Rv.elemOf
  [.i64] (castR rows_4 a.s rows_4.length))).at i = Rv.elemOf [.i64] rows_6 i) ∧ Ob (WtOk rows_5 ∧ rows_6.length = rows_5.length ∧ rows_5.length ≤ (100 : Nat) ∧ (0 : Int) ≤ a.need ∧ a.need ≤ (1000000 : Int)) ∧ ((¬∃ (s :
  Nat), s < a.s ∧ a.pas s) → ((¬∃ (s : Nat), s < a.s ∧ ¬a.pas s) → Ob (InR .i64 ((↑a.s : Int) + (1 : Int))) ∧ ∃ (a' : Vs), Ob ((a'.Ok ∧ a'.s ≤ (2 : Nat) ^ List.length a'.V) ∧ (2 : Nat) ^ List.length a'.V - a'.s < (2 : Nat)
  ^ List.length a.V - a.s) ∧ Ob (SV.v (Value.bool false) = SV.v (Value.bool false)) ∧ Ob (List.length a.W = List.length a'.W) ∧ Ob (List.length a.V = List.length a'.V) ∧ Ob (a.need = a'.need) ∧ Ob (decV a.W a.V a.need =
  decV a'.W a'.V a'.need) ∧ Ob ((0 : Int) = (0 : Int)) ∧ Ob (passN rows_5 a.need (yesS rows_5 rows_6 rows_5.length) ↔ ∃ (s : Nat), s < a'.s ∧ a'.pas s) ∧ Ob (¬passN rows_5 a.need (yesS rows_5 rows_6 rows_5.length) ↔ ∃ (s :
  Nat), s < a'.s ∧ ¬a'.pas s) ∧ Ob ((↑a.s : Int) + (1 : Int) = (↑a'.s : Int)) ∧ Ob (List.length a.V = List.length a'.V ∧ ∀ (i : Nat), i < List.length a'.V → (El.fn (Rv.elemOf [.i64] a.V)).at i = (El.fn (Rv.elemOf [.i64]
  a'.V)).at i) ∧ Ob (List.length a.W = List.length a'.W ∧ ∀ (i : Nat), i < List.length a'.W → (El.fn (Rv.elemOf [.i64] a.W)).at i = (El.fn (Rv.elemOf [.i64] a'.W)).at i) ∧ Ob (a.q = a'.q) ∧ Ob (PlainE (List.length a'.V)
  (El.fn (Rv.elemOf [.i64] a'.V))) ∧ Ob (PlainE (List.length a'.W) (El.fn (Rv.elemOf [.i64] a'.W))) ∧ True) ∧ ((∃ (s : Nat), s < a.s ∧ ¬a.pas s) → Ob (InR .i64 ((↑a.s : Int) + (1 : Int))) ∧ ∃ (a' : Vs), Ob ((a'.Ok ∧ a'.s ≤
  (2 : Nat) ^ List.length a'.V) ∧ (2 : Nat) ^ List.length a'.V - a'.s < (2 : Nat) ^ List.length a.V - a.s) ∧ Ob (SV.v (Value.bool false) = SV.v (Value.bool false)) ∧ Ob (List.length a.W = List.length a'.W) ∧ Ob
  (List.length a.V = List.length a'.V) ∧ Ob (a.need = a'.need) ∧ Ob (decV a.W a.V a.need = decV a'.W a'.V a'.need) ∧ Ob ((0 : Int) = (0 : Int)) ∧ Ob (passN rows_5 a.need (yesS rows_5 rows_6 rows_5.length) ↔ ∃ (s : Nat), s
  < a'.s ∧ a'.pas s) ∧ Ob (true = true ↔ ∃ (s : Nat), s < a'.s ∧ ¬a'.pas s) ∧ Ob ((↑a.s : Int) + (1 : Int) = (↑a'.s : Int)) ∧ Ob (List.length a.V = List.length a'.V ∧ ∀ (i : Nat), i < List.length a'.V → (El.fn (Rv.elemOf
  [.i64] a.V)).at i = (El.fn (Rv.elemOf [.i64] a'.V)).at i) ∧ Ob (List.length a.W = List.length a'.W ∧ ∀ (i : Nat), i < List.length a'.W → (El.fn (Rv.elemOf [.i64] a.W)).at i = (El.fn (Rv.elemOf [.i64] a'.W)).at i) ∧ Ob
  (a.q = a'.q) ∧ Ob (PlainE (List.length a'.V) (El.fn (Rv.elemOf [.i64] a'.V))) ∧ Ob (PlainE (List.length a'.W) (El.fn (Rv.elemOf [.i64] a'.W))) ∧ True)) ∧ ((∃ (s : Nat), s < a.s ∧ a.pas s) → ((¬∃ (s : Nat), s < a.s ∧
  ¬a.pas s) → Ob (InR .i64 ((↑a.s : Int) + (1 : Int))) ∧ ∃ (a' : Vs), Ob ((a'.Ok ∧ a'.s ≤ (2 : Nat) ^ List.length a'.V) ∧ (2 : Nat) ^ List.length a'.V - a'.s < (2 : Nat) ^ List.length a.V - a.s) ∧ Ob (SV.v (Value.bool
  false) = SV.v (Value.bool false)) ∧ Ob (List.length a.W = List.length a'.W) ∧ Ob (List.length a.V = List.length a'.V) ∧ Ob (a.need = a'.need) ∧ Ob (decV a.W a.V a.need = decV a'.W a'.V a'.need) ∧ Ob ((0 : Int) = (0 :
  Int)) ∧ Ob (true = true ↔ ∃ (s : Nat), s < a'.s ∧ a'.pas s) ∧ Ob (¬passN rows_5 a.need (yesS rows_5 rows_6 rows_5.length) ↔ ∃ (s : Nat), s < a'.s ∧ ¬a'.pas s) ∧ Ob ((↑a.s : Int) + (1 : Int) = (↑a'.s : Int)) ∧ Ob
  (List.length a.V = List.length a'.V ∧ ∀ (i : Nat), i < List.length a'.V → (El.fn (Rv.elemOf [.i64] a.V)).at i = (El.fn (Rv.elemOf [.i64] a'.V)).at i) ∧ Ob (List.length a.W = List.length a'.W ∧ ∀ (i : Nat), i <
  List.length a'.W → (El.fn (Rv.elemOf [.i64] a.W)).at i = (El.fn (Rv.elemOf [.i64] a'.W)).at i) ∧ Ob (a.q = a'.q) ∧ Ob (PlainE (List.length a'.V) (El.fn (Rv.elemOf [.i64] a'.V))) ∧ Ob (PlainE (List.length a'.W) (El.fn
  (Rv.elemOf [.i64] a'.W))) ∧ True) ∧ ((∃ (s : Nat), s < a.s ∧ ¬a.pas s) → Ob (InR .i64 ((↑a.s : Int) + (1 : Int))) ∧ ∃ (a' : Vs), Ob ((a'.Ok ∧ a'.s ≤ (2 : Nat) ^ List.length a'.V) ∧ (2 : Nat) ^ List.length a'.V - a'.s <
  (2 : Nat) ^ List.length a.V - a.s) ∧ Ob (SV.v (Value.bool false) = SV.v (Value.bool false)) ∧ Ob (List.length a.W = List.length a'.W) ∧ Ob (List.length a.V = List.length a'.V) ∧ Ob (a.need = a'.need) ∧ Ob (decV a.W a.V
  a.need = decV a'.W a'.V a'.need) ∧ Ob ((0 : Int) = (0 : Int)) ∧ Ob (true = true ↔ ∃ (s : Nat), s < a'.s ∧ a'.pas s) ∧ Ob (true = true ↔ ∃ (s : Nat), s < a'.s ∧ ¬a'.pas s) ∧ Ob ((↑a.s : Int) + (1 : Int) = (↑a'.s : Int)) ∧
  Ob (List.length a.V = List.length a'.V ∧ ∀ (i : Nat), i < List.length a'.V → (El.fn (Rv.elemOf [.i64] a.V)).at i = (El.fn (Rv.elemOf [.i64] a'.V)).at i) ∧ Ob (List.length a.W = List.length a'.W ∧ ∀ (i : Nat), i <
  List.length a'.W → (El.fn (Rv.elemOf [.i64] a.W)).at i = (El.fn (Rv.elemOf [.i64] a'.W)).at i) ∧ Ob (a.q = a'.q) ∧ Ob (PlainE (List.length a'.V) (El.fn (Rv.elemOf [.i64] a'.V))) ∧ Ob (PlainE (List.length a'.W) (El.fn
  (Rv.elemOf [.i64] a'.W))) ∧ True))) ∧ (¬(↑a.s : Int) < (1 : Int) * (2 : Int) ^ List.length a.V → ((¬∃ (s : Nat), s < a.s ∧ ¬a.pas s) → ((¬∃ (s : Nat), s < a.s ∧ a.pas s) → ((0 : Int) = (0 : Int) → (decV a.W a.V a.need =
  (2 : Int) → Ob (hasTabs [] B) ∧ True) ∧ (¬decV a.W a.V a.need = (2 : Int) → False)) ∧ (¬(0 : Int) = (0 : Int) → False)) ∧ ((¬¬∃ (s : Nat), s < a.s ∧ a.pas s) → ((0 : Int) = (0 : Int) → (decV a.W a.V a.need = (1 : Int) →
  Ob (hasTabs [] B) ∧ True) ∧ (¬decV a.W a.V a.need = (1 : Int) → False)) ∧ (¬(0 : Int) = (0 : Int) → False))) ∧ ((¬¬∃ (s : Nat), s < a.s ∧ ¬a.pas s) → ((¬∃ (s : Nat), s < a.s ∧ a.pas s) → ((0 : Int) = (0 : Int) → (decV
  a.W a.V a.need = (2 : Int) → Ob (hasTabs [] B) ∧ True) ∧ (¬decV a.W a.V a.need = (2 : Int) → False)) ∧ (¬(0 : Int) = (0 : Int) → False)) ∧ ((¬¬∃ (s : Nat), s < a.s ∧ a.pas s) → ((0 : Int) = (0 : Int) → (decV a.W a.V
  a.need = (3 : Int) → Ob (hasTabs [] B) ∧ True) ∧ (¬decV a.W a.V a.need = (3 : Int) → False)) ∧ (¬(0 : Int) = (0 : Int) → False))))

set_option linter.unusedSimpArgs false in
set_option maxRecDepth 4000 in
set_option maxHeartbeats 400000 in
theorem v_law : V_law := by
  unfold V_law
  intro B htab xz N hz hoz hrz hN
  refine ⟨N, ⟨⟨hz, rfl, hrz, fun _ _ => rfl⟩⟩, ⟨hN⟩, ?_⟩
  obtain ⟨a, ha⟩ : ∃ a, tideK N N.length = a := ⟨_, rfl⟩
  rw [ha]
  clear ha
  refine ⟨⟨by show (1 : Int) ≤ 7 ∧ (7 : Int) ≤ 100; omega⟩, ?_⟩
  intro v hv v1 hv1
  clear hv
  have hn := moN_in a (most := 7) (by omega)
  have hd : 0 ≤ v1 ∧ v1 ≤ 1000000 := by rw [hv1]; exact moD_in a 7
  clear hv1
  obtain ⟨n, en⟩ : ∃ n, moN a 7 = n := ⟨_, rfl⟩
  rw [en] at hn ⊢
  clear en
  obtain ⟨q, eq⟩ : ∃ q, moA a 7 = q := ⟨_, rfl⟩
  rw [eq]
  clear eq
  have lW := it_len moQ moW q n
  have lV := it_len moQ moV q n
  have rW : ∀ r ∈ itR moQ moW q n, r.length = 1 := it_mem (p := fun r => r.length = 1) (fun _ => rfl) _
  have rV : ∀ r ∈ itR moQ moV q n, r.length = 1 := it_mem (p := fun r => r.length = 1) (fun _ => rfl) _
  have cW : ∀ i, i < n → 0 ≤ cell (itR moQ moW q n) i 0 ∧ cell (itR moQ moW q n) i 0 ≤ 5 := fun i hi => by rw [(mo_cell q n hi).1]; exact moRow_ok _
  have cV : ∀ i, i < n → 0 ≤ cell (itR moQ moV q n) i 0 ∧ cell (itR moQ moV q n) i 0 ≤ 2 := fun i hi => by rw [(mo_cell q n hi).2]; exact moVot_ok _
  obtain ⟨W, eW⟩ : ∃ W, itR moQ moW q n = W := ⟨_, rfl⟩
  obtain ⟨V, eV⟩ : ∃ V, itR moQ moV q n = V := ⟨_, rfl⟩
  rw [eW] at lW rW cW ⊢
  rw [eV] at lV rV cV ⊢
  clear eW eV
  subst lW
  have hm : MotOk W V v1 := ⟨⟨by omega, by omega⟩, lV, fun i hi => ⟨(cW i hi).1, by have := (cW i hi).2; omega⟩, fun i hi => cV i (by omega), hd⟩
  refine ⟨W, ⟨⟨rfl, rfl, rW, fun _ _ => rfl⟩⟩, V, ⟨⟨rfl, lV, rV, fun _ _ => rfl⟩⟩, ⟨⟨by omega, by omega⟩⟩, ?_⟩
  intro v2 hv2 v3 hv3
  rw [mot_zero hm] at hv3
  subst hv2 hv3
  constructor
  · refine ⟨⟨0, v1, v, W, V⟩, ⟨⟨⟨hm, by show W.length ≤ 7; omega, rW, rV⟩, Nat.zero_le _⟩⟩, ?_⟩
    dsimp only
    repeat' (with_reducible apply And.intro)
    all_goals first | exact ⟨rfl⟩ | exact ⟨plain_elemOf _ _ _⟩ | exact ⟨⟨rfl, fun _ _ => rfl⟩⟩ | exact ⟨lV.symm⟩ | exact ⟨⟨lV.symm, fun _ _ => rfl⟩⟩ | exact ⟨ex_none⟩ | trivial
  clear hm lV rW rV cW cV hd hn
  clear W V v1 v
  intro v hv
  obtain ⟨hv, hs⟩ := hv
  intros
  have l1 := hv.m.l
  have l2 := hv.m.v
  have l3 := hv.l
  have hp1 : 2 ^ v.V.length ≤ 2 ^ 12 := Nat.pow_le_pow_right (by omega) (by omega)
  have hp0 : 0 < 2 ^ v.V.length := Nat.pow_pos (by omega)
  have hpc : (1 : Int) * 2 ^ v.V.length = ((2 ^ v.V.length : Nat) : Int) := by simp
  rw [hpc]
  refine ⟨⟨⟨by decide, by omega, by omega, by simp only [InR]; omega⟩⟩, fun h1 => ?_, fun h1 => ?_⟩
  · have hs' : v.s < 2 ^ v.V.length := by omega
    have hX : passN v.W v.need (yesS v.W (castR v.V v.s v.V.length) v.W.length) ↔ v.pas v.s := by
      rw [yes_cast _ _ _ _ _ (by omega)]
      exact Iff.rfl
    have hY : ¬ passN v.W v.need (yesS v.W (castR v.V v.s v.V.length) v.W.length) ↔ ¬ v.pas v.s := not_congr hX
    refine ⟨v.V, ⟨⟨rfl, rfl, hv.v, fun _ _ => rfl⟩⟩, ⟨⟨by omega, by omega, by omega⟩⟩, v.W, ⟨⟨rfl, rfl, hv.w, fun _ _ => rfl⟩⟩, castR v.V v.s v.V.length, ⟨⟨rfl, castR_len _ _ _, castR_row _ _ _, fun _ _ => rfl⟩⟩, ⟨⟨hv.m.w, (castR_len _ _ _).trans l2, by omega, hv.m.n⟩⟩, ?_⟩
    have rk : Ob (InR .i64 ((v.s : Int) + 1)) := ⟨by simp only [InR]; omega⟩
    have nx : (Vs.mk (v.s + 1) v.need v.q v.W v.V).Ok ∧ v.s + 1 ≤ 2 ^ v.V.length := ⟨⟨hv.m, hv.l, hv.w, hv.v⟩, hs'⟩
    refine ⟨fun h2 => ⟨fun h3 => ?_, fun h3 => ?_⟩, fun h2 => ⟨fun h3 => ?_, fun h3 => ?_⟩⟩ <;> refine ⟨rk, ⟨v.s + 1, v.need, v.q, v.W, v.V⟩, ⟨⟨nx, by show 2 ^ v.V.length - (v.s + 1) < 2 ^ v.V.length - v.s; omega⟩⟩, ?_⟩ <;> dsimp only <;> repeat' (with_reducible apply And.intro)
    all_goals first | exact ⟨rfl⟩ | exact ⟨plain_elemOf _ _ _⟩ | exact ⟨⟨rfl, fun _ _ => rfl⟩⟩ | exact ⟨ex_succ0 (p := v.pas) hX h2⟩ | exact ⟨ex_succ1 (p := v.pas) h2⟩ | exact ⟨ex_succ0 (p := fun t => ¬ v.pas t) hY h3⟩ | exact ⟨ex_succ1 (p := fun t => ¬ v.pas t) h3⟩ | trivial
  have es : v.s = 2 ^ v.V.length := by omega
  rw [es]
  classical
  have hd : decV v.W v.V v.need = (if passN v.W v.need (yesS v.W v.V v.W.length) then 1 else if passN v.W v.need (yesS v.W v.V v.W.length + opnS v.W v.V v.W.length) then 3 else 2) := by
    unfold decV
    rw [if_pos (mot_zero hv.m)]
  have fin : ∀ {k : Int}, decV v.W v.V v.need = k → ((0 : Int) = 0 → (decV v.W v.V v.need = k → Ob (hasTabs [] B) ∧ True) ∧ (¬ decV v.W v.V v.need = k → False)) ∧ (¬ (0 : Int) = 0 → False) := fun e => ⟨fun _ => ⟨fun _ => ⟨⟨htab⟩, trivial⟩, fun h => h e⟩, fun h => h rfl⟩
  have t1 : 2 ^ v.V.length - 1 < 2 ^ v.V.length := by omega
  refine ⟨fun h2 => ⟨fun h3 => ?_, fun h3 => ?_⟩, fun h2 => ⟨fun h3 => ?_, fun h3 => ?_⟩⟩
  · exfalso
    by_cases h : v.pas 0
    · exact h3 ⟨0, hp0, h⟩
    · exact h2 ⟨0, hp0, h⟩
  · have h4 : v.pas 0 := Classical.byContradiction fun h => h2 ⟨0, hp0, h⟩
    exact fin (by rw [hd, if_pos (Vs.Ok.pas0.1 h4)])
  · obtain ⟨t, _, h4⟩ := Classical.not_not.1 h2
    have h5 : ¬ passN v.W v.need (yesS v.W v.V v.W.length) := fun h => h4 (hv.lo t h)
    have h6 : ¬ passN v.W v.need (yesS v.W v.V v.W.length + opnS v.W v.V v.W.length) := fun h => h3 ⟨_, t1, hv.pas1.2 h⟩
    exact fin (by rw [hd, if_neg h5, if_neg h6])
  · obtain ⟨t, _, h4⟩ := Classical.not_not.1 h2
    obtain ⟨t2, _, h6⟩ := Classical.not_not.1 h3
    have h5 : ¬ passN v.W v.need (yesS v.W v.V v.W.length) := fun h => h4 (hv.lo t h)
    exact fin (by rw [hd, if_neg h5, if_pos (hv.hi h6)])

theorem e_law : V_law = needL P [F_PassesR] [F_TideOf.named, F_MotionOf.named, F_Decide.named, F_CastR.named] 9 ([] : Tabs) A_law F_law := by kernel_rfl

theorem n_law : Ob (needL P [F_PassesR] [F_TideOf.named, F_MotionOf.named, F_Decide.named, F_CastR.named] 9 ([] : Tabs) A_law F_law) := by
  rw [← e_law]
  exact ⟨v_law⟩

theorem l_law : (([F_PassesR] : List Fn0).all fun G => !Nat.beq G.g 9) = true := rfl
theorem le_law : ([F_TideOf.named, F_MotionOf.named, F_Decide.named, F_CastR.named].all fun G => !Nat.beq G.g 9) = true := rfl
theorem c_law : ∀ F ∈ ([F_PassesR] : List Fn0), F.Ok P := by
  intro F h
  simp only [List.mem_cons, List.not_mem_nil, or_false] at h
  rcases h with rfl
  · exact PassesR_ok

theorem ce_law : ∀ F ∈ [F_TideOf.named, F_MotionOf.named, F_Decide.named, F_CastR.named], F.Ok P := by
  intro F h
  simp only [List.mem_cons, List.not_mem_nil, or_false] at h
  rcases h with rfl | rfl | rfl | rfl
  · exact TideOf_ok.named
  · exact MotionOf_ok.named
  · exact Decide_ok.named
  · exact CastR_ok.named

end Go.Proofs.Ytjgllojnbinchaa.Sy
