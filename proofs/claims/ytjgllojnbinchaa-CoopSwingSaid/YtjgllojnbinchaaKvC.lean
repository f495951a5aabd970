/- Motions: all ways to vote. -/
import Derived.Test.YtjgllojnbinchaaSyP2
import Derived.Test.YtjgllojnbinchaaGrM
import Derived.Test.YtjgllojnbinchaaStM
import Derived.Test.YtjgllojnbinchaaVtM
import Derived.Test.YtjgllojnbinchaaKvM
import Derived.Test.YtjgllojnbinchaaKtT
import Derived.Test.YtjgllojnbinchaaKtA
import Derived.Test.YtjgllojnbinchaaKtB
import Derived.Test.YtjgllojnbinchaaKtS
import Derived.Test.YtjgllojnbinchaaKtM
import Derived.Test.YtjgllojnbinchaaKtN
import Derived.Test.YtjgllojnbinchaaKvB
import Derived.Test.YtjgllojnbinchaaSyP2
import Derived.KernelRfl
import Derived.Test.YtjgllojnbinchaaProg
namespace Go.Proofs.Ytjgllojnbinchaa.Sy
open Go Go.Rv
set_option linter.unusedVariables false

theorem lst_nil {B : RW} {x : RV} {n sz : Nat} {e : Nat → List SV} (h : IsLst B x n sz e) (hx : x = .v (.slice none 0 0)) : n = 0 := by
  rcases h with ⟨_, h⟩ | ⟨b, o, c, h, _⟩
  · exact h
  · rw [hx] at h
    cases h

theorem upd_at1 {f : Nat → Int} {p k : Nat} {z : Int} : (updL (El.fn fun k => [SV.i .i64 (f k)]) p 0 [SV.i .i64 z]).at k = [SV.i .i64 (if k = p then z else f k)] := by
  simp only [updL, El.at]
  by_cases e : k = p
  · rw [if_pos e, if_pos e]; rfl
  · rw [if_neg e, if_neg e]
theorem upd_at2 {f : Nat → Int} {p k : Nat} {y z : Int} : (updL (updL (El.fn fun k => [SV.i .i64 (f k)]) p 0 [SV.i .i64 y]) p 0 [SV.i .i64 z]).at k = [SV.i .i64 (if k = p then z else f k)] := by
  simp only [updL, El.at]
  by_cases e : k = p
  · rw [if_pos e, if_pos e, if_pos e]; rfl
  · rw [if_neg e, if_neg e, if_neg e]

noncomputable def F_Clone : FnE := ⟨56, none, [.one (.l [.i64])], fun l => match l with | [.l L] => 0 < L.length ∧ L.length ≤ 4000000 | _ => False, fun l => match l with | [.l L] => [.gsl 0 L.length 1 false] | _ => [], fun l => match l with | [.l L] => [.gr L.length 1 (.fn (Rv.elemOf [.i64] L)) .gr false] | _ => [], fun l => match l with | [.l L] => [] | _ => [], false, none⟩
noncomputable def A_Clone : List SV → List Dat → Nat → List SV → Ann := fun _ _ _ _ => noAnn

def V_Clone : Prop :=
  ∀ (B : RW) (x : RV) (rows : List (List Int)), IsLst B x rows.length 1 (Rv.elemOf [.i64] rows) → oneB x = true → (∀ (row : List Int), row ∈ rows → row.length = (1 : Nat)) → F_Clone.pre ([Dat.l rows] ++ []) → Ob (IsLst B x
  rows.length 1 (Rv.elemOf [.i64] rows)) ∧ (x = RV.v (Value.slice none 0 0) → False) ∧ (¬x = RV.v (Value.slice none 0 0) → Ob (IsLst B x rows.length 1 (Rv.elemOf [.i64] rows)) ∧ (rows.length = (0 : Nat) → Ob ((0 : Nat) =
  rows.length) ∧ Ob ((0 : Nat) = rows.length ∧ ∀ (i : Nat), i < rows.length → (litEl (symL (replS 0 (List.map SV.v (Value.int .i64 (0 : Int)).cells.toList))) 1 0).at i = (El.fn (Rv.elemOf [.i64] rows)).at i) ∧ Ob (PlainE
  rows.length (El.fn (Rv.elemOf [.i64] rows))) ∧ True) ∧ (¬rows.length = (0 : Nat) → Ob (((0 : Nat) + rows.length) * (2 : Nat) * (9 : Nat) ≤ (1099511627776 : Nat)) ∧ Ob ((0 : Nat) < (0 : Nat) + ((0 : Nat) + rows.length) *
  (1 : Nat)) ∧ Ob ((0 : Nat) + rows.length = rows.length) ∧ Ob ((0 : Nat) + rows.length = rows.length ∧ ∀ (i : Nat), i < rows.length → (behind 0 (litEl (replS 0 (List.map SV.v (Value.int .i64 (0 : Int)).cells.toList)) 1 0)
  rows.length (El.fn (Rv.elemOf [.i64] rows))).at i = (El.fn (Rv.elemOf [.i64] rows)).at i) ∧ Ob (PlainE rows.length (El.fn (Rv.elemOf [.i64] rows))) ∧ True))

set_option linter.unusedSimpArgs false in
set_option maxRecDepth 4000 in
set_option maxHeartbeats 400000 in
theorem v_Clone : V_Clone := by
  unfold V_Clone
  intro B x L hx hox hrx ⟨h1, h2⟩
  simp only [Ob_iff, and_true, true_and]
  refine ⟨hx, fun h3 => ?_, fun _ => ⟨hx, fun h3 => by omega, fun _ => ⟨by omega, by omega, by omega, ⟨by omega, fun i _ => behind_at _ _ _ _⟩, plain_elemOf _ _ _⟩⟩⟩
  have := lst_nil hx h3
  omega

theorem e_Clone : V_Clone = needE P [] [] A_Clone F_Clone := by kernel_rfl

theorem n_Clone : Ob (needE P [] [] A_Clone F_Clone) := by
  rw [← e_Clone]
  exact ⟨v_Clone⟩

theorem b_Clone : ((P.funcs[56]?).any fun fn => fn.body.isSome) = true := by kernel_rfl

theorem Clone_ok : FnE.Ok P F_Clone := FnE.ok named (l := []) (es := []) (A := A_Clone) (by rfl) (by rfl) (by rfl) (by
  intro F h; simp at h) (by
  intro F h; simp at h) b_Clone (by
  intro ds h o ho n sz e k z he
  subst he
  simp only [F_Clone] at ho
  split at ho
  · simp only [List.mem_cons, List.not_mem_nil, or_false, SObj.gr.injEq] at ho
    obtain ⟨rfl, rfl, rfl, rfl, rfl⟩ := ho
    exact plain_elemOf _ _ _
  · simp at ho) n_Clone

noncomputable def F_Decide : FnE := ⟨14, none, [.one (.l [.i64]), .one (.l [.i64]), i64], fun l => match l with | [.l W, .l V, .z need] => W.length ≤ 4000000 ∧ V.length ≤ 4000000 | _ => False, fun l => match l with | [.l W, .l V, .z need] => [.i .i64 (decV W V need), .i .i64 (motErr W V need)] | _ => [], fun l => match l with | [.l W, .l V, .z need] => [] | _ => [], fun l => match l with | [.l W, .l V, .z need] => [] | _ => [], false, none⟩
noncomputable def A_Decide : List SV → List Dat → Nat → List SV → Ann := fun _ _ _ _ => noAnn
noncomputable def A_Decide_1 : List SV → List Dat → List SV → List SObj → Nat → List SV → Ann := fun _ _ _ _ _ _ => noAnn
noncomputable def A_Decide_2 : List SV → List Dat → List SV → List SObj → Nat → List SV → Ann := fun xs ds ar bs n ts => match xs with
  | [.lst xw _ _ _, .lst xv _ _ _, .i _ _] => match ds with
    | [.l W, .l V, .z need] => match n with
      | 2 => ⟨Nat, fun k => [some (SV.yl ((5 : Nat))), some (SV.ptr ((3 : Nat)) ((0 : Nat))), none, some (.gsl 6 (opnN V k) 1 true), none, none, none, none, none, none, none, some (SV.lst xv V.length ((1 : Nat)) (Rv.elemOf [IntKind.i64] V)), some (SV.i IntKind.i64 (↑V.length : Int)), some (.i .i64 k), none, none, none, none, none, none, none, none, none, none, none, none, none, none, none, none, none, none, none, none, none, none, none, none, none, none, none, none, none, none, none, none, none, none, none, none, none, none, none, none, none, none, none, none], fun k => [.gr (opnN V k) 1 (.fn (Rv.elemOf [.i64] (undR V k))) .gr true, .dead, SObj.dead, SObj.cells [SV.lst xw W.length ((1 : Nat)) (Rv.elemOf [IntKind.i64] W), SV.lst xv V.length ((1 : Nat)) (Rv.elemOf [IntKind.i64] V), SV.i IntKind.i64 need] Kd.ex, SObj.cells [SV.v (Value.bool false)] Kd.ex, SObj.cells [SV.v (Value.bool false)] Kd.ex, SObj.cells [SV.lst xw W.length ((1 : Nat)) (Rv.elemOf [IntKind.i64] W), SV.lst xv V.length ((1 : Nat)) (Rv.elemOf [IntKind.i64] V), SV.i IntKind.i64 need] Kd.ex], fun k => k ≤ V.length, fun k => V.length - k, 0⟩
      | 8 => ⟨Nat, fun w => [some (SV.yl ((5 : Nat))), some (SV.ptr ((3 : Nat)) ((0 : Nat))), none, some (.gsl 6 (opnN V V.length) 1 true), none, none, none, none, none, none, none, none, none, none, none, none, none, none, none, none, none, none, none, none, none, none, none, some (.i .i64 (1 * 2 ^ ((opnN V V.length : Nat) : Int).toNat)), some (.i .i64 w), none, none, none, none, none, none, none, none, none, none, none, none, none, none, none, none, none, none, none, none, none, none, none, none, none, none, none, none, none], fun w => [.gr (opnN V V.length) 1 (.fn (Rv.elemOf [.i64] (undR V V.length))) .gr true, .dead, SObj.dead, SObj.cells [SV.lst xw W.length ((1 : Nat)) (Rv.elemOf [IntKind.i64] W), SV.lst xv V.length ((1 : Nat)) (Rv.elemOf [IntKind.i64] V), SV.i IntKind.i64 need] Kd.ex, .cells [.p (∃ s, s < w ∧ ¬ pasW W V need s)] .ex, .cells [.p (∃ s, s < w ∧ pasW W V need s)] .ex, SObj.cells [SV.lst xw W.length ((1 : Nat)) (Rv.elemOf [IntKind.i64] W), SV.lst xv V.length ((1 : Nat)) (Rv.elemOf [IntKind.i64] V), SV.i IntKind.i64 need] Kd.ex], fun w => w ≤ 2 ^ (opnN V V.length), fun w => 2 ^ (opnN V V.length) - w, 0⟩
      | 12 => (match lget ts 6 with | some (SV.i _ w0) => ⟨Nat, fun i => [some (SV.yl ((5 : Nat))), some (SV.ptr ((3 : Nat)) ((0 : Nat))), none, some (SV.gsl ((6 : Nat)) (opnN V V.length) ((1 : Nat)) true), none, none, some (SV.i IntKind.i64 w0), some (.gsl 7 V.length 1 false), none, none, none, none, none, none, none, none, none, none, none, none, none, none, none, none, none, none, none, some (SV.i IntKind.i64 ((1 : Int) * (2 : Int) ^ (↑(opnN V V.length) : Int).toNat)), some (.i .i64 w0), none, none, none, none, none, some (SV.gsl ((6 : Nat)) (opnN V V.length) ((1 : Nat)) true), some (SV.i IntKind.i64 (↑(opnN V V.length) : Int)), some (.i .i64 i), none, none, none, none, none, none, none, none, none, none, none, none, none, none, none, none, none, none, none, none, none], fun i => [.gr V.length 1 (.fn fun k => [.i .i64 (wayP V w0.toNat i k)]) .gr false, SObj.gr (opnN V V.length) ((1 : Nat)) (El.fn (Rv.elemOf [IntKind.i64] (undR V V.length))) Kd.gr true, .dead, SObj.dead, SObj.cells [SV.lst xw W.length ((1 : Nat)) (Rv.elemOf [IntKind.i64] W), SV.lst xv V.length ((1 : Nat)) (Rv.elemOf [IntKind.i64] V), SV.i IntKind.i64 need] Kd.ex, .cells [.p (∃ s, s < w0.toNat ∧ ¬ pasW W V need s)] .ex, .cells [.p (∃ s, s < w0.toNat ∧ pasW W V need s)] .ex, SObj.cells [SV.lst xw W.length ((1 : Nat)) (Rv.elemOf [IntKind.i64] W), SV.lst xv V.length ((1 : Nat)) (Rv.elemOf [IntKind.i64] V), SV.i IntKind.i64 need] Kd.ex], fun i => i ≤ opnN V V.length, fun i => opnN V V.length - i, 0⟩ | _ => noAnn)
      | _ => noAnn
    | _ => noAnn
  | _ => noAnn
noncomputable def I_Decide : List SV → List Dat → List In := fun xs ds => [⟨38, A_Decide_1 xs ds⟩, ⟨55, A_Decide_2 xs ds⟩]

def V_Decide : Prop :=
  ∀ (B : RW) (x : RV) (rows : List (List Int)), IsLst B x rows.length 1 (Rv.elemOf [.i64] rows) → oneB x = true → (∀ (row : List Int), row ∈ rows → row.length = (1 : Nat)) → ∀ (x_1 : RV) (rows_1 : List (List Int)), IsLst B
  x_1 rows_1.length 1 (Rv.elemOf [.i64] rows_1) → oneB x_1 = true → (∀ (row : List Int), row ∈ rows_1 → row.length = (1 : Nat)) → ∀ (n : Int), F_Decide.pre ([Dat.l rows] ++ ([Dat.l rows_1] ++ ([Dat.z n] ++ []))) → Ob (oneB
  x = true) ∧ Ob (oneB x_1 = true) ∧ ∃ (rows_2 : List (List Int)), Ob (IsLst B x rows.length 1 (Rv.elemOf [.i64] rows) ∧ rows_2.length = rows.length ∧ (∀ (r : List Int), r ∈ rows_2 → r.length = (1 : Nat)) ∧ ∀ (i : Nat), i
  < rows.length → Rv.elemOf [.i64] rows i = Rv.elemOf [.i64] rows_2 i) ∧ ∃ (rows_3 : List (List Int)), Ob (IsLst B x_1 rows_1.length 1 (Rv.elemOf [.i64] rows_1) ∧ rows_3.length = rows_1.length ∧ (∀ (r : List Int), r ∈
  rows_3 → r.length = (1 : Nat)) ∧ ∀ (i : Nat), i < rows_1.length → Rv.elemOf [.i64] rows_1 i = Rv.elemOf [.i64] rows_3 i) ∧ Ob (rows_2.length ≤ (4000000 : Nat) ∧ rows_3.length ≤ (4000000 : Nat)) ∧ (¬motErr rows_2 rows_3 n
  = (0 : Int) → Ob ((0 : Int) = decV rows rows_1 n) ∧ Ob (motErr rows_2 rows_3 n = motErr rows rows_1 n) ∧ True) ∧ (¬¬motErr rows_2 rows_3 n = (0 : Int) → ∀ (R : LR), R.b = B.n + (5 : Nat) → Ob (IsLst B x_1 rows_1.length 1
  (Rv.elemOf [.i64] rows_1)) ∧ (∃ (a : Nat), Ob (a ≤ rows_1.length) ∧ Ob (opnN rows_1 a = (0 : Nat)) ∧ Ob (SV.lst x_1 rows_1.length 1 (Rv.elemOf [.i64] rows_1) = SV.lst x_1 rows_1.length 1 (Rv.elemOf [.i64] rows_1)) ∧ Ob
  ((↑rows_1.length : Int) = (↑rows_1.length : Int)) ∧ Ob ((0 : Int) = (↑a : Int)) ∧ Ob (opnN rows_1 a = (0 : Nat)) ∧ Ob (R = R) ∧ Ob (SV.lst x rows.length 1 (Rv.elemOf [.i64] rows) = SV.lst x rows.length 1 (Rv.elemOf
  [.i64] rows)) ∧ Ob (SV.lst x_1 rows_1.length 1 (Rv.elemOf [.i64] rows_1) = SV.lst x_1 rows_1.length 1 (Rv.elemOf [.i64] rows_1)) ∧ Ob (n = n) ∧ Ob (SV.v (Value.bool false) = SV.v (Value.bool false)) ∧ Ob (SV.v
  (Value.bool false) = SV.v (Value.bool false)) ∧ Ob (SV.lst x rows.length 1 (Rv.elemOf [.i64] rows) = SV.lst x rows.length 1 (Rv.elemOf [.i64] rows)) ∧ Ob (SV.lst x_1 rows_1.length 1 (Rv.elemOf [.i64] rows_1) = SV.lst x_1
  rows_1.length 1 (Rv.elemOf [.i64] rows_1)) ∧ Ob (n = n) ∧ Ob (IsLst B x_1 rows_1.length 1 (Rv.elemOf [.i64] rows_1)) ∧ Ob (PlainE (opnN rows_1 a) (El.fn (Rv.elemOf [.i64] (undR rows_1 a)))) ∧ Ob (R.b ≤ B.n + (6 : Nat)) ∧
  Ob (IsLst B x rows.length 1 (Rv.elemOf [.i64] rows)) ∧ Ob (IsLst B x_1 rows_1.length 1 (Rv.elemOf [.i64] rows_1)) ∧ Ob (IsLst B x rows.length 1 (Rv.elemOf [.i64] rows)) ∧ Ob (IsLst B x_1 rows_1.length 1 (Rv.elemOf [.i64]
  rows_1)) ∧ True) ∧ ∀ (a : Nat), a ≤ rows_1.length → ∀ (z z_1 z_2 z_3 z_4 z_5 z_6 z_7 z_8 z_9 z_10 z_11 z_12 z_13 z_14 z_15 z_16 z_17 z_18 z_19 z_20 z_21 z_22 z_23 z_24 z_25 z_26 z_27 z_28 z_29 z_30 z_31 z_32 z_33 z_34
  z_35 z_36 z_37 z_38 z_39 z_40 z_41 z_42 z_43 z_44 z_45 z_46 z_47 z_48 z_49 z_50 z_51 : Value), ((↑a : Int) < (↑rows_1.length : Int) → Ob ((0 : Int) ≤ (↑a : Int) ∧ a < rows_1.length ∧ IsLst B x_1 rows_1.length 1
  (Rv.elemOf [.i64] rows_1)) ∧ Ob (IsLst B x_1 rows_1.length 1 (Rv.elemOf [.i64] rows_1) ∧ a < rows_1.length) ∧ (cell rows_1 a 0 = (0 : Int) → Ob (opnN rows_1 a = opnN rows_1 a ∧ ∀ (i : Nat), i < opnN rows_1 a → ((El.fn
  (Rv.elemOf [.i64] (undR rows_1 a))).at i).length = (1 : Nat)) ∧ Ob ((opnN rows_1 a + (1 : Nat)) * (2 : Nat) * (9 : Nat) ≤ (1099511627776 : Nat)) ∧ Ob (opnN rows_1 a = opnN rows_1 a) ∧ Ob (InR .i64 ((↑a : Int) + (1 :
  Int))) ∧ ∃ (a' : Nat), Ob (a' ≤ rows_1.length ∧ rows_1.length - a' < rows_1.length - a) ∧ Ob (opnN rows_1 a + (1 : Nat) = opnN rows_1 a') ∧ Ob (SV.lst x_1 rows_1.length 1 (Rv.elemOf [.i64] rows_1) = SV.lst x_1
  rows_1.length 1 (Rv.elemOf [.i64] rows_1)) ∧ Ob ((↑rows_1.length : Int) = (↑rows_1.length : Int)) ∧ Ob ((↑a : Int) + (1 : Int) = (↑a' : Int)) ∧ Ob (opnN rows_1 a + (1 : Nat) = opnN rows_1 a' ∧ ∀ (i : Nat), i < opnN
  rows_1 a' → (behind (opnN rows_1 a) (El.fn (Rv.elemOf [.i64] (undR rows_1 a))) 1 (litEl [SV.i .i64 (↑a : Int)] 1 1)).at i = (El.fn (Rv.elemOf [.i64] (undR rows_1 a'))).at i) ∧ Ob (R = R) ∧ Ob (SV.lst x rows.length 1
  (Rv.elemOf [.i64] rows) = SV.lst x rows.length 1 (Rv.elemOf [.i64] rows)) ∧ Ob (SV.lst x_1 rows_1.length 1 (Rv.elemOf [.i64] rows_1) = SV.lst x_1 rows_1.length 1 (Rv.elemOf [.i64] rows_1)) ∧ Ob (n = n) ∧ Ob (SV.v
  (Value.bool false) = SV.v (Value.bool false)) ∧ Ob (SV.v (Value.bool false) = SV.v (Value.bool false)) ∧ Ob (SV.lst x rows.length 1 (Rv.elemOf [.i64] rows) = SV.lst x rows.length 1 (Rv.elemOf [.i64] rows)) ∧ Ob (SV.lst
  x_1 rows_1.length 1 (Rv.elemOf [.i64] rows_1) = SV.lst x_1 rows_1.length 1 (Rv.elemOf [.i64] rows_1)) ∧ Ob (n = n) ∧ Ob (IsLst B x_1 rows_1.length 1 (Rv.elemOf [.i64] rows_1)) ∧ Ob (PlainE (opnN rows_1 a') (El.fn
  (Rv.elemOf [.i64] (undR rows_1 a')))) ∧ Ob (R.b ≤ B.n + (6 : Nat)) ∧ Ob (IsLst B x rows.length 1 (Rv.elemOf [.i64] rows)) ∧ Ob (IsLst B x_1 rows_1.length 1 (Rv.elemOf [.i64] rows_1)) ∧ Ob (IsLst B x rows.length 1
  (Rv.elemOf [.i64] rows)) ∧ Ob (IsLst B x_1 rows_1.length 1 (Rv.elemOf [.i64] rows_1)) ∧ True) ∧ (¬cell rows_1 a 0 = (0 : Int) → Ob (InR .i64 ((↑a : Int) + (1 : Int))) ∧ ∃ (a' : Nat), Ob (a' ≤ rows_1.length ∧
  rows_1.length - a' < rows_1.length - a) ∧ Ob (opnN rows_1 a = opnN rows_1 a') ∧ Ob (SV.lst x_1 rows_1.length 1 (Rv.elemOf [.i64] rows_1) = SV.lst x_1 rows_1.length 1 (Rv.elemOf [.i64] rows_1)) ∧ Ob ((↑rows_1.length :
  Int) = (↑rows_1.length : Int)) ∧ Ob ((↑a : Int) + (1 : Int) = (↑a' : Int)) ∧ Ob (opnN rows_1 a = opnN rows_1 a' ∧ ∀ (i : Nat), i < opnN rows_1 a' → (El.fn (Rv.elemOf [.i64] (undR rows_1 a))).at i = (El.fn (Rv.elemOf
  [.i64] (undR rows_1 a'))).at i) ∧ Ob (R = R) ∧ Ob (SV.lst x rows.length 1 (Rv.elemOf [.i64] rows) = SV.lst x rows.length 1 (Rv.elemOf [.i64] rows)) ∧ Ob (SV.lst x_1 rows_1.length 1 (Rv.elemOf [.i64] rows_1) = SV.lst x_1
  rows_1.length 1 (Rv.elemOf [.i64] rows_1)) ∧ Ob (n = n) ∧ Ob (SV.v (Value.bool false) = SV.v (Value.bool false)) ∧ Ob (SV.v (Value.bool false) = SV.v (Value.bool false)) ∧ Ob (SV.lst x rows.length 1 (Rv.elemOf [.i64]
  rows) = SV.lst x rows.length 1 (Rv.elemOf [.i64] rows)) ∧ Ob (SV.lst x_1 rows_1.length 1 (Rv.elemOf [.i64] rows_1) = SV.lst x_1 rows_1.length 1 (Rv.elemOf [.i64] rows_1)) ∧ Ob (n = n) ∧ Ob (IsLst B x_1 rows_1.length 1
  (Rv.elemOf [.i64] rows_1)) ∧ Ob (PlainE (opnN rows_1 a') (El.fn (Rv.elemOf [.i64] (undR rows_1 a')))) ∧ Ob (R.b ≤ B.n + (6 : Nat)) ∧ Ob (IsLst B x rows.length 1 (Rv.elemOf [.i64] rows)) ∧ Ob (IsLst B x_1 rows_1.length 1
  (Rv.elemOf [.i64] rows_1)) ∧ Ob (IsLst B x rows.length 1 (Rv.elemOf [.i64] rows)) ∧ Ob (IsLst B x_1 rows_1.length 1 (Rv.elemOf [.i64] rows_1)) ∧ True)) ∧ (¬(↑a : Int) < (↑rows_1.length : Int) → Ob ((0 : Int) ≤ (1 : Int)
  ∧ (0 : Int) ≤ (↑(opnN rows_1 a) : Int) ∧ (↑(opnN rows_1 a) : Int) ≤ (↑64 : Int) ∧ InR .i64 ((1 : Int) * (2 : Int) ^ (↑(opnN rows_1 a) : Int).toNat)) ∧ (∃ (a_1 : Nat), Ob (a_1 ≤ (2 : Nat) ^ opnN rows_1 rows_1.length) ∧ Ob
  (opnN rows_1 a = opnN rows_1 rows_1.length) ∧ Ob ((1 : Int) * (2 : Int) ^ (↑(opnN rows_1 a) : Int).toNat = (1 : Int) * (2 : Int) ^ (↑(opnN rows_1 rows_1.length) : Int).toNat) ∧ Ob ((0 : Int) = (↑a_1 : Int)) ∧ Ob (opnN
  rows_1 a = opnN rows_1 rows_1.length ∧ ∀ (i : Nat), i < opnN rows_1 rows_1.length → (El.fn (Rv.elemOf [.i64] (undR rows_1 a))).at i = (El.fn (Rv.elemOf [.i64] (undR rows_1 rows_1.length))).at i) ∧ Ob (R = R) ∧ Ob (SV.lst
  x rows.length 1 (Rv.elemOf [.i64] rows) = SV.lst x rows.length 1 (Rv.elemOf [.i64] rows)) ∧ Ob (SV.lst x_1 rows_1.length 1 (Rv.elemOf [.i64] rows_1) = SV.lst x_1 rows_1.length 1 (Rv.elemOf [.i64] rows_1)) ∧ Ob (n = n) ∧
  Ob (false = true ↔ ∃ (s : Nat), s < a_1 ∧ ¬pasW rows rows_1 n s) ∧ Ob (false = true ↔ ∃ (s : Nat), s < a_1 ∧ pasW rows rows_1 n s) ∧ Ob (SV.lst x rows.length 1 (Rv.elemOf [.i64] rows) = SV.lst x rows.length 1 (Rv.elemOf
  [.i64] rows)) ∧ Ob (SV.lst x_1 rows_1.length 1 (Rv.elemOf [.i64] rows_1) = SV.lst x_1 rows_1.length 1 (Rv.elemOf [.i64] rows_1)) ∧ Ob (n = n) ∧ Ob (PlainE (opnN rows_1 rows_1.length) (El.fn (Rv.elemOf [.i64] (undR rows_1
  rows_1.length)))) ∧ Ob (R.b ≤ B.n + (6 : Nat)) ∧ Ob (IsLst B x rows.length 1 (Rv.elemOf [.i64] rows)) ∧ Ob (IsLst B x_1 rows_1.length 1 (Rv.elemOf [.i64] rows_1)) ∧ Ob (IsLst B x rows.length 1 (Rv.elemOf [.i64] rows)) ∧
  Ob (IsLst B x_1 rows_1.length 1 (Rv.elemOf [.i64] rows_1)) ∧ True) ∧ ∀ (a_1 : Nat), a_1 ≤ (2 : Nat) ^ opnN rows_1 rows_1.length → ∀ (z_52 z_53 z_54 z_55 z_56 z_57 z_58 z_59 z_60 z_61 z_62 z_63 z_64 z_65 z_66 z_67 z_68
  z_69 z_70 z_71 z_72 z_73 z_74 z_75 z_76 z_77 z_78 z_79 z_80 z_81 z_82 z_83 z_84 z_85 z_86 z_87 z_88 z_89 z_90 z_91 z_92 z_93 z_94 z_95 z_96 z_97 z_98 z_99 z_100 z_101 z_102 z_103 z_104 : Value), ((↑a_1 : Int) < (1 : Int)
  * (2 : Int) ^ (↑(opnN rows_1 rows_1.length) : Int).toNat → ∃ (rows_4 : List (List Int)), Ob (IsLst B x_1 rows_1.length 1 (Rv.elemOf [.i64] rows_1) ∧ rows_4.length = rows_1.length ∧ (∀ (r : List Int), r ∈ rows_4 →
  r.length = (1 : Nat)) ∧ ∀ (i : Nat), i < rows_1.length → Rv.elemOf [.i64] rows_1 i = Rv.elemOf [.i64] rows_4 i) ∧ Ob (F_Clone.pre [Dat.l rows_4]) ∧ (∃ (a_2 : Nat), Ob (a_2 ≤ opnN rows_1 rows_1.length) ∧ Ob (opnN rows_1
  rows_1.length = opnN rows_1 rows_1.length) ∧ Ob ((↑a_1 : Int) = (↑a_1 : Int)) ∧ Ob (rows_4.length = rows_1.length) ∧ Ob ((1 : Int) * (2 : Int) ^ (↑(opnN rows_1 rows_1.length) : Int).toNat = (1 : Int) * (2 : Int) ^
  (↑(opnN rows_1 rows_1.length) : Int).toNat) ∧ Ob ((↑a_1 : Int) = (↑a_1 : Int)) ∧ Ob (opnN rows_1 rows_1.length = opnN rows_1 rows_1.length) ∧ Ob ((↑(opnN rows_1 rows_1.length) : Int) = (↑(opnN rows_1 rows_1.length) :
  Int)) ∧ Ob ((0 : Int) = (↑a_2 : Int)) ∧ Ob (rows_4.length = rows_1.length ∧ ∀ (i : Nat), i < rows_1.length → (El.fn (Rv.elemOf [.i64] rows_4)).at i = (El.fn fun (k : Nat) ↦ [SV.i .i64 (wayP rows_1 a_1 a_2 k)]).at i) ∧ Ob
  (opnN rows_1 rows_1.length = opnN rows_1 rows_1.length ∧ ∀ (i : Nat), i < opnN rows_1 rows_1.length → (El.fn (Rv.elemOf [.i64] (undR rows_1 rows_1.length))).at i = (El.fn (Rv.elemOf [.i64] (undR rows_1
  rows_1.length))).at i) ∧ Ob (R = R) ∧ Ob (SV.lst x rows.length 1 (Rv.elemOf [.i64] rows) = SV.lst x rows.length 1 (Rv.elemOf [.i64] rows)) ∧ Ob (SV.lst x_1 rows_1.length 1 (Rv.elemOf [.i64] rows_1) = SV.lst x_1
  rows_1.length 1 (Rv.elemOf [.i64] rows_1)) ∧ Ob (n = n) ∧ Ob ((∃ (s : Nat), s < a_1 ∧ ¬pasW rows rows_1 n s) ↔ ∃ (s : Nat), s < a_1 ∧ ¬pasW rows rows_1 n s) ∧ Ob ((∃ (s : Nat), s < a_1 ∧ pasW rows rows_1 n s) ↔ ∃ (s :
  Nat), s < a_1 ∧ pasW rows rows_1 n s) ∧ Ob (SV.lst x rows.length 1 (Rv.elemOf [.i64] rows) = SV.lst x rows.length 1 (Rv.elemOf [.i64] rows)) ∧ Ob (SV.lst x_1 rows_1.length 1 (Rv.elemOf [.i64] rows_1) = SV.lst x_1
  rows_1.length 1 (Rv.elemOf [.i64] rows_1)) ∧ Ob (n = n) ∧ Ob (PlainE rows_1.length (El.fn fun (k : Nat) ↦ [SV.i .i64 (wayP rows_1 a_1 a_2 k)])) ∧ Ob (PlainE (opnN rows_1 rows_1.length) (El.fn (Rv.elemOf [.i64] (undR
  rows_1 rows_1.length)))) ∧ Ob (R.b ≤ B.n + (6 : Nat)) ∧ Ob (IsLst B x rows.length 1 (Rv.elemOf [.i64] rows)) ∧ Ob (IsLst B x_1 rows_1.length 1 (Rv.elemOf [.i64] rows_1)) ∧ Ob (IsLst B x rows.length 1 (Rv.elemOf [.i64]
  rows)) ∧ Ob (IsLst B x_1 rows_1.length 1 (Rv.elemOf [.i64] rows_1)) ∧ True) ∧ ∀ (a_2 : Nat), a_2 ≤ opnN rows_1 rows_1.length → ∀ (z_105 z_106 z_107 z_108 z_109 z_110 z_111 z_112 z_113 z_114 z_115 z_116 z_117 z_118 z_119
  z_120 z_121 z_122 z_123 z_124 z_125 z_126 z_127 z_128 z_129 z_130 z_131 z_132 z_133 z_134 z_135 z_136 z_137 z_138 z_139 z_140 z_141 z_142 z_143 z_144 z_145 z_146 z_147 z_148 z_149 z_150 z_151 z_152 : Value), ((↑a_2 :
  Int) < (↑(opnN rows_1 rows_1.length) : Int) → Ob ((0 : Int) ≤ (↑a_2 : Int) ∧ a_2 < opnN rows_1 rows_1.length) ∧ Ob (a_2 < opnN rows_1 rows_1.length) ∧ Ob ((0 : Int) ≤ cell (undR rows_1 rows_1.length) a_2 0 ∧ (cell (undR
  rows_1 rows_1.length) a_2 0).toNat < rows_1.length) ∧ Ob ((cell (undR rows_1 rows_1.length) a_2 0).toNat < rows_1.length ∧ ((El.fn fun (k : Nat) ↦ [SV.i .i64 (wayP rows_1 a_1 a_2 k)]).at (cell (undR rows_1 rows_1.length)
  a_2 0).toNat).length = (1 : Nat)) ∧ Ob ((0 : Int) ≤ (↑a_1 : Int) ∧ (0 : Int) ≤ (↑a_2 : Int) ∧ (↑a_2 : Int) ≤ (↑64 : Int) ∧ InR .i64 ((↑a_1 : Int) / (2 : Int) ^ a_2)) ∧ Ob ((0 : Int) ≤ (↑a_1 : Int) / (2 : Int) ^ a_2 ∧ (0
  : Int) ≤ (1 : Int) ∧ InR .i64 (andI ((↑a_1 : Int) / (2 : Int) ^ a_2) (1 : Int))) ∧ (andI ((↑a_1 : Int) / (2 : Int) ^ a_2) (1 : Int) = (1 : Int) → Ob ((0 : Int) ≤ cell (undR rows_1 rows_1.length) a_2 0 ∧ (cell (undR
  rows_1 rows_1.length) a_2 0).toNat < rows_1.length) ∧ Ob ((cell (undR rows_1 rows_1.length) a_2 0).toNat < rows_1.length ∧ ((updL (El.fn fun (k : Nat) ↦ [SV.i .i64 (wayP rows_1 a_1 a_2 k)]) (cell (undR rows_1
  rows_1.length) a_2 0).toNat 0 [SV.i .i64 (1 : Int)]).at (cell (undR rows_1 rows_1.length) a_2 0).toNat).length = (1 : Nat)) ∧ Ob (InR .i64 ((↑a_2 : Int) + (1 : Int))) ∧ ∃ (a' : Nat), Ob (a' ≤ opnN rows_1 rows_1.length ∧
  opnN rows_1 rows_1.length - a' < opnN rows_1 rows_1.length - a_2) ∧ Ob (opnN rows_1 rows_1.length = opnN rows_1 rows_1.length) ∧ Ob ((↑a_1 : Int) = (↑a_1 : Int)) ∧ Ob (rows_1.length = rows_1.length) ∧ Ob ((1 : Int) * (2
  : Int) ^ (↑(opnN rows_1 rows_1.length) : Int).toNat = (1 : Int) * (2 : Int) ^ (↑(opnN rows_1 rows_1.length) : Int).toNat) ∧ Ob ((↑a_1 : Int) = (↑a_1 : Int)) ∧ Ob (opnN rows_1 rows_1.length = opnN rows_1 rows_1.length) ∧
  Ob ((↑(opnN rows_1 rows_1.length) : Int) = (↑(opnN rows_1 rows_1.length) : Int)) ∧ Ob ((↑a_2 : Int) + (1 : Int) = (↑a' : Int)) ∧ Ob (rows_1.length = rows_1.length ∧ ∀ (i : Nat), i < rows_1.length → (updL (updL (El.fn fun
  (k : Nat) ↦ [SV.i .i64 (wayP rows_1 a_1 a_2 k)]) (cell (undR rows_1 rows_1.length) a_2 0).toNat 0 [SV.i .i64 (1 : Int)]) (cell (undR rows_1 rows_1.length) a_2 0).toNat 0 [SV.i .i64 (2 : Int)]).at i = (El.fn fun (k : Nat)
  ↦ [SV.i .i64 (wayP rows_1 a_1 a' k)]).at i) ∧ Ob (opnN rows_1 rows_1.length = opnN rows_1 rows_1.length ∧ ∀ (i : Nat), i < opnN rows_1 rows_1.length → (El.fn (Rv.elemOf [.i64] (undR rows_1 rows_1.length))).at i = (El.fn
  (Rv.elemOf [.i64] (undR rows_1 rows_1.length))).at i) ∧ Ob (R = R) ∧ Ob (SV.lst x rows.length 1 (Rv.elemOf [.i64] rows) = SV.lst x rows.length 1 (Rv.elemOf [.i64] rows)) ∧ Ob (SV.lst x_1 rows_1.length 1 (Rv.elemOf [.i64]
  rows_1) = SV.lst x_1 rows_1.length 1 (Rv.elemOf [.i64] rows_1)) ∧ Ob (n = n) ∧ Ob ((∃ (s : Nat), s < a_1 ∧ ¬pasW rows rows_1 n s) ↔ ∃ (s : Nat), s < a_1 ∧ ¬pasW rows rows_1 n s) ∧ Ob ((∃ (s : Nat), s < a_1 ∧ pasW rows
  rows_1 n s) ↔ ∃ (s : Nat), s < a_1 ∧ pasW rows rows_1 n s) ∧ Ob (SV.lst x rows.length 1 (Rv.elemOf [.i64] rows) = SV.lst x rows.length 1 (Rv.elemOf [.i64] rows)) ∧ Ob (SV.lst x_1 rows_1.length 1 (Rv.elemOf [.i64] rows_1)
  = SV.lst x_1 rows_1.length 1 (Rv.elemOf [.i64] rows_1)) ∧ Ob (n = n) ∧ Ob (PlainE rows_1.length (El.fn fun (k : Nat) ↦ [SV.i .i64 (wayP rows_1 a_1 a' k)])) ∧ Ob (PlainE (opnN rows_1 rows_1.length) (El.fn (Rv.elemOf
  [.i64] (undR rows_1 rows_1.length)))) ∧ Ob (R.b ≤ B.n + (6 : Nat)) ∧ Ob (IsLst B x rows.length 1 (Rv.elemOf [.i64] rows)) ∧ Ob (IsLst B x_1 rows_1.length 1 (Rv.elemOf [.i64] rows_1)) ∧ Ob (IsLst B x rows.length 1
  (Rv.elemOf [.i64] rows)) ∧ Ob (IsLst B x_1 rows_1.length 1 (Rv.elemOf [.i64] rows_1)) ∧ True) ∧ (¬andI ((↑a_1 : Int) / (2 : Int) ^ a_2) (1 : Int) = (1 : Int) → Ob (InR .i64 ((↑a_2 : Int) + (1 : Int))) ∧ ∃ (a' : Nat), Ob
  (a' ≤ opnN rows_1 rows_1.length ∧ opnN rows_1 rows_1.length - a' < opnN rows_1 rows_1.length - a_2) ∧ Ob (opnN rows_1 rows_1.length = opnN rows_1 rows_1.length) ∧ Ob ((↑a_1 : Int) = (↑a_1 : Int)) ∧ Ob (rows_1.length =
  rows_1.length) ∧ Ob ((1 : Int) * (2 : Int) ^ (↑(opnN rows_1 rows_1.length) : Int).toNat = (1 : Int) * (2 : Int) ^ (↑(opnN rows_1 rows_1.length) : Int).toNat) ∧ Ob ((↑a_1 : Int) = (↑a_1 : Int)) ∧ Ob (opnN rows_1
  rows_1.length = opnN rows_1 rows_1.length) ∧ Ob ((↑(opnN rows_1 rows_1.length) : Int) = (↑(opnN rows_1 rows_1.length) : Int)) ∧ Ob ((↑a_2 : Int) + (1 : Int) = (↑a' : Int)) ∧ Ob (rows_1.length = rows_1.length ∧ ∀ (i :
  Nat), i < rows_1.length → (updL (El.fn fun (k : Nat) ↦ [SV.i .i64 (wayP rows_1 a_1 a_2 k)]) (cell (undR rows_1 rows_1.length) a_2 0).toNat 0 [SV.i .i64 (1 : Int)]).at i = (El.fn fun (k : Nat) ↦ [SV.i .i64 (wayP rows_1
  a_1 a' k)]).at i) ∧ Ob (opnN rows_1 rows_1.length = opnN rows_1 rows_1.length ∧ ∀ (i : Nat), i < opnN rows_1 rows_1.length → (El.fn (Rv.elemOf [.i64] (undR rows_1 rows_1.length))).at i = (El.fn (Rv.elemOf [.i64] (undR
  rows_1 rows_1.length))).at i) ∧ Ob (R = R) ∧ Ob (SV.lst x rows.length 1 (Rv.elemOf [.i64] rows) = SV.lst x rows.length 1 (Rv.elemOf [.i64] rows)) ∧ Ob (SV.lst x_1 rows_1.length 1 (Rv.elemOf [.i64] rows_1) = SV.lst x_1
  rows_1.length 1 (Rv.elemOf [.i64] rows_1)) ∧ Ob (n = n) ∧ Ob ((∃ (s : Nat), s < a_1 ∧ ¬pasW rows rows_1 n s) ↔ ∃ (s : Nat), s < a_1 ∧ ¬pasW rows rows_1 n s) ∧ Ob ((∃ (s : Nat), s < a_1 ∧ pasW rows rows_1 n s) ↔ ∃ (s :
  Nat), s < a_1 ∧ pasW rows rows_1 n s) ∧ Ob (SV.lst x rows.length 1 (Rv.elemOf [.i64] rows) = SV.lst x rows.length 1 (Rv.elemOf [.i64] rows)) ∧ Ob (SV.lst x_1 rows_1.length 1 (Rv.elemOf [.i64] rows_1) = SV.lst x_1
  rows_1.length 1 (Rv.elemOf [.i64] rows_1)) ∧ Ob (n = n) ∧ Ob (PlainE rows_1.length (El.fn fun (k : Nat) ↦ [SV.i .i64 (wayP rows_1 a_1 a' k)])) ∧ Ob (PlainE (opnN rows_1 rows_1.length) (El.fn (Rv.elemOf [.i64] (undR
  rows_1 rows_1.length)))) ∧ Ob (R.b ≤ B.n + (6 : Nat)) ∧ Ob (IsLst B x rows.length 1 (Rv.elemOf [.i64] rows)) ∧ Ob (IsLst B x_1 rows_1.length 1 (Rv.elemOf [.i64] rows_1)) ∧ Ob (IsLst B x rows.length 1 (Rv.elemOf [.i64]
  rows)) ∧ Ob (IsLst B x_1 rows_1.length 1 (Rv.elemOf [.i64] rows_1)) ∧ True)) ∧ (¬(↑a_2 : Int) < (↑(opnN rows_1 rows_1.length) : Int) → Ob (B = B) ∧ Ob (R = R) ∧ ∃ (rows_5 : List (List Int)), Ob (IsLst B x rows.length 1
  (Rv.elemOf [.i64] rows) ∧ rows_5.length = rows.length ∧ (∀ (r : List Int), r ∈ rows_5 → r.length = (1 : Nat)) ∧ ∀ (i : Nat), i < rows.length → Rv.elemOf [.i64] rows i = Rv.elemOf [.i64] rows_5 i) ∧ ∃ (rows_6 : List (List
  Int)), Ob (IsLst B x_1 rows_1.length 1 (Rv.elemOf [.i64] rows_1) ∧ rows_6.length = rows_1.length ∧ (∀ (r : List Int), r ∈ rows_6 → r.length = (1 : Nat)) ∧ ∀ (i : Nat), i < rows_1.length → Rv.elemOf [.i64] rows_1 i =
  Rv.elemOf [.i64] rows_6 i) ∧ ∃ (rows_7 : List (List Int)), Ob (rows_1.length = rows_1.length ∧ rows_7.length = rows_1.length ∧ (∀ (r : List Int), r ∈ rows_7 → r.length = (1 : Nat)) ∧ ∀ (i : Nat), i < rows_1.length →
  (El.fn fun (k : Nat) ↦ [SV.i .i64 (wayP rows_1 a_1 a_2 k)]).at i = Rv.elemOf [.i64] rows_7 i) ∧ Ob (WtOk rows_5 ∧ rows_7.length = rows_5.length ∧ rows_5.length ≤ (100 : Nat) ∧ (0 : Int) ≤ n ∧ n ≤ (1000000 : Int)) ∧
  (passN rows_5 n (yesS rows_5 rows_7 rows_5.length) → Ob (InR .i64 ((↑a_1 : Int) + (1 : Int))) ∧ ∃ (a' : Nat), Ob (a' ≤ (2 : Nat) ^ opnN rows_1 rows_1.length ∧ (2 : Nat) ^ opnN rows_1 rows_1.length - a' < (2 : Nat) ^ opnN
  rows_1 rows_1.length - a_1) ∧ Ob (opnN rows_1 rows_1.length = opnN rows_1 rows_1.length) ∧ Ob ((1 : Int) * (2 : Int) ^ (↑(opnN rows_1 rows_1.length) : Int).toNat = (1 : Int) * (2 : Int) ^ (↑(opnN rows_1 rows_1.length) :
  Int).toNat) ∧ Ob ((↑a_1 : Int) + (1 : Int) = (↑a' : Int)) ∧ Ob (opnN rows_1 rows_1.length = opnN rows_1 rows_1.length ∧ ∀ (i : Nat), i < opnN rows_1 rows_1.length → (El.fn (Rv.elemOf [.i64] (undR rows_1
  rows_1.length))).at i = (El.fn (Rv.elemOf [.i64] (undR rows_1 rows_1.length))).at i) ∧ Ob (R = R) ∧ Ob (SV.lst x rows.length 1 (Rv.elemOf [.i64] rows) = SV.lst x rows.length 1 (Rv.elemOf [.i64] rows)) ∧ Ob (SV.lst x_1
  rows_1.length 1 (Rv.elemOf [.i64] rows_1) = SV.lst x_1 rows_1.length 1 (Rv.elemOf [.i64] rows_1)) ∧ Ob (n = n) ∧ Ob ((∃ (s : Nat), s < a_1 ∧ ¬pasW rows rows_1 n s) ↔ ∃ (s : Nat), s < a' ∧ ¬pasW rows rows_1 n s) ∧ Ob
  (true = true ↔ ∃ (s : Nat), s < a' ∧ pasW rows rows_1 n s) ∧ Ob (SV.lst x rows.length 1 (Rv.elemOf [.i64] rows) = SV.lst x rows.length 1 (Rv.elemOf [.i64] rows)) ∧ Ob (SV.lst x_1 rows_1.length 1 (Rv.elemOf [.i64] rows_1)
  = SV.lst x_1 rows_1.length 1 (Rv.elemOf [.i64] rows_1)) ∧ Ob (n = n) ∧ Ob (PlainE (opnN rows_1 rows_1.length) (El.fn (Rv.elemOf [.i64] (undR rows_1 rows_1.length)))) ∧ Ob (R.b ≤ B.n + (6 : Nat)) ∧ Ob (IsLst B x
  rows.length 1 (Rv.elemOf [.i64] rows)) ∧ Ob (IsLst B x_1 rows_1.length 1 (Rv.elemOf [.i64] rows_1)) ∧ Ob (IsLst B x rows.length 1 (Rv.elemOf [.i64] rows)) ∧ Ob (IsLst B x_1 rows_1.length 1 (Rv.elemOf [.i64] rows_1)) ∧
  True) ∧ (¬passN rows_5 n (yesS rows_5 rows_7 rows_5.length) → Ob (InR .i64 ((↑a_1 : Int) + (1 : Int))) ∧ ∃ (a' : Nat), Ob (a' ≤ (2 : Nat) ^ opnN rows_1 rows_1.length ∧ (2 : Nat) ^ opnN rows_1 rows_1.length - a' < (2 :
  Nat) ^ opnN rows_1 rows_1.length - a_1) ∧ Ob (opnN rows_1 rows_1.length = opnN rows_1 rows_1.length) ∧ Ob ((1 : Int) * (2 : Int) ^ (↑(opnN rows_1 rows_1.length) : Int).toNat = (1 : Int) * (2 : Int) ^ (↑(opnN rows_1
  rows_1.length) : Int).toNat) ∧ Ob ((↑a_1 : Int) + (1 : Int) = (↑a' : Int)) ∧ Ob (opnN rows_1 rows_1.length = opnN rows_1 rows_1.length ∧ ∀ (i : Nat), i < opnN rows_1 rows_1.length → (El.fn (Rv.elemOf [.i64] (undR rows_1
  rows_1.length))).at i = (El.fn (Rv.elemOf [.i64] (undR rows_1 rows_1.length))).at i) ∧ Ob (R = R) ∧ Ob (SV.lst x rows.length 1 (Rv.elemOf [.i64] rows) = SV.lst x rows.length 1 (Rv.elemOf [.i64] rows)) ∧ Ob (SV.lst x_1
  rows_1.length 1 (Rv.elemOf [.i64] rows_1) = SV.lst x_1 rows_1.length 1 (Rv.elemOf [.i64] rows_1)) ∧ Ob (n = n) ∧ Ob (true = true ↔ ∃ (s : Nat), s < a' ∧ ¬pasW rows rows_1 n s) ∧ Ob ((∃ (s : Nat), s < a_1 ∧ pasW rows
  rows_1 n s) ↔ ∃ (s : Nat), s < a' ∧ pasW rows rows_1 n s) ∧ Ob (SV.lst x rows.length 1 (Rv.elemOf [.i64] rows) = SV.lst x rows.length 1 (Rv.elemOf [.i64] rows)) ∧ Ob (SV.lst x_1 rows_1.length 1 (Rv.elemOf [.i64] rows_1)
  = SV.lst x_1 rows_1.length 1 (Rv.elemOf [.i64] rows_1)) ∧ Ob (n = n) ∧ Ob (PlainE (opnN rows_1 rows_1.length) (El.fn (Rv.elemOf [.i64] (undR rows_1 rows_1.length)))) ∧ Ob (R.b ≤ B.n + (6 : Nat)) ∧ Ob (IsLst B x
  rows.length 1 (Rv.elemOf [.i64] rows)) ∧ Ob (IsLst B x_1 rows_1.length 1 (Rv.elemOf [.i64] rows_1)) ∧ Ob (IsLst B x rows.length 1 (Rv.elemOf [.i64] rows)) ∧ Ob (IsLst B x_1 rows_1.length 1 (Rv.elemOf [.i64] rows_1)) ∧
  True))) ∧ (¬(↑a_1 : Int) < (1 : Int) * (2 : Int) ^ (↑(opnN rows_1 rows_1.length) : Int).toNat → ((¬∃ (s : Nat), s < a_1 ∧ ¬pasW rows rows_1 n s) → Ob ((1 : Int) = decV rows rows_1 n) ∧ Ob ((0 : Int) = motErr rows rows_1
  n) ∧ True) ∧ ((¬¬∃ (s : Nat), s < a_1 ∧ ¬pasW rows rows_1 n s) → ((¬∃ (s : Nat), s < a_1 ∧ pasW rows rows_1 n s) → Ob ((2 : Int) = decV rows rows_1 n) ∧ Ob ((0 : Int) = motErr rows rows_1 n) ∧ True) ∧ ((¬¬∃ (s : Nat), s
  < a_1 ∧ pasW rows rows_1 n s) → Ob ((3 : Int) = decV rows rows_1 n) ∧ Ob ((0 : Int) = motErr rows rows_1 n) ∧ True)))))

set_option linter.unusedSimpArgs false in
set_option maxRecDepth 4000 in
set_option maxHeartbeats 2000000 in
theorem v_Decide : V_Decide := by
  unfold V_Decide
  intro B xw W hw how hrw xv V hv hov hrv need hpre
  have hpre : W.length ≤ 4000000 ∧ V.length ≤ 4000000 := hpre
  simp only [Ob_iff, and_true, true_and]
  refine ⟨how, hov, W, ⟨hw, rfl, hrw, fun _ _ => rfl⟩, V, ⟨hv, rfl, hrv, fun _ _ => rfl⟩, hpre, fun h1 => ?_, fun h1 => ?_⟩
  · unfold decV
    rw [if_neg h1]
    exact ⟨rfl, rfl⟩
  have h1 := Classical.not_not.1 h1
  have ok := mot_ok h1
  have l1 := ok.l
  have l2 := ok.v
  have hun := opnN_le V V.length
  intro R hR
  have hRb : R.b ≤ B.n + 6 := by omega
  refine ⟨hv, ⟨0, by omega, rfl, rfl, ?_⟩, ?_⟩
  · repeat' (first | assumption | exact plain_elemOf _ _ _ | exact plain_fn1 _ _ | (with_reducible rfl) | exact fun _ _ => rfl | exact fun _ _ => trivial | trivial | with_reducible apply And.intro)
  intro k hk
  intros
  refine ⟨fun h2 => ?_, fun h2 => ?_⟩
  · have hk' : k < V.length := by omega
    have hok := opnN_le V k
    have rk : InR .i64 ((k : Int) + 1) := by simp only [InR]; omega
    refine ⟨⟨by omega, hk', hv⟩, ⟨hv, hk'⟩, fun h3 => ?_, fun h3 => ?_⟩
    · have e1 : opnN V (k + 1) = opnN V k + 1 := by simp only [opnN, if_pos h3]
      have e2 : undR V (k + 1) = undR V k ++ [[(k : Int)]] := by simp only [undR, if_pos h3]
      have hs := snoc1 (x := (k : Int)) (undR_len V k)
      rw [← e2, ← e1] at hs
      refine ⟨fun _ _ => rfl, by omega, rk, k + 1, ⟨hk', by omega⟩, e1.symm, by omega, ⟨e1.symm, hs⟩, ?_⟩
      repeat' (first | assumption | exact plain_elemOf _ _ _ | exact plain_fn1 _ _ | (with_reducible rfl) | exact fun _ _ => rfl | exact fun _ _ => trivial | trivial | with_reducible apply And.intro)
    · have e1 : opnN V (k + 1) = opnN V k := by simp only [opnN, if_neg h3, Nat.add_zero]
      have e2 : undR V (k + 1) = undR V k := by simp only [undR, if_neg h3]
      refine ⟨rk, k + 1, ⟨hk', by omega⟩, e1.symm, by omega, ⟨e1.symm, fun i _ => by rw [e2]⟩, ?_⟩
      repeat' (first | assumption | exact plain_elemOf _ _ _ | exact plain_fn1 _ _ | (with_reducible rfl) | exact fun _ _ => rfl | exact fun _ _ => trivial | trivial | with_reducible apply And.intro)
  have ek : k = V.length := by omega
  subst ek
  have hdw := dec_ways ok
  have hat := undR_at V V.length
  have hall : ∀ w k, k < V.length → wayP V w (opnN V V.length) k = wayV V w k := fun w k h => wayP_all V w h
  obtain ⟨UR, hUR⟩ : ∃ UR, undR V V.length = UR := ⟨_, rfl⟩
  rw [hUR] at hat ⊢
  obtain ⟨u, hu⟩ : ∃ u, opnN V V.length = u := ⟨_, rfl⟩
  rw [hu] at hun hdw hat hall ⊢
  clear hu hUR
  have hp1 : 2 ^ u ≤ 2 ^ 12 := Nat.pow_le_pow_right (by omega) (by omega)
  have hp0 : 0 < 2 ^ u := Nat.pow_pos (by omega)
  have hpc : (1 : Int) * 2 ^ ((u : Nat) : Int).toNat = ((2 ^ u : Nat) : Int) := by simp
  simp only [hpc]
  have en : ∀ p : Nat → Prop, (false = true ↔ ∃ s, s < 0 ∧ p s) := fun p => ⟨fun h => (by cases h), fun ⟨_, h, _⟩ => absurd h (Nat.not_lt_zero _)⟩
  refine ⟨⟨by omega, by omega, by omega, by simp only [InR]; omega⟩, ⟨0, Nat.zero_le _, ?_⟩, ?_⟩
  · have en1 := en fun s => pasW W V need s
    have en2 := en fun s => ¬ pasW W V need s
    repeat' (first | assumption | exact plain_elemOf _ _ _ | exact plain_fn1 _ _ | (with_reducible rfl) | exact fun _ _ => rfl | exact fun _ _ => trivial | trivial | with_reducible apply And.intro)
  clear hk h2 en
  intro w hw2
  intros
  refine ⟨fun h2 => ?_, fun h2 => ?_⟩
  rotate_left
  · have ew : w = 2 ^ u := by omega
    subst ew
    obtain ⟨d1, d2, d3⟩ := hdw
    exact ⟨fun h => ⟨(d1 h).symm, h1.symm⟩, fun h => ⟨fun h3 => ⟨(d2 (Classical.not_not.1 h) h3).symm, h1.symm⟩, fun h3 => ⟨(d3 (Classical.not_not.1 h) (Classical.not_not.1 h3)).symm, h1.symm⟩⟩⟩
  have hw3 : w < 2 ^ u := by omega
  refine ⟨V, ⟨hv, rfl, hrv, fun _ _ => rfl⟩, ⟨by omega, by omega⟩, ⟨0, Nat.zero_le _, rfl, rfl, ⟨rfl, fun k hk => ?_⟩, ?_⟩, ?_⟩
  · show [SV.i .i64 (cell V k 0)] = [SV.i .i64 (wayP V w 0 k)]
    rw [wayP_zero]
  · repeat' (first | assumption | exact plain_elemOf _ _ _ | exact plain_fn1 _ _ | (with_reducible rfl) | exact fun _ _ => rfl | exact fun _ _ => trivial | trivial | with_reducible apply And.intro)
  intro i hi
  intros
  refine ⟨fun h3 => ?_, fun h3 => ?_⟩
  · have hi' : i < u := by omega
    obtain ⟨p, p1, p2, p3, p4⟩ := hat i hi'
    have tp : (cell UR i 0).toNat = p := by rw [p2]; rfl
    have c0 : 0 ≤ cell UR i 0 := by omega
    have hst := fun k => wayP_step V w (k := k) p3
    rw [p4] at hst
    have hq : (w : Int) / 2 ^ i = ((w / 2 ^ i : Nat) : Int) := by simp
    have hq2 : w / 2 ^ i ≤ w := Nat.div_le_self _ _
    have hb : w / 2 ^ i % 2 < 2 := Nat.mod_lt _ (by omega)
    rw [tp, hq, and_one]
    obtain ⟨b, eb⟩ : ∃ b, w / 2 ^ i = b := ⟨_, rfl⟩
    rw [eb] at hq2 hb hst ⊢
    clear hq eb
    have ri : InR .i64 ((i : Int) + 1) := by simp only [InR]; omega
    refine ⟨⟨by omega, hi'⟩, hi', ⟨c0, p1⟩, ⟨p1, rfl⟩, ⟨by omega, by omega, by omega, by simp only [InR]; omega⟩, ⟨by omega, by omega, by simp only [InR]; omega⟩, fun h4 => ?_, fun h4 => ?_⟩
    · refine ⟨⟨c0, p1⟩, ⟨p1, len_upd1 _ _ _ _⟩, ri, i + 1, ⟨hi', by omega⟩, by omega, fun k hk => ?_, ?_⟩
      · rw [upd_at2]
        show _ = [SV.i .i64 (wayP V w (i + 1) k)]
        rw [hst k]
        by_cases e : k = p
        · rw [if_pos e, if_pos e, h4]
          rfl
        · rw [if_neg e, if_neg e]
      · repeat' (first | assumption | exact plain_elemOf _ _ _ | exact plain_fn1 _ _ | (with_reducible rfl) | exact fun _ _ => rfl | exact fun _ _ => trivial | trivial | with_reducible apply And.intro)
    · refine ⟨ri, i + 1, ⟨hi', by omega⟩, by omega, fun k hk => ?_, ?_⟩
      · rw [upd_at1]
        show _ = [SV.i .i64 (wayP V w (i + 1) k)]
        rw [hst k]
        by_cases e : k = p
        · rw [if_pos e, if_pos e, show ((b % 2 : Nat) : Int) = 0 by omega]
          rfl
        · rw [if_neg e, if_neg e]
      · repeat' (first | assumption | exact plain_elemOf _ _ _ | exact plain_fn1 _ _ | (with_reducible rfl) | exact fun _ _ => rfl | exact fun _ _ => trivial | trivial | with_reducible apply And.intro)
  have ei : i = u := by omega
  subst ei
  refine ⟨W, ⟨hw, rfl, hrw, fun _ _ => rfl⟩, V, ⟨hv, rfl, hrv, fun _ _ => rfl⟩, wayR V w V.length, ⟨wayR_len _ _ _, wayR_row _ _ _, fun k hk => ?_⟩, ⟨ok.w, (wayR_len _ _ _).trans l2, by omega, ok.n⟩, ?_⟩
  · show [SV.i .i64 (wayP V w i k)] = [SV.i .i64 (cell (wayR V w V.length) k 0)]
    rw [hall w k hk, wayR_cell V w hk]
  have ep : passN W need (yesS W (wayR V w V.length) W.length) ↔ pasW W V need w := by
    rw [yes_way W V w V.length W.length (by omega)]
    exact Iff.rfl
  rw [ep]
  have rw1 : InR .i64 ((w : Int) + 1) := by simp only [InR]; omega
  have ex1 : ∀ {p : Nat → Prop}, p w → (True ↔ ∃ s, s < w + 1 ∧ p s) := fun h => ⟨fun _ => ⟨w, by omega, h⟩, fun _ => trivial⟩
  have ex0 : ∀ {p : Nat → Prop}, ¬ p w → ((∃ s, s < w ∧ p s) ↔ ∃ s, s < w + 1 ∧ p s) := fun {p} hq => ⟨fun ⟨s, q1, q2⟩ => ⟨s, by omega, q2⟩, fun ⟨s, q1, q2⟩ => ⟨s, by
    by_cases e : s = w
    · subst e; exact absurd q2 hq
    · omega, q2⟩⟩
  refine ⟨fun h4 => ?_, fun h4 => ?_⟩
  · have x1 := ex1 (p := fun s => pasW W V need s) h4
    have x0 := ex0 (p := fun s => ¬ pasW W V need s) fun h => h h4
    refine ⟨rw1, w + 1, ⟨hw3, by omega⟩, by omega, ?_⟩
    repeat' (first | assumption | exact plain_elemOf _ _ _ | exact plain_fn1 _ _ | (with_reducible rfl) | exact fun _ _ => rfl | exact fun _ _ => trivial | trivial | with_reducible apply And.intro)
  · have x1 := ex1 (p := fun s => ¬ pasW W V need s) h4
    have x0 := ex0 (p := fun s => pasW W V need s) h4
    refine ⟨rw1, w + 1, ⟨hw3, by omega⟩, by omega, ?_⟩
    repeat' (first | assumption | exact plain_elemOf _ _ _ | exact plain_fn1 _ _ | (with_reducible rfl) | exact fun _ _ => rfl | exact fun _ _ => trivial | trivial | with_reducible apply And.intro)

theorem e_Decide : V_Decide = needEI P [F_check, F_passes] [F_Clone] I_Decide A_Decide F_Decide := by kernel_rfl

theorem n_Decide : Ob (needEI P [F_check, F_passes] [F_Clone] I_Decide A_Decide F_Decide) := by
  rw [← e_Decide]
  exact ⟨v_Decide⟩

theorem b_Decide : ((P.funcs[14]?).any fun fn => fn.body.isSome) = true := by kernel_rfl

theorem Decide_ok : FnE.Ok P F_Decide := FnE.okI named (l := [F_check, F_passes]) (es := [F_Clone]) (I := I_Decide) (A := A_Decide) (by rfl) (by rfl) (by rfl) (by
  intro F h
  simp only [List.mem_cons, List.not_mem_nil, or_false] at h
  rcases h with rfl | rfl
  · exact check_ok
  · exact passes_ok
) (by
  intro F h
  simp only [List.mem_cons, List.not_mem_nil, or_false] at h
  rcases h with rfl
  · exact Clone_ok
) b_Decide (by
  rintro ds h o ho n sz e k z rfl
  simp only [F_Decide] at ho
  split at ho <;> simp at ho) n_Decide

end Go.Proofs.Ytjgllojnbinchaa.Sy
