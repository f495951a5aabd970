/- Numbers and weights of any animals. -/
import Derived.Test.YthlodlileecmdaaDoorSyP2
import Derived.Test.YthlodlileecmdaaDoorGrM
import Derived.Test.YthlodlileecmdaaDoorCtT
import Derived.Test.YthlodlileecmdaaDoorCtA
import Derived.Test.YthlodlileecmdaaDoorCtB
import Derived.Test.YthlodlileecmdaaDoorCtC
import Derived.Test.YthlodlileecmdaaDoorCtD
import Derived.Test.YthlodlileecmdaaDoorCtW
import Derived.Test.YthlodlileecmdaaDoorSyP2
import Derived.KernelRfl
import Derived.Test.YthlodlileecmdaaDoorProg
namespace Go.Proofs.YthlodlileecmdaaDoor.Sy
open Go Go.Rv
set_option linter.unusedVariables false

def rclGo (E : Rows) (s : Int) : Nat → Nat → Nat
  | 0, i => i
  | n + 1, i => if cell E (i + 1) 0 ≤ s then rclGo E s n (i + 1) else i
open Classical in
noncomputable def rclErr (E : Rows) (s : Int) : Int := if edgErr E = 0 then (if inB s 0 2500 then (if s < cell E 0 0 ∨ cell E (E.length - 1) 0 ≤ s then 6 else 0) else 1) else edgErr E
open Classical in
noncomputable def rclV (E : Rows) (s : Int) : Int := if rclErr E s = 0 then (rclGo E s (E.length - 1) 0 : Int) else 0
theorem edgTo_is {E : Rows} : ∀ n, edgTo E n = 0 ∨ edgTo E n = 1 ∨ edgTo E n = 8
  | 0 => .inl rfl
  | n + 1 => by
    simp only [edgTo]
    split
    · unfold edgAt
      split
      · split
        · exact .inr (.inr rfl)
        · exact .inl rfl
      · exact .inr (.inl rfl)
    · exact edgTo_is n
theorem edg_not6 (E : Rows) : ¬ edgErr E = 6 := by
  unfold edgErr
  split
  · omega
  · split
    · omega
    · have := edgTo_is (E := E) E.length
      omega
theorem rcl_zero {E : Rows} : (rclErr E 0 = 6 → edgErr E = 0) ∧ (¬ rclErr E 0 = 6 → rclErr E 0 = edgErr E) := by
  have h6 := edg_not6 E
  have h0 : inB 0 0 2500 := ⟨by omega, by omega⟩
  unfold rclErr
  constructor
  · intro h
    split at h
    · assumption
    · exact absurd h h6
  · intro h
    split at h
    · rename_i he
      rw [if_pos he, if_pos h0] at *
      split at h
      · exact absurd rfl h
      · rename_i h2
        rw [if_neg h2, he]
    · rename_i he
      rw [if_neg he]
noncomputable def cntErr (E L : Rows) : Int := if edgErr E = 0 then manyErr L else edgErr E
open Classical in
noncomputable def cntN (E L : Rows) : Nat := if cntErr E L = 0 then E.length - 1 else 0
def cntF (E L : Rows) (k : Nat) : Rows := (List.range k).map fun i => [cntLo E L i L.length, cntHi E L i L.length]
theorem cntF_cell (E L : Rows) {k i : Nat} (h : i < k) : cell (cntF E L k) i 0 = cntLo E L i L.length ∧ cell (cntF E L k) i 1 = cntHi E L i L.length := by
  unfold cell cntF
  simp [List.getD_eq_getElem?_getD, h]
theorem cntF_len (E L : Rows) (k : Nat) : (cntF E L k).length = k := by simp [cntF]
theorem cntF_succ (E L : Rows) (k : Nat) : cntF E L (k + 1) = cntF E L k ++ [[cntLo E L k L.length, cntHi E L k L.length]] := by
  unfold cntF
  rw [List.range_succ, List.map_append]
  rfl
theorem cntF_R (E L : Rows) : cntF E L (E.length - 1) = cntR E L L.length := rfl
theorem cnt_ok {E L : Rows} (h : cntErr E L = 0) : edgErr E = 0 ∧ manyErr L = 0 := by
  unfold cntErr at h
  split at h
  · exact ⟨by assumption, h⟩
  · exact absurd h (by assumption)

noncomputable def F_r1checkEdges : Fn0 := ⟨107, [.one (.l [.i64])], fun _ => True, fun l => match l with | [.l E] => .i .i64 (edgErr E) | _ => .v undef⟩
noncomputable def A_r1checkEdges : List SV → List Dat → Nat → List SV → Ann := fun xs ds n ts => match xs with
  | [.lst x _ _ _] => match ds with
    | [.l E] => match n with
      | 6 => ⟨Nat, fun k => [some (SV.lst x E.length ((1 : Nat)) (Rv.elemOf [IntKind.i64] E)), none, none, some (.i .i64 k), none, none, none, none, none, none, none, none, none, none, none, none, none, none, none, none, none, none, none, none, none, none, none, none, none, none, none, none, none, none, none, none], fun k => [], fun k => k ≤ E.length ∧ edgTo E k = 0, fun k => E.length - k, 0⟩
      | _ => noAnn
    | _ => noAnn
  | _ => noAnn

def V_r1checkEdges : Prop :=
  ∀ (B : RW) (x : RV) (rows : List (List Int)), IsLst B x rows.length ((1 : Nat)) (Rv.elemOf [IntKind.i64] rows) → oneB x = true → (∀ (row : List Int), row ∈ rows → row.length = (1 : Nat)) → True → Ob (IsLst B x
  rows.length ((1 : Nat)) (Rv.elemOf [IntKind.i64] rows)) ∧ ((↑rows.length : Int) < (2 : Int) → Ob ((4 : Int) = edgErr rows) ∧ True) ∧ (¬(↑rows.length : Int) < (2 : Int) → Ob (IsLst B x rows.length ((1 : Nat)) (Rv.elemOf
  [IntKind.i64] rows)) ∧ ((21 : Int) < (↑rows.length : Int) → Ob ((5 : Int) = edgErr rows) ∧ True) ∧ (¬(21 : Int) < (↑rows.length : Int) → (∃ (a : Nat), Ob (a ≤ rows.length ∧ edgTo rows a = (0 : Int)) ∧ Ob (SV.lst x
  rows.length ((1 : Nat)) (Rv.elemOf [IntKind.i64] rows) = SV.lst x rows.length ((1 : Nat)) (Rv.elemOf [IntKind.i64] rows)) ∧ Ob ((0 : Int) = (↑a : Int)) ∧ Ob (IsLst B x rows.length ((1 : Nat)) (Rv.elemOf [IntKind.i64]
  rows)) ∧ True) ∧ ∀ (a : Nat), a ≤ rows.length ∧ edgTo rows a = (0 : Int) → ∀ (z z_1 z_2 z_3 z_4 z_5 z_6 z_7 z_8 z_9 z_10 z_11 z_12 z_13 z_14 z_15 z_16 z_17 z_18 z_19 z_20 z_21 z_22 z_23 z_24 z_25 z_26 z_27 z_28 z_29 z_30
  z_31 z_32 z_33 : Value), Ob (IsLst B x rows.length ((1 : Nat)) (Rv.elemOf [IntKind.i64] rows)) ∧ ((↑a : Int) < (↑rows.length : Int) → Ob ((0 : Int) ≤ (↑a : Int) ∧ a < rows.length ∧ IsLst B x rows.length ((1 : Nat))
  (Rv.elemOf [IntKind.i64] rows)) ∧ Ob (IsLst B x rows.length ((1 : Nat)) (Rv.elemOf [IntKind.i64] rows) ∧ a < rows.length) ∧ Ob True ∧ (¬inB (cell rows a ((0 : Nat))) (0 : Int) (2501 : Int) → Ob ((1 : Int) = edgErr rows)
  ∧ True) ∧ (¬¬inB (cell rows a ((0 : Nat))) (0 : Int) (2501 : Int) → ((0 : Int) < (↑a : Int) → Ob (IsLst B x rows.length ((1 : Nat)) (Rv.elemOf [IntKind.i64] rows)) ∧ Ob ((0 : Int) ≤ (↑a : Int) ∧ a < rows.length ∧ IsLst B
  x rows.length ((1 : Nat)) (Rv.elemOf [IntKind.i64] rows)) ∧ Ob (IsLst B x rows.length ((1 : Nat)) (Rv.elemOf [IntKind.i64] rows) ∧ a < rows.length) ∧ Ob (IsLst B x rows.length ((1 : Nat)) (Rv.elemOf [IntKind.i64] rows) ∧
  a < rows.length) ∧ Ob (IsLst B x rows.length ((1 : Nat)) (Rv.elemOf [IntKind.i64] rows)) ∧ Ob (InR IntKind.i64 ((↑a : Int) - (1 : Int))) ∧ Ob ((0 : Int) ≤ (↑a : Int) - (1 : Int) ∧ ((↑a : Int) - (1 : Int)).toNat <
  rows.length ∧ IsLst B x rows.length ((1 : Nat)) (Rv.elemOf [IntKind.i64] rows)) ∧ Ob (IsLst B x rows.length ((1 : Nat)) (Rv.elemOf [IntKind.i64] rows) ∧ ((↑a : Int) - (1 : Int)).toNat < rows.length) ∧ Ob (IsLst B x
  rows.length ((1 : Nat)) (Rv.elemOf [IntKind.i64] rows) ∧ ((↑a : Int) - (1 : Int)).toNat < rows.length) ∧ (cell rows a ((0 : Nat)) ≤ cell rows ((↑a : Int) - (1 : Int)).toNat ((0 : Nat)) → Ob ((8 : Int) = edgErr rows) ∧
  True) ∧ (¬cell rows a ((0 : Nat)) ≤ cell rows ((↑a : Int) - (1 : Int)).toNat ((0 : Nat)) → Ob (InR IntKind.i64 ((↑a : Int) + (1 : Int))) ∧ ∃ (a' : Nat), Ob ((a' ≤ rows.length ∧ edgTo rows a' = (0 : Int)) ∧ rows.length -
  a' < rows.length - a) ∧ Ob (SV.lst x rows.length ((1 : Nat)) (Rv.elemOf [IntKind.i64] rows) = SV.lst x rows.length ((1 : Nat)) (Rv.elemOf [IntKind.i64] rows)) ∧ Ob ((↑a : Int) + (1 : Int) = (↑a' : Int)) ∧ Ob (IsLst B x
  rows.length ((1 : Nat)) (Rv.elemOf [IntKind.i64] rows)) ∧ True)) ∧ (¬(0 : Int) < (↑a : Int) → Ob (InR IntKind.i64 ((↑a : Int) + (1 : Int))) ∧ ∃ (a' : Nat), Ob ((a' ≤ rows.length ∧ edgTo rows a' = (0 : Int)) ∧ rows.length
  - a' < rows.length - a) ∧ Ob (SV.lst x rows.length ((1 : Nat)) (Rv.elemOf [IntKind.i64] rows) = SV.lst x rows.length ((1 : Nat)) (Rv.elemOf [IntKind.i64] rows)) ∧ Ob ((↑a : Int) + (1 : Int) = (↑a' : Int)) ∧ Ob (IsLst B x
  rows.length ((1 : Nat)) (Rv.elemOf [IntKind.i64] rows)) ∧ True))) ∧ (¬(↑a : Int) < (↑rows.length : Int) → Ob ((0 : Int) = edgErr rows) ∧ True)))

set_option linter.unusedSimpArgs false in
set_option maxRecDepth 4000 in
set_option maxHeartbeats 400000 in
theorem v_r1checkEdges : V_r1checkEdges := by
  unfold V_r1checkEdges
  intro B x E hx hox hrx _
  simp only [Ob_iff, and_true, true_and, InR]
  refine ⟨hx, fun h1 => ?_, fun h1 => ⟨hx, fun h2 => ?_, fun h2 => ⟨⟨0, ⟨by omega, rfl⟩, by omega, hx⟩, ?_⟩⟩⟩
  · have h1' : E.length < 2 := by omega
    simp [edgErr, h1']
  · have h1' : ¬ E.length < 2 := by omega
    have h2' : 21 < E.length := by omega
    simp [edgErr, h1', h2']
  have h1' : ¬ E.length < 2 := by omega
  have h2' : ¬ 21 < E.length := by omega
  have hg : edgErr E = edgTo E E.length := by simp [edgErr, h1', h2']
  rw [hg]
  intro k ⟨hk, hc⟩
  intros
  have hk1 : ((k : Int) - 1).toNat = k - 1 := by omega
  have hstop : k < E.length → ¬ edgAt E k = 0 → edgTo E E.length = edgAt E k := fun h h2 => edg_stop h2 hc _ h
  have hnext : edgAt E k = 0 → edgTo E (k + 1) = 0 := fun h => by
    show (if edgTo E k = 0 then edgAt E k else edgTo E k) = 0
    rw [if_pos hc, h]
  have hend : k = E.length → edgTo E E.length = 0 := fun h => by rw [← h]; exact hc
  simp only [hk1]
  clear hg
  generalize edgTo E E.length = c at *
  generalize he : edgAt E k = e at *
  unfold edgAt at he
  generalize inB (cell E k 0) 0 2501 = p at *
  generalize cell E k 0 = a at *
  generalize cell E (k - 1) 0 = b at *
  repeat' (first | apply And.intro | intro _)
  all_goals first | exact hx | omega | exact ⟨k + 1, ⟨⟨by omega, hnext (by grind)⟩, by omega⟩, by omega, hx⟩ | grind

theorem e_r1checkEdges : V_r1checkEdges = needF P [F_r1within] A_r1checkEdges F_r1checkEdges := by kernel_rfl

theorem n_r1checkEdges : Ob (needF P [F_r1within] A_r1checkEdges F_r1checkEdges) := by
  rw [← e_r1checkEdges]
  exact ⟨v_r1checkEdges⟩

theorem b_r1checkEdges : ((P.funcs[107]?).any fun fn => fn.body.isSome) = true := by kernel_rfl

theorem r1checkEdges_ok : Fn0.Ok P F_r1checkEdges := Fn0.ok named (l := [F_r1within]) (A := A_r1checkEdges) (by rfl) (by
  intro F h
  simp only [List.mem_cons, List.not_mem_nil, or_false] at h
  rcases h with rfl
  · exact r1within_ok
) b_r1checkEdges (by
  intro ds N
  simp only [F_r1checkEdges]
  split <;> rfl) n_r1checkEdges

noncomputable def F_r1class : Fn0 := ⟨109, [.one (.l [.i64]), i64], fun l => match l with | [.l E, .z s] => 2 ≤ E.length ∧ E.length ≤ 21 | _ => False, fun l => match l with | [.l E, .z s] => .i .i64 (rclGo E s (E.length - 1) 0) | _ => .v undef⟩
noncomputable def A_r1class : List SV → List Dat → Nat → List SV → Ann := fun xs ds n ts => match xs with
  | [.lst x _ _ _, .i _ _] => match ds with
    | [.l E, .z s] => match n with
      | 2 => ⟨Nat, fun k => [some (SV.lst x E.length ((1 : Nat)) (Rv.elemOf [IntKind.i64] E)), some (SV.i IntKind.i64 s), none, none, some (SV.v (Value.int IntKind.i64 (0 : Int))), some (.i .i64 k), none, none, none, none, none, none, none, none, none, none, none, none, none, none, none, none, none], fun k => [], fun k => k ≤ E.length - 1 ∧ rclGo E s (E.length - 1 - k) k = rclGo E s (E.length - 1) 0, fun k => E.length - 1 - k, 0⟩
      | _ => noAnn
    | _ => noAnn
  | _ => noAnn

def V_r1class : Prop :=
  ∀ (B : RW) (x : RV) (rows : List (List Int)), IsLst B x rows.length ((1 : Nat)) (Rv.elemOf [IntKind.i64] rows) → oneB x = true → (∀ (row : List Int), row ∈ rows → row.length = (1 : Nat)) → ∀ (n : Int), (2 : Nat) ≤
  rows.length ∧ rows.length ≤ (21 : Nat) → (∃ (a : Nat), Ob (a ≤ rows.length - (1 : Nat) ∧ rclGo rows n (rows.length - (1 : Nat) - a) a = rclGo rows n (rows.length - (1 : Nat)) ((0 : Nat))) ∧ Ob (SV.lst x rows.length ((1 :
  Nat)) (Rv.elemOf [IntKind.i64] rows) = SV.lst x rows.length ((1 : Nat)) (Rv.elemOf [IntKind.i64] rows)) ∧ Ob (n = n) ∧ Ob (Value.int IntKind.i64 (0 : Int) = Value.int IntKind.i64 (0 : Int)) ∧ Ob ((0 : Int) = (↑a : Int))
  ∧ Ob (IsLst B x rows.length ((1 : Nat)) (Rv.elemOf [IntKind.i64] rows)) ∧ True) ∧ ∀ (a : Nat), a ≤ rows.length - (1 : Nat) ∧ rclGo rows n (rows.length - (1 : Nat) - a) a = rclGo rows n (rows.length - (1 : Nat)) ((0 :
  Nat)) → ∀ (z z_1 z_2 z_3 z_4 z_5 z_6 z_7 z_8 z_9 z_10 z_11 z_12 z_13 z_14 z_15 z_16 z_17 z_18 : Value), Ob (IsLst B x rows.length ((1 : Nat)) (Rv.elemOf [IntKind.i64] rows)) ∧ Ob (InR IntKind.i64 ((↑rows.length : Int) -
  (1 : Int))) ∧ ((↑a : Int) < (↑rows.length : Int) - (1 : Int) → Ob (InR IntKind.i64 ((↑a : Int) + (1 : Int))) ∧ Ob ((0 : Int) ≤ (↑a : Int) + (1 : Int) ∧ ((↑a : Int) + (1 : Int)).toNat < rows.length ∧ IsLst B x rows.length
  ((1 : Nat)) (Rv.elemOf [IntKind.i64] rows)) ∧ Ob (IsLst B x rows.length ((1 : Nat)) (Rv.elemOf [IntKind.i64] rows) ∧ ((↑a : Int) + (1 : Int)).toNat < rows.length) ∧ (cell rows ((↑a : Int) + (1 : Int)).toNat ((0 : Nat)) ≤
  n → Ob (InR IntKind.i64 ((↑a : Int) + (1 : Int))) ∧ ∃ (a' : Nat), Ob ((a' ≤ rows.length - (1 : Nat) ∧ rclGo rows n (rows.length - (1 : Nat) - a') a' = rclGo rows n (rows.length - (1 : Nat)) ((0 : Nat))) ∧ rows.length -
  (1 : Nat) - a' < rows.length - (1 : Nat) - a) ∧ Ob (SV.lst x rows.length ((1 : Nat)) (Rv.elemOf [IntKind.i64] rows) = SV.lst x rows.length ((1 : Nat)) (Rv.elemOf [IntKind.i64] rows)) ∧ Ob (n = n) ∧ Ob (Value.int
  IntKind.i64 (0 : Int) = Value.int IntKind.i64 (0 : Int)) ∧ Ob ((↑a : Int) + (1 : Int) = (↑a' : Int)) ∧ Ob (IsLst B x rows.length ((1 : Nat)) (Rv.elemOf [IntKind.i64] rows)) ∧ True) ∧ (¬cell rows ((↑a : Int) + (1 :
  Int)).toNat ((0 : Nat)) ≤ n → Ob ((↑a : Int) = (↑(rclGo rows n (rows.length - (1 : Nat)) ((0 : Nat))) : Int)) ∧ True)) ∧ (¬(↑a : Int) < (↑rows.length : Int) - (1 : Int) → Ob ((↑a : Int) = (↑(rclGo rows n (rows.length -
  (1 : Nat)) ((0 : Nat))) : Int)) ∧ True)

set_option linter.unusedSimpArgs false in
set_option maxRecDepth 4000 in
set_option maxHeartbeats 400000 in
theorem v_r1class : V_r1class := by
  unfold V_r1class
  intro B x E hx hox hrx s ⟨hl1, hl2⟩
  simp only [Ob_iff, and_true, true_and, InR]
  refine ⟨⟨0, ⟨by omega, rfl⟩, by omega, hx⟩, ?_⟩
  intro k ⟨hk, hc⟩
  intros
  have hk1 : ((k : Int) + 1).toNat = k + 1 := by omega
  simp only [hk1]
  rw [← hc]
  refine ⟨hx, by omega, fun h1 => ⟨by omega, ⟨by omega, by omega, hx⟩, ⟨hx, by omega⟩, fun h2 => ?_, fun h2 => ?_⟩, fun h1 => ?_⟩
  all_goals first
    | (obtain ⟨n, hn⟩ : ∃ n, E.length - 1 - k = n + 1 := ⟨E.length - 1 - k - 1, by omega⟩
       have hn2 : E.length - 1 - (k + 1) = n := by omega
       rw [hn]
       simp only [rclGo]
       first
         | (rw [if_pos h2]
            refine ⟨by omega, k + 1, ⟨⟨by omega, ?_⟩, by omega⟩, by omega, hx⟩
            rw [hn2])
         | (rw [if_neg h2]))
    | (have e : E.length - 1 - k = 0 := by omega
       rw [e]
       rfl)

theorem e_r1class : V_r1class = needF P [] A_r1class F_r1class := by kernel_rfl

theorem n_r1class : Ob (needF P [] A_r1class F_r1class) := by
  rw [← e_r1class]
  exact ⟨v_r1class⟩

theorem b_r1class : ((P.funcs[109]?).any fun fn => fn.body.isSome) = true := by kernel_rfl

theorem r1class_ok : Fn0.Ok P F_r1class := Fn0.ok named (l := []) (A := A_r1class) (by rfl) (by
  intro F h; simp at h) b_r1class (by
  intro ds N
  simp only [F_r1class]
  split <;> rfl) n_r1class

noncomputable def F_rClass : Fn0 := ⟨87, [.one (.l [.i64]), i64], fun _ => True, fun l => match l with | [.l E, .z s] => .tup [.i .i64 (rclV E s), .i .i64 (rclErr E s)] | _ => .v undef⟩
noncomputable def A_rClass : List SV → List Dat → Nat → List SV → Ann := fun _ _ _ _ => noAnn

def V_rClass : Prop :=
  ∀ (B : RW) (x : RV) (rows : List (List Int)), IsLst B x rows.length ((1 : Nat)) (Rv.elemOf [IntKind.i64] rows) → oneB x = true → (∀ (row : List Int), row ∈ rows → row.length = (1 : Nat)) → ∀ (n : Int), True → ∃ (rows_1 :
  List (List Int)), Ob (IsLst B x rows.length ((1 : Nat)) (Rv.elemOf [IntKind.i64] rows) ∧ rows_1.length = rows.length ∧ (∀ (r : List Int), r ∈ rows_1 → r.length = (1 : Nat)) ∧ ∀ (i : Nat), i < rows.length → Rv.elemOf
  [IntKind.i64] rows i = Rv.elemOf [IntKind.i64] rows_1 i) ∧ Ob True ∧ (¬edgErr rows_1 = (0 : Int) → Ob ((0 : Int) = rclV rows n) ∧ Ob (edgErr rows_1 = rclErr rows n) ∧ True) ∧ (¬¬edgErr rows_1 = (0 : Int) → Ob True ∧
  (¬inB n (0 : Int) (2500 : Int) → Ob ((0 : Int) = rclV rows n) ∧ Ob ((1 : Int) = rclErr rows n) ∧ True) ∧ (¬¬inB n (0 : Int) (2500 : Int) → Ob ((0 : Nat) < rows.length ∧ IsLst B x rows.length ((1 : Nat)) (Rv.elemOf
  [IntKind.i64] rows)) ∧ Ob (IsLst B x rows.length ((1 : Nat)) (Rv.elemOf [IntKind.i64] rows) ∧ (0 : Nat) < rows.length) ∧ (¬n < cell rows ((0 : Nat)) ((0 : Nat)) → Ob (IsLst B x rows.length ((1 : Nat)) (Rv.elemOf
  [IntKind.i64] rows)) ∧ Ob (InR IntKind.i64 ((↑rows.length : Int) - (1 : Int))) ∧ Ob ((0 : Int) ≤ (↑rows.length : Int) - (1 : Int) ∧ ((↑rows.length : Int) - (1 : Int)).toNat < rows.length ∧ IsLst B x rows.length ((1 :
  Nat)) (Rv.elemOf [IntKind.i64] rows)) ∧ Ob (IsLst B x rows.length ((1 : Nat)) (Rv.elemOf [IntKind.i64] rows) ∧ ((↑rows.length : Int) - (1 : Int)).toNat < rows.length) ∧ (cell rows ((↑rows.length : Int) - (1 : Int)).toNat
  ((0 : Nat)) ≤ n → Ob ((0 : Int) = rclV rows n) ∧ Ob ((6 : Int) = rclErr rows n) ∧ True) ∧ (¬cell rows ((↑rows.length : Int) - (1 : Int)).toNat ((0 : Nat)) ≤ n → ∃ (rows_2 : List (List Int)), Ob (IsLst B x rows.length ((1
  : Nat)) (Rv.elemOf [IntKind.i64] rows) ∧ rows_2.length = rows.length ∧ (∀ (r : List Int), r ∈ rows_2 → r.length = (1 : Nat)) ∧ ∀ (i : Nat), i < rows.length → Rv.elemOf [IntKind.i64] rows i = Rv.elemOf [IntKind.i64]
  rows_2 i) ∧ Ob ((2 : Nat) ≤ rows_2.length ∧ rows_2.length ≤ (21 : Nat)) ∧ Ob ((↑(rclGo rows_2 n (rows_2.length - (1 : Nat)) ((0 : Nat))) : Int) = rclV rows n) ∧ Ob ((0 : Int) = rclErr rows n) ∧ True)) ∧ (n < cell rows
  ((0 : Nat)) ((0 : Nat)) → Ob ((0 : Int) = rclV rows n) ∧ Ob ((6 : Int) = rclErr rows n) ∧ True)))

set_option linter.unusedSimpArgs false in
set_option maxRecDepth 4000 in
set_option maxHeartbeats 400000 in
theorem v_rClass : V_rClass := by
  unfold V_rClass
  intro B x E hx hox hrx s _
  simp only [Ob_iff, and_true, true_and, InR]
  refine ⟨E, ⟨hx, rfl, hrx, fun _ _ => rfl⟩, fun h1 => ?_, fun h1 => ⟨fun h2 => ?_, fun h2 => ?_⟩⟩
  · have e : rclErr E s = edgErr E := by unfold rclErr; rw [if_neg h1]
    refine ⟨?_, e.symm⟩
    unfold rclV
    rw [if_neg (by rw [e]; exact h1)]
  · have e : rclErr E s = 1 := by unfold rclErr; rw [if_pos (Classical.not_not.1 h1), if_neg h2]
    refine ⟨?_, e.symm⟩
    unfold rclV
    rw [if_neg (by omega)]
  have hE := Classical.not_not.1 h1
  have hl := edg_len hE
  have hk1 : ((E.length : Int) - 1).toNat = E.length - 1 := by omega
  simp only [hk1]
  have e0 : rclErr E s = if s < cell E 0 0 ∨ cell E (E.length - 1) 0 ≤ s then 6 else 0 := by
    unfold rclErr
    rw [if_pos hE, if_pos (Classical.not_not.1 h2)]
  have e6 : s < cell E 0 0 ∨ cell E (E.length - 1) 0 ≤ s → (0 : Int) = rclV E s ∧ (6 : Int) = rclErr E s := fun h => by
    rw [if_pos h] at e0
    refine ⟨?_, e0.symm⟩
    unfold rclV
    rw [if_neg (by omega)]
  refine ⟨⟨by omega, hx⟩, ⟨hx, by omega⟩, fun h3 => ⟨hx, by omega, ⟨by omega, by omega, hx⟩, ⟨hx, by omega⟩, fun h4 => e6 (.inr h4), fun h4 => ⟨E, ⟨hx, rfl, hrx, fun _ _ => rfl⟩, ⟨hl.1, hl.2.1⟩, ?_⟩⟩, fun h3 => e6 (.inl h3)⟩
  rw [if_neg (by omega)] at e0
  refine ⟨?_, e0.symm⟩
  unfold rclV
  rw [if_pos e0]

theorem e_rClass : V_rClass = needF P [F_r1checkEdges, F_r1within, F_r1class] A_rClass F_rClass := by kernel_rfl

theorem n_rClass : Ob (needF P [F_r1checkEdges, F_r1within, F_r1class] A_rClass F_rClass) := by
  rw [← e_rClass]
  exact ⟨v_rClass⟩

theorem b_rClass : ((P.funcs[87]?).any fun fn => fn.body.isSome) = true := by kernel_rfl

theorem rClass_ok : Fn0.Ok P F_rClass := Fn0.ok named (l := [F_r1checkEdges, F_r1within, F_r1class]) (A := A_rClass) (by rfl) (by
  intro F h
  simp only [List.mem_cons, List.not_mem_nil, or_false] at h
  rcases h with rfl | rfl | rfl
  · exact r1checkEdges_ok
  · exact r1within_ok
  · exact r1class_ok
) b_rClass (by
  intro ds N
  simp only [F_rClass]
  split <;> rfl) n_rClass

noncomputable def F_rcheckEdges : Fn0 := ⟨64, [.one (.l [.i64])], fun _ => True, fun l => match l with | [.l E] => .i .i64 (edgErr E) | _ => .v undef⟩
noncomputable def A_rcheckEdges : List SV → List Dat → Nat → List SV → Ann := fun _ _ _ _ => noAnn

def V_rcheckEdges : Prop :=
  ∀ (B : RW) (x : RV) (rows : List (List Int)), IsLst B x rows.length ((1 : Nat)) (Rv.elemOf [IntKind.i64] rows) → oneB x = true → (∀ (row : List Int), row ∈ rows → row.length = (1 : Nat)) → True → ∃ (rows_1 : List (List
  Int)), Ob (IsLst B x rows.length ((1 : Nat)) (Rv.elemOf [IntKind.i64] rows) ∧ rows_1.length = rows.length ∧ (∀ (r : List Int), r ∈ rows_1 → r.length = (1 : Nat)) ∧ ∀ (i : Nat), i < rows.length → Rv.elemOf [IntKind.i64]
  rows i = Rv.elemOf [IntKind.i64] rows_1 i) ∧ Ob True ∧ (rclErr rows_1 (0 : Int) = (6 : Int) → Ob ((0 : Int) = edgErr rows) ∧ True) ∧ (¬rclErr rows_1 (0 : Int) = (6 : Int) → Ob (rclErr rows_1 (0 : Int) = edgErr rows) ∧
  True)

set_option linter.unusedSimpArgs false in
set_option maxRecDepth 4000 in
set_option maxHeartbeats 400000 in
theorem v_rcheckEdges : V_rcheckEdges := by
  unfold V_rcheckEdges
  intro B x E hx hox hrx _
  simp only [Ob_iff, and_true, true_and]
  have h := rcl_zero (E := E)
  refine ⟨E, ⟨hx, rfl, hrx, fun _ _ => rfl⟩, fun h1 => (h.1 h1).symm, fun h1 => h.2 h1⟩

theorem e_rcheckEdges : V_rcheckEdges = needF P [F_rClass] A_rcheckEdges F_rcheckEdges := by kernel_rfl

theorem n_rcheckEdges : Ob (needF P [F_rClass] A_rcheckEdges F_rcheckEdges) := by
  rw [← e_rcheckEdges]
  exact ⟨v_rcheckEdges⟩

theorem b_rcheckEdges : ((P.funcs[64]?).any fun fn => fn.body.isSome) = true := by kernel_rfl

theorem rcheckEdges_ok : Fn0.Ok P F_rcheckEdges := Fn0.ok named (l := [F_rClass]) (A := A_rcheckEdges) (by rfl) (by
  intro F h
  simp only [List.mem_cons, List.not_mem_nil, or_false] at h
  rcases h with rfl
  · exact rClass_ok
) b_rcheckEdges (by
  intro ds N
  simp only [F_rcheckEdges]
  split <;> rfl) n_rcheckEdges

noncomputable def F_rWeight : Fn0 := ⟨30, [i64, .one (.l [.i64, .i64, .i64, .i64, .i64, .i64])], fun _ => True, fun l => match l with | [.z b, .l L] => .tup [.agg [.i .i64 (wgt b L 0), .i .i64 (wgt b L 1)], .i .i64 (wgtErr b L)] | _ => .v undef⟩
noncomputable def A_rWeight : List SV → List Dat → Nat → List SV → Ann := fun xs ds n ts => match xs with
  | [.i _ _, .lst x _ _ _] => match ds with
    | [.z b, .l L] => match n with
      | 8 => ⟨Nat, fun k => [some (SV.i IntKind.i64 b), some (SV.lst x L.length ((6 : Nat)) (Rv.elemOf [IntKind.i64, IntKind.i64, IntKind.i64, IntKind.i64, IntKind.i64, IntKind.i64] L)), none, none, some (SV.ptr ((0 : Nat)) ((0 : Nat))), some (SV.v (Value.int IntKind.i64 (0 : Int))), none, some (SV.ptr ((1 : Nat)) ((0 : Nat))), some (.i .i64 k), none, none, none, none, none, none, none, none, none, none, none, none, none, none, none, none, none, none, none, none, none, none, none, none, none, none, none, none, none, none, none, none, none, none, none, none, none, none, none, none, none, none, none, none, none, none, none, none, none, none, none, none, none, none, none, none], fun k => [.cells [.i .i64 (wgtLo b L k), .i .i64 (wgtHi b L k)] .ex, SObj.cells [SV.v (Value.int IntKind.i64 (0 : Int)), SV.v (Value.int IntKind.i64 (0 : Int))] Kd.ex], fun k => k ≤ L.length, fun k => L.length - k, 0⟩
      | _ => noAnn
    | _ => noAnn
  | _ => noAnn

def V_rWeight : Prop :=
  ∀ (B : RW) (n : Int) (x : RV) (rows : List (List Int)), IsLst B x rows.length ((6 : Nat)) (Rv.elemOf [IntKind.i64, IntKind.i64, IntKind.i64, IntKind.i64, IntKind.i64, IntKind.i64] rows) → oneB x = true → (∀ (row : List
  Int), row ∈ rows → row.length = (6 : Nat)) → True → Ob True ∧ (¬inB n (1 : Int) (100000 : Int) → Ob ((0 : Int) = wgt n rows ((0 : Nat))) ∧ Ob ((0 : Int) = wgt n rows ((1 : Nat))) ∧ Ob ((1 : Int) = wgtErr n rows) ∧ True)
  ∧ (¬¬inB n (1 : Int) (100000 : Int) → ∃ (rows_1 : List (List Int)), Ob (IsLst B x rows.length ((6 : Nat)) (Rv.elemOf [IntKind.i64, IntKind.i64, IntKind.i64, IntKind.i64, IntKind.i64, IntKind.i64] rows) ∧ rows_1.length =
  rows.length ∧ (∀ (r : List Int), r ∈ rows_1 → r.length = (6 : Nat)) ∧ ∀ (i : Nat), i < rows.length → Rv.elemOf [IntKind.i64, IntKind.i64, IntKind.i64, IntKind.i64, IntKind.i64, IntKind.i64] rows i = Rv.elemOf
  [IntKind.i64, IntKind.i64, IntKind.i64, IntKind.i64, IntKind.i64, IntKind.i64] rows_1 i) ∧ Ob True ∧ (¬manyErr rows_1 = (0 : Int) → Ob ((0 : Int) = wgt n rows ((0 : Nat))) ∧ Ob ((0 : Int) = wgt n rows ((1 : Nat))) ∧ Ob
  (manyErr rows_1 = wgtErr n rows) ∧ True) ∧ (¬¬manyErr rows_1 = (0 : Int) → (∃ (a : Nat), Ob (a ≤ rows.length) ∧ Ob (n = n) ∧ Ob (SV.lst x rows.length ((6 : Nat)) (Rv.elemOf [IntKind.i64, IntKind.i64, IntKind.i64,
  IntKind.i64, IntKind.i64, IntKind.i64] rows) = SV.lst x rows.length ((6 : Nat)) (Rv.elemOf [IntKind.i64, IntKind.i64, IntKind.i64, IntKind.i64, IntKind.i64, IntKind.i64] rows)) ∧ Ob (Value.int IntKind.i64 (0 : Int) =
  Value.int IntKind.i64 (0 : Int)) ∧ Ob ((0 : Int) = (↑a : Int)) ∧ Ob ((0 : Int) = wgtLo n rows a) ∧ Ob ((0 : Int) = wgtHi n rows a) ∧ Ob (Value.int IntKind.i64 (0 : Int) = Value.int IntKind.i64 (0 : Int)) ∧ Ob (Value.int
  IntKind.i64 (0 : Int) = Value.int IntKind.i64 (0 : Int)) ∧ Ob (IsLst B x rows.length ((6 : Nat)) (Rv.elemOf [IntKind.i64, IntKind.i64, IntKind.i64, IntKind.i64, IntKind.i64, IntKind.i64] rows)) ∧ True) ∧ ∀ (a : Nat), a ≤
  rows.length → ∀ (z z_1 z_2 z_3 z_4 z_5 z_6 z_7 z_8 z_9 z_10 z_11 z_12 z_13 z_14 z_15 z_16 z_17 z_18 z_19 z_20 z_21 z_22 z_23 z_24 z_25 z_26 z_27 z_28 z_29 z_30 z_31 z_32 z_33 z_34 z_35 z_36 z_37 z_38 z_39 z_40 z_41 z_42
  z_43 z_44 z_45 z_46 z_47 z_48 z_49 z_50 z_51 z_52 z_53 z_54 z_55 z_56 z_57 z_58 : Value), Ob (IsLst B x rows.length ((6 : Nat)) (Rv.elemOf [IntKind.i64, IntKind.i64, IntKind.i64, IntKind.i64, IntKind.i64, IntKind.i64]
  rows)) ∧ ((↑a : Int) < (↑rows.length : Int) → Ob (IsLst B x rows.length ((6 : Nat)) (Rv.elemOf [IntKind.i64, IntKind.i64, IntKind.i64, IntKind.i64, IntKind.i64, IntKind.i64] rows)) ∧ Ob ((0 : Int) ≤ (↑a : Int) ∧ a <
  rows.length ∧ IsLst B x rows.length ((6 : Nat)) (Rv.elemOf [IntKind.i64, IntKind.i64, IntKind.i64, IntKind.i64, IntKind.i64, IntKind.i64] rows)) ∧ Ob (IsLst B x rows.length ((6 : Nat)) (Rv.elemOf [IntKind.i64,
  IntKind.i64, IntKind.i64, IntKind.i64, IntKind.i64, IntKind.i64] rows) ∧ a < rows.length) ∧ Ob (IsLst B x rows.length ((6 : Nat)) (Rv.elemOf [IntKind.i64, IntKind.i64, IntKind.i64, IntKind.i64, IntKind.i64, IntKind.i64]
  rows) ∧ a < rows.length) ∧ Ob (IsLst B x rows.length ((6 : Nat)) (Rv.elemOf [IntKind.i64, IntKind.i64, IntKind.i64, IntKind.i64, IntKind.i64, IntKind.i64] rows) ∧ a < rows.length) ∧ Ob (IsLst B x rows.length ((6 : Nat))
  (Rv.elemOf [IntKind.i64, IntKind.i64, IntKind.i64, IntKind.i64, IntKind.i64, IntKind.i64] rows) ∧ a < rows.length) ∧ Ob (IsLst B x rows.length ((6 : Nat)) (Rv.elemOf [IntKind.i64, IntKind.i64, IntKind.i64, IntKind.i64,
  IntKind.i64, IntKind.i64] rows)) ∧ Ob ((0 : Int) ≤ (↑a : Int) ∧ a < rows.length ∧ IsLst B x rows.length ((6 : Nat)) (Rv.elemOf [IntKind.i64, IntKind.i64, IntKind.i64, IntKind.i64, IntKind.i64, IntKind.i64] rows)) ∧ Ob
  (IsLst B x rows.length ((6 : Nat)) (Rv.elemOf [IntKind.i64, IntKind.i64, IntKind.i64, IntKind.i64, IntKind.i64, IntKind.i64] rows) ∧ a < rows.length) ∧ Ob (IsLst B x rows.length ((6 : Nat)) (Rv.elemOf [IntKind.i64,
  IntKind.i64, IntKind.i64, IntKind.i64, IntKind.i64, IntKind.i64] rows) ∧ a < rows.length) ∧ Ob (IsLst B x rows.length ((6 : Nat)) (Rv.elemOf [IntKind.i64, IntKind.i64, IntKind.i64, IntKind.i64, IntKind.i64, IntKind.i64]
  rows) ∧ a < rows.length) ∧ Ob (IsLst B x rows.length ((6 : Nat)) (Rv.elemOf [IntKind.i64, IntKind.i64, IntKind.i64, IntKind.i64, IntKind.i64, IntKind.i64] rows) ∧ a < rows.length) ∧ Ob (InR IntKind.i64 (cell rows a ((0 :
  Nat)) * cell rows a ((0 : Nat)))) ∧ Ob (InR IntKind.i64 (cell rows a ((0 : Nat)) * cell rows a ((0 : Nat)) * cell rows a ((0 : Nat)))) ∧ Ob ((0 : Int) ≤ cell rows a ((0 : Nat)) * cell rows a ((0 : Nat)) * cell rows a ((0
  : Nat)) ∧ (0 : Int) < n ∧ InR IntKind.i64 (cell rows a ((0 : Nat)) * cell rows a ((0 : Nat)) * cell rows a ((0 : Nat)) / n)) ∧ Ob (InR IntKind.i64 (wgtLo n rows a + cell rows a ((0 : Nat)) * cell rows a ((0 : Nat)) *
  cell rows a ((0 : Nat)) / n)) ∧ Ob (InR IntKind.i64 (cell rows a ((1 : Nat)) * cell rows a ((1 : Nat)))) ∧ Ob (InR IntKind.i64 (cell rows a ((1 : Nat)) * cell rows a ((1 : Nat)) * cell rows a ((1 : Nat)))) ∧ Ob (InR
  IntKind.i64 (cell rows a ((1 : Nat)) * cell rows a ((1 : Nat)) * cell rows a ((1 : Nat)) + n)) ∧ Ob (InR IntKind.i64 (cell rows a ((1 : Nat)) * cell rows a ((1 : Nat)) * cell rows a ((1 : Nat)) + n - (1 : Int))) ∧ Ob ((0
  : Int) ≤ cell rows a ((1 : Nat)) * cell rows a ((1 : Nat)) * cell rows a ((1 : Nat)) + n - (1 : Int) ∧ (0 : Int) < n ∧ InR IntKind.i64 ((cell rows a ((1 : Nat)) * cell rows a ((1 : Nat)) * cell rows a ((1 : Nat)) + n -
  (1 : Int)) / n)) ∧ Ob (InR IntKind.i64 (wgtHi n rows a + (cell rows a ((1 : Nat)) * cell rows a ((1 : Nat)) * cell rows a ((1 : Nat)) + n - (1 : Int)) / n)) ∧ Ob (InR IntKind.i64 ((↑a : Int) + (1 : Int))) ∧ ∃ (a' : Nat),
  Ob (a' ≤ rows.length ∧ rows.length - a' < rows.length - a) ∧ Ob (n = n) ∧ Ob (SV.lst x rows.length ((6 : Nat)) (Rv.elemOf [IntKind.i64, IntKind.i64, IntKind.i64, IntKind.i64, IntKind.i64, IntKind.i64] rows) = SV.lst x
  rows.length ((6 : Nat)) (Rv.elemOf [IntKind.i64, IntKind.i64, IntKind.i64, IntKind.i64, IntKind.i64, IntKind.i64] rows)) ∧ Ob (Value.int IntKind.i64 (0 : Int) = Value.int IntKind.i64 (0 : Int)) ∧ Ob ((↑a : Int) + (1 :
  Int) = (↑a' : Int)) ∧ Ob (wgtLo n rows a + cell rows a (nat_lit 0) * cell rows a (nat_lit 0) * cell rows a (nat_lit 0) / n = wgtLo n rows a') ∧ Ob (wgtHi n rows a + (cell rows a (nat_lit 1) * cell rows a (nat_lit 1) *
  cell rows a (nat_lit 1) + n - (1 : Int)) / n = wgtHi n rows a') ∧ Ob (Value.int IntKind.i64 (0 : Int) = Value.int IntKind.i64 (0 : Int)) ∧ Ob (Value.int IntKind.i64 (0 : Int) = Value.int IntKind.i64 (0 : Int)) ∧ Ob
  (IsLst B x rows.length (nat_lit 6) (Rv.elemOf [IntKind.i64, IntKind.i64, IntKind.i64, IntKind.i64, IntKind.i64, IntKind.i64] rows)) ∧ True) ∧ (¬(↑a : Int) < (↑rows.length : Int) → Ob (wgtLo n rows a = wgt n rows ((0 :
  Nat))) ∧ Ob (wgtHi n rows a = wgt n rows ((1 : Nat))) ∧ Ob ((0 : Int) = wgtErr n rows) ∧ True)))

set_option linter.unusedSimpArgs false in
set_option maxRecDepth 4000 in
set_option maxHeartbeats 400000 in
theorem v_rWeight : V_rWeight := by
  unfold V_rWeight
  intro B b x L hx hox hrx _
  simp only [Ob_iff, and_true, true_and, InR]
  refine ⟨fun h1 => ?_, fun h1 => ⟨L, ⟨hx, rfl, hrx, fun _ _ => rfl⟩, fun h2 => ?_, fun h2 => ⟨⟨0, by omega, by omega, rfl, rfl, hx⟩, ?_⟩⟩⟩
  · simp [wgt, wgtErr, h1]
  · simp [wgt, wgtErr, Classical.not_not.1 h1, h2]
  have h1' : 1 ≤ b ∧ b ≤ 100000 := Classical.not_not.1 h1
  have hm := many_ok (Classical.not_not.1 h2)
  have he : wgtErr b L = 0 := by simp [wgtErr, Classical.not_not.1 h1, Classical.not_not.1 h2]
  have hmL := (Classical.not_not.1 h2)
  clear h1 h2
  intro k hk
  intros
  refine ⟨hx, fun h3 => ?_, fun h3 => ?_⟩
  · have hkL : k < L.length := by omega
    have hs := cap_size (cap_all hm.2 k hkL)
    have c0 := cube_bd hs.1 (by omega)
    have c1 := cube_bd (show 0 ≤ cell L k 1 by omega) hs.2.2
    have w := wgt_bd h1'.1 h1'.2 hm.2 k hk
    have e0 : wgtLo b L (k + 1) = wgtLo b L k + cell L k 0 * cell L k 0 * cell L k 0 / b := rfl
    have e1 : wgtHi b L (k + 1) = wgtHi b L k + (cell L k 1 * cell L k 1 * cell L k 1 + b - 1) / b := rfl
    have hm1 := hm.1
    generalize cell L k 0 * cell L k 0 * cell L k 0 = x0 at *
    generalize cell L k 1 * cell L k 1 * cell L k 1 = y0 at *
    have d0 := div_bd (m := 15625000000) c0.2.2.1 c0.2.2.2 h1'.1
    have d1 := div_bd (x := y0 + b - 1) (m := 15625100000) (by omega) (by omega) h1'.1
    generalize x0 / b = u at *
    generalize (y0 + b - 1) / b = v at *
    repeat' (with_reducible apply And.intro)
    all_goals first | exact hx | exact hkL | omega | skip
    refine ⟨k + 1, ⟨by omega, by omega⟩, ?_⟩
    repeat' (with_reducible apply And.intro)
    all_goals first | exact hx | exact e0.symm | exact e1.symm | omega | trivial
  · have e : k = L.length := by omega
    subst e
    simp [wgt, he]

theorem e_rWeight : V_rWeight = needF P [F_r4within, F_rcheckMany] A_rWeight F_rWeight := by kernel_rfl

theorem n_rWeight : Ob (needF P [F_r4within, F_rcheckMany] A_rWeight F_rWeight) := by
  rw [← e_rWeight]
  exact ⟨v_rWeight⟩

theorem b_rWeight : ((P.funcs[30]?).any fun fn => fn.body.isSome) = true := by kernel_rfl

theorem rWeight_ok : Fn0.Ok P F_rWeight := Fn0.ok named (l := [F_r4within, F_rcheckMany]) (A := A_rWeight) (by rfl) (by
  intro F h
  simp only [List.mem_cons, List.not_mem_nil, or_false] at h
  rcases h with rfl | rfl
  · exact r4within_ok
  · exact rcheckMany_ok
) b_rWeight (by
  intro ds N
  simp only [F_rWeight]
  split <;> rfl) n_rWeight

noncomputable def F_rCounts : FnE := ⟨28, none, [.one (.l [.i64]), .one (.l [.i64, .i64, .i64, .i64, .i64, .i64])], fun _ => True, fun l => match l with | [.l E, .l L] => [.gsl 0 (cntN E L) 2 true, .i .i64 (cntErr E L)] | _ => [], fun l => match l with | [.l E, .l L] => [.gr (cntN E L) 2 (.fn (Rv.elemOf [.i64, .i64] (cntF E L (E.length - 1)))) .gr true] | _ => [], fun l => match l with | [.l E, .l L] => [] | _ => [], false⟩
noncomputable def A_rCounts : List SV → List Dat → Nat → List SV → Ann := fun xs ds n ts => match xs with
  | [.lst x _ _ _, .lst y _ _ _] => match ds with
    | [.l E, .l L] => match n with
      | 9 => ⟨Nat, fun k => [some (SV.lst x E.length ((1 : Nat)) (Rv.elemOf [IntKind.i64] E)), some (SV.lst y L.length ((6 : Nat)) (Rv.elemOf [IntKind.i64, IntKind.i64, IntKind.i64, IntKind.i64, IntKind.i64, IntKind.i64] L)), none, none, some (SV.v (Value.slice none ((0 : Nat)) ((0 : Nat)))), some (SV.v (Value.int IntKind.i64 (0 : Int))), none, none, some (.gsl 0 k 2 true), some (.i .i64 k), none, none, none, none, none, none, none, none, none, none, none, none, none, none, none, none, none, none, none, none, none, none, none, none, none, none, none, none, none, none, none, none, none, none, none, none, none, none, none, none, none, none, none, none, none, none, none, none, none, none, none, none, none, none, none, none, none, none, none, none, none, none, none, none, none, none, none, none, none, none, none, none, none, none, none, none, none, none, none, none, none, none], fun k => [.gr k 2 (.fn (Rv.elemOf [.i64, .i64] (cntF E L k))) .gr true], fun k => k ≤ E.length - 1, fun k => E.length - 1 - k, 0⟩
      | 13 => (match lget ts 8 with | some (SV.gsl _ n8 _ _) => (match lget ts 9 with | some (SV.i _ r9) => ⟨Nat, fun i => [some (SV.lst x E.length ((1 : Nat)) (Rv.elemOf [IntKind.i64] E)), some (SV.lst y L.length ((6 : Nat)) (Rv.elemOf [IntKind.i64, IntKind.i64, IntKind.i64, IntKind.i64, IntKind.i64, IntKind.i64] L)), none, none, some (SV.v (Value.slice none ((0 : Nat)) ((0 : Nat)))), some (SV.v (Value.int IntKind.i64 (0 : Int))), none, none, some (SV.gsl 0 n8 2 true), some (SV.i .i64 r9), some (SV.ptr ((1 : Nat)) ((0 : Nat))), some (.i .i64 i), none, none, none, none, none, none, none, none, none, none, none, none, none, none, none, none, none, none, none, none, none, none, none, none, none, none, none, none, none, none, none, none, none, none, none, none, none, none, none, none, none, none, none, none, none, none, none, none, none, none, none, none, none, none, none, none, none, none, none, none, none, none, none, none, none, none, none, none, none, none, none, none, none, none, none, none, none, none, none, none], fun i => [.cells [.i .i64 (cntLo E L r9.toNat i), .i .i64 (cntHi E L r9.toNat i)] .ex, .gr n8 2 (.fn (Rv.elemOf [.i64, .i64] (cntF E L r9.toNat))) .gr true], fun i => i ≤ L.length, fun i => L.length - i, 0⟩ | _ => noAnn) | _ => noAnn)
      | _ => noAnn
    | _ => noAnn
  | _ => noAnn

set_option maxRecDepth 10000 in
def V_rCounts : Prop :=
  ∀ (B : RW) (x : RV) (rows : List (List Int)), IsLst B x rows.length ((1 : Nat)) (Rv.elemOf [IntKind.i64] rows) → oneB x = true → (∀ (row : List Int), row ∈ rows → row.length = (1 : Nat)) → ∀ (x_1 : RV) (rows_1 : List
  (List Int)), IsLst B x_1 rows_1.length ((6 : Nat)) (Rv.elemOf [IntKind.i64, IntKind.i64, IntKind.i64, IntKind.i64, IntKind.i64, IntKind.i64] rows_1) → oneB x_1 = true → (∀ (row : List Int), row ∈ rows_1 → row.length = (6
  : Nat)) → F_rCounts.pre ([Dat.l rows] ++ ([Dat.l rows_1] ++ [])) → ∃ (rows_2 : List (List Int)), Ob (IsLst B x rows.length ((1 : Nat)) (Rv.elemOf [IntKind.i64] rows) ∧ rows_2.length = rows.length ∧ (∀ (r : List Int), r ∈
  rows_2 → r.length = (1 : Nat)) ∧ ∀ (i : Nat), i < rows.length → Rv.elemOf [IntKind.i64] rows i = Rv.elemOf [IntKind.i64] rows_2 i) ∧ Ob True ∧ (¬edgErr rows_2 = (0 : Int) → Ob (cntN rows rows_1 = (0 : Nat)) ∧ Ob (edgErr
  rows_2 = cntErr rows rows_1) ∧ Ob (cntN rows rows_1 = (0 : Nat)) ∧ Ob (PlainE (cntN rows rows_1) (El.fn (Rv.elemOf [IntKind.i64, IntKind.i64] (cntF rows rows_1 (rows.length - (1 : Nat)))))) ∧ True) ∧ (¬¬edgErr rows_2 =
  (0 : Int) → ∃ (rows_3 : List (List Int)), Ob (IsLst B x_1 rows_1.length ((6 : Nat)) (Rv.elemOf [IntKind.i64, IntKind.i64, IntKind.i64, IntKind.i64, IntKind.i64, IntKind.i64] rows_1) ∧ rows_3.length = rows_1.length ∧ (∀
  (r : List Int), r ∈ rows_3 → r.length = (6 : Nat)) ∧ ∀ (i : Nat), i < rows_1.length → Rv.elemOf [IntKind.i64, IntKind.i64, IntKind.i64, IntKind.i64, IntKind.i64, IntKind.i64] rows_1 i = Rv.elemOf [IntKind.i64,
  IntKind.i64, IntKind.i64, IntKind.i64, IntKind.i64, IntKind.i64] rows_3 i) ∧ Ob True ∧ (¬manyErr rows_3 = (0 : Int) → Ob (cntN rows rows_1 = (0 : Nat)) ∧ Ob (manyErr rows_3 = cntErr rows rows_1) ∧ Ob (cntN rows rows_1 =
  (0 : Nat)) ∧ Ob (PlainE (cntN rows rows_1) (El.fn (Rv.elemOf [IntKind.i64, IntKind.i64] (cntF rows rows_1 (rows.length - (1 : Nat)))))) ∧ True) ∧ (¬¬manyErr rows_3 = (0 : Int) → (∃ (a : Nat), Ob (a ≤ rows.length - (1 :
  Nat)) ∧ Ob (SV.lst x rows.length ((1 : Nat)) (Rv.elemOf [IntKind.i64] rows) = SV.lst x rows.length ((1 : Nat)) (Rv.elemOf [IntKind.i64] rows)) ∧ Ob (SV.lst x_1 rows_1.length ((6 : Nat)) (Rv.elemOf [IntKind.i64,
  IntKind.i64, IntKind.i64, IntKind.i64, IntKind.i64, IntKind.i64] rows_1) = SV.lst x_1 rows_1.length ((6 : Nat)) (Rv.elemOf [IntKind.i64, IntKind.i64, IntKind.i64, IntKind.i64, IntKind.i64, IntKind.i64] rows_1)) ∧ Ob
  (SV.v (Value.slice none ((0 : Nat)) ((0 : Nat))) = SV.v (Value.slice none ((0 : Nat)) ((0 : Nat)))) ∧ Ob (Value.int IntKind.i64 (0 : Int) = Value.int IntKind.i64 (0 : Int)) ∧ Ob (a = (0 : Nat)) ∧ Ob ((0 : Int) = (↑a :
  Int)) ∧ Ob (a = (0 : Nat)) ∧ Ob (IsLst B x rows.length ((1 : Nat)) (Rv.elemOf [IntKind.i64] rows)) ∧ Ob (IsLst B x_1 rows_1.length ((6 : Nat)) (Rv.elemOf [IntKind.i64, IntKind.i64, IntKind.i64, IntKind.i64, IntKind.i64,
  IntKind.i64] rows_1)) ∧ Ob (PlainE a (El.fn (Rv.elemOf [IntKind.i64, IntKind.i64] (cntF rows rows_1 a)))) ∧ True) ∧ ∀ (a : Nat), a ≤ rows.length - (1 : Nat) → ∀ (z z_1 z_2 z_3 z_4 z_5 z_6 z_7 z_8 z_9 z_10 z_11 z_12 z_13
  z_14 z_15 z_16 z_17 z_18 z_19 z_20 z_21 z_22 z_23 z_24 z_25 z_26 z_27 z_28 z_29 z_30 z_31 z_32 z_33 z_34 z_35 z_36 z_37 z_38 z_39 z_40 z_41 z_42 z_43 z_44 z_45 z_46 z_47 z_48 z_49 z_50 z_51 z_52 z_53 z_54 z_55 z_56 z_57
  z_58 z_59 z_60 z_61 z_62 z_63 z_64 z_65 z_66 z_67 z_68 z_69 z_70 z_71 z_72 z_73 z_74 z_75 z_76 z_77 z_78 z_79 z_80 z_81 z_82 z_83 z_84 z_85 : Value), Ob (InR IntKind.i64 ((↑a : Int) + (1 : Int))) ∧ Ob (IsLst B x
  rows.length ((1 : Nat)) (Rv.elemOf [IntKind.i64] rows)) ∧ ((↑a : Int) + (1 : Int) < (↑rows.length : Int) → (∃ (a_1 : Nat), Ob (a_1 ≤ rows_1.length) ∧ Ob (SV.lst x rows.length ((1 : Nat)) (Rv.elemOf [IntKind.i64] rows) =
  SV.lst x rows.length ((1 : Nat)) (Rv.elemOf [IntKind.i64] rows)) ∧ Ob (SV.lst x_1 rows_1.length ((6 : Nat)) (Rv.elemOf [IntKind.i64, IntKind.i64, IntKind.i64, IntKind.i64, IntKind.i64, IntKind.i64] rows_1) = SV.lst x_1
  rows_1.length ((6 : Nat)) (Rv.elemOf [IntKind.i64, IntKind.i64, IntKind.i64, IntKind.i64, IntKind.i64, IntKind.i64] rows_1)) ∧ Ob (SV.v (Value.slice none ((0 : Nat)) ((0 : Nat))) = SV.v (Value.slice none ((0 : Nat)) ((0
  : Nat)))) ∧ Ob (Value.int IntKind.i64 (0 : Int) = Value.int IntKind.i64 (0 : Int)) ∧ Ob (a = a) ∧ Ob ((↑a : Int) = (↑a : Int)) ∧ Ob ((0 : Int) = (↑a_1 : Int)) ∧ Ob ((0 : Int) = cntLo rows rows_1 a a_1) ∧ Ob ((0 : Int) =
  cntHi rows rows_1 a a_1) ∧ Ob (a = a ∧ ∀ (i : Nat), i < a → (El.fn (Rv.elemOf [IntKind.i64, IntKind.i64] (cntF rows rows_1 a))).at i = (El.fn (Rv.elemOf [IntKind.i64, IntKind.i64] (cntF rows rows_1 a))).at i) ∧ Ob (IsLst
  B x rows.length ((1 : Nat)) (Rv.elemOf [IntKind.i64] rows)) ∧ Ob (IsLst B x_1 rows_1.length ((6 : Nat)) (Rv.elemOf [IntKind.i64, IntKind.i64, IntKind.i64, IntKind.i64, IntKind.i64, IntKind.i64] rows_1)) ∧ Ob (PlainE a
  (El.fn (Rv.elemOf [IntKind.i64, IntKind.i64] (cntF rows rows_1 a)))) ∧ True) ∧ ∀ (a_1 : Nat), a_1 ≤ rows_1.length → ∀ (z_86 z_87 z_88 z_89 z_90 z_91 z_92 z_93 z_94 z_95 z_96 z_97 z_98 z_99 z_100 z_101 z_102 z_103 z_104
  z_105 z_106 z_107 z_108 z_109 z_110 z_111 z_112 z_113 z_114 z_115 z_116 z_117 z_118 z_119 z_120 z_121 z_122 z_123 z_124 z_125 z_126 z_127 z_128 z_129 z_130 z_131 z_132 z_133 z_134 z_135 z_136 z_137 z_138 z_139 z_140
  z_141 z_142 z_143 z_144 z_145 z_146 z_147 z_148 z_149 z_150 z_151 z_152 z_153 z_154 z_155 z_156 z_157 z_158 z_159 z_160 z_161 z_162 z_163 z_164 z_165 z_166 z_167 z_168 z_169 : Value), Ob (IsLst B x_1 rows_1.length ((6 :
  Nat)) (Rv.elemOf [IntKind.i64, IntKind.i64, IntKind.i64, IntKind.i64, IntKind.i64, IntKind.i64] rows_1)) ∧ ((↑a_1 : Int) < (↑rows_1.length : Int) → Ob (IsLst B x_1 rows_1.length ((6 : Nat)) (Rv.elemOf [IntKind.i64,
  IntKind.i64, IntKind.i64, IntKind.i64, IntKind.i64, IntKind.i64] rows_1)) ∧ Ob ((0 : Int) ≤ (↑a_1 : Int) ∧ a_1 < rows_1.length ∧ IsLst B x_1 rows_1.length ((6 : Nat)) (Rv.elemOf [IntKind.i64, IntKind.i64, IntKind.i64,
  IntKind.i64, IntKind.i64, IntKind.i64] rows_1)) ∧ Ob (IsLst B x_1 rows_1.length ((6 : Nat)) (Rv.elemOf [IntKind.i64, IntKind.i64, IntKind.i64, IntKind.i64, IntKind.i64, IntKind.i64] rows_1) ∧ a_1 < rows_1.length) ∧ Ob
  (IsLst B x_1 rows_1.length ((6 : Nat)) (Rv.elemOf [IntKind.i64, IntKind.i64, IntKind.i64, IntKind.i64, IntKind.i64, IntKind.i64] rows_1) ∧ a_1 < rows_1.length) ∧ Ob (IsLst B x_1 rows_1.length ((6 : Nat)) (Rv.elemOf
  [IntKind.i64, IntKind.i64, IntKind.i64, IntKind.i64, IntKind.i64, IntKind.i64] rows_1) ∧ a_1 < rows_1.length) ∧ Ob (IsLst B x_1 rows_1.length ((6 : Nat)) (Rv.elemOf [IntKind.i64, IntKind.i64, IntKind.i64, IntKind.i64,
  IntKind.i64, IntKind.i64] rows_1) ∧ a_1 < rows_1.length) ∧ Ob (IsLst B x_1 rows_1.length ((6 : Nat)) (Rv.elemOf [IntKind.i64, IntKind.i64, IntKind.i64, IntKind.i64, IntKind.i64, IntKind.i64] rows_1)) ∧ Ob ((0 : Int) ≤
  (↑a_1 : Int) ∧ a_1 < rows_1.length ∧ IsLst B x_1 rows_1.length ((6 : Nat)) (Rv.elemOf [IntKind.i64, IntKind.i64, IntKind.i64, IntKind.i64, IntKind.i64, IntKind.i64] rows_1)) ∧ Ob (IsLst B x_1 rows_1.length ((6 : Nat))
  (Rv.elemOf [IntKind.i64, IntKind.i64, IntKind.i64, IntKind.i64, IntKind.i64, IntKind.i64] rows_1) ∧ a_1 < rows_1.length) ∧ Ob (IsLst B x_1 rows_1.length ((6 : Nat)) (Rv.elemOf [IntKind.i64, IntKind.i64, IntKind.i64,
  IntKind.i64, IntKind.i64, IntKind.i64] rows_1) ∧ a_1 < rows_1.length) ∧ Ob (IsLst B x_1 rows_1.length ((6 : Nat)) (Rv.elemOf [IntKind.i64, IntKind.i64, IntKind.i64, IntKind.i64, IntKind.i64, IntKind.i64] rows_1) ∧ a_1 <
  rows_1.length) ∧ Ob (IsLst B x_1 rows_1.length ((6 : Nat)) (Rv.elemOf [IntKind.i64, IntKind.i64, IntKind.i64, IntKind.i64, IntKind.i64, IntKind.i64] rows_1) ∧ a_1 < rows_1.length) ∧ Ob ((0 : Int) ≤ (↑a : Int) ∧ a <
  rows.length ∧ IsLst B x rows.length ((1 : Nat)) (Rv.elemOf [IntKind.i64] rows)) ∧ Ob (IsLst B x rows.length ((1 : Nat)) (Rv.elemOf [IntKind.i64] rows) ∧ a < rows.length) ∧ (cell rows a ((0 : Nat)) ≤ cell rows_1 a_1 ((0 :
  Nat)) → Ob (InR IntKind.i64 ((↑a : Int) + (1 : Int))) ∧ Ob ((0 : Int) ≤ (↑a : Int) + (1 : Int) ∧ ((↑a : Int) + (1 : Int)).toNat < rows.length ∧ IsLst B x rows.length (nat_lit 1) (Rv.elemOf [IntKind.i64] rows)) ∧ Ob
  (IsLst B x rows.length (nat_lit 1) (Rv.elemOf [IntKind.i64] rows) ∧ ((↑a : Int) + (1 : Int)).toNat < rows.length) ∧ (cell rows_1 a_1 (nat_lit 1) < cell rows ((↑a : Int) + (1 : Int)).toNat (nat_lit 0) → Ob (InR
  IntKind.i64 (cntLo rows rows_1 a a_1 + (1 : Int))) ∧ Ob ((0 : Int) ≤ (↑a : Int) ∧ a < rows.length ∧ IsLst B x rows.length (nat_lit 1) (Rv.elemOf [IntKind.i64] rows)) ∧ Ob (IsLst B x rows.length (nat_lit 1) (Rv.elemOf
  [IntKind.i64] rows) ∧ a < rows.length) ∧ (cell rows a (nat_lit 0) ≤ cell rows_1 a_1 (nat_lit 1) → Ob (InR IntKind.i64 ((↑a : Int) + (1 : Int))) ∧ Ob ((0 : Int) ≤ (↑a : Int) + (1 : Int) ∧ ((↑a : Int) + (1 : Int)).toNat <
  rows.length ∧ IsLst B x rows.length (nat_lit 1) (Rv.elemOf [IntKind.i64] rows)) ∧ Ob (IsLst B x rows.length (nat_lit 1) (Rv.elemOf [IntKind.i64] rows) ∧ ((↑a : Int) + (1 : Int)).toNat < rows.length) ∧ (cell rows_1 a_1
  (nat_lit 0) < cell rows ((↑a : Int) + (1 : Int)).toNat (nat_lit 0) → Ob (InR IntKind.i64 (cntHi rows rows_1 a a_1 + (1 : Int))) ∧ Ob (InR IntKind.i64 ((↑a_1 : Int) + (1 : Int))) ∧ ∃ (a' : Nat), Ob (a' ≤ rows_1.length ∧
  rows_1.length - a' < rows_1.length - a_1) ∧ Ob (SV.lst x rows.length (nat_lit 1) (Rv.elemOf [IntKind.i64] rows) = SV.lst x rows.length (nat_lit 1) (Rv.elemOf [IntKind.i64] rows)) ∧ Ob (SV.lst x_1 rows_1.length (nat_lit
  6) (Rv.elemOf [IntKind.i64, IntKind.i64, IntKind.i64, IntKind.i64, IntKind.i64, IntKind.i64] rows_1) = SV.lst x_1 rows_1.length (nat_lit 6) (Rv.elemOf [IntKind.i64, IntKind.i64, IntKind.i64, IntKind.i64, IntKind.i64,
  IntKind.i64] rows_1)) ∧ Ob (SV.v (Value.slice none (nat_lit 0) (nat_lit 0)) = SV.v (Value.slice none (nat_lit 0) (nat_lit 0))) ∧ Ob (Value.int IntKind.i64 (0 : Int) = Value.int IntKind.i64 (0 : Int)) ∧ Ob (a = a) ∧ Ob
  ((↑a : Int) = (↑a : Int)) ∧ Ob ((↑a_1 : Int) + (1 : Int) = (↑a' : Int)) ∧ Ob (cntLo rows rows_1 a a_1 + (1 : Int) = cntLo rows rows_1 a a') ∧ Ob (cntHi rows rows_1 a a_1 + (1 : Int) = cntHi rows rows_1 a a') ∧ Ob (a = a
  ∧ ∀ (i : Nat), i < a → (El.fn (Rv.elemOf [IntKind.i64, IntKind.i64] (cntF rows rows_1 a))).at i = (El.fn (Rv.elemOf [IntKind.i64, IntKind.i64] (cntF rows rows_1 a))).at i) ∧ Ob (IsLst B x rows.length (nat_lit 1)
  (Rv.elemOf [IntKind.i64] rows)) ∧ Ob (IsLst B x_1 rows_1.length (nat_lit 6) (Rv.elemOf [IntKind.i64, IntKind.i64, IntKind.i64, IntKind.i64, IntKind.i64, IntKind.i64] rows_1)) ∧ Ob (PlainE a (El.fn (Rv.elemOf
  [IntKind.i64, IntKind.i64] (cntF rows rows_1 a)))) ∧ True) ∧ (¬cell rows_1 a_1 (nat_lit 0) < cell rows ((↑a : Int) + (1 : Int)).toNat (nat_lit 0) → Ob (InR IntKind.i64 ((↑a_1 : Int) + (1 : Int))) ∧ ∃ (a' : Nat), Ob (a' ≤
  rows_1.length ∧ rows_1.length - a' < rows_1.length - a_1) ∧ Ob (SV.lst x rows.length (nat_lit 1) (Rv.elemOf [IntKind.i64] rows) = SV.lst x rows.length (nat_lit 1) (Rv.elemOf [IntKind.i64] rows)) ∧ Ob (SV.lst x_1
  rows_1.length (nat_lit 6) (Rv.elemOf [IntKind.i64, IntKind.i64, IntKind.i64, IntKind.i64, IntKind.i64, IntKind.i64] rows_1) = SV.lst x_1 rows_1.length (nat_lit 6) (Rv.elemOf [IntKind.i64, IntKind.i64, IntKind.i64,
  IntKind.i64, IntKind.i64, IntKind.i64] rows_1)) ∧ Ob (SV.v (Value.slice none (nat_lit 0) (nat_lit 0)) = SV.v (Value.slice none (nat_lit 0) (nat_lit 0))) ∧ Ob (Value.int IntKind.i64 (0 : Int) = Value.int IntKind.i64 (0 :
  Int)) ∧ Ob (a = a) ∧ Ob ((↑a : Int) = (↑a : Int)) ∧ Ob ((↑a_1 : Int) + (1 : Int) = (↑a' : Int)) ∧ Ob (cntLo rows rows_1 a a_1 + (1 : Int) = cntLo rows rows_1 a a') ∧ Ob (cntHi rows rows_1 a a_1 = cntHi rows rows_1 a a')
  ∧ Ob (a = a ∧ ∀ (i : Nat), i < a → (El.fn (Rv.elemOf [IntKind.i64, IntKind.i64] (cntF rows rows_1 a))).at i = (El.fn (Rv.elemOf [IntKind.i64, IntKind.i64] (cntF rows rows_1 a))).at i) ∧ Ob (IsLst B x rows.length (nat_lit
  1) (Rv.elemOf [IntKind.i64] rows)) ∧ Ob (IsLst B x_1 rows_1.length (nat_lit 6) (Rv.elemOf [IntKind.i64, IntKind.i64, IntKind.i64, IntKind.i64, IntKind.i64, IntKind.i64] rows_1)) ∧ Ob (PlainE a (El.fn (Rv.elemOf
  [IntKind.i64, IntKind.i64] (cntF rows rows_1 a)))) ∧ True)) ∧ (¬cell rows a (nat_lit 0) ≤ cell rows_1 a_1 (nat_lit 1) → Ob (InR IntKind.i64 ((↑a_1 : Int) + (1 : Int))) ∧ ∃ (a' : Nat), Ob (a' ≤ rows_1.length ∧
  rows_1.length - a' < rows_1.length - a_1) ∧ Ob (SV.lst x rows.length (nat_lit 1) (Rv.elemOf [IntKind.i64] rows) = SV.lst x rows.length (nat_lit 1) (Rv.elemOf [IntKind.i64] rows)) ∧ Ob (SV.lst x_1 rows_1.length (nat_lit
  6) (Rv.elemOf [IntKind.i64, IntKind.i64, IntKind.i64, IntKind.i64, IntKind.i64, IntKind.i64] rows_1) = SV.lst x_1 rows_1.length (nat_lit 6) (Rv.elemOf [IntKind.i64, IntKind.i64, IntKind.i64, IntKind.i64, IntKind.i64,
  IntKind.i64] rows_1)) ∧ Ob (SV.v (Value.slice none (nat_lit 0) (nat_lit 0)) = SV.v (Value.slice none (nat_lit 0) (nat_lit 0))) ∧ Ob (Value.int IntKind.i64 (0 : Int) = Value.int IntKind.i64 (0 : Int)) ∧ Ob (a = a) ∧ Ob
  ((↑a : Int) = (↑a : Int)) ∧ Ob ((↑a_1 : Int) + (1 : Int) = (↑a' : Int)) ∧ Ob (cntLo rows rows_1 a a_1 + (1 : Int) = cntLo rows rows_1 a a') ∧ Ob (cntHi rows rows_1 a a_1 = cntHi rows rows_1 a a') ∧ Ob (a = a ∧ ∀ (i :
  Nat), i < a → (El.fn (Rv.elemOf [IntKind.i64, IntKind.i64] (cntF rows rows_1 a))).at i = (El.fn (Rv.elemOf [IntKind.i64, IntKind.i64] (cntF rows rows_1 a))).at i) ∧ Ob (IsLst B x rows.length (nat_lit 1) (Rv.elemOf
  [IntKind.i64] rows)) ∧ Ob (IsLst B x_1 rows_1.length (nat_lit 6) (Rv.elemOf [IntKind.i64, IntKind.i64, IntKind.i64, IntKind.i64, IntKind.i64, IntKind.i64] rows_1)) ∧ Ob (PlainE a (El.fn (Rv.elemOf [IntKind.i64,
  IntKind.i64] (cntF rows rows_1 a)))) ∧ True)) ∧ (¬cell rows_1 a_1 (nat_lit 1) < cell rows ((↑a : Int) + (1 : Int)).toNat (nat_lit 0) → Ob ((0 : Int) ≤ (↑a : Int) ∧ a < rows.length ∧ IsLst B x rows.length (nat_lit 1)
  (Rv.elemOf [IntKind.i64] rows)) ∧ Ob (IsLst B x rows.length (nat_lit 1) (Rv.elemOf [IntKind.i64] rows) ∧ a < rows.length) ∧ (cell rows a (nat_lit 0) ≤ cell rows_1 a_1 (nat_lit 1) → Ob (InR IntKind.i64 ((↑a : Int) + (1 :
  Int))) ∧ Ob ((0 : Int) ≤ (↑a : Int) + (1 : Int) ∧ ((↑a : Int) + (1 : Int)).toNat < rows.length ∧ IsLst B x rows.length (nat_lit 1) (Rv.elemOf [IntKind.i64] rows)) ∧ Ob (IsLst B x rows.length (nat_lit 1) (Rv.elemOf
  [IntKind.i64] rows) ∧ ((↑a : Int) + (1 : Int)).toNat < rows.length) ∧ (cell rows_1 a_1 (nat_lit 0) < cell rows ((↑a : Int) + (1 : Int)).toNat (nat_lit 0) → Ob (InR IntKind.i64 (cntHi rows rows_1 a a_1 + (1 : Int))) ∧ Ob
  (InR IntKind.i64 ((↑a_1 : Int) + (1 : Int))) ∧ ∃ (a' : Nat), Ob (a' ≤ rows_1.length ∧ rows_1.length - a' < rows_1.length - a_1) ∧ Ob (SV.lst x rows.length (nat_lit 1) (Rv.elemOf [IntKind.i64] rows) = SV.lst x rows.length
  (nat_lit 1) (Rv.elemOf [IntKind.i64] rows)) ∧ Ob (SV.lst x_1 rows_1.length (nat_lit 6) (Rv.elemOf [IntKind.i64, IntKind.i64, IntKind.i64, IntKind.i64, IntKind.i64, IntKind.i64] rows_1) = SV.lst x_1 rows_1.length (nat_lit
  6) (Rv.elemOf [IntKind.i64, IntKind.i64, IntKind.i64, IntKind.i64, IntKind.i64, IntKind.i64] rows_1)) ∧ Ob (SV.v (Value.slice none (nat_lit 0) (nat_lit 0)) = SV.v (Value.slice none (nat_lit 0) (nat_lit 0))) ∧ Ob
  (Value.int IntKind.i64 (0 : Int) = Value.int IntKind.i64 (0 : Int)) ∧ Ob (a = a) ∧ Ob ((↑a : Int) = (↑a : Int)) ∧ Ob ((↑a_1 : Int) + (1 : Int) = (↑a' : Int)) ∧ Ob (cntLo rows rows_1 a a_1 = cntLo rows rows_1 a a') ∧ Ob
  (cntHi rows rows_1 a a_1 + (1 : Int) = cntHi rows rows_1 a a') ∧ Ob (a = a ∧ ∀ (i : Nat), i < a → (El.fn (Rv.elemOf [IntKind.i64, IntKind.i64] (cntF rows rows_1 a))).at i = (El.fn (Rv.elemOf [IntKind.i64, IntKind.i64]
  (cntF rows rows_1 a))).at i) ∧ Ob (IsLst B x rows.length (nat_lit 1) (Rv.elemOf [IntKind.i64] rows)) ∧ Ob (IsLst B x_1 rows_1.length (nat_lit 6) (Rv.elemOf [IntKind.i64, IntKind.i64, IntKind.i64, IntKind.i64,
  IntKind.i64, IntKind.i64] rows_1)) ∧ Ob (PlainE a (El.fn (Rv.elemOf [IntKind.i64, IntKind.i64] (cntF rows rows_1 a)))) ∧ True) ∧ (¬cell rows_1 a_1 (nat_lit 0) < cell rows ((↑a : Int) + (1 : Int)).toNat (nat_lit 0) → Ob
  (InR IntKind.i64 ((↑a_1 : Int) + (1 : Int))) ∧ ∃ (a' : Nat), Ob (a' ≤ rows_1.length ∧ rows_1.length - a' < rows_1.length - a_1) ∧ Ob (SV.lst x rows.length (nat_lit 1) (Rv.elemOf [IntKind.i64] rows) = SV.lst x rows.length
  (nat_lit 1) (Rv.elemOf [IntKind.i64] rows)) ∧ Ob (SV.lst x_1 rows_1.length (nat_lit 6) (Rv.elemOf [IntKind.i64, IntKind.i64, IntKind.i64, IntKind.i64, IntKind.i64, IntKind.i64] rows_1) = SV.lst x_1 rows_1.length (nat_lit
  6) (Rv.elemOf [IntKind.i64, IntKind.i64, IntKind.i64, IntKind.i64, IntKind.i64, IntKind.i64] rows_1)) ∧ Ob (SV.v (Value.slice none (nat_lit 0) (nat_lit 0)) = SV.v (Value.slice none (nat_lit 0) (nat_lit 0))) ∧ Ob
  (Value.int IntKind.i64 (0 : Int) = Value.int IntKind.i64 (0 : Int)) ∧ Ob (a = a) ∧ Ob ((↑a : Int) = (↑a : Int)) ∧ Ob ((↑a_1 : Int) + (1 : Int) = (↑a' : Int)) ∧ Ob (cntLo rows rows_1 a a_1 = cntLo rows rows_1 a a') ∧ Ob
  (cntHi rows rows_1 a a_1 = cntHi rows rows_1 a a') ∧ Ob (a = a ∧ ∀ (i : Nat), i < a → (El.fn (Rv.elemOf [IntKind.i64, IntKind.i64] (cntF rows rows_1 a))).at i = (El.fn (Rv.elemOf [IntKind.i64, IntKind.i64] (cntF rows
  rows_1 a))).at i) ∧ Ob (IsLst B x rows.length (nat_lit 1) (Rv.elemOf [IntKind.i64] rows)) ∧ Ob (IsLst B x_1 rows_1.length (nat_lit 6) (Rv.elemOf [IntKind.i64, IntKind.i64, IntKind.i64, IntKind.i64, IntKind.i64,
  IntKind.i64] rows_1)) ∧ Ob (PlainE a (El.fn (Rv.elemOf [IntKind.i64, IntKind.i64] (cntF rows rows_1 a)))) ∧ True)) ∧ (¬cell rows a (nat_lit 0) ≤ cell rows_1 a_1 (nat_lit 1) → Ob (InR IntKind.i64 ((↑a_1 : Int) + (1 :
  Int))) ∧ ∃ (a' : Nat), Ob (a' ≤ rows_1.length ∧ rows_1.length - a' < rows_1.length - a_1) ∧ Ob (SV.lst x rows.length (nat_lit 1) (Rv.elemOf [IntKind.i64] rows) = SV.lst x rows.length (nat_lit 1) (Rv.elemOf [IntKind.i64]
  rows)) ∧ Ob (SV.lst x_1 rows_1.length (nat_lit 6) (Rv.elemOf [IntKind.i64, IntKind.i64, IntKind.i64, IntKind.i64, IntKind.i64, IntKind.i64] rows_1) = SV.lst x_1 rows_1.length (nat_lit 6) (Rv.elemOf [IntKind.i64,
  IntKind.i64, IntKind.i64, IntKind.i64, IntKind.i64, IntKind.i64] rows_1)) ∧ Ob (SV.v (Value.slice none (nat_lit 0) (nat_lit 0)) = SV.v (Value.slice none (nat_lit 0) (nat_lit 0))) ∧ Ob (Value.int IntKind.i64 (0 : Int) =
  Value.int IntKind.i64 (0 : Int)) ∧ Ob (a = a) ∧ Ob ((↑a : Int) = (↑a : Int)) ∧ Ob ((↑a_1 : Int) + (1 : Int) = (↑a' : Int)) ∧ Ob (cntLo rows rows_1 a a_1 = cntLo rows rows_1 a a') ∧ Ob (cntHi rows rows_1 a a_1 = cntHi
  rows rows_1 a a') ∧ Ob (a = a ∧ ∀ (i : Nat), i < a → (El.fn (Rv.elemOf [IntKind.i64, IntKind.i64] (cntF rows rows_1 a))).at i = (El.fn (Rv.elemOf [IntKind.i64, IntKind.i64] (cntF rows rows_1 a))).at i) ∧ Ob (IsLst B x
  rows.length (nat_lit 1) (Rv.elemOf [IntKind.i64] rows)) ∧ Ob (IsLst B x_1 rows_1.length (nat_lit 6) (Rv.elemOf [IntKind.i64, IntKind.i64, IntKind.i64, IntKind.i64, IntKind.i64, IntKind.i64] rows_1)) ∧ Ob (PlainE a (El.fn
  (Rv.elemOf [IntKind.i64, IntKind.i64] (cntF rows rows_1 a)))) ∧ True))) ∧ (¬cell rows a ((0 : Nat)) ≤ cell rows_1 a_1 ((0 : Nat)) → Ob ((0 : Int) ≤ (↑a : Int) ∧ a < rows.length ∧ IsLst B x rows.length (nat_lit 1)
  (Rv.elemOf [IntKind.i64] rows)) ∧ Ob (IsLst B x rows.length (nat_lit 1) (Rv.elemOf [IntKind.i64] rows) ∧ a < rows.length) ∧ (cell rows a (nat_lit 0) ≤ cell rows_1 a_1 (nat_lit 1) → Ob (InR IntKind.i64 ((↑a : Int) + (1 :
  Int))) ∧ Ob ((0 : Int) ≤ (↑a : Int) + (1 : Int) ∧ ((↑a : Int) + (1 : Int)).toNat < rows.length ∧ IsLst B x rows.length (nat_lit 1) (Rv.elemOf [IntKind.i64] rows)) ∧ Ob (IsLst B x rows.length (nat_lit 1) (Rv.elemOf
  [IntKind.i64] rows) ∧ ((↑a : Int) + (1 : Int)).toNat < rows.length) ∧ (cell rows_1 a_1 (nat_lit 0) < cell rows ((↑a : Int) + (1 : Int)).toNat (nat_lit 0) → Ob (InR IntKind.i64 (cntHi rows rows_1 a a_1 + (1 : Int))) ∧ Ob
  (InR IntKind.i64 ((↑a_1 : Int) + (1 : Int))) ∧ ∃ (a' : Nat), Ob (a' ≤ rows_1.length ∧ rows_1.length - a' < rows_1.length - a_1) ∧ Ob (SV.lst x rows.length (nat_lit 1) (Rv.elemOf [IntKind.i64] rows) = SV.lst x rows.length
  (nat_lit 1) (Rv.elemOf [IntKind.i64] rows)) ∧ Ob (SV.lst x_1 rows_1.length (nat_lit 6) (Rv.elemOf [IntKind.i64, IntKind.i64, IntKind.i64, IntKind.i64, IntKind.i64, IntKind.i64] rows_1) = SV.lst x_1 rows_1.length (nat_lit
  6) (Rv.elemOf [IntKind.i64, IntKind.i64, IntKind.i64, IntKind.i64, IntKind.i64, IntKind.i64] rows_1)) ∧ Ob (SV.v (Value.slice none (nat_lit 0) (nat_lit 0)) = SV.v (Value.slice none (nat_lit 0) (nat_lit 0))) ∧ Ob
  (Value.int IntKind.i64 (0 : Int) = Value.int IntKind.i64 (0 : Int)) ∧ Ob (a = a) ∧ Ob ((↑a : Int) = (↑a : Int)) ∧ Ob ((↑a_1 : Int) + (1 : Int) = (↑a' : Int)) ∧ Ob (cntLo rows rows_1 a a_1 = cntLo rows rows_1 a a') ∧ Ob
  (cntHi rows rows_1 a a_1 + (1 : Int) = cntHi rows rows_1 a a') ∧ Ob (a = a ∧ ∀ (i : Nat), i < a → (El.fn (Rv.elemOf [IntKind.i64, IntKind.i64] (cntF rows rows_1 a))).at i = (El.fn (Rv.elemOf [IntKind.i64, IntKind.i64]
  (cntF rows rows_1 a))).at i) ∧ Ob (IsLst B x rows.length (nat_lit 1) (Rv.elemOf [IntKind.i64] rows)) ∧ Ob (IsLst B x_1 rows_1.length (nat_lit 6) (Rv.elemOf [IntKind.i64, IntKind.i64, IntKind.i64, IntKind.i64,
  IntKind.i64, IntKind.i64] rows_1)) ∧ Ob (PlainE a (El.fn (Rv.elemOf [IntKind.i64, IntKind.i64] (cntF rows rows_1 a)))) ∧ True) ∧ (¬cell rows_1 a_1 (nat_lit 0) < cell rows ((↑a : Int) + (1 : Int)).toNat (nat_lit 0) → Ob
  (InR IntKind.i64 ((↑a_1 : Int) + (1 : Int))) ∧ ∃ (a' : Nat), Ob (a' ≤ rows_1.length ∧ rows_1.length - a' < rows_1.length - a_1) ∧ Ob (SV.lst x rows.length (nat_lit 1) (Rv.elemOf [IntKind.i64] rows) = SV.lst x rows.length
  (nat_lit 1) (Rv.elemOf [IntKind.i64] rows)) ∧ Ob (SV.lst x_1 rows_1.length (nat_lit 6) (Rv.elemOf [IntKind.i64, IntKind.i64, IntKind.i64, IntKind.i64, IntKind.i64, IntKind.i64] rows_1) = SV.lst x_1 rows_1.length (nat_lit
  6) (Rv.elemOf [IntKind.i64, IntKind.i64, IntKind.i64, IntKind.i64, IntKind.i64, IntKind.i64] rows_1)) ∧ Ob (SV.v (Value.slice none (nat_lit 0) (nat_lit 0)) = SV.v (Value.slice none (nat_lit 0) (nat_lit 0))) ∧ Ob
  (Value.int IntKind.i64 (0 : Int) = Value.int IntKind.i64 (0 : Int)) ∧ Ob (a = a) ∧ Ob ((↑a : Int) = (↑a : Int)) ∧ Ob ((↑a_1 : Int) + (1 : Int) = (↑a' : Int)) ∧ Ob (cntLo rows rows_1 a a_1 = cntLo rows rows_1 a a') ∧ Ob
  (cntHi rows rows_1 a a_1 = cntHi rows rows_1 a a') ∧ Ob (a = a ∧ ∀ (i : Nat), i < a → (El.fn (Rv.elemOf [IntKind.i64, IntKind.i64] (cntF rows rows_1 a))).at i = (El.fn (Rv.elemOf [IntKind.i64, IntKind.i64] (cntF rows
  rows_1 a))).at i) ∧ Ob (IsLst B x rows.length (nat_lit 1) (Rv.elemOf [IntKind.i64] rows)) ∧ Ob (IsLst B x_1 rows_1.length (nat_lit 6) (Rv.elemOf [IntKind.i64, IntKind.i64, IntKind.i64, IntKind.i64, IntKind.i64,
  IntKind.i64] rows_1)) ∧ Ob (PlainE a (El.fn (Rv.elemOf [IntKind.i64, IntKind.i64] (cntF rows rows_1 a)))) ∧ True)) ∧ (¬cell rows a (nat_lit 0) ≤ cell rows_1 a_1 (nat_lit 1) → Ob (InR IntKind.i64 ((↑a_1 : Int) + (1 :
  Int))) ∧ ∃ (a' : Nat), Ob (a' ≤ rows_1.length ∧ rows_1.length - a' < rows_1.length - a_1) ∧ Ob (SV.lst x rows.length (nat_lit 1) (Rv.elemOf [IntKind.i64] rows) = SV.lst x rows.length (nat_lit 1) (Rv.elemOf [IntKind.i64]
  rows)) ∧ Ob (SV.lst x_1 rows_1.length (nat_lit 6) (Rv.elemOf [IntKind.i64, IntKind.i64, IntKind.i64, IntKind.i64, IntKind.i64, IntKind.i64] rows_1) = SV.lst x_1 rows_1.length (nat_lit 6) (Rv.elemOf [IntKind.i64,
  IntKind.i64, IntKind.i64, IntKind.i64, IntKind.i64, IntKind.i64] rows_1)) ∧ Ob (SV.v (Value.slice none (nat_lit 0) (nat_lit 0)) = SV.v (Value.slice none (nat_lit 0) (nat_lit 0))) ∧ Ob (Value.int IntKind.i64 (0 : Int) =
  Value.int IntKind.i64 (0 : Int)) ∧ Ob (a = a) ∧ Ob ((↑a : Int) = (↑a : Int)) ∧ Ob ((↑a_1 : Int) + (1 : Int) = (↑a' : Int)) ∧ Ob (cntLo rows rows_1 a a_1 = cntLo rows rows_1 a a') ∧ Ob (cntHi rows rows_1 a a_1 = cntHi
  rows rows_1 a a') ∧ Ob (a = a ∧ ∀ (i : Nat), i < a → (El.fn (Rv.elemOf [IntKind.i64, IntKind.i64] (cntF rows rows_1 a))).at i = (El.fn (Rv.elemOf [IntKind.i64, IntKind.i64] (cntF rows rows_1 a))).at i) ∧ Ob (IsLst B x
  rows.length (nat_lit 1) (Rv.elemOf [IntKind.i64] rows)) ∧ Ob (IsLst B x_1 rows_1.length (nat_lit 6) (Rv.elemOf [IntKind.i64, IntKind.i64, IntKind.i64, IntKind.i64, IntKind.i64, IntKind.i64] rows_1)) ∧ Ob (PlainE a (El.fn
  (Rv.elemOf [IntKind.i64, IntKind.i64] (cntF rows rows_1 a)))) ∧ True))) ∧ (¬(↑a_1 : Int) < (↑rows_1.length : Int) → Ob (a = a ∧ ∀ (i : Nat), i < a → ((El.fn (Rv.elemOf [IntKind.i64, IntKind.i64] (cntF rows rows_1 a))).at
  i).length = (2 : Nat)) ∧ Ob ((a + (1 : Nat)) * (2 : Nat) * (17 : Nat) ≤ (1099511627776 : Nat)) ∧ Ob (a = a) ∧ Ob (InR IntKind.i64 ((↑a : Int) + (1 : Int))) ∧ ∃ (a' : Nat), Ob (a' ≤ rows.length - (1 : Nat) ∧ rows.length -
  (1 : Nat) - a' < rows.length - (1 : Nat) - a) ∧ Ob (SV.lst x rows.length ((1 : Nat)) (Rv.elemOf [IntKind.i64] rows) = SV.lst x rows.length ((1 : Nat)) (Rv.elemOf [IntKind.i64] rows)) ∧ Ob (SV.lst x_1 rows_1.length ((6 :
  Nat)) (Rv.elemOf [IntKind.i64, IntKind.i64, IntKind.i64, IntKind.i64, IntKind.i64, IntKind.i64] rows_1) = SV.lst x_1 rows_1.length ((6 : Nat)) (Rv.elemOf [IntKind.i64, IntKind.i64, IntKind.i64, IntKind.i64, IntKind.i64,
  IntKind.i64] rows_1)) ∧ Ob (SV.v (Value.slice none ((0 : Nat)) ((0 : Nat))) = SV.v (Value.slice none ((0 : Nat)) ((0 : Nat)))) ∧ Ob (Value.int IntKind.i64 (0 : Int) = Value.int IntKind.i64 (0 : Int)) ∧ Ob (a + (1 : Nat)
  = a') ∧ Ob ((↑a : Int) + (1 : Int) = (↑a' : Int)) ∧ Ob (a + (1 : Nat) = a' ∧ ∀ (i : Nat), i < a' → (behind a (El.fn (Rv.elemOf [IntKind.i64, IntKind.i64] (cntF rows rows_1 a))) (nat_lit 1) (litEl [SV.i IntKind.i64 (cntLo
  rows rows_1 a a_1), SV.i IntKind.i64 (cntHi rows rows_1 a a_1)] (nat_lit 2) (nat_lit 1))).at i = (El.fn (Rv.elemOf [IntKind.i64, IntKind.i64] (cntF rows rows_1 a'))).at i) ∧ Ob (IsLst B x rows.length ((1 : Nat))
  (Rv.elemOf [IntKind.i64] rows)) ∧ Ob (IsLst B x_1 rows_1.length ((6 : Nat)) (Rv.elemOf [IntKind.i64, IntKind.i64, IntKind.i64, IntKind.i64, IntKind.i64, IntKind.i64] rows_1)) ∧ Ob (PlainE a' (El.fn (Rv.elemOf
  [IntKind.i64, IntKind.i64] (cntF rows rows_1 a')))) ∧ True)) ∧ (¬(↑a : Int) + (1 : Int) < (↑rows.length : Int) → Ob (a = cntN rows rows_1) ∧ Ob ((0 : Int) = cntErr rows rows_1) ∧ Ob (a = cntN rows rows_1 ∧ ∀ (i : Nat), i
  < cntN rows rows_1 → (El.fn (Rv.elemOf [IntKind.i64, IntKind.i64] (cntF rows rows_1 a))).at i = (El.fn (Rv.elemOf [IntKind.i64, IntKind.i64] (cntF rows rows_1 (rows.length - (1 : Nat))))).at i) ∧ Ob (PlainE (cntN rows
  rows_1) (El.fn (Rv.elemOf [IntKind.i64, IntKind.i64] (cntF rows rows_1 (rows.length - (1 : Nat)))))) ∧ True)))

set_option linter.unusedSimpArgs false in
set_option maxRecDepth 4000 in
set_option maxHeartbeats 400000 in
theorem v_rCounts : V_rCounts := by
  unfold V_rCounts
  intro B x E hx hox hrx y L hy hoy hry _
  simp only [Ob_iff, and_true, true_and, InR, List.cons_append, List.nil_append]
  have pz : ∀ n k, PlainE n (El.fn (Rv.elemOf [.i64, .i64] (cntF E L k))) := fun n k => plain_elemOf _ _ _
  have z : ¬ cntErr E L = 0 → cntN E L = 0 := fun h => by unfold cntN; rw [if_neg h]
  refine ⟨E, ⟨hx, rfl, hrx, fun _ _ => rfl⟩, fun h1 => ?_, fun h1 => ⟨L, ⟨hy, rfl, hry, fun _ _ => rfl⟩, fun h2 => ?_, fun h2 => ⟨⟨0, ?_⟩, ?_⟩⟩⟩
  · have e : cntErr E L = edgErr E := by unfold cntErr; rw [if_neg h1]
    have n0 := z (by rw [e]; exact h1)
    exact ⟨n0, e.symm, n0, pz _ _⟩
  · have e : cntErr E L = manyErr L := by unfold cntErr; rw [if_pos (Classical.not_not.1 h1)]
    have n0 := z (by rw [e]; exact h2)
    exact ⟨n0, e.symm, n0, pz _ _⟩
  · repeat' (with_reducible apply And.intro)
    all_goals first | exact hx | exact hy | exact pz _ _ | omega | trivial
  have hE := Classical.not_not.1 h1
  have hM := Classical.not_not.1 h2
  clear h1 h2
  have e : cntErr E L = 0 := by unfold cntErr; rw [if_pos hE]; exact hM
  have hN : cntN E L = E.length - 1 := by unfold cntN; rw [if_pos e]
  rw [hN, e]
  clear z e
  have hl := edg_len hE
  have hm := many_ok hM
  have hbE := fun j => edg_all hl.2.2 j
  intro k hk
  intros
  have hk1 : ((k : Int) + 1).toNat = k + 1 := by omega
  simp only [hk1, Int.toNat_natCast]
  refine ⟨by omega, hx, fun h1 => ⟨⟨0, ?_⟩, ?_⟩, fun h1 => ?_⟩
  · repeat' (with_reducible apply And.intro)
    all_goals first | exact hx | exact hy | exact pz _ _ | omega | trivial | rfl | exact fun _ _ => trivial | exact fun _ _ => rfl
  · intro i hi
    intros
    have cb := cnt_bd E L k i
    have e0 : cntLo E L k (i + 1) = cntLo E L k i + (if insV (cell L i 0) (cell L i 1) (cell E k 0) (cell E (k + 1) 0 - 1) = 1 then 1 else 0) := rfl
    have e1 : cntHi E L k (i + 1) = cntHi E L k i + (if insV (cell L i 0) (cell L i 1) (cell E k 0) (cell E (k + 1) 0 - 1) = 2 then 0 else 1) := rfl
    have hm1 := hm.1
    refine ⟨hy, fun h2 => ?_, fun h2 => ?_⟩
    · have hiL : i < L.length := by omega
      have hs := cap_size (cap_all hm.2 i hiL)
      have hkE : k < E.length ∧ k + 1 < E.length := by omega
      unfold insV at e0 e1
      repeat' (first | with_reducible apply And.intro | intro _)
      all_goals first | exact hx | exact hy | exact hiL | exact hkE.1 | exact hkE.2 | omega | skip
      all_goals
        refine ⟨i + 1, ⟨by omega, by omega⟩, ?_⟩
        repeat' (with_reducible apply And.intro)
        all_goals first | exact hx | exact hy | exact pz _ _ | omega | trivial | rfl | exact fun _ _ => trivial | exact fun _ _ => rfl | (rw [e0]; split <;> first | omega | (split at * <;> omega)) | (rw [e1]; split <;> first | omega | (split at * <;> omega)) | skip
    · have e : i = L.length := by omega
      subst e
      have hc := cntF_len E L k
      have sn : ∀ j, j < k + 1 → (behind k (.fn (Rv.elemOf [.i64, .i64] (cntF E L k))) 1 (litEl [SV.i .i64 (cntLo E L k L.length), SV.i .i64 (cntHi E L k L.length)] 2 1)).at j = (El.fn (Rv.elemOf [.i64, .i64] (cntF E L (k + 1)))).at j := fun j hj => by
        have := snoc2_at (R := cntF E L k) (j := .i64) (k := .i64) (a := cntLo E L k L.length) (b := cntHi E L k L.length) (i := j) (by rw [hc]; exact hj)
        rw [hc, ← cntF_succ] at this
        exact this
      have pl : PlainE (k + 1) (behind k (.fn (Rv.elemOf [.i64, .i64] (cntF E L k))) 1 (litEl [SV.i .i64 (cntLo E L k L.length), SV.i .i64 (cntHi E L k L.length)] 2 1)) := fun j hj => by
        rw [sn j hj]
        exact plain_elemOf _ _ (k + 1) j hj
      repeat' (with_reducible apply And.intro)
      all_goals first | exact hx | exact hy | exact fun _ _ => trivial | exact fun _ _ => rfl | exact pl | omega | trivial | skip
      refine ⟨k + 1, ⟨by omega, by omega⟩, ?_⟩
      repeat' (with_reducible apply And.intro)
      all_goals first | exact hx | exact hy | exact pz _ _ | exact sn | omega | trivial | rfl | skip
  · have e : k = E.length - 1 := by omega
    subst e
    repeat' (with_reducible apply And.intro)
    all_goals first | exact hx | exact hy | exact pz _ _ | omega | trivial | rfl | exact fun _ _ => rfl | exact fun _ _ => trivial

theorem e_rCounts : V_rCounts = needE P [F_rcheckEdges, F_rcheckMany] [] A_rCounts F_rCounts := by kernel_rfl

theorem n_rCounts : Ob (needE P [F_rcheckEdges, F_rcheckMany] [] A_rCounts F_rCounts) := by
  rw [← e_rCounts]
  exact ⟨v_rCounts⟩

theorem b_rCounts : ((P.funcs[28]?).any fun fn => fn.body.isSome) = true := by kernel_rfl

theorem rCounts_ok : FnE.Ok P F_rCounts := FnE.ok named (l := [F_rcheckEdges, F_rcheckMany]) (es := []) (A := A_rCounts) (by rfl) (by rfl) (by rfl) (by
  intro F h
  simp only [List.mem_cons, List.not_mem_nil, or_false] at h
  rcases h with rfl | rfl
  · exact rcheckEdges_ok
  · exact rcheckMany_ok
) (by
  intro F h; simp at h) b_rCounts (by
  intro ds h o ho n sz e k z he
  subst he
  simp only [F_rCounts] at ho
  split at ho
  · simp only [List.mem_cons, List.not_mem_nil, or_false, SObj.gr.injEq] at ho
    obtain ⟨rfl, rfl, rfl, rfl, rfl⟩ := ho
    exact plain_elemOf _ _ _
  · simp at ho) n_rCounts

end Go.Proofs.YthlodlileecmdaaDoor.Sy
