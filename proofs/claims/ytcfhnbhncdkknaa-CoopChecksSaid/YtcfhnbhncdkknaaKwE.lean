/- Shares of a bonus, with all errors (the reference). -/
import Derived.Test.YtcfhnbhncdkknaaSyP2
import Derived.Test.YtcfhnbhncdkknaaGrM
import Derived.Test.YtcfhnbhncdkknaaStM
import Derived.Test.YtcfhnbhncdkknaaLrM
import Derived.Test.YtcfhnbhncdkknaaDhM
import Derived.Test.YtcfhnbhncdkknaaKtT
import Derived.Test.YtcfhnbhncdkknaaKtA
import Derived.Test.YtcfhnbhncdkknaaKtB
import Derived.Test.YtcfhnbhncdkknaaKwA
import Derived.Test.YtcfhnbhncdkknaaKwB
import Derived.Test.YtcfhnbhncdkknaaKwC
import Derived.Test.YtcfhnbhncdkknaaKwD
import Derived.Test.YtcfhnbhncdkknaaSyP2
import Derived.KernelRfl
import Derived.Test.YtcfhnbhncdkknaaProg
namespace Go.Proofs.Ytcfhnbhncdkknaa.Sy
open Go Go.Rv
set_option linter.unusedVariables false

open Classical in
noncomputable def shsE (fee itr pri cre : Int) (A : Rows) (till d : Int) : Int := if coopErr fee itr pri cre A till = 0 then (if mny d then (if idl A then 6 else 0) else 1) else coopErr fee itr pri cre A till
theorem CoopOk.shr {fee itr pri cre : Int} {A : Rows} {till d : Int} (h : CoopOk fee itr pri cre A till) (hd : mny d) (hi : ¬ idl A) : ShOk d A := by
  have hc : ∀ i, i < A.length → 0 ≤ cell A i 2 ∧ cell A i 2 ≤ 1000000000 := fun i hi => (h.a i hi).2.2
  refine ⟨h.l.2, hc, hd, fun hz => hi fun i hi => ?_⟩
  have h1 := sumF_mono (f := fun i => cell A i 2) (n := A.length) (k := i) (by omega) fun j hj => (hc j hj).1
  have h2 := sumF_mono (f := fun i => cell A i 2) (n := A.length) (k := i + 1) (by omega) fun j hj => (hc j hj).1
  have e : sumF (fun i => cell A i 2) (i + 1) = sumF (fun i => cell A i 2) i + cell A i 2 := rfl
  have hz : sumF (fun i => cell A i 2) A.length = 0 := hz
  omega
theorem idl_zero {fee itr pri cre : Int} {A : Rows} {till : Int} (h : CoopOk fee itr pri cre A till) : idl A ↔ colS 2 A A.length = 0 := by
  have hc : ∀ i, i < A.length → 0 ≤ cell A i 2 ∧ cell A i 2 ≤ 1000000000 := fun i hi => (h.a i hi).2.2
  constructor
  · intro hi
    have : ∀ k, k ≤ A.length → colS 2 A k = 0 := by
      intro k
      induction k with
      | zero => intro _; rfl
      | succ k ih =>
        intro hk
        have h1 := ih (by omega)
        have h2 := hi k (by omega)
        have h3 := hc k (by omega)
        have e : colS 2 A (k + 1) = colS 2 A k + cell A k 2 := rfl
        omega
    exact this _ (Nat.le_refl _)
  · intro hz
    apply Classical.byContradiction
    intro hi
    exact (h.shr (d := 0) ⟨by omega, by omega⟩ hi).z hz

noncomputable def C_SharesR : List Dat → Prop := fun l => match l with | [.z fee, .z itr, .z pri, .z cre, .l A, .z till, .z d] => shsE fee itr pri cre A till d ≠ 0 | _ => False
noncomputable def F_SharesR : FnE := ⟨17, none, [.agg [.i .i64, .i .i64, .i .i64, .i .i64, .l [.i64, .i64, .i64], .i .i64], i64], fun l => match l with | [.z fee, .z itr, .z pri, .z cre, .l A, .z till, .z d] => A.length ≤ 4000000 | _ => False, fun l => match l with | [.z fee, .z itr, .z pri, .z cre, .l A, .z till, .z d] => [.gsl 0 A.length 1 false, .i .i64 0] | _ => [], fun l => match l with | [.z fee, .z itr, .z pri, .z cre, .l A, .z till, .z d] => [.gr A.length 1 (.fn fun i => [.i .i64 (cS d A i)]) .ex false] | _ => [], fun l => match l with | [.z fee, .z itr, .z pri, .z cre, .l A, .z till, .z d] => [] | _ => [], false, some ⟨C_SharesR, isNil, fun l => match l with | [.z fee, .z itr, .z pri, .z cre, .l A, .z till, .z d] => [.v (.slice none 0 0), .i .i64 (shsE fee itr pri cre A till d)] | _ => [], fun l => match l with | [.z fee, .z itr, .z pri, .z cre, .l A, .z till, .z d] => [] | _ => [], fun l => match l with | [.z fee, .z itr, .z pri, .z cre, .l A, .z till, .z d] => [] | _ => []⟩⟩
noncomputable def A_SharesR : List SV → List Dat → Nat → List SV → Ann := fun _ _ _ _ => noAnn

def V_SharesR : Prop :=
  ∀ (B : RW) (n n_1 n_2 n_3 : Int) (x : RV) (rows : List (List Int)), IsLst B x rows.length 3 (Rv.elemOf [.i64, .i64, .i64] rows) → oneB x = true → (∀ (row : List Int), row ∈ rows → row.length = (3 : Nat)) → ∀ (n_4 n_5 :
  Int), F_SharesR.pre ([Dat.z n, Dat.z n_1, Dat.z n_2, Dat.z n_3, Dat.l rows, Dat.z n_4] ++ ([Dat.z n_5] ++ [])) → ∃ (rows_1 : List (List Int)), Ob (IsLst B x rows.length 3 (Rv.elemOf [.i64, .i64, .i64] rows) ∧
  rows_1.length = rows.length ∧ (∀ (r : List Int), r ∈ rows_1 → r.length = (3 : Nat)) ∧ ∀ (i : Nat), i < rows.length → Rv.elemOf [.i64, .i64, .i64] rows i = Rv.elemOf [.i64, .i64, .i64] rows_1 i) ∧ Ob (rows_1.length ≤
  (4000000 : Nat)) ∧ (¬coopErr n n_1 n_2 n_3 rows_1 n_4 = (0 : Int) → Ob (C_SharesR ([Dat.z n, Dat.z n_1, Dat.z n_2, Dat.z n_3, Dat.l rows, Dat.z n_4] ++ ([Dat.z n_5] ++ []))) ∧ Ob (SV.v (Value.slice none 0 0) = SV.v
  (Value.slice none 0 0)) ∧ Ob (coopErr n n_1 n_2 n_3 rows_1 n_4 = shsE n n_1 n_2 n_3 rows n_4 n_5) ∧ True) ∧ (¬¬coopErr n n_1 n_2 n_3 rows_1 n_4 = (0 : Int) → Ob ([[n_5]].length ≤ (4000000 : Nat)) ∧ (¬allM [[n_5]] → Ob
  (C_SharesR ([Dat.z n, Dat.z n_1, Dat.z n_2, Dat.z n_3, Dat.l rows, Dat.z n_4] ++ ([Dat.z n_5] ++ []))) ∧ Ob (SV.v (Value.slice none 0 0) = SV.v (Value.slice none 0 0)) ∧ Ob ((1 : Int) = shsE n n_1 n_2 n_3 rows n_4 n_5) ∧
  True) ∧ (¬¬allM [[n_5]] → ∃ (rows_2 : List (List Int)), Ob (IsLst B x rows.length 3 (Rv.elemOf [.i64, .i64, .i64] rows) ∧ rows_2.length = rows.length ∧ (∀ (r : List Int), r ∈ rows_2 → r.length = (3 : Nat)) ∧ ∀ (i : Nat),
  i < rows.length → Rv.elemOf [.i64, .i64, .i64] rows i = Rv.elemOf [.i64, .i64, .i64] rows_2 i) ∧ Ob (rows_2.length ≤ (4000000 : Nat)) ∧ (idl rows_2 → Ob (C_SharesR ([Dat.z n, Dat.z n_1, Dat.z n_2, Dat.z n_3, Dat.l rows,
  Dat.z n_4] ++ ([Dat.z n_5] ++ []))) ∧ Ob (SV.v (Value.slice none 0 0) = SV.v (Value.slice none 0 0)) ∧ Ob ((6 : Int) = shsE n n_1 n_2 n_3 rows n_4 n_5) ∧ True) ∧ (¬idl rows_2 → ∃ (rows_3 : List (List Int)), Ob (IsLst B x
  rows.length 3 (Rv.elemOf [.i64, .i64, .i64] rows) ∧ rows_3.length = rows.length ∧ (∀ (r : List Int), r ∈ rows_3 → r.length = (3 : Nat)) ∧ ∀ (i : Nat), i < rows.length → Rv.elemOf [.i64, .i64, .i64] rows i = Rv.elemOf
  [.i64, .i64, .i64] rows_3 i) ∧ Ob (F_sharesR.pre [Dat.l rows_3, Dat.z n_5]) ∧ Ob ¬C_SharesR ([Dat.z n, Dat.z n_1, Dat.z n_2, Dat.z n_3, Dat.l rows, Dat.z n_4] ++ ([Dat.z n_5] ++ [])) ∧ Ob (rows_3.length = rows.length) ∧
  Ob ((0 : Int) = (0 : Int)) ∧ Ob (rows_3.length = rows.length ∧ ∀ (i : Nat), i < rows.length → (El.fn fun (i : Nat) ↦ [SV.i .i64 (cS n_5 rows_3 i)]).at i = (El.fn fun (i : Nat) ↦ [SV.i .i64 (cS n_5 rows i)]).at i) ∧ Ob
  (PlainE rows.length (El.fn fun (i : Nat) ↦ [SV.i .i64 (cS n_5 rows i)])) ∧ True)))

set_option linter.unusedSimpArgs false in
set_option maxRecDepth 4000 in
set_option maxHeartbeats 2000000 in
theorem v_SharesR : V_SharesR := by
  unfold V_SharesR
  intro B fee itr pri cre x A hx hox hrx till d hA
  have hA : A.length ≤ 4000000 := hA
  have m1 : allM [[d]] ↔ mny d := ⟨fun h => h 0 (Nat.lt_succ_self 0), fun h i hi => by
    have hi : i < 1 := hi
    have e : i = 0 := by omega
    subst e
    exact h⟩
  simp only [Ob_iff, and_true, true_and, Classical.not_not, m1]
  refine ⟨A, ⟨hx, rfl, hrx, fun _ _ => rfl⟩, hA, fun h1 => ?_, fun h1 => ⟨by show 1 ≤ 4000000; omega, fun h2 => ?_, fun h2 => ⟨A, ⟨hx, rfl, hrx, fun _ _ => rfl⟩, hA, fun h3 => ?_, fun h3 => ⟨A, ⟨hx, rfl, hrx, fun _ _ => rfl⟩, (coop_ok h1).shr h2 h3, ?_⟩⟩⟩⟩
  · have e : shsE fee itr pri cre A till d = coopErr fee itr pri cre A till := by unfold shsE; rw [if_neg h1]
    exact ⟨show shsE fee itr pri cre A till d ≠ 0 by omega, e.symm⟩
  · have e : shsE fee itr pri cre A till d = 1 := by unfold shsE; rw [if_pos h1, if_neg h2]
    exact ⟨show shsE fee itr pri cre A till d ≠ 0 by omega, e.symm⟩
  · have e : shsE fee itr pri cre A till d = 6 := by unfold shsE; rw [if_pos h1, if_pos h2, if_pos h3]
    exact ⟨show shsE fee itr pri cre A till d ≠ 0 by omega, e.symm⟩
  · have e : shsE fee itr pri cre A till d = 0 := by unfold shsE; rw [if_pos h1, if_pos h2, if_neg h3]
    exact ⟨fun hc => absurd e (show shsE fee itr pri cre A till d ≠ 0 from hc), rfl, ⟨rfl, fun _ _ => rfl⟩, plain_fnD _ _⟩

theorem e_SharesR : V_SharesR = needE P [F_CheckR, F_moneyR, F_idleR] [F_sharesR] A_SharesR F_SharesR := by kernel_rfl

theorem n_SharesR : Ob (needE P [F_CheckR, F_moneyR, F_idleR] [F_sharesR] A_SharesR F_SharesR) := by
  rw [← e_SharesR]
  exact ⟨v_SharesR⟩

theorem b_SharesR : ((P.funcs[17]?).any fun fn => fn.body.isSome) = true := by kernel_rfl

theorem SharesR_ok : FnE.Ok P F_SharesR := FnE.ok named (l := [F_CheckR, F_moneyR, F_idleR]) (es := [F_sharesR]) (A := A_SharesR) (by rfl) (by rfl) (by rfl) (by
  intro F h
  simp only [List.mem_cons, List.not_mem_nil, or_false] at h
  rcases h with rfl | rfl | rfl
  · exact CheckR_ok
  · exact moneyR_ok
  · exact idleR_ok
) (by
  intro F h
  simp only [List.mem_cons, List.not_mem_nil, or_false] at h
  rcases h with rfl
  · exact sharesR_ok
) b_SharesR (by
  intro ds h o ho n sz e k z he
  subst he
  simp only [F_SharesR] at ho
  split at ho
  · simp only [List.mem_cons, List.not_mem_nil, or_false, SObj.gr.injEq] at ho
    obtain ⟨rfl, rfl, rfl, rfl, rfl⟩ := ho
    exact plain_fnD _ _
  · simp at ho) n_SharesR (by
  intro a ha ds h hc o ho n sz e k z he
  have ha : some _ = some a := ha
  simp only [Option.some.injEq] at ha
  subst ha
  simp only at ho
  split at ho <;> simp at ho)

end Go.Proofs.Ytcfhnbhncdkknaa.Sy
