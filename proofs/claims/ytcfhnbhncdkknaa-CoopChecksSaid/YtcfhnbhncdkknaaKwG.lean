/- Shares of a bonus, with all errors (the program). -/
import Derived.Test.YtcfhnbhncdkknaaSyP2
import Derived.Test.YtcfhnbhncdkknaaGrM
import Derived.Test.YtcfhnbhncdkknaaStM
import Derived.Test.YtcfhnbhncdkknaaLrM
import Derived.Test.YtcfhnbhncdkknaaDhM
import Derived.Test.YtcfhnbhncdkknaaKtT
import Derived.Test.YtcfhnbhncdkknaaKtA
import Derived.Test.YtcfhnbhncdkknaaKtB
import Derived.Test.YtcfhnbhncdkknaaKwA
import Derived.Test.YtcfhnbhncdkknaaKwB
import Derived.Test.YtcfhnbhncdkknaaKwC
import Derived.Test.YtcfhnbhncdkknaaKwD
import Derived.Test.YtcfhnbhncdkknaaKwE
import Derived.Test.YtcfhnbhncdkknaaKwF
import Derived.Test.YtcfhnbhncdkknaaSyP2
import Derived.KernelRfl
import Derived.Test.YtcfhnbhncdkknaaProg
namespace Go.Proofs.Ytcfhnbhncdkknaa.Sy
open Go Go.Rv
set_option linter.unusedVariables false

noncomputable def C_SharesC : List Dat → Prop := fun l => match l with | [.z fee, .z itr, .z pri, .z cre, .l A, .z till, .z d] => shsE fee itr pri cre A till d ≠ 0 | _ => False
noncomputable def F_SharesC : FnE := ⟨16, none, [.agg [.i .i64, .i .i64, .i .i64, .i .i64, .l [.i64, .i64, .i64], .i .i64], i64], fun l => match l with | [.z fee, .z itr, .z pri, .z cre, .l A, .z till, .z d] => A.length ≤ 4000000 | _ => False, fun l => match l with | [.z fee, .z itr, .z pri, .z cre, .l A, .z till, .z d] => [.gsl 0 A.length 1 false, .i .i64 0] | _ => [], fun l => match l with | [.z fee, .z itr, .z pri, .z cre, .l A, .z till, .z d] => [.gr A.length 1 (.fn fun i => [.i .i64 (cS d A i)]) .ex false] | _ => [], fun l => match l with | [.z fee, .z itr, .z pri, .z cre, .l A, .z till, .z d] => [] | _ => [], false, some ⟨C_SharesC, isNil, fun l => match l with | [.z fee, .z itr, .z pri, .z cre, .l A, .z till, .z d] => [.v (.slice none 0 0), .i .i64 (shsE fee itr pri cre A till d)] | _ => [], fun l => match l with | [.z fee, .z itr, .z pri, .z cre, .l A, .z till, .z d] => [] | _ => [], fun l => match l with | [.z fee, .z itr, .z pri, .z cre, .l A, .z till, .z d] => [] | _ => []⟩⟩
noncomputable def A_SharesC : List SV → List Dat → Nat → List SV → Ann := fun _ _ _ _ => noAnn

def V_SharesC : Prop := ∀ (B : RW) (n n_1 n_2 n_3 : Int) (x : RV) (rows : List (List Int)), IsLst B x rows.length 3 (Rv.elemOf [.i64, .i64, .i64] rows) → oneB x = true → (∀ row ∈ rows, row.length = 3) → ∀ (n_4 n_5 : Int), F_SharesC.pre ([Dat.z n, Dat.z n_1, Dat.z n_2, Dat.z n_3, Dat.l rows, Dat.z n_4] ++ ([Dat.z n_5] ++ [])) → ∃ (l1 : List (List Int)), Ob (IsLst B x rows.length 3 (Rv.elemOf [.i64, .i64, .i64] rows) ∧ l1.length = rows.length ∧ (∀ r ∈ l1, r.length = 3) ∧ ∀ (i : Nat), i < rows.length → Rv.elemOf [.i64, .i64, .i64] rows i = Rv.elemOf [.i64, .i64, .i64] l1 i) ∧ Ob (F_CheckC.pre ([Dat.z n, Dat.z n_1, Dat.z n_2, Dat.z n_3, Dat.l l1, Dat.z n_4] ++ [])) ∧ (¬coopErr n n_1 n_2 n_3 l1 n_4 = (0 : Int) → Ob (C_SharesC ([Dat.z n, Dat.z n_1, Dat.z n_2, Dat.z n_3, Dat.l rows, Dat.z n_4] ++ ([Dat.z n_5] ++ []))) ∧ Ob (SV.v (Value.slice none 0 0) = SV.v (Value.slice none 0 0)) ∧ Ob (coopErr n n_1 n_2 n_3 l1 n_4 = shsE n n_1 n_2 n_3 rows n_4 n_5) ∧ True) ∧ (¬¬coopErr n n_1 n_2 n_3 l1 n_4 = (0 : Int) → Ob True ∧ (¬mny n_5 → Ob (C_SharesC ([Dat.z n, Dat.z n_1, Dat.z n_2, Dat.z n_3, Dat.l rows, Dat.z n_4] ++ ([Dat.z n_5] ++ []))) ∧ Ob (SV.v (Value.slice none 0 0) = SV.v (Value.slice none 0 0)) ∧ Ob ((1 : Int) = shsE n n_1 n_2 n_3 rows n_4 n_5) ∧ True) ∧ (¬¬mny n_5 → ∃ (l2 : List (List Int)), Ob (IsLst B x rows.length 3 (Rv.elemOf [.i64, .i64, .i64] rows) ∧ l2.length = rows.length ∧ (∀ r ∈ l2, r.length = 3) ∧ ∀ (i : Nat), i < rows.length → Rv.elemOf [.i64, .i64, .i64] rows i = Rv.elemOf [.i64, .i64, .i64] l2 i) ∧ Ob (F_sharesC.pre ([Dat.z n, Dat.z n_1, Dat.z n_2, Dat.z n_3, Dat.l l2, Dat.z n_4] ++ [Dat.z n_5])) ∧ (C_sharesC ([Dat.z n, Dat.z n_1, Dat.z n_2, Dat.z n_3, Dat.l l2, Dat.z n_4] ++ [Dat.z n_5]) → Ob (C_SharesC ([Dat.z n, Dat.z n_1, Dat.z n_2, Dat.z n_3, Dat.l rows, Dat.z n_4] ++ ([Dat.z n_5] ++ []))) ∧ Ob (SV.v (Value.slice none 0 0) = SV.v (Value.slice none 0 0)) ∧ Ob ((6 : Int) = shsE n n_1 n_2 n_3 rows n_4 n_5) ∧ True) ∧ (¬C_sharesC ([Dat.z n, Dat.z n_1, Dat.z n_2, Dat.z n_3, Dat.l l2, Dat.z n_4] ++ [Dat.z n_5]) → Ob ¬C_SharesC ([Dat.z n, Dat.z n_1, Dat.z n_2, Dat.z n_3, Dat.l rows, Dat.z n_4] ++ ([Dat.z n_5] ++ [])) ∧ Ob (l2.length = rows.length) ∧ Ob ((0 : Int) = (0 : Int)) ∧ Ob (l2.length = rows.length ∧ ∀ (i : Nat), i < rows.length → (El.fn fun (i : Nat) ↦ [SV.i .i64 (cS n_5 l2 i)]).at i = (El.fn fun (i : Nat) ↦ [SV.i .i64 (cS n_5 rows i)]).at i) ∧ Ob (PlainE rows.length (El.fn fun (i : Nat) ↦ [SV.i .i64 (cS n_5 rows i)])) ∧ True))) 

set_option linter.unusedSimpArgs false in
set_option maxRecDepth 4000 in
set_option maxHeartbeats 2000000 in
theorem v_SharesC : V_SharesC := by
  unfold V_SharesC
  intro B fee itr pri cre x A hx hox hrx till d hA
  have hA : A.length ≤ 4000000 := hA
  simp only [Ob_iff, and_true, true_and, Classical.not_not]
  refine ⟨A, ⟨hx, rfl, hrx, fun _ _ => rfl⟩, hA, fun h1 => ?_, fun h1 => ⟨fun h2 => ?_, fun h2 => ⟨A, ⟨hx, rfl, hrx, fun _ _ => rfl⟩, ⟨h1, h2⟩, fun h3 => ?_, fun h3 => ?_⟩⟩⟩
  · have e : shsE fee itr pri cre A till d = coopErr fee itr pri cre A till := by unfold shsE; rw [if_neg h1]
    exact ⟨show shsE fee itr pri cre A till d ≠ 0 by omega, e.symm⟩
  · have e : shsE fee itr pri cre A till d = 1 := by unfold shsE; rw [if_pos h1, if_neg h2]
    exact ⟨show shsE fee itr pri cre A till d ≠ 0 by omega, e.symm⟩
  · have h3 : idl A := h3
    have e : shsE fee itr pri cre A till d = 6 := by unfold shsE; rw [if_pos h1, if_pos h2, if_pos h3]
    exact ⟨show shsE fee itr pri cre A till d ≠ 0 by omega, e.symm⟩
  · have h3 : ¬ idl A := h3
    have e : shsE fee itr pri cre A till d = 0 := by unfold shsE; rw [if_pos h1, if_pos h2, if_neg h3]
    exact ⟨fun hc => absurd e (show shsE fee itr pri cre A till d ≠ 0 from hc), rfl, ⟨rfl, fun _ _ => rfl⟩, plain_fnD _ _⟩

theorem e_SharesC : V_SharesC = needE P [F_isMoney] [F_CheckC, F_sharesC] A_SharesC F_SharesC := by kernel_rfl

theorem n_SharesC : Ob (needE P [F_isMoney] [F_CheckC, F_sharesC] A_SharesC F_SharesC) := by
  rw [← e_SharesC]
  exact ⟨v_SharesC⟩

theorem b_SharesC : ((P.funcs[16]?).any fun fn => fn.body.isSome) = true := by kernel_rfl

theorem SharesC_ok : FnE.Ok P F_SharesC := FnE.ok named (l := [F_isMoney]) (es := [F_CheckC, F_sharesC]) (A := A_SharesC) (by rfl) (by rfl) (by rfl) (by
  intro F h
  simp only [List.mem_cons, List.not_mem_nil, or_false] at h
  rcases h with rfl
  · exact isMoney_ok
) (by
  intro F h
  simp only [List.mem_cons, List.not_mem_nil, or_false] at h
  rcases h with rfl | rfl
  · exact CheckC_ok
  · exact sharesC_ok
) b_SharesC (by
  intro ds h o ho n sz e k z he
  subst he
  simp only [F_SharesC] at ho
  split at ho
  · simp only [List.mem_cons, List.not_mem_nil, or_false, SObj.gr.injEq] at ho
    obtain ⟨rfl, rfl, rfl, rfl, rfl⟩ := ho
    exact plain_fnD _ _
  · simp at ho) n_SharesC (by
  intro a ha ds h hc o ho n sz e k z he
  have ha : some _ = some a := ha
  simp only [Option.some.injEq] at ha
  subst ha
  simp only at ho
  split at ho <;> simp at ho)

end Go.Proofs.Ytcfhnbhncdkknaa.Sy
