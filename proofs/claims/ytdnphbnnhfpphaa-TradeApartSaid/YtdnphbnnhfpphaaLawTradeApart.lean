/-
  'homaruslaw08.TradeApart' returns true, whatever its numbers are, in whatever memory: events of other grades do not change what became of a grade, and events of one grade that are all bought first, and then taken away in their order, make the same balance, unless fewer grams than animals are left in between.
  Conditions: none. The argument is any list of numbers.
  How: what has to be shown of the law's code, of the program's functions and of the kit's is computed by the kernel, and shown by plain mathematics; the chapter's examples, which it runs at its end, are run by the kernel.
-/
import Derived.Test.YtdnphbnnhfpphaaSyP2
import Derived.Test.YtdnphbnnhfpphaaTrK
import Derived.Test.YtdnphbnnhfpphaaKtAw
import Derived.Test.YtdnphbnnhfpphaaRows
import Derived.WalkKit
import Derived.ProofKit
import Derived.OpenShut
import Derived.Carry
import Derived.Deep.DeepHandedRow
namespace Go.Proofs.Ytdnphbnnhfpphaa.tradeApart
open Go Go.Rv Go.ChangeShapes Go.WideShapes Go.ChangeAt Go.RowKit

theorem law_run {m : Nat → Rv.Loc} {W : RW} {w : World} (hr : @Rel (plainEnv (([] : Tabs).map (·.1))) m W w) (ht : hasTabs ([] : Tabs) W)
    {args : List RV} {ds : List Dat} (hrd : readR W Sy.F_law.sh args = some ds) (hpre : Sy.F_law.pre ds) (hb : belowL W.n args = true) (hro : ∀ b o, W.get b = some o → o.own = false) :
    Calls Try.prog 4 (args.map (rv m)).toArray w fun e w' => e = .returned (.bool true) ∧ RowKit.Below w.heap.size w w' :=
  law_calls (F := Sy.F_law) Sy.named (by rfl) (by rfl) (by rfl) Sy.c_law Sy.ce_law (gA := 10) (tabs := ([] : Tabs)) Sy.l_law Sy.le_law Sy.awake_ok ⟨Try.f10, Try.func10, by kernel_rfl⟩ Sy.n_law hr ht hrd hpre hb hro

theorem own : ownKnob Try.prog.godebug = none := by kernel_rfl
theorem tables {W : World} : TabsAt ([] : Tabs) W := fun t ht => by simp at ht

instance envI : Env := plainEnv (([] : Tabs).map (·.1))

theorem laid_out : laidOutB Try.prog = true := by kernel_rfl
theorem read22 : Try.prog.readableRec 22 = true := by kernel_rfl
theorem row22 : 22 < Try.prog.types.size := of_decide_eq_true (by kernel_rfl)

set_option maxRecDepth 100000 in
theorem contract (H : Type) (enc : TypeId × Value → H) (W : World) (base : Nat) (args : Array Value) (ds gs : List (DataW H)) (before : List MemPlace)
    (hval : ∀ (j : Nat) t v, Try.f4.params[j]? = some t → args[j]? = some v → Value.okWide Try.prog W .any base t v)
    (hW : DataW.Whole enc Try.prog Try.f4.params.toList Rows.tradeApartSpec.vars false W args.toList ds gs before) (_ : laidMetH Try.prog Rows.tradeApartRow.laid W) :
    Calls Try.prog 4 args W fun e W' => ∃ v, e = .returned v ∧ Rows.tradeApartSpec.post enc Try.prog Try.f4 false true false false W args v W' := by
  have hW' := hW
  have hltb := hW.lt
  obtain ⟨p, q, hA0, hV, rfl, hfz, hnd⟩ := hW
  have hA : DataW.TrodAll enc Try.prog W 0 (fun _ => true) true Try.f4.params.toList args.toList ds p := hA0
  rw [Try.params4] at hA hval
  obtain ⟨v0, d0, rfl, rfl, t0⟩ := trodAll_one hA
  obtain ⟨rfl, rfl⟩ := trodVars_none hV
  clear hA0 hA
  have e0 := hval 0 _ v0 rfl rfl
  obtain ⟨m0, r0⟩ := @tabRel (plainEnv (([] : Tabs).map (·.1))) ([] : Tabs) rfl W tables
  have ro0 : ∀ b o, (tabRw ([] : Tabs)).get b = some o → o.own = false := fun b o hb => by
    obtain ⟨t, _, rfl⟩ := tabRw_get hb
    rfl
  obtain ⟨m1, W1, x1, s1, M1, a1, b1_1, q1, l1⟩ := @add_ints (plainEnv (([] : Tabs).map (·.1))) H enc Try.prog m0 (tabRw ([] : Tabs)) W r0 ro0 22 _ Try.underlying22 Try.underlying3 (by kernel_rfl) base v0 d0 p e0 t0
  have a1' : rv m1 x1 = v0 := by exact a1
  have q1' := q1
  have hc := law_run (m := m1) (W := W1) (w := W) (args := [x1]) (ds := [.l s1]) M1.rel
    (fun i o h => (M1.get i o h)) (by
      show readR W1 [.one (.l [.i64])] _ = _
      simp only [readR, readSc, q1']) (show s1.length ≤ 9223372036854775807 from l1)
    (by simp only [belowL, b1_1, Bool.and_self]) M1.ro
  have hargs : ([x1].map (rv m1)).toArray = #[v0] := by
    simp only [List.map_cons, List.map_nil, a1']
  rw [hargs] at hc
  refine hc.mono fun e W' ⟨he, hb⟩ => ?_
  subst he
  have hlt : ∀ x ∈ p, x.block < W.heap.size := fun x hx => hltb x (by simpa using hx)
  have st : ∀ {t : TypeId} {v : Value} {d : DataW H} {ps : List MemPlace}, Try.prog.readableRec t = true → t < Try.prog.types.size → DataW.Trod enc Try.prog W 0 (fun _ => true) true t v d ps → (∀ x ∈ ps, x ∈ p) →
      ∀ sp : Nat → Bool, (∀ x ∈ p, sp x.block = true) → DataW.Trod enc Try.prog W' 0 sp true t v d ps := fun hr hrow h hin sp hsp =>
    WideElems.Trod_stays laid_out hr hrow h (fun x hx => hb.same (hlt x (hin x hx))) (fun x hx => hsp x (hin x hx))
  refine ⟨_, rfl, post_new (pa := p) (pv := []) hW' (fun _ _ _ => trodAll_cons_mk (shut_bool Try.underlying4 _) trodAll_mk0) (fun sp hsp => ?_) (fun _ _ => rfl) (by simp) hb (ok_one (by kernel_rfl) rfl (okWide_bool_mk Try.underlying4 _))⟩
  have hsp' : ∀ x ∈ p, sp x.block = true := fun x hx => hsp x (by simpa using hx)
  show DataW.TrodAll enc Try.prog W' 0 sp true Try.f4.params.toList [v0] [d0] _
  rw [Try.params4]
  exact trodAll_mk1 (st read22 row22 t0 (fun x hx => hx) sp hsp')

/-- a world for the witness: the settled one -/
def args0 : Array Value := #[.slice none 0 0]
noncomputable def laidWorld (os : Os) : World := World.holding Try.prog os ⟨#[], args0, []⟩
theorem laid_met (os : Os) : laidMet Try.prog Rows.tradeApartRow.laid ((laidWorld os).forCall (fun _ _ => 0) ⟨#[], args0, []⟩).memory :=
  laidMet_of_run' 8 (by kernel_rfl) (by kernel_rfl)
theorem reads (os : Os) {H : Type} (enc : TypeId × Value → H) : ∃ places, DataW.whole enc Try.prog ((laidWorld os).forCall (fun _ _ => 0) ⟨#[], args0, []⟩).memory Try.f4.params.toList Rows.tradeApartSpec.vars false args0.toList 8 =
    some ([.nil], [], places) :=
  ⟨[], by kernel_rfl⟩

set_option maxRecDepth 100000 in
theorem lifted (os : Os) (started : os.Started) (H : Type) (enc : TypeId × Value → H) (F : Stop.Interp) :
    ReturnsInHanded {} Try.checked os 4 .any ((OpenSpec.ofChange Rows.tradeApartSpec).preRow enc Try.prog Try.f4 Rows.tradeApartRow.domain false Rows.tradeApartRow.laid) (((OpenSpec.ofChange Rows.tradeApartSpec).at F).post enc Try.prog Try.f4 false true false false) := by
  obtain ⟨places, hx⟩ := reads os enc
  refine returnsInHanded_of_row (C := Try.checked) (s := OpenSpec.ofChange Rows.tradeApartSpec) own started (by kernel_rfl) Try.func4
    (witness_row_at (enc := enc) (C := Try.checked) false (laidWorld os) args0 rfl (by kernel_rfl) (by kernel_rfl) (by kernel_rfl)
      (OpenSpec.preRow_of_cond 8 hx (by kernel_rfl) (fun k hk => by cases hk) (by kernel_rfl) (laid_met os))) ?_
  intro W base args ds gs before hval hW _ _ _ hL _ _
  exact contract H enc W base args ds gs before hval hW hL

theorem said : Rows.TradeApartSaid :=
  OpenClaim.holds_of_cond 4 Try.f4 rfl rfl rfl rfl rfl rfl rfl ⟨rfl, rfl, rfl, rfl, rfl⟩ rfl rfl rfl rfl rfl (by kernel_rfl) Try.func4 (by kernel_rfl)
    (of_decide_eq_true (by kernel_rfl)) (by unfold Func.isWrapper; first | (rw [if_pos (by decide +kernel)]; kernel_rfl) | (rw [if_neg (by decide +kernel)]; exact ⟨rfl, rfl⟩))
    (fun os started H enc _ F => by rw [OpenClaim.pre_eq_preRow]; exact lifted os started H enc F)

end Go.Proofs.Ytdnphbnnhfpphaa.tradeApart
