/-
  'homaruslaw09.CoopMotions' returns true, whatever its arguments are, in whatever memory: what a motion comes to, and who may still decide, or which error there is, is what the reference says, and nothing is changed.
  Conditions: none. The arguments are any numbers and any lists of numbers that can be read.
  How: what has to be shown of the law's code, of the program's deciding and of the reference is computed by the kernel, and shown by plain mathematics; the chapter's examples, which it runs at its end, are run by the kernel.
-/
import Derived.Test.YtjgllojnbinchaaSyP2
import Derived.Test.YtjgllojnbinchaaKvP
import Derived.Test.YtjgllojnbinchaaKtAw
import Derived.Test.YtjgllojnbinchaaRows
import Derived.WalkKit
import Derived.ProofKit
import Derived.OpenShut
import Derived.Carry
import Derived.Deep.DeepHandedRow
namespace Go.Proofs.Ytjgllojnbinchaa.coopMotions
open Go Go.Rv Go.ChangeShapes Go.WideShapes Go.ChangeAt Go.RowKit

theorem law_run {m : Nat → Rv.Loc} {W : RW} {w : World} (hr : @Rel (plainEnv (([] : Tabs).map (·.1))) m W w) (ht : hasTabs ([] : Tabs) W)
    {args : List RV} {ds : List Dat} (hrd : readR W Sy.F_law.sh args = some ds) (hpre : Sy.F_law.pre ds) (hb : belowL W.n args = true) (hro : ∀ b o, W.get b = some o → o.own = false) :
    Calls Try.prog 3 (args.map (rv m)).toArray w fun e w' => e = .returned (.bool true) ∧ RowKit.Below w.heap.size w w' :=
  law_calls (F := Sy.F_law) Sy.named (by rfl) (by rfl) (by rfl) Sy.c_law Sy.ce_law (gA := 9) (tabs := ([] : Tabs)) Sy.l_law Sy.le_law Sy.awake_ok ⟨Try.f9, Try.func9, by kernel_rfl⟩ Sy.n_law hr ht hrd hpre hb hro

theorem own : ownKnob Try.prog.godebug = none := by kernel_rfl
theorem tables {W : World} : TabsAt ([] : Tabs) W := fun t ht => by simp at ht

instance envI : Env := plainEnv (([] : Tabs).map (·.1))

theorem laid_out : laidOutB Try.prog = true := by kernel_rfl
theorem read3 : Try.prog.readableRec 3 = true := by kernel_rfl
theorem row3 : 3 < Try.prog.types.size := of_decide_eq_true (by kernel_rfl)
theorem read22 : Try.prog.readableRec 22 = true := by kernel_rfl
theorem row22 : 22 < Try.prog.types.size := of_decide_eq_true (by kernel_rfl)

set_option maxRecDepth 100000 in
theorem contract (H : Type) (enc : TypeId × Value → H) (W : World) (base : Nat) (args : Array Value) (ds gs : List (DataW H)) (before : List MemPlace)
    (hval : ∀ (j : Nat) t v, Try.f3.params[j]? = some t → args[j]? = some v → Value.okWide Try.prog W .any base t v)
    (hW : DataW.Whole enc Try.prog Try.f3.params.toList Rows.coopMotionsSpec.vars false W args.toList ds gs before) (_ : laidMetH Try.prog Rows.coopMotionsRow.laid W) :
    Calls Try.prog 3 args W fun e W' => ∃ v, e = .returned v ∧ Rows.coopMotionsSpec.post enc Try.prog Try.f3 false true false false W args v W' := by
  have hW' := hW
  have hltb := hW.lt
  obtain ⟨p, q, hA0, hV, rfl, hfz, hnd⟩ := hW
  have hA : DataW.TrodAll enc Try.prog W 0 (fun _ => true) true Try.f3.params.toList args.toList ds p := hA0
  rw [Try.params3] at hA hval
  obtain ⟨v0, v1, v2, v3, v4, v5, d0, d1, d2, d3, d4, d5, p0, p1, p2, p3, p4, p5, rfl, rfl, rfl, t0, t1, t2, t3, t4, t5⟩ := trodAll_six hA
  obtain ⟨rfl, rfl⟩ := trodVars_none hV
  clear hA0 hA
  have e0 := hval 0 _ v0 rfl rfl
  have e1 := hval 1 _ v1 rfl rfl
  have e2 := hval 2 _ v2 rfl rfl
  have e3 := hval 3 _ v3 rfl rfl
  have e4 := hval 4 _ v4 rfl rfl
  have e5 := hval 5 _ v5 rfl rfl
  obtain ⟨k2, hk2⟩ := okWide_int Try.underlying3 e2
  obtain ⟨k3, hk3⟩ := okWide_int Try.underlying3 e3
  obtain ⟨k4, hk4⟩ := okWide_int Try.underlying3 e4
  obtain ⟨m0, r0⟩ := @tabRel (plainEnv (([] : Tabs).map (·.1))) ([] : Tabs) rfl W tables
  have ro0 : ∀ b o, (tabRw ([] : Tabs)).get b = some o → o.own = false := fun b o hb => by
    obtain ⟨t, _, rfl⟩ := tabRw_get hb
    rfl
  obtain ⟨m1, W1, x1, s1, M1, a1, b1_1, q1, l1⟩ := @add_ints (plainEnv (([] : Tabs).map (·.1))) H enc Try.prog m0 (tabRw ([] : Tabs)) W r0 ro0 22 _ Try.underlying22 Try.underlying3 (by kernel_rfl) base v0 d0 p0 e0 t0
  obtain ⟨m2, W2, x2, s2, M2, a2, b2_2, q2, l2⟩ := @add_ints (plainEnv (([] : Tabs).map (·.1))) H enc Try.prog m1 W1 W M1.rel M1.ro 22 _ Try.underlying22 Try.underlying3 (by kernel_rfl) base v1 d1 p1 e1 t1
  obtain ⟨m3, W3, x3, s3, M3, a3, b3_3, q3, l3⟩ := @add_ints (plainEnv (([] : Tabs).map (·.1))) H enc Try.prog m2 W2 W M2.rel M2.ro 22 _ Try.underlying22 Try.underlying3 (by kernel_rfl) base v5 d5 p5 e5 t5
  have b1_2 : below W2.n x1 = true := below_mono M2.le x1 b1_1
  have b1_3 : below W3.n x1 = true := below_mono M3.le x1 b1_2
  have a1' : rv m3 x1 = v0 := by rw [rv_agree M3.ag x1 b1_2, rv_agree M2.ag x1 b1_1]; exact a1
  have q1' := (readRows_mono M3.get (readRows_mono M2.get q1))
  have b2_3 : below W3.n x2 = true := below_mono M3.le x2 b2_2
  have a2' : rv m3 x2 = v1 := by rw [rv_agree M3.ag x2 b2_2]; exact a2
  have q2' := (readRows_mono M3.get q2)
  have a3' : rv m3 x3 = v5 := by exact a3
  have q3' := q3
  have hc := law_run (m := m3) (W := W3) (w := W) (args := [x1, x2, RV.v (.int .i64 k2), RV.v (.int .i64 k3), RV.v (.int .i64 k4), x3]) (ds := [.l s1, .l s2, .z k2, .z k3, .z k4, .l s3]) M3.rel
    (fun i o h => (M3.get i o (M2.get i o (M1.get i o h)))) (by
      show readR W3 [.one (.l [.i64]), .one (.l [.i64]), .one (.i .i64), .one (.i .i64), .one (.i .i64), .one (.l [.i64])] _ = _
      simp only [readR, readSc, if_true, q1', q2', q3']) (show s3.length ≤ 9223372036854775807 from l3)
    (by simp only [belowL, below, b1_3, b2_3, b3_3, Bool.and_self]) M3.ro
  have hargs : ([x1, x2, RV.v (.int .i64 k2), RV.v (.int .i64 k3), RV.v (.int .i64 k4), x3].map (rv m3)).toArray = #[v0, v1, v2, v3, v4, v5] := by
    simp only [List.map_cons, List.map_nil, a1', a2', a3', hk2, hk3, hk4, rv]
  rw [hargs] at hc
  refine hc.mono fun e W' ⟨he, hb⟩ => ?_
  subst he
  have hlt : ∀ x ∈ p0 ++ (p1 ++ (p2 ++ (p3 ++ (p4 ++ p5)))), x.block < W.heap.size := fun x hx => hltb x (by simpa using hx)
  have st : ∀ {t : TypeId} {v : Value} {d : DataW H} {ps : List MemPlace}, Try.prog.readableRec t = true → t < Try.prog.types.size → DataW.Trod enc Try.prog W 0 (fun _ => true) true t v d ps → (∀ x ∈ ps, x ∈ p0 ++ (p1 ++ (p2 ++ (p3 ++ (p4 ++ p5))))) →
      ∀ sp : Nat → Bool, (∀ x ∈ p0 ++ (p1 ++ (p2 ++ (p3 ++ (p4 ++ p5)))), sp x.block = true) → DataW.Trod enc Try.prog W' 0 sp true t v d ps := fun hr hrow h hin sp hsp =>
    WideElems.Trod_stays laid_out hr hrow h (fun x hx => hb.same (hlt x (hin x hx))) (fun x hx => hsp x (hin x hx))
  refine ⟨_, rfl, post_new (pa := p0 ++ (p1 ++ (p2 ++ (p3 ++ (p4 ++ p5))))) (pv := []) hW' (fun _ _ _ => trodAll_cons_mk (shut_bool Try.underlying4 _) trodAll_mk0) (fun sp hsp => ?_) (fun _ _ => rfl) (by simp) hb (ok_one (by kernel_rfl) rfl (okWide_bool_mk Try.underlying4 _))⟩
  have hsp' : ∀ x ∈ p0 ++ (p1 ++ (p2 ++ (p3 ++ (p4 ++ p5)))), sp x.block = true := fun x hx => hsp x (by simpa using hx)
  show DataW.TrodAll enc Try.prog W' 0 sp true Try.f3.params.toList [v0, v1, v2, v3, v4, v5] [d0, d1, d2, d3, d4, d5] _
  rw [Try.params3]
  exact trodAll_mk6 (st read22 row22 t0 (fun x hx => by simp [hx]) sp hsp') (st read22 row22 t1 (fun x hx => by simp [hx]) sp hsp') (st read3 row3 t2 (fun x hx => by simp [hx]) sp hsp') (st read3 row3 t3 (fun x hx => by simp [hx]) sp hsp') (st read3 row3 t4 (fun x hx => by simp [hx]) sp hsp') (st read22 row22 t5 (fun x hx => by simp [hx]) sp hsp')

/-- a world for the witness: the settled one -/
def args0 : Array Value := #[.slice none 0 0, .slice none 0 0, .int .i64 0, .int .i64 0, .int .i64 0, .slice none 0 0]
noncomputable def laidWorld (os : Os) : World := World.holding Try.prog os ⟨#[], args0, []⟩
theorem laid_met (os : Os) : laidMet Try.prog Rows.coopMotionsRow.laid ((laidWorld os).forCall (fun _ _ => 0) ⟨#[], args0, []⟩).memory :=
  laidMet_of_run' 8 (by kernel_rfl) (by kernel_rfl)
theorem reads (os : Os) {H : Type} (enc : TypeId × Value → H) : ∃ places, DataW.whole enc Try.prog ((laidWorld os).forCall (fun _ _ => 0) ⟨#[], args0, []⟩).memory Try.f3.params.toList Rows.coopMotionsSpec.vars false args0.toList 8 =
    some ([.nil, .nil, .lit (.int .i64 0), .lit (.int .i64 0), .lit (.int .i64 0), .nil], [], places) :=
  ⟨[], by kernel_rfl⟩

set_option maxRecDepth 100000 in
theorem lifted (os : Os) (started : os.Started) (H : Type) (enc : TypeId × Value → H) (F : Stop.Interp) :
    ReturnsInHanded {} Try.checked os 3 .any ((OpenSpec.ofChange Rows.coopMotionsSpec).preRow enc Try.prog Try.f3 Rows.coopMotionsRow.domain false Rows.coopMotionsRow.laid) (((OpenSpec.ofChange Rows.coopMotionsSpec).at F).post enc Try.prog Try.f3 false true false false) := by
  obtain ⟨places, hx⟩ := reads os enc
  refine returnsInHanded_of_row (C := Try.checked) (s := OpenSpec.ofChange Rows.coopMotionsSpec) own started (by kernel_rfl) Try.func3
    (witness_row_at (enc := enc) (C := Try.checked) false (laidWorld os) args0 rfl (by kernel_rfl) (by kernel_rfl) (by kernel_rfl)
      (OpenSpec.preRow_of_cond 8 hx (by kernel_rfl) (fun k hk => by cases hk) (by kernel_rfl) (laid_met os))) ?_
  intro W base args ds gs before hval hW _ _ _ hL _ _
  exact contract H enc W base args ds gs before hval hW hL

theorem said : Rows.CoopMotionsSaid :=
  OpenClaim.holds_of_cond 3 Try.f3 rfl rfl rfl rfl rfl rfl rfl ⟨rfl, rfl, rfl, rfl, rfl⟩ rfl rfl rfl rfl rfl (by kernel_rfl) Try.func3 (by kernel_rfl)
    (of_decide_eq_true (by kernel_rfl)) (by unfold Func.isWrapper; first | (rw [if_pos (by decide +kernel)]; kernel_rfl) | (rw [if_neg (by decide +kernel)]; exact ⟨rfl, rfl⟩))
    (fun os started H enc _ F => by rw [OpenClaim.pre_eq_preRow]; exact lifted os started H enc F)

end Go.Proofs.Ytjgllojnbinchaa.coopMotions
