/-
  'homaruslaw09.CoopDeals' returns true, whatever its arguments are, in whatever memory: what deals do, one and many, or which errors there are, is what the reference says, and nothing is changed.
  Conditions: none. The arguments are any that can be read.
  How: what has to be shown of the law's code, of the program's functions and of the reference's is computed by the kernel, and shown by plain mathematics; the chapter's examples, which it runs at its end, are run by the kernel.
-/
import Derived.Test.YtfebjikidfcbcaaSyP2
import Derived.Test.YtfebjikidfcbcaaKwW
import Derived.Test.YtfebjikidfcbcaaKwZ
import Derived.Test.YtfebjikidfcbcaaKtAw
import Derived.Test.YtfebjikidfcbcaaRows
import Derived.WalkKit
import Derived.ProofKit
import Derived.OpenShut
import Derived.Carry
import Derived.Deep.DeepHandedRow
namespace Go.Proofs.Ytfebjikidfcbcaa.coopDeals
open Go Go.Rv Go.ChangeShapes Go.WideShapes Go.ChangeAt Go.RowKit

theorem law_run {m : Nat → Rv.Loc} {W : RW} {w : World} (hr : @Rel (plainEnv (([] : Tabs).map (·.1))) m W w) (ht : hasTabs ([] : Tabs) W)
    {args : List RV} {ds : List Dat} (hrd : readR W Sy.F_law.sh args = some ds) (hpre : Sy.F_law.pre ds) (hb : belowL W.n args = true) (hro : ∀ b o, W.get b = some o → o.own = false) :
    Calls Try.prog 3 (args.map (rv m)).toArray w fun e w' => e = .returned (.bool true) ∧ RowKit.Below w.heap.size w w' :=
  law_calls (F := Sy.F_law) Sy.named (by rfl) (by rfl) (by rfl) Sy.c_law Sy.ce_law (gA := 8) (tabs := ([] : Tabs)) Sy.l_law Sy.le_law Sy.awake_ok ⟨Try.f8, Try.func8, by kernel_rfl⟩ Sy.n_law hr ht hrd hpre hb hro

theorem own : ownKnob Try.prog.godebug = none := by kernel_rfl
theorem tables {W : World} : TabsAt ([] : Tabs) W := fun t ht => by simp at ht

instance envI : Env := plainEnv (([] : Tabs).map (·.1))

theorem laid_out : laidOutB Try.prog = true := by kernel_rfl
theorem read26 : Try.prog.readableRec 26 = true := by kernel_rfl
theorem row26 : 26 < Try.prog.types.size := of_decide_eq_true (by kernel_rfl)
theorem read28 : Try.prog.readableRec 28 = true := by kernel_rfl
theorem row28 : 28 < Try.prog.types.size := of_decide_eq_true (by kernel_rfl)
theorem read29 : Try.prog.readableRec 29 = true := by kernel_rfl
theorem row29 : 29 < Try.prog.types.size := of_decide_eq_true (by kernel_rfl)
theorem read30 : Try.prog.readableRec 30 = true := by kernel_rfl
theorem row30 : 30 < Try.prog.types.size := of_decide_eq_true (by kernel_rfl)

set_option maxRecDepth 100000 in
theorem contract (H : Type) (enc : TypeId × Value → H) (W : World) (base : Nat) (args : Array Value) (ds gs : List (DataW H)) (before : List MemPlace)
    (hval : ∀ (j : Nat) t v, Try.f3.params[j]? = some t → args[j]? = some v → Value.okWide Try.prog W .any base t v)
    (hW : DataW.Whole enc Try.prog Try.f3.params.toList Rows.coopDealsSpec.vars false W args.toList ds gs before) (_ : laidMetH Try.prog Rows.coopDealsRow.laid W) :
    Calls Try.prog 3 args W fun e W' => ∃ v, e = .returned v ∧ Rows.coopDealsSpec.post enc Try.prog Try.f3 false true false false W args v W' := by
  have hW' := hW
  have hltb := hW.lt
  obtain ⟨p, q, hA0, hV, rfl, hfz, hnd⟩ := hW
  have hA : DataW.TrodAll enc Try.prog W 0 (fun _ => true) true Try.f3.params.toList args.toList ds p := hA0
  rw [Try.params3] at hA hval
  obtain ⟨v0, v1, v2, v3, d0, d1, d2, d3, p0, p1, p2, p3, rfl, rfl, rfl, t0, t1, t2, t3⟩ := trodAll_four hA
  obtain ⟨rfl, rfl⟩ := trodVars_none hV
  clear hA0 hA
  have e0 := hval 0 _ v0 rfl rfl
  have e1 := hval 1 _ v1 rfl rfl
  have e2 := hval 2 _ v2 rfl rfl
  have e3 := hval 3 _ v3 rfl rfl
  obtain ⟨z0_0, z0_1, z0_2, z0_3, z0_4, c0, y0, n0, hv0, g0⟩ := Sy.agg_coop Try.underlying26 (d := 6) (by kernel_rfl) rfl (by kernel_rfl) rfl (by kernel_rfl) rfl (by kernel_rfl) (by kernel_rfl) (by kernel_rfl) e0 t0
  have f0 := e0
  rw [hv0] at f0
  have es0 := field_okWide Try.underlying26 (ts := [3, 3, 3, 3, 24, 3]) (by kernel_rfl) f0 (i := 4) (v := c0) rfl rfl Try.underlying24
  obtain ⟨sb0, sl0, sc0, hc0⟩ := okWide_slice Try.underlying24 es0
  have ts0 : DataW.Trod enc Try.prog W 0 (fun _ => true) true 24 c0 y0.1 y0.2 := ⟨n0, by rw [hc0] at g0 ⊢; exact g0⟩
  obtain ⟨zs1, hzl1, hzs1⟩ := agg_ints Try.underlying28 (d := 6) (n := 4) (by kernel_rfl) (by kernel_rfl) e1 t1
  obtain ⟨s1_0, s1_1, s1_2, s1_3, rfl⟩ : ∃ s1_0 s1_1 s1_2 s1_3, zs1 = [s1_0, s1_1, s1_2, s1_3] := by
    match zs1, hzl1 with
    | [s1_0, s1_1, s1_2, s1_3], _ => exact ⟨s1_0, s1_1, s1_2, s1_3, rfl⟩
  have hv1 : v1 = .agg #[.int .i64 s1_0, .int .i64 s1_1, .int .i64 s1_2, .int .i64 s1_3] := hzs1
  obtain ⟨m0, r0⟩ := @tabRel (plainEnv (([] : Tabs).map (·.1))) ([] : Tabs) rfl W tables
  have ro0 : ∀ b o, (tabRw ([] : Tabs)).get b = some o → o.own = false := fun b o hb => by
    obtain ⟨t, _, rfl⟩ := tabRw_get hb
    rfl
  obtain ⟨m1, W1, x1, s1, M1, a1, b1_1, q1, l1⟩ := @add_deep H enc Try.prog (plainEnv (([] : Tabs).map (·.1))) m0 (tabRw ([] : Tabs)) W r0 ro0 24 59 Try.underlying24 6 3 (by kernel_rfl) (by kernel_rfl) (by omega) base c0 y0.1 y0.2 es0 ts0
  replace q1 : readRows W1 [.i64, .i64, .i64] x1 = some s1 := q1
  obtain ⟨m2, W2, x2, s2, M2, a2, b2_2, q2, l2⟩ := @add_deep H enc Try.prog (plainEnv (([] : Tabs).map (·.1))) m1 W1 W M1.rel M1.ro 29 28 Try.underlying29 6 4 (by kernel_rfl) (by kernel_rfl) (by omega) base v2 d2 p2 e2 t2
  replace q2 : readRows W2 [.i64, .i64, .i64, .i64] x2 = some s2 := q2
  obtain ⟨m3, W3, x3, s3, M3, a3, b3_3, q3, l3⟩ := @add_ints (plainEnv (([] : Tabs).map (·.1))) H enc Try.prog m2 W2 W M2.rel M2.ro 30 _ Try.underlying30 Try.underlying3 (by kernel_rfl) base v3 d3 p3 e3 t3
  have b1_2 : below W2.n x1 = true := below_mono M2.le x1 b1_1
  have b1_3 : below W3.n x1 = true := below_mono M3.le x1 b1_2
  have a1' : rv m3 x1 = c0 := by rw [rv_agree M3.ag x1 b1_2, rv_agree M2.ag x1 b1_1]; exact a1
  have q1' := (readRows_mono M3.get (readRows_mono M2.get q1))
  have b2_3 : below W3.n x2 = true := below_mono M3.le x2 b2_2
  have a2' : rv m3 x2 = v2 := by rw [rv_agree M3.ag x2 b2_2]; exact a2
  have q2' := (readRows_mono M3.get q2)
  have a3' : rv m3 x3 = v3 := by exact a3
  have q3' := q3
  have o1 : oneB x1 = true := (readRows_lst q1').2.1
  have oi : ∀ z : Int, oneB (RV.v (.int .i64 z)) = true := fun _ => rfl
  have hc := law_run (m := m3) (W := W3) (w := W) (args := [RV.agg [.v (.int .i64 z0_0), .v (.int .i64 z0_1), .v (.int .i64 z0_2), .v (.int .i64 z0_3), x1, .v (.int .i64 z0_4)], RV.agg [.v (.int .i64 s1_0), .v (.int .i64 s1_1), .v (.int .i64 s1_2), .v (.int .i64 s1_3)], x2, x3]) (ds := [.z z0_0, .z z0_1, .z z0_2, .z z0_3, .l s1, .z z0_4, .z s1_0, .z s1_1, .z s1_2, .z s1_3, .l s2, .l s3]) M3.rel
    (fun i o h => (M3.get i o (M2.get i o (M1.get i o h)))) (by
      show readR W3 [.agg [.i .i64, .i .i64, .i .i64, .i .i64, .l [.i64, .i64, .i64], .i .i64], .agg [.i .i64, .i .i64, .i .i64, .i .i64], .one (.l [.i64, .i64, .i64, .i64]), .one (.l [.i64])] _ = _
      simp only [readR, readSc, readScs, List.cons_append, List.nil_append, if_true, q1', q2', q3']) (show s2.length ≤ 9223372036854775807 ∧ s3.length ≤ 9223372036854775807 from ⟨l2, l3⟩)
    (by simp only [belowL, belowC, oi, o1, below, b1_3, b2_3, b3_3, Bool.and_self]) M3.ro
  have hargs : ([RV.agg [.v (.int .i64 z0_0), .v (.int .i64 z0_1), .v (.int .i64 z0_2), .v (.int .i64 z0_3), x1, .v (.int .i64 z0_4)], RV.agg [.v (.int .i64 s1_0), .v (.int .i64 s1_1), .v (.int .i64 s1_2), .v (.int .i64 s1_3)], x2, x3].map (rv m3)).toArray = #[v0, v1, v2, v3] := by
    simp only [List.map_cons, List.map_nil, a1', a2', a3', rv, rvL, hv0, hv1]
  rw [hargs] at hc
  refine hc.mono fun e W' ⟨he, hb⟩ => ?_
  subst he
  have hlt : ∀ x ∈ p0 ++ (p1 ++ (p2 ++ p3)), x.block < W.heap.size := fun x hx => hltb x (by simpa using hx)
  have st : ∀ {t : TypeId} {v : Value} {d : DataW H} {ps : List MemPlace}, Try.prog.readableRec t = true → t < Try.prog.types.size → DataW.Trod enc Try.prog W 0 (fun _ => true) true t v d ps → (∀ x ∈ ps, x ∈ p0 ++ (p1 ++ (p2 ++ p3))) →
      ∀ sp : Nat → Bool, (∀ x ∈ p0 ++ (p1 ++ (p2 ++ p3)), sp x.block = true) → DataW.Trod enc Try.prog W' 0 sp true t v d ps := fun hr hrow h hin sp hsp =>
    WideElems.Trod_stays laid_out hr hrow h (fun x hx => hb.same (hlt x (hin x hx))) (fun x hx => hsp x (hin x hx))
  refine ⟨_, rfl, post_new (pa := p0 ++ (p1 ++ (p2 ++ p3))) (pv := []) hW' (fun _ _ _ => trodAll_cons_mk (shut_bool Try.underlying4 _) trodAll_mk0) (fun sp hsp => ?_) (fun _ _ => rfl) (by simp) hb (ok_one (by kernel_rfl) rfl (okWide_bool_mk Try.underlying4 _))⟩
  have hsp' : ∀ x ∈ p0 ++ (p1 ++ (p2 ++ p3)), sp x.block = true := fun x hx => hsp x (by simpa using hx)
  show DataW.TrodAll enc Try.prog W' 0 sp true Try.f3.params.toList [v0, v1, v2, v3] [d0, d1, d2, d3] _
  rw [Try.params3]
  exact trodAll_mk4 (st read26 row26 t0 (fun x hx => by simp [hx]) sp hsp') (st read28 row28 t1 (fun x hx => by simp [hx]) sp hsp') (st read29 row29 t2 (fun x hx => by simp [hx]) sp hsp') (st read30 row30 t3 (fun x hx => by simp [hx]) sp hsp')

/-- a world for the witness: the settled one -/
def args0 : Array Value := #[.agg #[.int .i64 0, .int .i64 0, .int .i64 0, .int .i64 0, .slice none 0 0, .int .i64 0], .agg #[.int .i64 0, .int .i64 0, .int .i64 0, .int .i64 0], .slice none 0 0, .slice none 0 0]
noncomputable def laidWorld (os : Os) : World := World.holding Try.prog os ⟨#[], args0, []⟩
theorem laid_met (os : Os) : laidMet Try.prog Rows.coopDealsRow.laid ((laidWorld os).forCall (fun _ _ => 0) ⟨#[], args0, []⟩).memory :=
  laidMet_of_run' 8 (by kernel_rfl) (by kernel_rfl)
theorem reads (os : Os) {H : Type} (enc : TypeId × Value → H) : ∃ places, DataW.whole enc Try.prog ((laidWorld os).forCall (fun _ _ => 0) ⟨#[], args0, []⟩).memory Try.f3.params.toList Rows.coopDealsSpec.vars false args0.toList 8 =
    some ([.agg [.agg [.lit (.int .i64 0), .lit (.int .i64 0), .lit (.int .i64 0), .lit (.int .i64 0)], .nil, .lit (.int .i64 0)], .agg [.lit (.int .i64 0), .lit (.int .i64 0), .lit (.int .i64 0), .lit (.int .i64 0)], .nil, .nil], [], places) :=
  ⟨[], by kernel_rfl⟩

set_option maxRecDepth 100000 in
theorem lifted (os : Os) (started : os.Started) (H : Type) (enc : TypeId × Value → H) (F : Stop.Interp) :
    ReturnsInHanded {} Try.checked os 3 .any ((OpenSpec.ofChange Rows.coopDealsSpec).preRow enc Try.prog Try.f3 Rows.coopDealsRow.domain false Rows.coopDealsRow.laid) (((OpenSpec.ofChange Rows.coopDealsSpec).at F).post enc Try.prog Try.f3 false true false false) := by
  obtain ⟨places, hx⟩ := reads os enc
  refine returnsInHanded_of_row (C := Try.checked) (s := OpenSpec.ofChange Rows.coopDealsSpec) own started (by kernel_rfl) Try.func3
    (witness_row_at (enc := enc) (C := Try.checked) false (laidWorld os) args0 rfl (by kernel_rfl) (by kernel_rfl) (by kernel_rfl)
      (OpenSpec.preRow_of_cond 8 hx (by kernel_rfl) (fun k hk => by cases hk) (by kernel_rfl) (laid_met os))) ?_
  intro W base args ds gs before hval hW _ _ _ hL _ _
  exact contract H enc W base args ds gs before hval hW hL

theorem said : Rows.CoopDealsSaid :=
  OpenClaim.holds_of_cond 3 Try.f3 rfl rfl rfl rfl rfl rfl rfl ⟨rfl, rfl, rfl, rfl, rfl⟩ rfl rfl rfl rfl rfl (by kernel_rfl) Try.func3 (by kernel_rfl)
    (of_decide_eq_true (by kernel_rfl)) (by unfold Func.isWrapper; first | (rw [if_pos (by decide +kernel)]; kernel_rfl) | (rw [if_neg (by decide +kernel)]; exact ⟨rfl, rfl⟩))
    (fun os started H enc _ F => by rw [OpenClaim.pre_eq_preRow]; exact lifted os started H enc F)

end Go.Proofs.Ytfebjikidfcbcaa.coopDeals
