/-
  'homaruslaw01.GrowthChecks' returns true, whatever its arguments are, in whatever memory: which growths are valid, and the heat of days, are what the reference says, and nothing is changed.
  Conditions: the table of Go's library that it reads (math/bits) holds what the program's text lays, as the card says. The arguments are any that can be read.
  How: what has to be shown of the law's code is computed by the kernel, and shown by plain mathematics; the chapter's examples, which it runs at its end, are run by the kernel.
-/
import Derived.Test.YtgdnhmilhpnbjaaDoorSyP2
import Derived.Test.YtgdnhmilhpnbjaaDoorGcD
import Derived.Test.YtgdnhmilhpnbjaaDoorKnAwake
import Derived.Test.YtgdnhmilhpnbjaaDoorCards
import Derived.Test.YtgdnhmilhpnbjaaDoorTie
import Derived.WalkKit
import Derived.ProofKit
import Derived.OpenShut
import Derived.Carry
import Derived.Deep.DeepHandedRow
namespace Go.Proofs.YtgdnhmilhpnbjaaDoor.growthChecks
open Go Go.Rv Go.ChangeShapes Go.WideShapes Go.ChangeAt Go.RowKit Go.Proofs.YtgdnhmilhpnbjaaDoor.Kn

theorem awake_ok (W : RW) (h : hasTabs Kn.tab1 W) : @CallOk (plainEnv (Kn.tab1.map (·.1))) Tryd.prog 6 [] W (.v (.bool true)) W := by
  have hc := Kn.awake_run
  cases hq : @callF (memoEnv [0] known2) Tryd.prog (@evR (memoEnv [0] known2) Tryd.prog 3000) 6 [] (tabRw Kn.tab1) with
  | none => rw [hq] at hc; simp at hc
  | some q =>
    obtain ⟨y, W1⟩ := q
    rw [hq] at hc
    simp only [Option.map_some, Option.some.injEq] at hc
    subst hc
    obtain ⟨h1, _⟩ := @callF_ok (memoEnv [0] known2) Tryd.prog _ (own2 [0]) (@ev_ok (memoEnv [0] known2) Tryd.prog (own2 [0]) 3000) 6 [] (tabRw Kn.tab1) W1 (.v (.bool true)) hq
    exact lift_tab (tabs := Kn.tab1) rfl rfl h1 rfl h

theorem law_run {m : Nat → Rv.Loc} {W : RW} {w : World} (hr : @Rel (plainEnv (Kn.tab1.map (·.1))) m W w) (ht : hasTabs Kn.tab1 W)
    {args : List RV} {ds : List Dat} (hrd : readR W Sy.F_law.sh args = some ds) (hpre : Sy.F_law.pre ds) (hb : belowL W.n args = true) (hro : ∀ b o, W.get b = some o → o.own = false) :
    Calls Tryd.prog 3 (args.map (rv m)).toArray w fun e w' => e = .returned (.bool true) ∧ RowKit.Below w.heap.size w w' :=
  law_calls (F := Sy.F_law) Sy.named (by rfl) (by rfl) (by rfl) Sy.c_law Sy.ce_law (gA := 6) (tabs := Kn.tab1) Sy.l_law Sy.le_law awake_ok ⟨Tryd.f6, Tryd.func6, by kernel_rfl⟩ Sy.n_law hr ht hrd hpre hb hro

theorem own : ownKnob Tryd.prog.godebug = none := by kernel_rfl
theorem gn64 : Tryd.prog.globalNamed "math/bits.deBruijn64tab" = some 0 := by kernel_rfl
theorem gt64 : (Tryd.prog.globals[0]?).map (·.type) = some 111 := by kernel_rfl
theorem cells64 : Tryd.prog.cellsOf 111 = 64 := by kernel_rfl
theorem cellsU8 : Tryd.prog.cellsOf 5 = 1 := by kernel_rfl

/-- what the row lists is what the evaluator was given -/
theorem tables {W : World} (h : laidMetH Tryd.prog Rows.growthChecksRow.laid W) : TabsAt Kn.tab1 W := by
  have h64 := one_of (name := "math/bits.deBruijn64tab") (d := Rows.laid_math_bits_deBruijn64tab) h (by kernel_rfl) (by kernel_rfl)
  have t64 : Lib.TabIs Tryd.prog W "math/bits.deBruijn64tab" .u8 Kn.g64 := Lib.tabIs_of_head (rest := []) gn64 gt64 Tryd.underlying111 Tryd.underlying5 cellsU8 cells64 h64
  intro t ht
  simp only [Kn.tab1, List.mem_cons, List.not_mem_nil, or_false] at ht
  subst ht
  exact tab_at gn64 t64

instance envI : Env := plainEnv (Kn.tab1.map (·.1))

theorem laid_out : laidOutB Tryd.prog = true := by kernel_rfl
theorem readG : Tryd.prog.readableRec 24 = true := by kernel_rfl
theorem readT : Tryd.prog.readableRec 28 = true := by kernel_rfl
theorem readZ : Tryd.prog.readableRec 3 = true := by kernel_rfl
theorem readS : Tryd.prog.readableRec 29 = true := by kernel_rfl
theorem readI : Tryd.prog.readableRec 30 = true := by kernel_rfl
theorem rowG : 24 < Tryd.prog.types.size := of_decide_eq_true (by kernel_rfl)
theorem rowT : 28 < Tryd.prog.types.size := of_decide_eq_true (by kernel_rfl)
theorem rowZ : 3 < Tryd.prog.types.size := of_decide_eq_true (by kernel_rfl)
theorem rowS : 29 < Tryd.prog.types.size := of_decide_eq_true (by kernel_rfl)
theorem rowI : 30 < Tryd.prog.types.size := of_decide_eq_true (by kernel_rfl)

set_option maxRecDepth 100000 in
theorem contract (H : Type) (enc : TypeId × Value → H) (W : World) (base : Nat) (args : Array Value) (ds gs : List (DataW H)) (before : List MemPlace)
    (hval : ∀ (j : Nat) t v, Tryd.f3.params[j]? = some t → args[j]? = some v → Value.okWide Tryd.prog W .any base t v)
    (hW : DataW.Whole enc Tryd.prog Tryd.f3.params.toList Rows.growthChecksSpec.vars false W args.toList ds gs before) (hL : laidMetH Tryd.prog Rows.growthChecksRow.laid W) :
    Calls Tryd.prog 3 args W fun e W' => ∃ v, e = .returned v ∧ Rows.growthChecksSpec.post enc Tryd.prog Tryd.f3 false true false false W args v W' := by
  have hW' := hW
  have hltb := hW.lt
  obtain ⟨p, q, hA0, hV, rfl, hfz, hnd⟩ := hW
  have hA : DataW.TrodAll enc Tryd.prog W 0 (fun _ => true) true Tryd.f3.params.toList args.toList ds p := hA0
  rw [Tryd.params3] at hA hval
  obtain ⟨v0, v1, v2, v3, v4, d0, d1, d2, d3, d4, p0, p1, p2, p3, p4, rfl, rfl, rfl, t0, t1, t2, t3, t4⟩ := trodAll_five hA
  obtain ⟨rfl, rfl⟩ := trodVars_none hV
  clear hA0 hA
  have e0 := hval 0 _ v0 rfl rfl
  have e1 := hval 1 _ v1 rfl rfl
  have e2 := hval 2 _ v2 rfl rfl
  have e3 := hval 3 _ v3 rfl rfl
  have e4 := hval 4 _ v4 rfl rfl
  obtain ⟨c0, c1, c2, y0, y1, y2, n, hv0, _, _, g0, g1, g2⟩ := Go.Joins.open_agg3 Tryd.underlying24 (by kernel_rfl) (by kernel_rfl) e0 t0
  obtain ⟨z0, h0, _⟩ := DataW.trod_int Tryd.underlying3 g0
  obtain ⟨z1, h1, _⟩ := DataW.trod_int Tryd.underlying3 g1
  simp only [List.cons.injEq, and_true] at h0 h1
  have e0' := e0
  rw [hv0] at e0'
  have es := field_okWide Tryd.underlying24 (ts := [3, 3, 22]) (by kernel_rfl) e0' (i := 2) (v := c2) rfl rfl Tryd.underlying22
  obtain ⟨sb, sl, sc, hc2⟩ := okWide_slice Tryd.underlying22 es
  have ts : DataW.Trod enc Tryd.prog W 0 (fun _ => true) true 22 c2 y2.1 y2.2 := ⟨n, by rw [hc2] at g2 ⊢; exact g2⟩
  obtain ⟨zs, hzl, hzs⟩ := agg_ints Tryd.underlying28 (d := 6) (n := 5) (by kernel_rfl) (by kernel_rfl) e1 t1
  obtain ⟨s0, s1, s2, s3, s4, rfl⟩ : ∃ s0 s1 s2 s3 s4, zs = [s0, s1, s2, s3, s4] := by
    match zs, hzl with
    | [s0, s1, s2, s3, s4], _ => exact ⟨s0, s1, s2, s3, s4, rfl⟩
  have hv1 : v1 = .agg #[.int .i64 s0, .int .i64 s1, .int .i64 s2, .int .i64 s3, .int .i64 s4] := hzs
  obtain ⟨k, hk⟩ := okWide_int Tryd.underlying3 e2
  obtain ⟨m0, r0⟩ := @tabRel (plainEnv (Kn.tab1.map (·.1))) Kn.tab1 rfl W (tables hL)
  have ro0 : ∀ b o, (tabRw Kn.tab1).get b = some o → o.own = false := fun b o hb => by
    obtain ⟨t, _, rfl⟩ := tabRw_get hb
    rfl
  obtain ⟨m1, W1, x1, r1, M1, a1, b1, q1, l1⟩ := @add_deep H enc Tryd.prog (plainEnv (Kn.tab1.map (·.1))) m0 (tabRw Kn.tab1) W r0 ro0 22 28 Tryd.underlying22 6 5 (by kernel_rfl) (by kernel_rfl) (by omega) base c2 y2.1 y2.2 es ts
  obtain ⟨m2, W2, x2, r2, M2, a2, b2, q2, l2⟩ := @add_pairs (plainEnv (Kn.tab1.map (·.1))) H enc Tryd.prog m1 W1 W M1.rel M1.ro 29 _ _ _ Tryd.underlying29 Tryd.underlying26 (by kernel_rfl) rfl rfl (by kernel_rfl) (by kernel_rfl) Tryd.underlying3 Tryd.underlying3 base v3 d3 p3 e3 t3
  obtain ⟨m3, W3, x3, r3, M3, a3, b3, q3, l3⟩ := @add_ints (plainEnv (Kn.tab1.map (·.1))) H enc Tryd.prog m2 W2 W M2.rel M2.ro 30 _ Tryd.underlying30 Tryd.underlying3 (by kernel_rfl) base v4 d4 p4 e4 t4
  have a1' : rv m3 x1 = c2 := by rw [rv_agree M3.ag x1 (below_mono M2.le x1 b1), rv_agree M2.ag x1 b1]; exact a1
  have a2' : rv m3 x2 = v3 := by rw [rv_agree M3.ag x2 b2]; exact a2
  have q1' : readRows W3 [.i64, .i64, .i64, .i64, .i64] x1 = some r1 := readRows_mono M3.get (readRows_mono M2.get q1)
  have q2' := readRows_mono M3.get q2
  have o1 : oneB x1 = true := (readRows_lst q1').2.1
  have oi : ∀ z : Int, oneB (RV.v (.int .i64 z)) = true := fun _ => rfl
  have hc := law_run (m := m3) (W := W3) (w := W) (args := [.agg [.v (.int .i64 z0), .v (.int .i64 z1), x1], .agg [.v (.int .i64 s0), .v (.int .i64 s1), .v (.int .i64 s2), .v (.int .i64 s3), .v (.int .i64 s4)], .v (.int .i64 k), x2, x3])
    (ds := [.z z0, .z z1, .l r1, .z s0, .z s1, .z s2, .z s3, .z s4, .z k, .l r2, .l r3]) M3.rel
    (fun i o h => M3.get i o (M2.get i o (M1.get i o h))) (by
      show readR W3 [.agg [.i .i64, .i .i64, .l [.i64, .i64, .i64, .i64, .i64]], .agg [.i .i64, .i .i64, .i .i64, .i .i64, .i .i64], .one (.i .i64), .one (.l [.i64, .i64]), .one (.l [.i64])] _ = _
      simp only [readR, readScs, readSc, if_true, q1', q2', q3, List.cons_append, List.nil_append]) (show r3.length ≤ 9223372036854775807 from l3)
    (by simp only [belowL, below, belowC, oi, o1, below_mono M3.le x1 (below_mono M2.le x1 b1), below_mono M3.le x2 b2, b3, Bool.and_self]) M3.ro
  have hargs : ([RV.agg [.v (.int .i64 z0), .v (.int .i64 z1), x1], .agg [.v (.int .i64 s0), .v (.int .i64 s1), .v (.int .i64 s2), .v (.int .i64 s3), .v (.int .i64 s4)], .v (.int .i64 k), x2, x3].map (rv m3)).toArray = #[v0, v1, v2, v3, v4] := by
    simp only [List.map_cons, List.map_nil, a1', a2', a3, rv, rvL, hv0, h0, h1, hv1, hk]
  rw [hargs] at hc
  refine hc.mono fun e W' ⟨he, hb⟩ => ?_
  subst he
  have hlt : ∀ x ∈ p0 ++ (p1 ++ (p2 ++ (p3 ++ p4))), x.block < W.heap.size := fun x hx => hltb x (by simpa using hx)
  have st : ∀ {t : TypeId} {v : Value} {d : DataW H} {ps : List MemPlace}, Tryd.prog.readableRec t = true → t < Tryd.prog.types.size → DataW.Trod enc Tryd.prog W 0 (fun _ => true) true t v d ps → (∀ x ∈ ps, x ∈ p0 ++ (p1 ++ (p2 ++ (p3 ++ p4)))) →
      ∀ sp : Nat → Bool, (∀ x ∈ p0 ++ (p1 ++ (p2 ++ (p3 ++ p4))), sp x.block = true) → DataW.Trod enc Tryd.prog W' 0 sp true t v d ps := fun hr hrow h hin sp hsp =>
    WideElems.Trod_stays laid_out hr hrow h (fun x hx => hb.same (hlt x (hin x hx))) (fun x hx => hsp x (hin x hx))
  refine ⟨_, rfl, post_new (pa := p0 ++ (p1 ++ (p2 ++ (p3 ++ p4)))) (pv := []) hW' (fun _ _ _ => trodAll_cons_mk (shut_bool Tryd.underlying4 _) trodAll_mk0) (fun sp hsp => ?_) (fun _ _ => rfl) (by simp) hb (ok_one (by kernel_rfl) rfl (okWide_bool_mk Tryd.underlying4 _))⟩
  have hsp' : ∀ x ∈ p0 ++ (p1 ++ (p2 ++ (p3 ++ p4))), sp x.block = true := fun x hx => hsp x (by simpa using hx)
  show DataW.TrodAll enc Tryd.prog W' 0 sp true Tryd.f3.params.toList [v0, v1, v2, v3, v4] [d0, d1, d2, d3, d4] _
  rw [Tryd.params3]
  exact trodAll_mk5 (st readG rowG t0 (fun x hx => by simp [hx]) sp hsp') (st readT rowT t1 (fun x hx => by simp [hx]) sp hsp') (st readZ rowZ t2 (fun x hx => by simp [hx]) sp hsp') (st readS rowS t3 (fun x hx => by simp [hx]) sp hsp') (st readI rowI t4 (fun x hx => by simp [hx]) sp hsp')

/-- a world for the witness: the settled one, the table holding what its initialiser lays -/
noncomputable def put (h : Array Obj) (g : Nat) (k : IntKind) (zs : List Int) : Array Obj := h.modify g fun
  | .cells _ t frozen => .cells (zs.map fun z => Value.int k z).toArray t frozen
  | o => o
def args0 : Array Value := #[.agg #[.int .i64 0, .int .i64 0, .slice none 0 0], .agg #[.int .i64 0, .int .i64 0, .int .i64 0, .int .i64 0, .int .i64 0], .int .i64 0, .slice none 0 0, .slice none 0 0]
noncomputable def laidWorld (os : Os) : World :=
  { World.holding Tryd.prog os ⟨#[], args0, []⟩ with heap := put (World.holding Tryd.prog os ⟨#[], args0, []⟩).heap 0 .u8 Kn.g64 }
theorem laid_met (os : Os) : laidMet Tryd.prog Rows.growthChecksRow.laid ((laidWorld os).forCall (fun _ _ => 0) ⟨#[], args0, []⟩).memory :=
  laidMet_of_run' 8 (by kernel_rfl) (by kernel_rfl)
theorem reads (os : Os) {H : Type} (enc : TypeId × Value → H) : ∃ places, DataW.whole enc Tryd.prog ((laidWorld os).forCall (fun _ _ => 0) ⟨#[], args0, []⟩).memory Tryd.f3.params.toList Rows.growthChecksSpec.vars false args0.toList 8 =
    some ([.agg [.lit (.int .i64 0), .lit (.int .i64 0), .nil], .agg [.lit (.int .i64 0), .agg [.lit (.int .i64 0), .lit (.int .i64 0)], .agg [.lit (.int .i64 0), .lit (.int .i64 0)]], .lit (.int .i64 0), .nil, .nil], [], places) :=
  ⟨[], by kernel_rfl⟩

set_option maxRecDepth 100000 in
theorem lifted (os : Os) (started : os.Started) (H : Type) (enc : TypeId × Value → H) (F : Stop.Interp) :
    ReturnsInHanded {} Tryd.checked os 3 .any ((OpenSpec.ofChange Rows.growthChecksSpec).preRow enc Tryd.prog Tryd.f3 Rows.growthChecksRow.domain false Rows.growthChecksRow.laid) (((OpenSpec.ofChange Rows.growthChecksSpec).at F).post enc Tryd.prog Tryd.f3 false true false false) := by
  obtain ⟨places, hx⟩ := reads os enc
  refine returnsInHanded_of_row (C := Tryd.checked) (s := OpenSpec.ofChange Rows.growthChecksSpec) own started (by kernel_rfl) Tryd.func3
    (witness_row_at (enc := enc) (C := Tryd.checked) false (laidWorld os) args0 rfl (by kernel_rfl) (by kernel_rfl) (by kernel_rfl)
      (OpenSpec.preRow_of_cond 8 hx (by kernel_rfl) (fun k hk => by cases hk) (by kernel_rfl) (laid_met os))) ?_
  intro W base args ds gs before hval hW _ _ _ hL _ _
  exact contract H enc W base args ds gs before hval hW hL

theorem said : Rows.GrowthChecksSaid :=
  OpenClaim.holds_of_cond 3 Tryd.f3 rfl rfl rfl rfl rfl rfl rfl ⟨rfl, rfl, rfl, rfl, rfl⟩ rfl rfl rfl rfl rfl (by kernel_rfl) Tryd.func3 (by kernel_rfl)
    (of_decide_eq_true (by kernel_rfl)) (by unfold Func.isWrapper; first | (rw [if_pos (by decide +kernel)]; kernel_rfl) | (rw [if_neg (by decide +kernel)]; exact ⟨rfl, rfl⟩))
    (fun os started H enc _ F => by rw [OpenClaim.pre_eq_preRow]; exact lifted os started H enc F)

theorem wantsG : Tryd.pinned.checked.prog.wantsStandIn 24 = false := by kernel_rfl
theorem wantsT : Tryd.pinned.checked.prog.wantsStandIn 28 = false := by kernel_rfl
theorem wantsZ : Tryd.pinned.checked.prog.wantsStandIn 3 = false := by kernel_rfl
theorem wantsS : Tryd.pinned.checked.prog.wantsStandIn 29 = false := by kernel_rfl
theorem wantsI : Tryd.pinned.checked.prog.wantsStandIn 30 = false := by kernel_rfl

/-- no parameter wants a stand-in -/
theorem plain (f : FuncId) (fn : Func) (hf : Tryd.pinned.checked.prog.funcNamed "homarus/homaruslaw01.GrowthChecks" = some f) (hfn : Tryd.pinned.checked.prog.funcs[f]? = some fn) :
    false = Tryd.pinned.checked.prog.looks [] ∧ ∀ (j : Nat) t, fn.params[j]? = some t → Tryd.pinned.checked.prog.wantsStandIn t = false := by
  obtain rfl : f = 3 := Option.some.inj ((show Tryd.prog.funcNamed "homarus/homaruslaw01.GrowthChecks" = some 3 by kernel_rfl).symm.trans hf) |>.symm
  obtain rfl : fn = Tryd.f3 := (Option.some.inj (Tryd.func3.symm.trans hfn)).symm
  refine ⟨by kernel_rfl, fun j t ht => ?_⟩
  rw [Tryd.params3] at ht
  rcases j with _ | _ | _ | _ | _ | j
  · obtain rfl : 24 = t := Option.some.inj ht
    exact wantsG
  · obtain rfl : 28 = t := Option.some.inj ht
    exact wantsT
  · obtain rfl : 3 = t := Option.some.inj ht
    exact wantsZ
  · obtain rfl : 29 = t := Option.some.inj ht
    exact wantsS
  · obtain rfl : 30 = t := Option.some.inj ht
    exact wantsI
  · simp at ht

theorem card : Rows.GrowthChecksCardSaid :=
  Claim7.holds_tied_plain_at .later [] _ _ _ _ said (fun _ h => by cases h) (by kernel_rfl) (fun _ h => by cases h) growthChecks_row_tie rfl ⟨rfl, rfl⟩ (by kernel_rfl) rfl plain (by kernel_rfl)
end Go.Proofs.YtgdnhmilhpnbjaaDoor.growthChecks
