/-
  'homaruslaw04.CatchCounts' returns true, whatever its arguments are, in whatever memory: how many animals there may be of each class, what they weigh, and which errors there are, are what the reference says, and nothing is changed.
  Conditions: the table of Go's library that it reads (math/bits) holds what the program's text lays, as the card says. The arguments are any that can be read and are together of bulk at most 1048576.
  How: what has to be shown of the law's code is computed by the kernel, and shown by plain mathematics; the chapter's examples, which it runs at its end, are run by the kernel.
-/
import Derived.Test.YthlodlileecmdaaDoorSyP2
import Derived.Test.YthlodlileecmdaaDoorCtH
import Derived.Test.YthlodlileecmdaaDoorCtAwake
import Derived.Test.YthlodlileecmdaaDoorCards
import Derived.Test.YthlodlileecmdaaDoorTie
import Derived.WalkKit
import Derived.ProofKit
import Derived.OpenShut
import Derived.Carry
import Derived.Deep.DeepHandedRow
namespace Go.Proofs.YthlodlileecmdaaDoor.catchCounts
open Go Go.Rv Go.ChangeShapes Go.WideShapes Go.ChangeAt Go.RowKit Go.Proofs.YthlodlileecmdaaDoor.Kn

theorem law_run {m : Nat → Rv.Loc} {W : RW} {w : World} (hr : @Rel (plainEnv (Kn.tab1.map (·.1))) m W w) (ht : hasTabs Kn.tab1 W)
    {args : List RV} {ds : List Dat} (hrd : readR W Sy.F_law.sh args = some ds) (hpre : Sy.F_law.pre ds) (hb : belowL W.n args = true) (hro : ∀ b o, W.get b = some o → o.own = false) :
    Calls Tryd.prog 4 (args.map (rv m)).toArray w fun e w' => e = .returned (.bool true) ∧ RowKit.Below w.heap.size w w' :=
  law_calls (F := Sy.F_law) Sy.named (by rfl) (by rfl) (by rfl) Sy.c_law Sy.ce_law (gA := 20) (tabs := Kn.tab1) Sy.l_law Sy.le_law Kn.awake_ok ⟨Tryd.f20, Tryd.func20, by kernel_rfl⟩ Sy.n_law hr ht hrd hpre hb hro

theorem own : ownKnob Tryd.prog.godebug = none := by kernel_rfl
theorem gn32 : Tryd.prog.globalNamed "math/bits.deBruijn32tab" = some 1 := by kernel_rfl
theorem gt32 : (Tryd.prog.globals[1]?).map (·.type) = some 164 := by kernel_rfl
theorem cells32 : Tryd.prog.cellsOf 164 = 32 := by kernel_rfl
theorem cellsU8 : Tryd.prog.cellsOf 5 = 1 := by kernel_rfl

/-- what the row lists is what the evaluator was given -/
theorem tables {W : World} (h : laidMetH Tryd.prog Rows.catchCountsRow.laid W) : TabsAt Kn.tab1 W := by
  have h32 := one_of (name := "math/bits.deBruijn32tab") (d := Rows.laid_math_bits_deBruijn32tab) h (by kernel_rfl) (by kernel_rfl)
  have t32 : Lib.TabIs Tryd.prog W "math/bits.deBruijn32tab" .u8 Kn.g32 := Lib.tabIs_of_head (rest := []) gn32 gt32 Tryd.underlying164 Tryd.underlying5 cellsU8 cells32 h32
  intro t ht
  simp only [Kn.tab1, List.mem_cons, List.not_mem_nil, or_false] at ht
  subst ht
  exact tab_at gn32 t32

instance envI : Env := plainEnv (Kn.tab1.map (·.1))

theorem laid_out : laidOutB Tryd.prog = true := by kernel_rfl
theorem readI : Tryd.prog.readableRec 28 = true := by kernel_rfl
theorem readZ : Tryd.prog.readableRec 3 = true := by kernel_rfl
theorem readC : Tryd.prog.readableRec 27 = true := by kernel_rfl
theorem readL : Tryd.prog.readableRec 34 = true := by kernel_rfl
theorem rowI : 28 < Tryd.prog.types.size := of_decide_eq_true (by kernel_rfl)
theorem rowZ : 3 < Tryd.prog.types.size := of_decide_eq_true (by kernel_rfl)
theorem rowC : 27 < Tryd.prog.types.size := of_decide_eq_true (by kernel_rfl)
theorem rowL : 34 < Tryd.prog.types.size := of_decide_eq_true (by kernel_rfl)

theorem bulk_one {H : Type} (d : DataW H) : 1 ≤ Rows.uptoBulk d := by
  cases d with
  | lit l => cases l <;> simp [Rows.uptoBulk]
  | nil => simp [Rows.uptoBulk]
  | ptr d => simp [Rows.uptoBulk]
  | slice elems spare => simp [Rows.uptoBulk]
  | agg parts => simp [Rows.uptoBulk]
  | iface t d => simp [Rows.uptoBulk]
  | map entries => simp [Rows.uptoBulk]
  | held h => simp [Rows.uptoBulk]
theorem bulk_len {H : Type} (l : List (DataW H)) : l.length ≤ Rows.uptoBulkAll l := by
  induction l with
  | nil => simp [Rows.uptoBulkAll]
  | cons x r ih => have := bulk_one x; simp only [Rows.uptoBulkAll, List.length_cons]; omega
set_option maxRecDepth 100000 in
/-- a list is as long as the bound says -/
theorem bulk_rows {H : Type} {enc : TypeId × Value → H} {W : World} {t el : TypeId} (hu : Tryd.prog.underlying t = some (.slice el)) {base : Nat} {v : Value} {d : DataW H} {p : List MemPlace} (hval : Value.okWide Tryd.prog W .any base t v)
    (hd : DataW.Trod enc Tryd.prog W 0 (fun _ => true) true t v d p) {W' : RW} {ks : List IntKind} {x : RV} {rows : List (List Int)} (h : readRows W' ks x = some rows) {m : Nat → Rv.Loc} (hv : rv m x = v) : rows.length ≤ Rows.uptoBulk d := by
  obtain ⟨b, len, cap, rfl⟩ := okWide_slice hu hval
  have hl := rows_len h hv
  rcases trod_len hu hd with h0 | ⟨el, sp, rfl, he⟩
  · have := bulk_one d
    omega
  · have := bulk_len el
    simp only [Rows.uptoBulk]
    omega

set_option maxRecDepth 100000 in
theorem contract (H : Type) (enc : TypeId × Value → H) (W : World) (base : Nat) (args : Array Value) (ds gs : List (DataW H)) (before : List MemPlace)
    (hval : ∀ (j : Nat) t v, Tryd.f4.params[j]? = some t → args[j]? = some v → Value.okWide Tryd.prog W .any base t v)
    (hW : DataW.Whole enc Tryd.prog Tryd.f4.params.toList Rows.catchCountsSpec.vars false W args.toList ds gs before) (hk : Rows.uptoSmall H (ds ++ gs) = true) (hL : laidMetH Tryd.prog Rows.catchCountsRow.laid W) :
    Calls Tryd.prog 4 args W fun e W' => ∃ v, e = .returned v ∧ Rows.catchCountsSpec.post enc Tryd.prog Tryd.f4 false true false false W args v W' := by
  have hW' := hW
  have hltb := hW.lt
  obtain ⟨p, q, hA0, hV, rfl, hfz, hnd⟩ := hW
  have hA : DataW.TrodAll enc Tryd.prog W 0 (fun _ => true) true Tryd.f4.params.toList args.toList ds p := hA0
  rw [Tryd.params4] at hA hval
  obtain ⟨v0, v1, v2, v3, v4, d0, d1, d2, d3, d4, p0, p1, p2, p3, p4, rfl, rfl, rfl, t0, t1, t2, t3, t4⟩ := trodAll_five hA
  obtain ⟨rfl, rfl⟩ := trodVars_none hV
  clear hA0 hA
  have hbk : Rows.uptoBulkAll ([d0, d1, d2, d3, d4] ++ []) ≤ 1048576 := of_decide_eq_true hk
  simp only [List.append_nil, Rows.uptoBulkAll] at hbk
  have e0 := hval 0 _ v0 rfl rfl
  have e1 := hval 1 _ v1 rfl rfl
  have e2 := hval 2 _ v2 rfl rfl
  have e3 := hval 3 _ v3 rfl rfl
  have e4 := hval 4 _ v4 rfl rfl
  obtain ⟨k, hk1⟩ := okWide_int Tryd.underlying3 e1
  obtain ⟨zs, hzl, hzs⟩ := agg_ints Tryd.underlying27 (d := 6) (n := 6) (by kernel_rfl) (by kernel_rfl) e3 t3
  obtain ⟨s0, s1, s2, s3, s4, s5, rfl⟩ : ∃ s0 s1 s2 s3 s4 s5, zs = [s0, s1, s2, s3, s4, s5] := by
    match zs, hzl with
    | [s0, s1, s2, s3, s4, s5], _ => exact ⟨s0, s1, s2, s3, s4, s5, rfl⟩
  have hv3 : v3 = .agg #[.int .i64 s0, .int .i64 s1, .int .i64 s2, .int .i64 s3, .int .i64 s4, .int .i64 s5] := hzs
  obtain ⟨m0, r0⟩ := @tabRel (plainEnv (Kn.tab1.map (·.1))) Kn.tab1 rfl W (tables hL)
  have ro0 : ∀ b o, (tabRw Kn.tab1).get b = some o → o.own = false := fun b o hb => by
    obtain ⟨t, _, rfl⟩ := tabRw_get hb
    rfl
  obtain ⟨m1, W1, x1, r1, M1, a1, b1, q1, l1⟩ := @add_ints (plainEnv (Kn.tab1.map (·.1))) H enc Tryd.prog m0 (tabRw Kn.tab1) W r0 ro0 28 _ Tryd.underlying28 Tryd.underlying3 (by kernel_rfl) base v0 d0 p0 e0 t0
  obtain ⟨m2, W2, x2, r2, M2, a2, b2, q2, l2⟩ := @add_deep H enc Tryd.prog (plainEnv (Kn.tab1.map (·.1))) m1 W1 W M1.rel M1.ro 34 27 Tryd.underlying34 6 6 (by kernel_rfl) (by kernel_rfl) (by omega) base v2 d2 p2 e2 t2
  obtain ⟨m3, W3, x3, r3, M3, a3, b3, q3, l3⟩ := @add_ints (plainEnv (Kn.tab1.map (·.1))) H enc Tryd.prog m2 W2 W M2.rel M2.ro 28 _ Tryd.underlying28 Tryd.underlying3 (by kernel_rfl) base v4 d4 p4 e4 t4
  have n1 := bulk_rows Tryd.underlying28 e0 t0 q1 a1
  have n2 := bulk_rows Tryd.underlying34 e2 t2 q2 a2
  have n3 := bulk_rows Tryd.underlying28 e4 t4 q3 a3
  have hpre : r1.length ≤ 1048576 ∧ r2.length ≤ 1048576 ∧ r3.length ≤ 1048576 := by omega
  have a1' : rv m3 x1 = v0 := by rw [rv_agree M3.ag x1 (below_mono M2.le x1 b1), rv_agree M2.ag x1 b1]; exact a1
  have a2' : rv m3 x2 = v2 := by rw [rv_agree M3.ag x2 b2]; exact a2
  have q1' := readRows_mono M3.get (readRows_mono M2.get q1)
  have q2' : readRows W3 [.i64, .i64, .i64, .i64, .i64, .i64] x2 = some r2 := readRows_mono M3.get q2
  have oi : ∀ z : Int, oneB (RV.v (.int .i64 z)) = true := fun _ => rfl
  have hc := law_run (m := m3) (W := W3) (w := W) (args := [x1, .v (.int .i64 k), x2, .agg [.v (.int .i64 s0), .v (.int .i64 s1), .v (.int .i64 s2), .v (.int .i64 s3), .v (.int .i64 s4), .v (.int .i64 s5)], x3])
    (ds := [.l r1, .z k, .l r2, .z s0, .z s1, .z s2, .z s3, .z s4, .z s5, .l r3]) M3.rel
    (fun i o h => M3.get i o (M2.get i o (M1.get i o h))) (by
      show readR W3 [.one (.l [.i64]), .one (.i .i64), .one (.l [.i64, .i64, .i64, .i64, .i64, .i64]), .agg [.i .i64, .i .i64, .i .i64, .i .i64, .i .i64, .i .i64], .one (.l [.i64])] _ = _
      simp only [readR, readScs, readSc, if_true, q1', q2', q3, List.cons_append, List.nil_append]) hpre
    (by simp only [belowL, below, belowC, oi, below_mono M3.le x1 (below_mono M2.le x1 b1), below_mono M3.le x2 b2, b3, Bool.and_self]) M3.ro
  have hargs : ([x1, .v (.int .i64 k), x2, RV.agg [.v (.int .i64 s0), .v (.int .i64 s1), .v (.int .i64 s2), .v (.int .i64 s3), .v (.int .i64 s4), .v (.int .i64 s5)], x3].map (rv m3)).toArray = #[v0, v1, v2, v3, v4] := by
    simp only [List.map_cons, List.map_nil, a1', a2', a3, rv, rvL, hv3, hk1]
  rw [hargs] at hc
  refine hc.mono fun e W' ⟨he, hb⟩ => ?_
  subst he
  have hlt : ∀ x ∈ p0 ++ (p1 ++ (p2 ++ (p3 ++ p4))), x.block < W.heap.size := fun x hx => hltb x (by simpa using hx)
  have st : ∀ {t : TypeId} {v : Value} {d : DataW H} {ps : List MemPlace}, Tryd.prog.readableRec t = true → t < Tryd.prog.types.size → DataW.Trod enc Tryd.prog W 0 (fun _ => true) true t v d ps → (∀ x ∈ ps, x ∈ p0 ++ (p1 ++ (p2 ++ (p3 ++ p4)))) →
      ∀ sp : Nat → Bool, (∀ x ∈ p0 ++ (p1 ++ (p2 ++ (p3 ++ p4))), sp x.block = true) → DataW.Trod enc Tryd.prog W' 0 sp true t v d ps := fun hr hrow h hin sp hsp =>
    WideElems.Trod_stays laid_out hr hrow h (fun x hx => hb.same (hlt x (hin x hx))) (fun x hx => hsp x (hin x hx))
  refine ⟨_, rfl, post_new (pa := p0 ++ (p1 ++ (p2 ++ (p3 ++ p4)))) (pv := []) hW' (fun _ _ _ => trodAll_cons_mk (shut_bool Tryd.underlying4 _) trodAll_mk0) (fun sp hsp => ?_) (fun _ _ => rfl) (by simp) hb (ok_one (by kernel_rfl) rfl (okWide_bool_mk Tryd.underlying4 _))⟩
  have hsp' : ∀ x ∈ p0 ++ (p1 ++ (p2 ++ (p3 ++ p4))), sp x.block = true := fun x hx => hsp x (by simpa using hx)
  show DataW.TrodAll enc Tryd.prog W' 0 sp true Tryd.f4.params.toList [v0, v1, v2, v3, v4] [d0, d1, d2, d3, d4] _
  rw [Tryd.params4]
  exact trodAll_mk5 (st readI rowI t0 (fun x hx => by simp [hx]) sp hsp') (st readZ rowZ t1 (fun x hx => by simp [hx]) sp hsp') (st readL rowL t2 (fun x hx => by simp [hx]) sp hsp') (st readC rowC t3 (fun x hx => by simp [hx]) sp hsp') (st readI rowI t4 (fun x hx => by simp [hx]) sp hsp')

/-- a world for the witness: the settled one, the table holding what its initialiser lays -/
noncomputable def put (h : Array Obj) (g : Nat) (k : IntKind) (zs : List Int) : Array Obj := h.modify g fun
  | .cells _ t frozen => .cells (zs.map fun z => Value.int k z).toArray t frozen
  | o => o
def args0 : Array Value := #[.slice none 0 0, .int .i64 0, .slice none 0 0, .agg #[.int .i64 0, .int .i64 0, .int .i64 0, .int .i64 0, .int .i64 0, .int .i64 0], .slice none 0 0]
noncomputable def laidWorld (os : Os) : World :=
  { World.holding Tryd.prog os ⟨#[], args0, []⟩ with heap := put (World.holding Tryd.prog os ⟨#[], args0, []⟩).heap 1 .u8 Kn.g32 }
theorem laid_met (os : Os) : laidMet Tryd.prog Rows.catchCountsRow.laid ((laidWorld os).forCall (fun _ _ => 0) ⟨#[], args0, []⟩).memory :=
  laidMet_of_run' 8 (by kernel_rfl) (by kernel_rfl)
theorem reads (os : Os) {H : Type} (enc : TypeId × Value → H) : ∃ places, DataW.whole enc Tryd.prog ((laidWorld os).forCall (fun _ _ => 0) ⟨#[], args0, []⟩).memory Tryd.f4.params.toList Rows.catchCountsSpec.vars false args0.toList 8 =
    some ([.nil, .lit (.int .i64 0), .nil, .agg [.agg [.lit (.int .i64 0), .lit (.int .i64 0)], .lit (.int .i64 0), .lit (.int .i64 0), .lit (.int .i64 0), .lit (.int .i64 0)], .nil], [], places) :=
  ⟨[], by kernel_rfl⟩

set_option maxRecDepth 100000 in
theorem lifted (os : Os) (started : os.Started) (H : Type) (enc : TypeId × Value → H) (F : Stop.Interp) :
    ReturnsInHanded {} Tryd.checked os 4 .any ((Rows.OpenSpec.upto Rows.catchCountsSpec).preRow enc Tryd.prog Tryd.f4 Rows.catchCountsUptoRow.domain false Rows.catchCountsUptoRow.laid) (((Rows.OpenSpec.upto Rows.catchCountsSpec).at F).post enc Tryd.prog Tryd.f4 false true false false) := by
  obtain ⟨places, hx⟩ := reads os enc
  refine returnsInHanded_of_row (C := Tryd.checked) (s := Rows.OpenSpec.upto Rows.catchCountsSpec) own started (by kernel_rfl) Tryd.func4
    (witness_row_at (enc := enc) (C := Tryd.checked) false (laidWorld os) args0 rfl (by kernel_rfl) (by kernel_rfl) (by kernel_rfl)
      (OpenSpec.preRow_of_cond 8 hx (by kernel_rfl) (fun k hk => by cases hk; kernel_rfl) (by kernel_rfl) (laid_met os))) ?_
  intro W base args ds gs before hval hW _ hcond _ hL _ _
  exact contract H enc W base args ds gs before hval hW (hcond _ rfl) hL

theorem said : Rows.CatchCountsUptoSaid :=
  OpenClaim.holds_of_cond 4 Tryd.f4 rfl rfl rfl rfl rfl rfl rfl ⟨rfl, rfl, rfl, rfl, rfl⟩ rfl rfl rfl rfl rfl (by kernel_rfl) Tryd.func4 (by kernel_rfl)
    (of_decide_eq_true (by kernel_rfl)) (by unfold Func.isWrapper; first | (rw [if_pos (by decide +kernel)]; kernel_rfl) | (rw [if_neg (by decide +kernel)]; exact ⟨rfl, rfl⟩))
    (fun os started H enc _ F => by rw [OpenClaim.pre_eq_preRow]; exact lifted os started H enc F)

theorem wantsZ : Tryd.pinned.checked.prog.wantsStandIn 3 = false := by kernel_rfl
theorem wantsC : Tryd.pinned.checked.prog.wantsStandIn 27 = false := by kernel_rfl
theorem wantsL : Tryd.pinned.checked.prog.wantsStandIn 34 = false := by kernel_rfl
theorem wantsI : Tryd.pinned.checked.prog.wantsStandIn 28 = false := by kernel_rfl

/-- no parameter wants a stand-in -/
theorem plain (f : FuncId) (fn : Func) (hf : Tryd.pinned.checked.prog.funcNamed "homarus/homaruslaw04.CatchCounts" = some f) (hfn : Tryd.pinned.checked.prog.funcs[f]? = some fn) :
    false = Tryd.pinned.checked.prog.looks [] ∧ ∀ (j : Nat) t, fn.params[j]? = some t → Tryd.pinned.checked.prog.wantsStandIn t = false := by
  obtain rfl : f = 4 := Option.some.inj ((show Tryd.prog.funcNamed "homarus/homaruslaw04.CatchCounts" = some 4 by kernel_rfl).symm.trans hf) |>.symm
  obtain rfl : fn = Tryd.f4 := (Option.some.inj (Tryd.func4.symm.trans hfn)).symm
  refine ⟨by kernel_rfl, fun j t ht => ?_⟩
  rw [Tryd.params4] at ht
  rcases j with _ | _ | _ | _ | _ | j
  · obtain rfl : 28 = t := Option.some.inj ht
    exact wantsI
  · obtain rfl : 3 = t := Option.some.inj ht
    exact wantsZ
  · obtain rfl : 34 = t := Option.some.inj ht
    exact wantsL
  · obtain rfl : 27 = t := Option.some.inj ht
    exact wantsC
  · obtain rfl : 28 = t := Option.some.inj ht
    exact wantsI
  · simp at ht

theorem card : Rows.CatchCountsUptoCardSaid :=
  Claim7.holds_tied_plain_at .later [] _ _ _ _ said (fun _ h => by cases h) (by kernel_rfl) (fun _ h => by cases h) catchCountsUpto_row_tie rfl ⟨rfl, rfl⟩ (by kernel_rfl) rfl plain (by kernel_rfl)
end Go.Proofs.YthlodlileecmdaaDoor.catchCounts
