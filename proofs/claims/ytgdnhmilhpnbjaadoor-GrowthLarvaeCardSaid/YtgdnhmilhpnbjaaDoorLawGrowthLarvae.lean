/-
  'homaruslaw01.GrowthLarvae' returns true, whatever its argument is, in whatever memory: however many larvae truly settle, they lie within Settle, days may stand in any order, and with more room there are no fewer.
  Conditions: the table of Go's library that it reads (math/bits) holds what the program's text lays, as the card says. The argument is any list of numbers that can be read.
  How: what has to be shown of the law's code is computed by the kernel, and shown by plain mathematics; the chapter's examples, which it runs at its end, are run by the kernel.
-/
import Derived.Test.YtgdnhmilhpnbjaaDoorSyP2
import Derived.Test.YtgdnhmilhpnbjaaDoorGrY
import Derived.Test.YtgdnhmilhpnbjaaDoorKnAwake
import Derived.Test.YtgdnhmilhpnbjaaDoorCards
import Derived.Test.YtgdnhmilhpnbjaaDoorTie
import Derived.WalkKit
import Derived.ProofKit
import Derived.OpenShut
import Derived.Carry
import Derived.Deep.DeepHandedRow
namespace Go.Proofs.YtgdnhmilhpnbjaaDoor.growthLarvae
open Go Go.Rv Go.ChangeShapes Go.WideShapes Go.ChangeAt Go.RowKit Go.Proofs.YtgdnhmilhpnbjaaDoor.Kn

theorem awake_ok (W : RW) (h : hasTabs Kn.tab1 W) : @CallOk (plainEnv (Kn.tab1.map (·.1))) Tryd.prog 6 [] W (.v (.bool true)) W := by
  have hc := Kn.awake_run
  cases hq : @callF (memoEnv [0] known2) Tryd.prog (@evR (memoEnv [0] known2) Tryd.prog 3000) 6 [] (tabRw Kn.tab1) with
  | none => rw [hq] at hc; simp at hc
  | some q =>
    obtain ⟨y, W1⟩ := q
    rw [hq] at hc
    simp only [Option.map_some, Option.some.injEq] at hc
    subst hc
    obtain ⟨h1, _⟩ := @callF_ok (memoEnv [0] known2) Tryd.prog _ (own2 [0]) (@ev_ok (memoEnv [0] known2) Tryd.prog (own2 [0]) 3000) 6 [] (tabRw Kn.tab1) W1 (.v (.bool true)) hq
    exact lift_tab (tabs := Kn.tab1) rfl rfl h1 rfl h

theorem law_run {m : Nat → Rv.Loc} {W : RW} {w : World} (hr : @Rel (plainEnv (Kn.tab1.map (·.1))) m W w) (ht : hasTabs Kn.tab1 W)
    {args : List RV} {ds : List Dat} (hrd : readR W Sy.F_law.sh args = some ds) (hpre : Sy.F_law.pre ds) (hb : belowL W.n args = true) (hro : ∀ b o, W.get b = some o → o.own = false) :
    Calls Tryd.prog 5 (args.map (rv m)).toArray w fun e w' => e = .returned (.bool true) ∧ RowKit.Below w.heap.size w w' :=
  law_calls (F := Sy.F_law) Sy.named (by rfl) (by rfl) (by rfl) Sy.c_law Sy.ce_law (gA := 6) (tabs := Kn.tab1) Sy.l_law Sy.le_law awake_ok ⟨Tryd.f6, Tryd.func6, by kernel_rfl⟩ Sy.n_law hr ht hrd hpre hb hro

theorem own : ownKnob Tryd.prog.godebug = none := by kernel_rfl
theorem gn64 : Tryd.prog.globalNamed "math/bits.deBruijn64tab" = some 0 := by kernel_rfl
theorem gt64 : (Tryd.prog.globals[0]?).map (·.type) = some 111 := by kernel_rfl
theorem cells64 : Tryd.prog.cellsOf 111 = 64 := by kernel_rfl
theorem cellsU8 : Tryd.prog.cellsOf 5 = 1 := by kernel_rfl

/-- what the row lists is what the evaluator was given -/
theorem tables {W : World} (h : laidMetH Tryd.prog Rows.growthLarvaeRow.laid W) : TabsAt Kn.tab1 W := by
  have h64 := one_of (name := "math/bits.deBruijn64tab") (d := Rows.laid_math_bits_deBruijn64tab) h (by kernel_rfl) (by kernel_rfl)
  have t64 : Lib.TabIs Tryd.prog W "math/bits.deBruijn64tab" .u8 Kn.g64 := Lib.tabIs_of_head (rest := []) gn64 gt64 Tryd.underlying111 Tryd.underlying5 cellsU8 cells64 h64
  intro t ht
  simp only [Kn.tab1, List.mem_cons, List.not_mem_nil, or_false] at ht
  subst ht
  exact tab_at gn64 t64

instance envI : Env := plainEnv (Kn.tab1.map (·.1))

theorem laid_out : laidOutB Tryd.prog = true := by kernel_rfl
theorem readI : Tryd.prog.readableRec 30 = true := by kernel_rfl
theorem rowI : 30 < Tryd.prog.types.size := of_decide_eq_true (by kernel_rfl)

set_option maxRecDepth 100000 in
theorem contract (H : Type) (enc : TypeId × Value → H) (W : World) (base : Nat) (args : Array Value) (ds gs : List (DataW H)) (before : List MemPlace)
    (hval : ∀ (j : Nat) t v, Tryd.f5.params[j]? = some t → args[j]? = some v → Value.okWide Tryd.prog W .any base t v)
    (hW : DataW.Whole enc Tryd.prog Tryd.f5.params.toList Rows.growthLarvaeSpec.vars false W args.toList ds gs before) (hL : laidMetH Tryd.prog Rows.growthLarvaeRow.laid W) :
    Calls Tryd.prog 5 args W fun e W' => ∃ v, e = .returned v ∧ Rows.growthLarvaeSpec.post enc Tryd.prog Tryd.f5 false true false false W args v W' := by
  have hW' := hW
  have hltb := hW.lt
  obtain ⟨p, q, hA0, hV, rfl, hfz, hnd⟩ := hW
  have hA : DataW.TrodAll enc Tryd.prog W 0 (fun _ => true) true Tryd.f5.params.toList args.toList ds p := hA0
  rw [Tryd.params5] at hA hval
  obtain ⟨v3, d3, rfl, rfl, t3⟩ := trodAll_one hA
  obtain ⟨rfl, rfl⟩ := trodVars_none hV
  clear hA0 hA
  have e3 := hval 0 _ v3 rfl rfl
  obtain ⟨m0, r0⟩ := @tabRel (plainEnv (Kn.tab1.map (·.1))) Kn.tab1 rfl W (tables hL)
  have ro0 : ∀ b o, (tabRw Kn.tab1).get b = some o → o.own = false := fun b o hb => by
    obtain ⟨t, _, rfl⟩ := tabRw_get hb
    rfl
  obtain ⟨m3, W3, x3, s3, M3, a3, b3, q3, l3⟩ := @add_ints (plainEnv (Kn.tab1.map (·.1))) H enc Tryd.prog m0 (tabRw Kn.tab1) W r0 ro0 30 _ Tryd.underlying30 Tryd.underlying3 (by kernel_rfl) base v3 d3 p e3 t3
  have hc := law_run (m := m3) (W := W3) (w := W) (args := [x3]) (ds := [.l s3]) M3.rel
    (fun i o h => M3.get i o h) (by
      show readR W3 [.one (.l [.i64])] _ = _
      simp only [readR, readSc, q3]) (show s3.length ≤ 9223372036854775807 from l3)
    (by simp only [belowL, b3, Bool.and_self]) M3.ro
  have hargs : ([x3].map (rv m3)).toArray = #[v3] := by
    simp only [List.map_cons, List.map_nil, a3]
  rw [hargs] at hc
  refine hc.mono fun e W' ⟨he, hb⟩ => ?_
  subst he
  have hlt : ∀ x ∈ p, x.block < W.heap.size := fun x hx => hltb x (by simpa using hx)
  have st : ∀ {t : TypeId} {v : Value} {d : DataW H} {ps : List MemPlace}, Tryd.prog.readableRec t = true → t < Tryd.prog.types.size → DataW.Trod enc Tryd.prog W 0 (fun _ => true) true t v d ps → (∀ x ∈ ps, x ∈ p) →
      ∀ sp : Nat → Bool, (∀ x ∈ p, sp x.block = true) → DataW.Trod enc Tryd.prog W' 0 sp true t v d ps := fun hr hrow h hin sp hsp =>
    WideElems.Trod_stays laid_out hr hrow h (fun x hx => hb.same (hlt x (hin x hx))) (fun x hx => hsp x (hin x hx))
  refine ⟨_, rfl, post_new (pa := p) (pv := []) hW' (fun _ _ _ => trodAll_cons_mk (shut_bool Tryd.underlying4 _) trodAll_mk0) (fun sp hsp => ?_) (fun _ _ => rfl) (by simp) hb (ok_one (by kernel_rfl) rfl (okWide_bool_mk Tryd.underlying4 _))⟩
  have hsp' : ∀ x ∈ p, sp x.block = true := fun x hx => hsp x (by simpa using hx)
  show DataW.TrodAll enc Tryd.prog W' 0 sp true Tryd.f5.params.toList [v3] [d3] _
  rw [Tryd.params5]
  exact trodAll_mk1 (st readI rowI t3 (fun x hx => hx) sp hsp')

/-- a world for the witness: the settled one, the table holding what its initialiser lays -/
noncomputable def put (h : Array Obj) (g : Nat) (k : IntKind) (zs : List Int) : Array Obj := h.modify g fun
  | .cells _ t frozen => .cells (zs.map fun z => Value.int k z).toArray t frozen
  | o => o
def args0 : Array Value := #[.slice none 0 0]
noncomputable def laidWorld (os : Os) : World :=
  { World.holding Tryd.prog os ⟨#[], args0, []⟩ with heap := put (World.holding Tryd.prog os ⟨#[], args0, []⟩).heap 0 .u8 Kn.g64 }
theorem laid_met (os : Os) : laidMet Tryd.prog Rows.growthLarvaeRow.laid ((laidWorld os).forCall (fun _ _ => 0) ⟨#[], args0, []⟩).memory :=
  laidMet_of_run' 8 (by kernel_rfl) (by kernel_rfl)
theorem reads (os : Os) {H : Type} (enc : TypeId × Value → H) : ∃ places, DataW.whole enc Tryd.prog ((laidWorld os).forCall (fun _ _ => 0) ⟨#[], args0, []⟩).memory Tryd.f5.params.toList Rows.growthLarvaeSpec.vars false args0.toList 8 =
    some ([.nil], [], places) :=
  ⟨[], by kernel_rfl⟩

set_option maxRecDepth 100000 in
theorem lifted (os : Os) (started : os.Started) (H : Type) (enc : TypeId × Value → H) (F : Stop.Interp) :
    ReturnsInHanded {} Tryd.checked os 5 .any ((OpenSpec.ofChange Rows.growthLarvaeSpec).preRow enc Tryd.prog Tryd.f5 Rows.growthLarvaeRow.domain false Rows.growthLarvaeRow.laid) (((OpenSpec.ofChange Rows.growthLarvaeSpec).at F).post enc Tryd.prog Tryd.f5 false true false false) := by
  obtain ⟨places, hx⟩ := reads os enc
  refine returnsInHanded_of_row (C := Tryd.checked) (s := OpenSpec.ofChange Rows.growthLarvaeSpec) own started (by kernel_rfl) Tryd.func5
    (witness_row_at (enc := enc) (C := Tryd.checked) false (laidWorld os) args0 rfl (by kernel_rfl) (by kernel_rfl) (by kernel_rfl)
      (OpenSpec.preRow_of_cond 8 hx (by kernel_rfl) (fun k hk => by cases hk) (by kernel_rfl) (laid_met os))) ?_
  intro W base args ds gs before hval hW _ _ _ hL _ _
  exact contract H enc W base args ds gs before hval hW hL

theorem said : Rows.GrowthLarvaeSaid :=
  OpenClaim.holds_of_cond 5 Tryd.f5 rfl rfl rfl rfl rfl rfl rfl ⟨rfl, rfl, rfl, rfl, rfl⟩ rfl rfl rfl rfl rfl (by kernel_rfl) Tryd.func5 (by kernel_rfl)
    (of_decide_eq_true (by kernel_rfl)) (by unfold Func.isWrapper; first | (rw [if_pos (by decide +kernel)]; kernel_rfl) | (rw [if_neg (by decide +kernel)]; exact ⟨rfl, rfl⟩))
    (fun os started H enc _ F => by rw [OpenClaim.pre_eq_preRow]; exact lifted os started H enc F)

theorem wantsI : Tryd.pinned.checked.prog.wantsStandIn 30 = false := by kernel_rfl

/-- no parameter wants a stand-in -/
theorem plain (f : FuncId) (fn : Func) (hf : Tryd.pinned.checked.prog.funcNamed "homarus/homaruslaw01.GrowthLarvae" = some f) (hfn : Tryd.pinned.checked.prog.funcs[f]? = some fn) :
    false = Tryd.pinned.checked.prog.looks [] ∧ ∀ (j : Nat) t, fn.params[j]? = some t → Tryd.pinned.checked.prog.wantsStandIn t = false := by
  obtain rfl : f = 5 := Option.some.inj ((show Tryd.prog.funcNamed "homarus/homaruslaw01.GrowthLarvae" = some 5 by kernel_rfl).symm.trans hf) |>.symm
  obtain rfl : fn = Tryd.f5 := (Option.some.inj (Tryd.func5.symm.trans hfn)).symm
  refine ⟨by kernel_rfl, fun j t ht => ?_⟩
  rw [Tryd.params5] at ht
  rcases j with _ | j
  · obtain rfl : 30 = t := Option.some.inj ht
    exact wantsI
  · simp at ht

theorem card : Rows.GrowthLarvaeCardSaid :=
  Claim7.holds_tied_plain_at .later [] _ _ _ _ said (fun _ h => by cases h) (by kernel_rfl) (fun _ h => by cases h) growthLarvae_row_tie rfl ⟨rfl, rfl⟩ (by kernel_rfl) rfl plain (by kernel_rfl)
end Go.Proofs.YtgdnhmilhpnbjaaDoor.growthLarvae
