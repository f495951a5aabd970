/-
  'homaruslaw04.CatchTruth' returns true, whatever its argument is, in whatever memory: a reason is sure if it holds of all that the animal may truly be, and it holds of none of that if it is ruled out; the same for keeping it.
  Conditions: the table of Go's library that it reads (math/bits) holds what the program's text lays, as the card says. The argument is any list of numbers that can be read.
  How: what has to be shown of the law's code is computed by the kernel, and shown by plain mathematics; the chapter's examples, which it runs at its end, are run by the kernel.
-/
import Derived.Test.YthlodlileecmdaaDoorSyP2
import Derived.Test.YthlodlileecmdaaDoorCtL
import Derived.Test.YthlodlileecmdaaDoorCtAwake
import Derived.Test.YthlodlileecmdaaDoorCards
import Derived.Test.YthlodlileecmdaaDoorTie
import Derived.WalkKit
import Derived.ProofKit
import Derived.OpenShut
import Derived.Carry
import Derived.Deep.DeepHandedRow
namespace Go.Proofs.YthlodlileecmdaaDoor.catchTruth
open Go Go.Rv Go.ChangeShapes Go.WideShapes Go.ChangeAt Go.RowKit Go.Proofs.YthlodlileecmdaaDoor.Kn

theorem law_run {m : Nat → Rv.Loc} {W : RW} {w : World} (hr : @Rel (plainEnv (Kn.tab1.map (·.1))) m W w) (ht : hasTabs Kn.tab1 W)
    {args : List RV} {ds : List Dat} (hrd : readR W Sy.F_law.sh args = some ds) (hpre : Sy.F_law.pre ds) (hb : belowL W.n args = true) (hro : ∀ b o, W.get b = some o → o.own = false) :
    Calls Tryd.prog 6 (args.map (rv m)).toArray w fun e w' => e = .returned (.bool true) ∧ RowKit.Below w.heap.size w w' :=
  law_calls (F := Sy.F_law) Sy.named (by rfl) (by rfl) (by rfl) Sy.c_law Sy.ce_law (gA := 20) (tabs := Kn.tab1) Sy.l_law Sy.le_law Kn.awake_ok ⟨Tryd.f20, Tryd.func20, by kernel_rfl⟩ Sy.n_law hr ht hrd hpre hb hro

theorem own : ownKnob Tryd.prog.godebug = none := by kernel_rfl
theorem gn32 : Tryd.prog.globalNamed "math/bits.deBruijn32tab" = some 1 := by kernel_rfl
theorem gt32 : (Tryd.prog.globals[1]?).map (·.type) = some 164 := by kernel_rfl
theorem cells32 : Tryd.prog.cellsOf 164 = 32 := by kernel_rfl
theorem cellsU8 : Tryd.prog.cellsOf 5 = 1 := by kernel_rfl

/-- what the row lists is what the evaluator was given -/
theorem tables {W : World} (h : laidMetH Tryd.prog Rows.catchTruthRow.laid W) : TabsAt Kn.tab1 W := by
  have h32 := one_of (name := "math/bits.deBruijn32tab") (d := Rows.laid_math_bits_deBruijn32tab) h (by kernel_rfl) (by kernel_rfl)
  have t32 : Lib.TabIs Tryd.prog W "math/bits.deBruijn32tab" .u8 Kn.g32 := Lib.tabIs_of_head (rest := []) gn32 gt32 Tryd.underlying164 Tryd.underlying5 cellsU8 cells32 h32
  intro t ht
  simp only [Kn.tab1, List.mem_cons, List.not_mem_nil, or_false] at ht
  subst ht
  exact tab_at gn32 t32

instance envI : Env := plainEnv (Kn.tab1.map (·.1))

theorem laid_out : laidOutB Tryd.prog = true := by kernel_rfl
theorem readI : Tryd.prog.readableRec 28 = true := by kernel_rfl
theorem rowI : 28 < Tryd.prog.types.size := of_decide_eq_true (by kernel_rfl)

set_option maxRecDepth 100000 in
theorem contract (H : Type) (enc : TypeId × Value → H) (W : World) (base : Nat) (args : Array Value) (ds gs : List (DataW H)) (before : List MemPlace)
    (hval : ∀ (j : Nat) t v, Tryd.f6.params[j]? = some t → args[j]? = some v → Value.okWide Tryd.prog W .any base t v)
    (hW : DataW.Whole enc Tryd.prog Tryd.f6.params.toList Rows.catchTruthSpec.vars false W args.toList ds gs before) (hL : laidMetH Tryd.prog Rows.catchTruthRow.laid W) :
    Calls Tryd.prog 6 args W fun e W' => ∃ v, e = .returned v ∧ Rows.catchTruthSpec.post enc Tryd.prog Tryd.f6 false true false false W args v W' := by
  have hW' := hW
  have hltb := hW.lt
  obtain ⟨p, q, hA0, hV, rfl, hfz, hnd⟩ := hW
  have hA : DataW.TrodAll enc Tryd.prog W 0 (fun _ => true) true Tryd.f6.params.toList args.toList ds p := hA0
  rw [Tryd.params6] at hA hval
  obtain ⟨v3, d3, rfl, rfl, t3⟩ := trodAll_one hA
  obtain ⟨rfl, rfl⟩ := trodVars_none hV
  clear hA0 hA
  have e3 := hval 0 _ v3 rfl rfl
  obtain ⟨m0, r0⟩ := @tabRel (plainEnv (Kn.tab1.map (·.1))) Kn.tab1 rfl W (tables hL)
  have ro0 : ∀ b o, (tabRw Kn.tab1).get b = some o → o.own = false := fun b o hb => by
    obtain ⟨t, _, rfl⟩ := tabRw_get hb
    rfl
  obtain ⟨m3, W3, x3, s3, M3, a3, b3, q3, l3⟩ := @add_ints (plainEnv (Kn.tab1.map (·.1))) H enc Tryd.prog m0 (tabRw Kn.tab1) W r0 ro0 28 _ Tryd.underlying28 Tryd.underlying3 (by kernel_rfl) base v3 d3 p e3 t3
  have hc := law_run (m := m3) (W := W3) (w := W) (args := [x3]) (ds := [.l s3]) M3.rel
    (fun i o h => M3.get i o h) (by
      show readR W3 [.one (.l [.i64])] _ = _
      simp only [readR, readSc, q3]) (show s3.length ≤ 9223372036854775807 from l3)
    (by simp only [belowL, b3, Bool.and_self]) M3.ro
  have hargs : ([x3].map (rv m3)).toArray = #[v3] := by
    simp only [List.map_cons, List.map_nil, a3]
  rw [hargs] at hc
  refine hc.mono fun e W' ⟨he, hb⟩ => ?_
  subst he
  have hlt : ∀ x ∈ p, x.block < W.heap.size := fun x hx => hltb x (by simpa using hx)
  have st : ∀ {t : TypeId} {v : Value} {d : DataW H} {ps : List MemPlace}, Tryd.prog.readableRec t = true → t < Tryd.prog.types.size → DataW.Trod enc Tryd.prog W 0 (fun _ => true) true t v d ps → (∀ x ∈ ps, x ∈ p) →
      ∀ sp : Nat → Bool, (∀ x ∈ p, sp x.block = true) → DataW.Trod enc Tryd.prog W' 0 sp true t v d ps := fun hr hrow h hin sp hsp =>
    WideElems.Trod_stays laid_out hr hrow h (fun x hx => hb.same (hlt x (hin x hx))) (fun x hx => hsp x (hin x hx))
  refine ⟨_, rfl, post_new (pa := p) (pv := []) hW' (fun _ _ _ => trodAll_cons_mk (shut_bool Tryd.underlying4 _) trodAll_mk0) (fun sp hsp => ?_) (fun _ _ => rfl) (by simp) hb (ok_one (by kernel_rfl) rfl (okWide_bool_mk Tryd.underlying4 _))⟩
  have hsp' : ∀ x ∈ p, sp x.block = true := fun x hx => hsp x (by simpa using hx)
  show DataW.TrodAll enc Tryd.prog W' 0 sp true Tryd.f6.params.toList [v3] [d3] _
  rw [Tryd.params6]
  exact trodAll_mk1 (st readI rowI t3 (fun x hx => hx) sp hsp')

/-- a world for the witness: the settled one, the table holding what its initialiser lays -/
noncomputable def put (h : Array Obj) (g : Nat) (k : IntKind) (zs : List Int) : Array Obj := h.modify g fun
  | .cells _ t frozen => .cells (zs.map fun z => Value.int k z).toArray t frozen
  | o => o
def args0 : Array Value := #[.slice none 0 0]
noncomputable def laidWorld (os : Os) : World :=
  { World.holding Tryd.prog os ⟨#[], args0, []⟩ with heap := put (World.holding Tryd.prog os ⟨#[], args0, []⟩).heap 1 .u8 Kn.g32 }
theorem laid_met (os : Os) : laidMet Tryd.prog Rows.catchTruthRow.laid ((laidWorld os).forCall (fun _ _ => 0) ⟨#[], args0, []⟩).memory :=
  laidMet_of_run' 8 (by kernel_rfl) (by kernel_rfl)
theorem reads (os : Os) {H : Type} (enc : TypeId × Value → H) : ∃ places, DataW.whole enc Tryd.prog ((laidWorld os).forCall (fun _ _ => 0) ⟨#[], args0, []⟩).memory Tryd.f6.params.toList Rows.catchTruthSpec.vars false args0.toList 8 =
    some ([.nil], [], places) :=
  ⟨[], by kernel_rfl⟩

set_option maxRecDepth 100000 in
theorem lifted (os : Os) (started : os.Started) (H : Type) (enc : TypeId × Value → H) (F : Stop.Interp) :
    ReturnsInHanded {} Tryd.checked os 6 .any ((OpenSpec.ofChange Rows.catchTruthSpec).preRow enc Tryd.prog Tryd.f6 Rows.catchTruthRow.domain false Rows.catchTruthRow.laid) (((OpenSpec.ofChange Rows.catchTruthSpec).at F).post enc Tryd.prog Tryd.f6 false true false false) := by
  obtain ⟨places, hx⟩ := reads os enc
  refine returnsInHanded_of_row (C := Tryd.checked) (s := OpenSpec.ofChange Rows.catchTruthSpec) own started (by kernel_rfl) Tryd.func6
    (witness_row_at (enc := enc) (C := Tryd.checked) false (laidWorld os) args0 rfl (by kernel_rfl) (by kernel_rfl) (by kernel_rfl)
      (OpenSpec.preRow_of_cond 8 hx (by kernel_rfl) (fun k hk => by cases hk) (by kernel_rfl) (laid_met os))) ?_
  intro W base args ds gs before hval hW _ _ _ hL _ _
  exact contract H enc W base args ds gs before hval hW hL

theorem said : Rows.CatchTruthSaid :=
  OpenClaim.holds_of_cond 6 Tryd.f6 rfl rfl rfl rfl rfl rfl rfl ⟨rfl, rfl, rfl, rfl, rfl⟩ rfl rfl rfl rfl rfl (by kernel_rfl) Tryd.func6 (by kernel_rfl)
    (of_decide_eq_true (by kernel_rfl)) (by unfold Func.isWrapper; first | (rw [if_pos (by decide +kernel)]; kernel_rfl) | (rw [if_neg (by decide +kernel)]; exact ⟨rfl, rfl⟩))
    (fun os started H enc _ F => by rw [OpenClaim.pre_eq_preRow]; exact lifted os started H enc F)

theorem wantsI : Tryd.pinned.checked.prog.wantsStandIn 28 = false := by kernel_rfl

/-- no parameter wants a stand-in -/
theorem plain (f : FuncId) (fn : Func) (hf : Tryd.pinned.checked.prog.funcNamed "homarus/homaruslaw04.CatchTruth" = some f) (hfn : Tryd.pinned.checked.prog.funcs[f]? = some fn) :
    false = Tryd.pinned.checked.prog.looks [] ∧ ∀ (j : Nat) t, fn.params[j]? = some t → Tryd.pinned.checked.prog.wantsStandIn t = false := by
  obtain rfl : f = 6 := Option.some.inj ((show Tryd.prog.funcNamed "homarus/homaruslaw04.CatchTruth" = some 6 by kernel_rfl).symm.trans hf) |>.symm
  obtain rfl : fn = Tryd.f6 := (Option.some.inj (Tryd.func6.symm.trans hfn)).symm
  refine ⟨by kernel_rfl, fun j t ht => ?_⟩
  rw [Tryd.params6] at ht
  rcases j with _ | j
  · obtain rfl : 28 = t := Option.some.inj ht
    exact wantsI
  · simp at ht

theorem card : Rows.CatchTruthCardSaid :=
  Claim7.holds_tied_plain_at .later [] _ _ _ _ said (fun _ h => by cases h) (by kernel_rfl) (fun _ h => by cases h) catchTruth_row_tie rfl ⟨rfl, rfl⟩ (by kernel_rfl) rfl plain (by kernel_rfl)
end Go.Proofs.YthlodlileecmdaaDoor.catchTruth
