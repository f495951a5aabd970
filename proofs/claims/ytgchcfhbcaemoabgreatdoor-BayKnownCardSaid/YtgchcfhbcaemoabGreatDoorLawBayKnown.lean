/-
  'homaruslaw10.BayKnown' returns true, whatever memory it is called in: the chapter's examples have the results given there.
  Conditions: the three tables of Go's library that it reads (math/bits, internal/strconv), and the two errors of strconv, hold what the program's text lays, as the card says. The law has no argument.
  How: the run is done by the kernel over an evaluator whose steps are proved to be the machine's, in every order that Go leaves open.
-/
import Derived.Test.YtgchcfhbcaemoabGreatDoorKnCTz
import Derived.Test.YtgchcfhbcaemoabGreatDoorCards
import Derived.Test.YtgchcfhbcaemoabGreatDoorTie
import Derived.WalkKit
import Derived.ProofKit
import Derived.OpenShut
import Derived.Deep.DeepHandedRow
namespace Go.Proofs.YtgchcfhbcaemoabGreatDoor.bayKnown
open Go Go.Rv Go.ChangeShapes Go.WideShapes Go.ChangeAt Go.RowKit

def g64 : List Int := [0, 1, 56, 2, 57, 49, 28, 3, 61, 58, 42, 50, 38, 29, 17, 4, 62, 47, 59, 36, 45, 43, 51, 22, 53, 39, 33, 30, 24, 18, 12, 5, 63, 55, 48, 27, 60, 41, 37, 16, 46, 35, 44, 21, 52, 32, 23, 11, 54, 26, 40, 15, 34, 20, 31, 10, 25, 14, 19, 9, 13, 8, 7, 6]
def g10 : List Int := [1, 10, 100, 1000, 10000, 100000, 1000000, 10000000, 100000000, 1000000000, 10000000000, 100000000000, 1000000000000, 10000000000000, 100000000000000, 1000000000000000, 10000000000000000, 100000000000000000, 1000000000000000000, 10000000000000000000]
def g32 : List Int := [0, 1, 28, 2, 29, 14, 24, 3, 30, 22, 20, 15, 25, 17, 4, 8, 31, 27, 13, 23, 21, 19, 16, 7, 26, 12, 18, 6, 11, 5, 10, 9]

theorem named : Named Tryz.prog := named_of (by kernel_rfl)

def iv (k : IntKind) (l : List Int) : List Value := l.map fun z => .int k z

def tab3 : VTabs := [(5, iv .u8 g64), (1, iv .u64 g10), (4, iv .u8 g32)]

theorem known_run : (@callF (Kn.envZ) Tryz.prog (@evR (Kn.envZ) Tryz.prog 3000) 3 [] (vtabRw tab3)).map (·.1) = some (.v (.bool true)) := by kernel_rfl

theorem known_calls {W : World} (h : VTabsAt tab3 W) : Calls Tryz.prog 3 #[] W fun e W' => e = .returned (.bool true) ∧ RowKit.Below W.heap.size W W' :=
  vrun_calls Kn.nownZ rfl (by kernel_rfl) known_run h

theorem own : ownKnob Tryz.prog.godebug = none := by kernel_rfl

theorem gn64 : Tryz.prog.globalNamed "math/bits.deBruijn64tab" = some 5 := by kernel_rfl
theorem gt64 : (Tryz.prog.globals[5]?).map (·.type) = some 325 := by kernel_rfl
theorem gn10 : Tryz.prog.globalNamed "internal/strconv.uint64pow10" = some 1 := by kernel_rfl
theorem gt10 : (Tryz.prog.globals[1]?).map (·.type) = some 266 := by kernel_rfl
theorem gn32 : Tryz.prog.globalNamed "math/bits.deBruijn32tab" = some 4 := by kernel_rfl
theorem gt32 : (Tryz.prog.globals[4]?).map (·.type) = some 324 := by kernel_rfl
theorem cells64 : Tryz.prog.cellsOf 325 = 64 := by kernel_rfl
theorem cells10 : Tryz.prog.cellsOf 266 = 20 := by kernel_rfl
theorem cells32 : Tryz.prog.cellsOf 324 = 32 := by kernel_rfl
theorem cellsU8 : Tryz.prog.cellsOf 5 = 1 := by kernel_rfl
theorem cellsU64 : Tryz.prog.cellsOf 221 = 1 := by kernel_rfl

/-- what the row lists is what the evaluator was given -/
theorem tables {W : World} (h : laidMetH Tryz.prog Rows.bayKnownRow.laid W) : VTabsAt tab3 W := by
  have h64 := one_of (name := "math/bits.deBruijn64tab") (d := Rows.laid_math_bits_deBruijn64tab) h (by kernel_rfl) (by kernel_rfl)
  have h10 := one_of (name := "internal/strconv.uint64pow10") (d := Rows.laid_internal_strconv_uint64pow10) h (by kernel_rfl) (by kernel_rfl)
  have h32 := one_of (name := "math/bits.deBruijn32tab") (d := Rows.laid_math_bits_deBruijn32tab) h (by kernel_rfl) (by kernel_rfl)
  have t64 : Lib.TabIs Tryz.prog W "math/bits.deBruijn64tab" .u8 g64 := Lib.tabIs_of_head (rest := []) gn64 gt64 Tryz.underlying325 Tryz.underlying5 cellsU8 cells64 h64
  have t10 : Lib.TabIs Tryz.prog W "internal/strconv.uint64pow10" .u64 g10 := Lib.tabIs_of_head (rest := []) gn10 gt10 Tryz.underlying266 Tryz.underlying221 cellsU64 cells10 h10
  have t32 : Lib.TabIs Tryz.prog W "math/bits.deBruijn32tab" .u8 g32 := Lib.tabIs_of_head (rest := []) gn32 gt32 Tryz.underlying324 Tryz.underlying5 cellsU8 cells32 h32
  intro t ht
  simp only [tab3, List.mem_cons, List.not_mem_nil, or_false] at ht
  rcases ht with rfl | rfl | rfl
  · exact tab_at gn64 t64
  · exact tab_at gn10 t10
  · exact tab_at gn32 t32

set_option maxRecDepth 100000 in
theorem contract (H : Type) (enc : TypeId × Value → H) (W : World) (base : Nat) (args : Array Value) (ds gs : List (DataW H)) (before : List MemPlace)
    (hval : ∀ (j : Nat) t v, Tryz.f3.params[j]? = some t → args[j]? = some v → Value.okWide Tryz.prog W .any base t v)
    (hW : DataW.Whole enc Tryz.prog Tryz.f3.params.toList Rows.bayKnownSpec.vars false W args.toList ds gs before) (hL : laidMetH Tryz.prog Rows.bayKnownRow.laid W) :
    Calls Tryz.prog 3 args W fun e W' => ∃ v, e = .returned v ∧ Rows.bayKnownSpec.post enc Tryz.prog Tryz.f3 false true false false W args v W' := by
  have hW' := hW
  obtain ⟨p, q, hA0, hV, rfl, hfz, hnd⟩ := hW
  have hA : DataW.TrodAll enc Tryz.prog W 0 (fun _ => true) true Tryz.f3.params.toList args.toList ds p := hA0
  rw [Tryz.params3] at hA hval
  obtain ⟨hargs, rfl, rfl⟩ := trodAll_nil hA
  obtain rfl : args = #[] := by cases args; simp_all
  obtain ⟨rfl, rfl⟩ := trodVars_none hV
  clear hA0
  simp only [List.append_nil] at hW'
  refine (known_calls (tables hL)).mono fun e W' ⟨he, hb⟩ => ?_
  subst he
  exact ⟨_, rfl, post_new (pa := []) (pv := []) hW' (fun _ _ _ => trodAll_cons_mk (shut_bool Tryz.underlying4 _) trodAll_mk0) (fun _ _ => trodAll_mk0) (fun _ _ => rfl) rfl hb (ok_one (by kernel_rfl) rfl (okWide_bool_mk Tryz.underlying4 _))⟩

/-- a world for the witness: the settled one, the tables holding what their initialisers lay -/
noncomputable def put (h : Array Obj) (g : Nat) (k : IntKind) (zs : List Int) : Array Obj := h.modify g fun
  | .cells _ t frozen => .cells (zs.map fun z => Value.int k z).toArray t frozen
  | o => o
noncomputable def low : Nat := (World.holding Tryz.prog default ⟨#[], #[], []⟩).heap.size
noncomputable def putE (h : Array Obj) (g a : Nat) : Array Obj := h.modify g fun
  | .cells _ t frozen => .cells #[.iface 335 (.pointer (some ⟨a, 0, none⟩))] t frozen
  | o => o
def textR : ByteArray := ⟨#[118, 97, 108, 117, 101, 32, 111, 117, 116, 32, 111, 102, 32, 114, 97, 110, 103, 101]⟩
def textS : ByteArray := ⟨#[105, 110, 118, 97, 108, 105, 100, 32, 115, 121, 110, 116, 97, 120]⟩
noncomputable def laidWorld (os : Os) : World :=
  { World.holding Tryz.prog os ⟨#[.cells #[.string textR] 337, .cells #[.string textS] 337], #[], []⟩ with heap := putE (putE (put (put (put (World.holding Tryz.prog os ⟨#[.cells #[.string textR] 337, .cells #[.string textS] 337], #[], []⟩).heap 5 .u8 g64) 1 .u64 g10) 4 .u8 g32) 3 low) 2 (low + 1) }
theorem laid_met (os : Os) : laidMet Tryz.prog Rows.bayKnownRow.laid ((laidWorld os).forCall (fun _ _ => 0) ⟨#[], #[], []⟩).memory :=
  laidMet_of_run' 8 (by kernel_rfl) (by kernel_rfl)
theorem reads (os : Os) {H : Type} (enc : TypeId × Value → H) : ∃ places, DataW.whole enc Tryz.prog ((laidWorld os).forCall (fun _ _ => 0) ⟨#[], #[], []⟩).memory Tryz.f3.params.toList Rows.bayKnownSpec.vars false #[].toList 8 = some ([], [], places) :=
  ⟨[], by kernel_rfl⟩

set_option maxRecDepth 100000 in
theorem lifted (os : Os) (started : os.Started) (H : Type) (enc : TypeId × Value → H) (F : Stop.Interp) :
    ReturnsInHanded {} Tryz.checked os 3 .any ((OpenSpec.ofChange Rows.bayKnownSpec).preRow enc Tryz.prog Tryz.f3 Rows.bayKnownRow.domain false Rows.bayKnownRow.laid) (((OpenSpec.ofChange Rows.bayKnownSpec).at F).post enc Tryz.prog Tryz.f3 false true false false) := by
  obtain ⟨places, hx⟩ := reads os enc
  refine returnsInHanded_of_row (C := Tryz.checked) (s := OpenSpec.ofChange Rows.bayKnownSpec) own started (by kernel_rfl) Tryz.func3
    (witness_row_at (enc := enc) (C := Tryz.checked) false (laidWorld os) #[] rfl (by kernel_rfl) (by kernel_rfl) (by kernel_rfl)
      (OpenSpec.preRow_of_cond 8 hx (by kernel_rfl) (fun k hk => by cases hk) (by kernel_rfl) (laid_met os))) ?_
  intro W base args ds gs before hval hW _ _ _ hL _ _
  exact contract H enc W base args ds gs before hval hW hL

theorem said : Rows.BayKnownSaid :=
  OpenClaim.holds_of_cond 3 Tryz.f3 rfl rfl rfl rfl rfl rfl rfl ⟨rfl, rfl, rfl, rfl, rfl⟩ rfl rfl rfl rfl rfl (by kernel_rfl) Tryz.func3 (by kernel_rfl)
    (of_decide_eq_true (by kernel_rfl)) (by unfold Func.isWrapper; first | (rw [if_pos (by decide +kernel)]; kernel_rfl) | (rw [if_neg (by decide +kernel)]; exact ⟨rfl, rfl⟩))
    (fun os started H enc _ F => by rw [OpenClaim.pre_eq_preRow]; exact lifted os started H enc F)

/-- no parameter wants a stand-in -/
theorem plain (f : FuncId) (fn : Func) (hf : Tryz.pinned.checked.prog.funcNamed "homarus/homaruslaw10.BayKnown" = some f) (hfn : Tryz.pinned.checked.prog.funcs[f]? = some fn) :
    true = Tryz.pinned.checked.prog.looks [] ∧ ∀ (j : Nat) t, fn.params[j]? = some t → Tryz.pinned.checked.prog.wantsStandIn t = false := by
  obtain rfl : f = 3 := Option.some.inj ((show Tryz.prog.funcNamed "homarus/homaruslaw10.BayKnown" = some 3 by kernel_rfl).symm.trans hf) |>.symm
  obtain rfl : fn = Tryz.f3 := (Option.some.inj (Tryz.func3.symm.trans hfn)).symm
  refine ⟨by kernel_rfl, fun j t ht => ?_⟩
  rw [Tryz.params3] at ht
  simp at ht

theorem card : Rows.BayKnownCardSaid :=
  Claim7.holds_tied_plain_at .later [] _ _ _ _ said (fun _ h => by cases h) (by kernel_rfl) (fun _ h => by cases h) bayKnown_row_tie rfl ⟨rfl, rfl⟩ (by kernel_rfl) rfl plain (by kernel_rfl)
end Go.Proofs.YtgchcfhbcaemoabGreatDoor.bayKnown
