/- Known runs: what some functions on sets of sizes give, each run by the kernel. -/
import Derived.Test.YtgdnhmilhpnbjaaDoorKnMemoE
namespace Go.Proofs.YtgdnhmilhpnbjaaDoor.Kn
open Go Go.Rv
def stepped0 : Memo := ⟨65, 1394027867372222597, [(w [0,0,0,0,0,0,216172782113783808,0,0,0,0,0,0,0,0,0,0,0,0,0,0,0,0,0,0,0,0,0,0,0,0,0,0,0,0,0,0,0,0,0,0,0,0,0]), (s [40, 60])], (w [0,0,0,0,0,0,0,18014394214514688,0,0,0,0,0,0,0,0,0,0,0,0,0,0,0,0,0,0,0,0,0,0,0,0,0,0,0,0,0,0,0,0,0,0,0,0])⟩
theorem stepped0_ok : stepped0.Ok Tryd.prog := memo_of rfl (own1 []) 600 (by kernel_rfl) (by kernel_rfl) (by kernel_rfl)
def stepped1 : Memo := ⟨65, 1865774781291227102, [(w [0,0,0,0,0,0,0,4503595332403200,0,0,0,0,0,0,0,0,0,0,0,0,0,0,0,0,0,0,0,0,0,0,0,0,0,0,0,0,0,0,0,0,0,0,0,0]), (s [40, 60])], (w [0,0,0,0,0,0,0,0,281474976710400,0,0,0,0,0,0,0,0,0,0,0,0,0,0,0,0,0,0,0,0,0,0,0,0,0,0,0,0,0,0,0,0,0,0,0])⟩
theorem stepped1_ok : stepped1.Ok Tryd.prog := memo_of rfl (own1 []) 600 (by kernel_rfl) (by kernel_rfl) (by kernel_rfl)
def stepped2 : Memo := ⟨65, 735527381305583640, [(w [0,0,0,0,0,0,0,4294967296,0,0,0,0,0,0,0,0,0,0,0,0,0,0,0,0,0,0,0,0,0,0,0,0,0,0,0,0,0,0,0,0,0,0,0,0]), (s [40, 60])], (w [0,0,0,0,0,0,0,0,536870656,0,0,0,0,0,0,0,0,0,0,0,0,0,0,0,0,0,0,0,0,0,0,0,0,0,0,0,0,0,0,0,0,0,0,0])⟩
theorem stepped2_ok : stepped2.Ok Tryd.prog := memo_of rfl (own1 []) 600 (by kernel_rfl) (by kernel_rfl) (by kernel_rfl)
def stepped3 : Memo := ⟨65, 290377196262249646, [(w [0,0,0,0,0,0,18446744073709486080,4503599627370495,0,0,0,0,0,0,0,0,0,0,0,0,0,0,0,0,0,0,0,0,0,0,0,0,0,0,0,0,0,0,0,0,0,0,0,0]), (s [40, 60])], (w [0,0,0,0,0,0,18374686479671623680,18446744073709551615,281474976710655,0,0,0,0,0,0,0,0,0,0,0,0,0,0,0,0,0,0,0,0,0,0,0,0,0,0,0,0,0,0,0,0,0,0,0])⟩
theorem stepped3_ok : stepped3.Ok Tryd.prog := memo_of rfl (own1 []) 600 (by kernel_rfl) (by kernel_rfl) (by kernel_rfl)
def stepped4 : Memo := ⟨65, 2100386523591818649, [(w [0,0,0,0,0,0,18374686479671623680,4503599627370495,0,0,0,0,0,0,0,0,0,0,0,0,0,0,0,0,0,0,0,0,0,0,0,0,0,0,0,0,0,0,0,0,0,0,0,0]), (s [40, 60])], (w [0,0,0,0,0,0,0,18446744069414584320,281474976710655,0,0,0,0,0,0,0,0,0,0,0,0,0,0,0,0,0,0,0,0,0,0,0,0,0,0,0,0,0,0,0,0,0,0,0])⟩
theorem stepped4_ok : stepped4.Ok Tryd.prog := memo_of rfl (own1 []) 600 (by kernel_rfl) (by kernel_rfl) (by kernel_rfl)
def steppeds : List Memo := [stepped0, stepped1, stepped2, stepped3, stepped4]
theorem steppeds_ok : ∀ e ∈ steppeds, e.Ok Tryd.prog ∧ e.g = 65 := by
  intro e he
  simp only [steppeds, List.mem_cons, List.not_mem_nil, or_false] at he
  rcases he with rfl | rfl | rfl | rfl | rfl
  · exact ⟨stepped0_ok, rfl⟩
  · exact ⟨stepped1_ok, rfl⟩
  · exact ⟨stepped2_ok, rfl⟩
  · exact ⟨stepped3_ok, rfl⟩
  · exact ⟨stepped4_ok, rfl⟩
end Go.Proofs.YtgdnhmilhpnbjaaDoor.Kn
