/- Known runs: what some functions on sets of sizes give, each run by the kernel. -/
import Derived.Test.YtgdnhmilhpnbjaaDoorKnMemo
namespace Go.Proofs.YtgdnhmilhpnbjaaDoor.Kn
open Go Go.Rv
def between0 : Memo := ⟨54, 1500, [(i 0), (i 1500)], (w [18446744073709551615,18446744073709551615,18446744073709551615,18446744073709551615,18446744073709551615,18446744073709551615,18446744073709551615,18446744073709551615,18446744073709551615,18446744073709551615,18446744073709551615,18446744073709551615,18446744073709551615,18446744073709551615,18446744073709551615,18446744073709551615,18446744073709551615,18446744073709551615,18446744073709551615,18446744073709551615,18446744073709551615,18446744073709551615,18446744073709551615,536870911,0,0,0,0,0,0,0,0,0,0,0,0,0,0,0,0,0,0,0,0])⟩
theorem between0_ok : between0.Ok Tryd.prog := memo_of rfl own0 3000 (by kernel_rfl) (by kernel_rfl) (by kernel_rfl)
def between1 : Memo := ⟨54, 499, [(i 0), (i 499)], (w [18446744073709551615,18446744073709551615,18446744073709551615,18446744073709551615,18446744073709551615,18446744073709551615,18446744073709551615,4503599627370495,0,0,0,0,0,0,0,0,0,0,0,0,0,0,0,0,0,0,0,0,0,0,0,0,0,0,0,0,0,0,0,0,0,0,0,0])⟩
theorem between1_ok : between1.Ok Tryd.prog := memo_of rfl own0 3000 (by kernel_rfl) (by kernel_rfl) (by kernel_rfl)
def between2 : Memo := ⟨54, 500004000, [(i 500), (i 2500)], (w [0,0,0,0,0,0,0,18442240474082181120,18446744073709551615,18446744073709551615,18446744073709551615,18446744073709551615,18446744073709551615,18446744073709551615,18446744073709551615,18446744073709551615,18446744073709551615,18446744073709551615,18446744073709551615,18446744073709551615,18446744073709551615,18446744073709551615,18446744073709551615,18446744073709551615,18446744073709551615,18446744073709551615,18446744073709551615,18446744073709551615,18446744073709551615,18446744073709551615,18446744073709551615,18446744073709551615,18446744073709551615,18446744073709551615,18446744073709551615,18446744073709551615,18446744073709551615,18446744073709551615,18446744073709551615,31,0,0,0,0])⟩
theorem between2_ok : between2.Ok Tryd.prog := memo_of rfl own0 3000 (by kernel_rfl) (by kernel_rfl) (by kernel_rfl)
def between3 : Memo := ⟨54, 440001761, [(i 440), (i 441)], (w [0,0,0,0,0,0,216172782113783808,0,0,0,0,0,0,0,0,0,0,0,0,0,0,0,0,0,0,0,0,0,0,0,0,0,0,0,0,0,0,0,0,0,0,0,0,0])⟩
theorem between3_ok : between3.Ok Tryd.prog := memo_of rfl own0 3000 (by kernel_rfl) (by kernel_rfl) (by kernel_rfl)
def between4 : Memo := ⟨54, 480001920, [(i 480), (i 480)], (w [0,0,0,0,0,0,0,4294967296,0,0,0,0,0,0,0,0,0,0,0,0,0,0,0,0,0,0,0,0,0,0,0,0,0,0,0,0,0,0,0,0,0,0,0,0])⟩
theorem between4_ok : between4.Ok Tryd.prog := memo_of rfl own0 3000 (by kernel_rfl) (by kernel_rfl) (by kernel_rfl)
def between5 : Memo := ⟨54, 480001999, [(i 480), (i 559)], (w [0,0,0,0,0,0,0,18446744069414584320,281474976710655,0,0,0,0,0,0,0,0,0,0,0,0,0,0,0,0,0,0,0,0,0,0,0,0,0,0,0,0,0,0,0,0,0,0,0])⟩
theorem between5_ok : between5.Ok Tryd.prog := memo_of rfl own0 3000 (by kernel_rfl) (by kernel_rfl) (by kernel_rfl)
def between6 : Memo := ⟨54, 500002100, [(i 500), (i 600)], (w [0,0,0,0,0,0,0,18442240474082181120,18446744073709551615,33554431,0,0,0,0,0,0,0,0,0,0,0,0,0,0,0,0,0,0,0,0,0,0,0,0,0,0,0,0,0,0,0,0,0,0])⟩
theorem between6_ok : between6.Ok Tryd.prog := memo_of rfl own0 3000 (by kernel_rfl) (by kernel_rfl) (by kernel_rfl)
def between7 : Memo := ⟨54, 560002280, [(i 560), (i 600)], (w [0,0,0,0,0,0,0,0,18446462598732840960,33554431,0,0,0,0,0,0,0,0,0,0,0,0,0,0,0,0,0,0,0,0,0,0,0,0,0,0,0,0,0,0,0,0,0,0])⟩
theorem between7_ok : between7.Ok Tryd.prog := memo_of rfl own0 3000 (by kernel_rfl) (by kernel_rfl) (by kernel_rfl)
def between8 : Memo := ⟨54, 400001699, [(i 400), (i 499)], (w [0,0,0,0,0,0,18446744073709486080,4503599627370495,0,0,0,0,0,0,0,0,0,0,0,0,0,0,0,0,0,0,0,0,0,0,0,0,0,0,0,0,0,0,0,0,0,0,0,0])⟩
theorem between8_ok : between8.Ok Tryd.prog := memo_of rfl own0 3000 (by kernel_rfl) (by kernel_rfl) (by kernel_rfl)
def between9 : Memo := ⟨54, 500002059, [(i 500), (i 559)], (w [0,0,0,0,0,0,0,18442240474082181120,281474976710655,0,0,0,0,0,0,0,0,0,0,0,0,0,0,0,0,0,0,0,0,0,0,0,0,0,0,0,0,0,0,0,0,0,0,0])⟩
theorem between9_ok : between9.Ok Tryd.prog := memo_of rfl own0 3000 (by kernel_rfl) (by kernel_rfl) (by kernel_rfl)
def between10 : Memo := ⟨54, 560002579, [(i 560), (i 899)], (w [0,0,0,0,0,0,0,0,18446462598732840960,18446744073709551615,18446744073709551615,18446744073709551615,18446744073709551615,18446744073709551615,15,0,0,0,0,0,0,0,0,0,0,0,0,0,0,0,0,0,0,0,0,0,0,0,0,0,0,0,0,0])⟩
theorem between10_ok : between10.Ok Tryd.prog := memo_of rfl own0 3000 (by kernel_rfl) (by kernel_rfl) (by kernel_rfl)
def between11 : Memo := ⟨54, 900005200, [(i 900), (i 2500)], (w [0,0,0,0,0,0,0,0,0,0,0,0,0,0,18446744073709551600,18446744073709551615,18446744073709551615,18446744073709551615,18446744073709551615,18446744073709551615,18446744073709551615,18446744073709551615,18446744073709551615,18446744073709551615,18446744073709551615,18446744073709551615,18446744073709551615,18446744073709551615,18446744073709551615,18446744073709551615,18446744073709551615,18446744073709551615,18446744073709551615,18446744073709551615,18446744073709551615,18446744073709551615,18446744073709551615,18446744073709551615,18446744073709551615,31,0,0,0,0])⟩
theorem between11_ok : between11.Ok Tryd.prog := memo_of rfl own0 3000 (by kernel_rfl) (by kernel_rfl) (by kernel_rfl)
def betweens : List Memo := [between0, between1, between2, between3, between4, between5, between6, between7, between8, between9, between10, between11]
theorem betweens_ok : ∀ e ∈ betweens, e.Ok Tryd.prog ∧ e.g = 54 := by
  intro e he
  simp only [betweens, List.mem_cons, List.not_mem_nil, or_false] at he
  rcases he with rfl | rfl | rfl | rfl | rfl | rfl | rfl | rfl | rfl | rfl | rfl | rfl
  · exact ⟨between0_ok, rfl⟩
  · exact ⟨between1_ok, rfl⟩
  · exact ⟨between2_ok, rfl⟩
  · exact ⟨between3_ok, rfl⟩
  · exact ⟨between4_ok, rfl⟩
  · exact ⟨between5_ok, rfl⟩
  · exact ⟨between6_ok, rfl⟩
  · exact ⟨between7_ok, rfl⟩
  · exact ⟨between8_ok, rfl⟩
  · exact ⟨between9_ok, rfl⟩
  · exact ⟨between10_ok, rfl⟩
  · exact ⟨between11_ok, rfl⟩
def empty0 : Memo := ⟨63, 1674397059988702446, [(w [0,0,0,0,0,0,216172782113783808,0,0,0,0,0,0,0,0,0,0,0,0,0,0,0,0,0,0,0,0,0,0,0,0,0,0,0,0,0,0,0,0,0,0,0,0,0])], (.v (.bool false))⟩
theorem empty0_ok : empty0.Ok Tryd.prog := memo_of rfl own0 3000 (by kernel_rfl) (by kernel_rfl) (by kernel_rfl)
def empty1 : Memo := ⟨63, 0, [(w [0,0,0,0,0,0,0,0,0,0,0,0,0,0,0,0,0,0,0,0,0,0,0,0,0,0,0,0,0,0,0,0,0,0,0,0,0,0,0,0,0,0,0,0])], (.v (.bool true))⟩
theorem empty1_ok : empty1.Ok Tryd.prog := memo_of rfl own0 3000 (by kernel_rfl) (by kernel_rfl) (by kernel_rfl)
def empty2 : Memo := ⟨63, 2060593771640706161, [(w [0,0,0,0,0,0,0,4503595332403200,0,0,0,0,0,0,0,0,0,0,0,0,0,0,0,0,0,0,0,0,0,0,0,0,0,0,0,0,0,0,0,0,0,0,0,0])], (.v (.bool false))⟩
theorem empty2_ok : empty2.Ok Tryd.prog := memo_of rfl own0 3000 (by kernel_rfl) (by kernel_rfl) (by kernel_rfl)
def empty3 : Memo := ⟨63, 1540395035428903896, [(w [0,0,0,0,0,0,0,4294967296,0,0,0,0,0,0,0,0,0,0,0,0,0,0,0,0,0,0,0,0,0,0,0,0,0,0,0,0,0,0,0,0,0,0,0,0])], (.v (.bool false))⟩
theorem empty3_ok : empty3.Ok Tryd.prog := memo_of rfl own0 3000 (by kernel_rfl) (by kernel_rfl) (by kernel_rfl)
def empty4 : Memo := ⟨63, 1218501058082985606, [(w [0,0,0,0,0,0,18446744073709486080,4503599627370495,0,0,0,0,0,0,0,0,0,0,0,0,0,0,0,0,0,0,0,0,0,0,0,0,0,0,0,0,0,0,0,0,0,0,0,0])], (.v (.bool false))⟩
theorem empty4_ok : empty4.Ok Tryd.prog := memo_of rfl own0 3000 (by kernel_rfl) (by kernel_rfl) (by kernel_rfl)
def empty5 : Memo := ⟨63, 1624767476961410670, [(w [0,0,0,0,0,0,18374686479671623680,4503599627370495,0,0,0,0,0,0,0,0,0,0,0,0,0,0,0,0,0,0,0,0,0,0,0,0,0,0,0,0,0,0,0,0,0,0,0,0])], (.v (.bool false))⟩
theorem empty5_ok : empty5.Ok Tryd.prog := memo_of rfl own0 3000 (by kernel_rfl) (by kernel_rfl) (by kernel_rfl)
def emptys : List Memo := [empty0, empty1, empty2, empty3, empty4, empty5]
theorem emptys_ok : ∀ e ∈ emptys, e.Ok Tryd.prog ∧ e.g = 63 := by
  intro e he
  simp only [emptys, List.mem_cons, List.not_mem_nil, or_false] at he
  rcases he with rfl | rfl | rfl | rfl | rfl | rfl
  · exact ⟨empty0_ok, rfl⟩
  · exact ⟨empty1_ok, rfl⟩
  · exact ⟨empty2_ok, rfl⟩
  · exact ⟨empty3_ok, rfl⟩
  · exact ⟨empty4_ok, rfl⟩
  · exact ⟨empty5_ok, rfl⟩
end Go.Proofs.YtgdnhmilhpnbjaaDoor.Kn
