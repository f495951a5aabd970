/- Known runs, all of them. -/
import Derived.Test.YtfaddahidniclaeDoorKnG1
import Derived.Test.YtfaddahidniclaeDoorKnG2
import Derived.Test.YtfaddahidniclaeDoorKnG3
import Derived.Test.YtfaddahidniclaeDoorKnG4
import Derived.Test.YtfaddahidniclaeDoorKnG5
import Derived.Test.YtfaddahidniclaeDoorKnG6
import Derived.Test.YtfaddahidniclaeDoorKnG7
namespace Go.Proofs.YtfaddahidniclaeDoor.Kn
open Go Go.Rv
def knownB : List (List MemoM) := [aw :: st3 :: bk0, bk1, bk2, bk3, bk4, bk5, bk6, bk7, bk8, bk9, bk10, bk11, st0 :: bk12, st1 :: bk13, bk14, bk15, bk16, bk17, bk18, chf :: bk19, bk20, bk21, bk22, bk23, chk :: bk24, bk25, bk26, bk27, bk28, st2 :: bk29, bk30, bk31]
theorem knownB_ok : ∀ b ∈ knownB, ∀ e ∈ b, e.Ok Tryd.prog := by
  intro b hb
  simp only [knownB, List.mem_cons, List.not_mem_nil, or_false] at hb
  rcases hb with rfl | rfl | rfl | rfl | rfl | rfl | rfl | rfl | rfl | rfl | rfl | rfl | rfl | rfl | rfl | rfl | rfl | rfl | rfl | rfl | rfl | rfl | rfl | rfl | rfl | rfl | rfl | rfl | rfl | rfl | rfl | rfl
  · exact (cons_ok aw_ok (cons_ok st3_ok bk0_ok))
  · exact bk1_ok
  · exact bk2_ok
  · exact bk3_ok
  · exact bk4_ok
  · exact bk5_ok
  · exact bk6_ok
  · exact bk7_ok
  · exact bk8_ok
  · exact bk9_ok
  · exact bk10_ok
  · exact bk11_ok
  · exact (cons_ok st0_ok bk12_ok)
  · exact (cons_ok st1_ok bk13_ok)
  · exact bk14_ok
  · exact bk15_ok
  · exact bk16_ok
  · exact bk17_ok
  · exact bk18_ok
  · exact (cons_ok chf_ok bk19_ok)
  · exact bk20_ok
  · exact bk21_ok
  · exact bk22_ok
  · exact bk23_ok
  · exact (cons_ok chk_ok bk24_ok)
  · exact bk25_ok
  · exact bk26_ok
  · exact bk27_ok
  · exact bk28_ok
  · exact (cons_ok st2_ok bk29_ok)
  · exact bk30_ok
  · exact bk31_ok
end Go.Proofs.YtfaddahidniclaeDoor.Kn
