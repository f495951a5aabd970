/- Known runs, all of them. -/
import Derived.Test.YtfaddahidniclafDoorKnH1
import Derived.Test.YtfaddahidniclafDoorKnH2
import Derived.Test.YtfaddahidniclafDoorKnH3
import Derived.Test.YtfaddahidniclafDoorKnH4
namespace Go.Proofs.YtfaddahidniclafDoor.Kn
open Go Go.Rv
def known0 : List (List MemoM) := [bk0, bk1, bk2, bk3, bk4, bk5, bk6, bk7, bk8, bk9, bk10, bk11, bk12, bk13, bk14, bk15, bk16, bk17, bk18, bk19, bk20, bk21, bk22, bk23, bk24, bk25, bk26, bk27, bk28, bk29, bk30, bk31]
theorem known0_ok : ∀ b ∈ known0, ∀ e ∈ b, e.Ok Tryd.prog := by
  intro b hb
  simp only [known0, List.mem_cons, List.not_mem_nil, or_false] at hb
  rcases hb with rfl | rfl | rfl | rfl | rfl | rfl | rfl | rfl | rfl | rfl | rfl | rfl | rfl | rfl | rfl | rfl | rfl | rfl | rfl | rfl | rfl | rfl | rfl | rfl | rfl | rfl | rfl | rfl | rfl | rfl | rfl | rfl
  · exact bk0_ok
  · exact bk1_ok
  · exact bk2_ok
  · exact bk3_ok
  · exact bk4_ok
  · exact bk5_ok
  · exact bk6_ok
  · exact bk7_ok
  · exact bk8_ok
  · exact bk9_ok
  · exact bk10_ok
  · exact bk11_ok
  · exact bk12_ok
  · exact bk13_ok
  · exact bk14_ok
  · exact bk15_ok
  · exact bk16_ok
  · exact bk17_ok
  · exact bk18_ok
  · exact bk19_ok
  · exact bk20_ok
  · exact bk21_ok
  · exact bk22_ok
  · exact bk23_ok
  · exact bk24_ok
  · exact bk25_ok
  · exact bk26_ok
  · exact bk27_ok
  · exact bk28_ok
  · exact bk29_ok
  · exact bk30_ok
  · exact bk31_ok
end Go.Proofs.YtfaddahidniclafDoor.Kn
