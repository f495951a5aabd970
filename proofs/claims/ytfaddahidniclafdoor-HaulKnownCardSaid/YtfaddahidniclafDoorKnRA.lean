/- Known runs, all of them. -/
import Derived.Test.YtfaddahidniclafDoorKnR1
import Derived.Test.YtfaddahidniclafDoorKnR2
import Derived.Test.YtfaddahidniclafDoorKnR3
import Derived.Test.YtfaddahidniclafDoorKnR4
import Derived.Test.YtfaddahidniclafDoorKnR5
import Derived.Test.YtfaddahidniclafDoorKnR6
namespace Go.Proofs.YtfaddahidniclafDoor.Kn
open Go Go.Rv
def knownR : List (List MemoR) := [rk0, rk1, rk2, rk3, rk4, rk5, rk6, rk7, rk8, rk9, rk10, rk11, rk12, rk13, rk14, rk15, rk16, rk17, rk18, rk19, rk20, rk21, rk22, rk23, rk24, rk25, rk26, rk27, rk28, rk29, rk30, rk31]
theorem knownR_ok : ∀ b ∈ knownR, ∀ e ∈ b, e.Ok Tryd.prog := by
  intro b hb
  simp only [knownR, List.mem_cons, List.not_mem_nil, or_false] at hb
  rcases hb with rfl | rfl | rfl | rfl | rfl | rfl | rfl | rfl | rfl | rfl | rfl | rfl | rfl | rfl | rfl | rfl | rfl | rfl | rfl | rfl | rfl | rfl | rfl | rfl | rfl | rfl | rfl | rfl | rfl | rfl | rfl | rfl
  · exact rk0_ok
  · exact rk1_ok
  · exact rk2_ok
  · exact rk3_ok
  · exact rk4_ok
  · exact rk5_ok
  · exact rk6_ok
  · exact rk7_ok
  · exact rk8_ok
  · exact rk9_ok
  · exact rk10_ok
  · exact rk11_ok
  · exact rk12_ok
  · exact rk13_ok
  · exact rk14_ok
  · exact rk15_ok
  · exact rk16_ok
  · exact rk17_ok
  · exact rk18_ok
  · exact rk19_ok
  · exact rk20_ok
  · exact rk21_ok
  · exact rk22_ok
  · exact rk23_ok
  · exact rk24_ok
  · exact rk25_ok
  · exact rk26_ok
  · exact rk27_ok
  · exact rk28_ok
  · exact rk29_ok
  · exact rk30_ok
  · exact rk31_ok
end Go.Proofs.YtfaddahidniclafDoor.Kn
