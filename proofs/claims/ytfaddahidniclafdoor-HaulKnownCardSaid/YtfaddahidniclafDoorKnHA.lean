/- Known runs, all of them. -/
import Derived.Test.YtfaddahidniclafDoorKnL3
import Derived.Test.YtfaddahidniclafDoorKnP1
import Derived.Test.YtfaddahidniclafDoorKnP2
import Derived.Test.YtfaddahidniclafDoorKnP3
namespace Go.Proofs.YtfaddahidniclafDoor.Kn
open Go Go.Rv
def knownB : List (List MemoM) := [aw :: bk0, bk1, late3 :: late2 :: late1 :: bk2, bk3, bk4, bk5, bk6, bk7, bk8, bk9, bk10, bk11, bk12, bk13, bk14, bk15, bk16, bk17, bk18, bk19, bk20, bk21, bk22, bk23, prv3 :: prv2 :: prv1 :: prv0 :: bk24, bk25, bk26, bk27, bk28, bk29, bk30, bk31]
theorem knownB_ok : ∀ b ∈ knownB, ∀ e ∈ b, e.Ok Tryd.prog := by
  intro b hb
  simp only [knownB, List.mem_cons, List.not_mem_nil, or_false] at hb
  rcases hb with rfl | rfl | rfl | rfl | rfl | rfl | rfl | rfl | rfl | rfl | rfl | rfl | rfl | rfl | rfl | rfl | rfl | rfl | rfl | rfl | rfl | rfl | rfl | rfl | rfl | rfl | rfl | rfl | rfl | rfl | rfl | rfl
  · exact (cons_ok aw_ok bk0_ok)
  · exact bk1_ok
  · exact (cons_ok late3_ok (cons_ok late2_ok (cons_ok late1_ok bk2_ok)))
  · exact bk3_ok
  · exact bk4_ok
  · exact bk5_ok
  · exact bk6_ok
  · exact bk7_ok
  · exact bk8_ok
  · exact bk9_ok
  · exact bk10_ok
  · exact bk11_ok
  · exact bk12_ok
  · exact bk13_ok
  · exact bk14_ok
  · exact bk15_ok
  · exact bk16_ok
  · exact bk17_ok
  · exact bk18_ok
  · exact bk19_ok
  · exact bk20_ok
  · exact bk21_ok
  · exact bk22_ok
  · exact bk23_ok
  · exact (cons_ok prv3_ok (cons_ok prv2_ok (cons_ok prv1_ok (cons_ok prv0_ok bk24_ok))))
  · exact bk25_ok
  · exact bk26_ok
  · exact bk27_ok
  · exact bk28_ok
  · exact bk29_ok
  · exact bk30_ok
  · exact bk31_ok
def knownR2 : List (List MemoR) := [rk0, rk1, rk2, rk3, rk4, rk5, rk6, rk7, best1 :: rk8, rk9, rk10, rk11, rk12, rk13, best2 :: rk14, rk15, rk16, rk17, rk18, rk19, rk20, rk21, rk22, rk23, rk24, rk25, rk26, rk27, rk28, rk29, rk30, rk31]
theorem knownR2_ok : ∀ b ∈ knownR2, ∀ e ∈ b, e.Ok Tryd.prog := by
  intro b hb
  simp only [knownR2, List.mem_cons, List.not_mem_nil, or_false] at hb
  rcases hb with rfl | rfl | rfl | rfl | rfl | rfl | rfl | rfl | rfl | rfl | rfl | rfl | rfl | rfl | rfl | rfl | rfl | rfl | rfl | rfl | rfl | rfl | rfl | rfl | rfl | rfl | rfl | rfl | rfl | rfl | rfl | rfl
  · exact rk0_ok
  · exact rk1_ok
  · exact rk2_ok
  · exact rk3_ok
  · exact rk4_ok
  · exact rk5_ok
  · exact rk6_ok
  · exact rk7_ok
  · exact (rcons0 best1_ok rk8_ok)
  · exact rk9_ok
  · exact rk10_ok
  · exact rk11_ok
  · exact rk12_ok
  · exact rk13_ok
  · exact (rcons0 best2_ok rk14_ok)
  · exact rk15_ok
  · exact rk16_ok
  · exact rk17_ok
  · exact rk18_ok
  · exact rk19_ok
  · exact rk20_ok
  · exact rk21_ok
  · exact rk22_ok
  · exact rk23_ok
  · exact rk24_ok
  · exact rk25_ok
  · exact rk26_ok
  · exact rk27_ok
  · exact rk28_ok
  · exact rk29_ok
  · exact rk30_ok
  · exact rk31_ok
end Go.Proofs.YtfaddahidniclafDoor.Kn
