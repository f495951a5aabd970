/- Known runs, all of them. -/
import Derived.Test.YtfaddahidniclabDoorKnM1
import Derived.Test.YtfaddahidniclabDoorKnM2
import Derived.Test.YtfaddahidniclabDoorKnM3
import Derived.Test.YtfaddahidniclabDoorKnM4
import Derived.Test.YtfaddahidniclabDoorKnM5
import Derived.Test.YtfaddahidniclabDoorKnM6
namespace Go.Proofs.YtfaddahidniclabDoor.Kn
open Go Go.Rv
def knownM : List MemoM := part1 ++ (part2 ++ (part3 ++ (part4 ++ (part5 ++ (part6)))))
theorem knownM_ok : ∀ e ∈ knownM, e.Ok Tryd.prog := by
  intro e he
  simp only [knownM, List.mem_append] at he
  rcases he with he | he | he | he | he | he
  · exact part1_ok e he
  · exact part2_ok e he
  · exact part3_ok e he
  · exact part4_ok e he
  · exact part5_ok e he
  · exact part6_ok e he
end Go.Proofs.YtfaddahidniclabDoor.Kn
