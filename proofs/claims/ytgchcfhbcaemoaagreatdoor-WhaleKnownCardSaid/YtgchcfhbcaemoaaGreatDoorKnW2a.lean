/- Known runs, each by the kernel. -/
import Derived.Test.YtgchcfhbcaemoaaGreatDoorKnW1z
namespace Go.Proofs.YtgchcfhbcaemoaaGreatDoor.Kn
open Go Go.Rv
/-- whale.Check -/
def m5 : MemoM := ⟨6, 1105812094674773668, [.agg [i 10, i 4, i 1, .v (.slice none 0 0), .v (.slice none 0 0)], .agg [i 1, i 2, .sl 0 0 2 6]], [[i 0, i 10, i 2, i 3, i 0, i 0, i 0, i 13, i 7, i 9, i 2, i 3]], i 0⟩
theorem m5_ok : m5.Ok Tryz.prog := memoM_of (e := env1) rfl nown1 3000 (by kernel_rfl) (by kernel_rfl)
/-- ground.CheckFleet -/
def m6 : MemoM := ⟨103, 921265634543393463, [.agg [i 10, i 4, i 1, .v (.slice none 0 0), .v (.slice none 0 0)], .agg [.sl 0 0 1 5, .sl 1 0 3 1]], [[i 0, i 5, i (-1), i 0, i 364], [i 0, i 0, i 0]], i 0⟩
theorem m6_ok : m6.Ok Tryz.prog := memoM_of (e := env1) rfl nown1 3000 (by kernel_rfl) (by kernel_rfl)
/-- whale.Check -/
def m7 : MemoM := ⟨6, 1105812094674773668, [.agg [i 10, i 4, i 1, .v (.slice none 0 0), .v (.slice none 0 0)], .agg [i 1, i 2, .sl 0 0 2 6]], [[i 0, i 10, i 2, i 3, i 0, i 0, i 0, i 11, i 7, i 9, i 2, i 3]], i 9⟩
theorem m7_ok : m7.Ok Tryz.prog := memoM_of (e := env1) rfl nown1 3000 (by kernel_rfl) (by kernel_rfl)
/-- whale.Check -/
def m8 : MemoM := ⟨6, 1105812094673773665, [.agg [i 10, i 4, i 1, .v (.slice none 0 0), .v (.slice none 0 0)], .agg [i 1, i 1, .sl 0 0 2 6]], [[i 0, i 10, i 2, i 3, i 0, i 0, i 0, i 13, i 7, i 9, i 2, i 3]], i 9⟩
theorem m8_ok : m8.Ok Tryz.prog := memoM_of (e := env1) rfl nown1 3000 (by kernel_rfl) (by kernel_rfl)
end Go.Proofs.YtgchcfhbcaemoaaGreatDoor.Kn
