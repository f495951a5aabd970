/- Known runs: the first examples, and the best plans. -/
import Derived.Test.YtfaddahidniclafDoorKnRA
namespace Go.Proofs.YtfaddahidniclafDoor.Kn
open Go Go.Rv
def aw : MemoM := ⟨5, 0, [], [], .v (.bool true)⟩
theorem aw_ok : aw.Ok Tryd.prog := memoM_of (e := memoDEnv [] [] [6, 32] 32 known0 [7] knownR) rfl (noOwn_memoD named [] [] [6, 32] 32 known0_ok [7] knownR_ok) 3000 (by kernel_rfl) (by kernel_rfl)
def best1 : MemoR := ⟨⟨8, 636139895707442600, [tA 300], bM, .tup [.sl 0 0 2 1, i 9525, i 0]⟩, [[i 0, i 1]]⟩
theorem best1_ok : best1.Ok Tryd.prog := memoR_of (e := memoDEnv [] [] [6, 32] 32 known0 [7] knownR) rfl (noOwn_memoD named [] [] [6, 32] 32 known0_ok [7] knownR_ok) 3000 (by kernel_rfl)
def best2 : MemoR := ⟨⟨8, 636129895647442510, [.agg [i 300, i 600, i 200, i 5, i 20, .sl 0 0 3 6, .sl 1 0 4 1]], bM, .tup [.sl 0 0 1 1, i 5600, i 0]⟩, [[i 1]]⟩
theorem best2_ok : best2.Ok Tryd.prog := memoR_of (e := memoDEnv [] [] [6, 32] 32 known0 [7] knownR) rfl (noOwn_memoD named [] [] [6, 32] 32 known0_ok [7] knownR_ok) 3000 (by kernel_rfl)
def late1 : MemoM := ⟨28, 1223059237407738018, [tA 300, .sl 6 0 2 1], bM ++ [[i 0, i 1]], .tup [i 5, i 0]⟩
theorem late1_ok : late1.Ok Tryd.prog := memoM_of (e := memoCEnv [] [] [7] 32 knownR) rfl (noOwn_memoC named [] [] [7] 32 knownR_ok) 3000 (by kernel_rfl) (by kernel_rfl)
def late2 : MemoM := ⟨28, 1223059237407738018, [tA 300, .sl 6 0 2 1], bM ++ [[i 1, i 0]], .tup [i 65, i 0]⟩
theorem late2_ok : late2.Ok Tryd.prog := memoM_of (e := memoCEnv [] [] [7] 32 knownR) rfl (noOwn_memoC named [] [] [7] 32 knownR_ok) 3000 (by kernel_rfl) (by kernel_rfl)
end Go.Proofs.YtfaddahidniclafDoor.Kn
