/- Known runs: what is proved. -/
import Derived.Test.YtfaddahidniclafDoorKnRA
namespace Go.Proofs.YtfaddahidniclafDoor.Kn
open Go Go.Rv
def prv0 : MemoM := ⟨27, 2269324341123112536, [tA 300, .sl 6 0 2 1, .sl 7 0 10 2], bM ++ [[i 0, i 1], [.v (.slice none 0 0), i 10625, .sl 8 0 1 1, i 10550, .sl 9 0 2 1, i 9625, .sl 10 0 2 1, i 4675, .sl 11 0 1 1, i 10500, .sl 12 0 2 1, i 9575, .sl 13 0 2 1, i 6475, .sl 14 0 1 1, i 10575, .sl 15 0 2 1, i 4725, .sl 16 0 2 1, i 6575], [i 0], [i 0, i 1], [i 0, i 2], [i 1], [i 1, i 0], [i 1, i 2], [i 2], [i 2, i 0], [i 2, i 1]], .tup [.v (.bool true), i 0]⟩
theorem prv0_ok : prv0.Ok Tryd.prog := memoM_of (e := memoDEnv [] [] [6, 32] 32 known0 [7] knownR) rfl (noOwn_memoD named [] [] [6, 32] 32 known0_ok [7] knownR_ok) 3000 (by kernel_rfl) (by kernel_rfl)
def prv1 : MemoM := ⟨27, 2269324341123112536, [tA 300, .sl 6 0 2 1, .sl 7 0 10 2], bM ++ [[i 1, i 0], [.v (.slice none 0 0), i 10625, .sl 8 0 1 1, i 10550, .sl 9 0 2 1, i 9625, .sl 10 0 2 1, i 4675, .sl 11 0 1 1, i 10500, .sl 12 0 2 1, i 9575, .sl 13 0 2 1, i 6475, .sl 14 0 1 1, i 10575, .sl 15 0 2 1, i 4725, .sl 16 0 2 1, i 6575], [i 0], [i 0, i 1], [i 0, i 2], [i 1], [i 1, i 0], [i 1, i 2], [i 2], [i 2, i 0], [i 2, i 1]], .tup [.v (.bool true), i 0]⟩
theorem prv1_ok : prv1.Ok Tryd.prog := memoM_of (e := memoDEnv [] [] [6, 32] 32 known0 [7] knownR) rfl (noOwn_memoD named [] [] [6, 32] 32 known0_ok [7] knownR_ok) 3000 (by kernel_rfl) (by kernel_rfl)
end Go.Proofs.YtfaddahidniclafDoor.Kn
