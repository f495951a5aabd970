/- A known run: how late the boat may leave. -/
import Derived.Test.YtfaddahidniclafDoorKnRA
namespace Go.Proofs.YtfaddahidniclafDoor.Kn
open Go Go.Rv
def late3 : MemoM := ⟨28, 1223059237407738018, [tA 300, .v (.slice none 0 0)], bM, .tup [i 300, i 0]⟩
theorem late3_ok : late3.Ok Tryd.prog := memoM_of (e := memoCEnv [] [] [7] 32 knownR) rfl (noOwn_memoC named [] [] [7] 32 knownR_ok) 3000 (by kernel_rfl) (by kernel_rfl)
end Go.Proofs.YtfaddahidniclafDoor.Kn
