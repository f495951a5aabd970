/- Known runs: what is common. -/
import Derived.Test.YtfaddahidniclabDoorRvZB
import Derived.Test.YtfaddahidniclabDoorProg
import Derived.KernelRfl
namespace Go.Proofs.YtfaddahidniclabDoor.Kn
open Go Go.Rv
theorem named : Named Tryd.prog := named_of (by kernel_rfl)
def i (n : Int) : RV := .v (.int .i64 n)
def gs : List Nat := [40, 39, 41]
end Go.Proofs.YtfaddahidniclabDoor.Kn
