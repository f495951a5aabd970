/- The words of sets of sizes; the program's functions have names of their own. -/
import Derived.Test.YtgdnhmilhpnbjaaDoorRvP3
import Derived.Test.YtgdnhmilhpnbjaaDoorProg
import Derived.KernelRfl
namespace Go.Proofs.YtgdnhmilhpnbjaaDoor.Kn
open Go Go.Rv
def i (n : Int) : RV := .v (.int .i64 n)
def s (l : List Int) : RV := .agg (l.map i)
def c (n : Nat) : RV := .v (.int .u64 (.ofNat n))
def w (l : List Nat) : RV := .agg (l.map c)
theorem named : Named Tryd.prog := named_of (by kernel_rfl)
theorem own0 : @NoOwn (plainEnv []) Tryd.prog := noOwn_plain named []
end Go.Proofs.YtgdnhmilhpnbjaaDoor.Kn
