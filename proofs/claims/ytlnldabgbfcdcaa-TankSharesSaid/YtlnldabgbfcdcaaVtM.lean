/- Plain mathematics of votes. -/
import Derived.Test.YtlnldabgbfcdcaaStM
namespace Go.Proofs.Ytlnldabgbfcdcaa.Sy
open Go Go.Rv
end Go.Proofs.Ytlnldabgbfcdcaa.Sy
