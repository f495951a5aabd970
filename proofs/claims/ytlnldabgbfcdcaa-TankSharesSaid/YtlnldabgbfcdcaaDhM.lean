/- Plain mathematics of boxes that are given away one by one. -/
import Derived.Test.YtlnldabgbfcdcaaStM
namespace Go.Proofs.Ytlnldabgbfcdcaa.Sy
open Go Go.Rv
end Go.Proofs.Ytlnldabgbfcdcaa.Sy
