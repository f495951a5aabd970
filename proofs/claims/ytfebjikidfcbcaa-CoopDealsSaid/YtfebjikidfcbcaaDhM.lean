import Derived.Test.YtfebjikidfcbcaaStM
namespace Go.Proofs.Ytfebjikidfcbcaa.Sy
open Go Go.Rv
end Go.Proofs.Ytfebjikidfcbcaa.Sy
