import Derived.Test.YtkdehhcadhainaaGrM
namespace Go.Proofs.Ytkdehhcadhainaa.Sy
open Go Go.Rv
end Go.Proofs.Ytkdehhcadhainaa.Sy
