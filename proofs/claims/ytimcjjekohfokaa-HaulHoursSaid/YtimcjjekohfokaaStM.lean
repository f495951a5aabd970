import Derived.Test.YtimcjjekohfokaaGrM
namespace Go.Proofs.Ytimcjjekohfokaa.Sy
open Go Go.Rv
end Go.Proofs.Ytimcjjekohfokaa.Sy
