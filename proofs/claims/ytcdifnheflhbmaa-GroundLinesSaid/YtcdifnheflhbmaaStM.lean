import Derived.Test.YtcdifnheflhbmaaGrM
namespace Go.Proofs.Ytcdifnheflhbmaa.Sy
open Go Go.Rv
end Go.Proofs.Ytcdifnheflhbmaa.Sy
