import Derived.Test.YtoagogieidfagaaGrM
namespace Go.Proofs.Ytoagogieidfagaa.Sy
open Go Go.Rv
end Go.Proofs.Ytoagogieidfagaa.Sy
