/- Plain mathematics of boxes that are given away one by one. -/
import Derived.Test.YthgpjpjflgeokaaStM
namespace Go.Proofs.Ythgpjpjflgeokaa.Sy
open Go Go.Rv
end Go.Proofs.Ythgpjpjflgeokaa.Sy
