/- Plain mathematics of votes. -/
import Derived.Test.YthgpjpjflgeokaaStM
namespace Go.Proofs.Ythgpjpjflgeokaa.Sy
open Go Go.Rv
end Go.Proofs.Ythgpjpjflgeokaa.Sy
