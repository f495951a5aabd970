/- Plain mathematics of votes. -/
import Derived.Test.YtpnnknhenhnmhaaStM
namespace Go.Proofs.Ytpnnknhenhnmhaa.Sy
open Go Go.Rv
end Go.Proofs.Ytpnnknhenhnmhaa.Sy
