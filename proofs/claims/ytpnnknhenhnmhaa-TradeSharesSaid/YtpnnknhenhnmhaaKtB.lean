/- Lists of a tide. -/
import Derived.Test.YtpnnknhenhnmhaaSyP2
import Derived.Test.YtpnnknhenhnmhaaGrM
import Derived.Test.YtpnnknhenhnmhaaStM
import Derived.Test.YtpnnknhenhnmhaaKtT
import Derived.Test.YtpnnknhenhnmhaaKtA
import Derived.Test.YtpnnknhenhnmhaaSyP2
import Derived.KernelRfl
import Derived.Test.YtpnnknhenhnmhaaProg
namespace Go.Proofs.Ytpnnknhenhnmhaa.Sy
open Go Go.Rv
set_option linter.unusedVariables false

end Go.Proofs.Ytpnnknhenhnmhaa.Sy
