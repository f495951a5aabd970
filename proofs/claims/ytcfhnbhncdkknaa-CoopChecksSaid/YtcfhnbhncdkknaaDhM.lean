/- Plain mathematics of boxes that are given away one by one. -/
import Derived.Test.YtcfhnbhncdkknaaStM
namespace Go.Proofs.Ytcfhnbhncdkknaa.Sy
open Go Go.Rv
end Go.Proofs.Ytcfhnbhncdkknaa.Sy
