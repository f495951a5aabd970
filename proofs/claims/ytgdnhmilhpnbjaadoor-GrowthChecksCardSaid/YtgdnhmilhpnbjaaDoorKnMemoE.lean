/- What is known of the sets' first functions. -/
import Derived.Test.YtgdnhmilhpnbjaaDoorKnMemoA
import Derived.Test.YtgdnhmilhpnbjaaDoorKnMemoB
import Derived.Test.YtgdnhmilhpnbjaaDoorKnMemoC
import Derived.Test.YtgdnhmilhpnbjaaDoorKnMemoD
namespace Go.Proofs.YtgdnhmilhpnbjaaDoor.Kn
open Go Go.Rv
noncomputable def known1 : List (FuncId × List Memo) := [(54, betweens), (61, ors), (62, ands), (66, withouts), (67, raiseds), (63, emptys)]
theorem known1_ok : Knowns Tryd.prog known1 := by
  intro p hp
  simp only [known1, List.mem_cons, List.not_mem_nil, or_false] at hp
  rcases hp with rfl | rfl | rfl | rfl | rfl | rfl
  · exact betweens_ok
  · exact ors_ok
  · exact ands_ok
  · exact withouts_ok
  · exact raiseds_ok
  · exact emptys_ok
theorem own1 (ids : List Nat) : @NoOwn (memoEnv ids known1) Tryd.prog := noOwn_memo named known1_ok
end Go.Proofs.YtgdnhmilhpnbjaaDoor.Kn
