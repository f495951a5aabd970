/- What is known of the sets' first functions. -/
import Derived.Test.YtjkeojpmmljfaaaDoorKnMemoA
import Derived.Test.YtjkeojpmmljfaaaDoorKnMemoB
import Derived.Test.YtjkeojpmmljfaaaDoorKnMemoC
import Derived.Test.YtjkeojpmmljfaaaDoorKnMemoD
namespace Go.Proofs.YtjkeojpmmljfaaaDoor.Kn
open Go Go.Rv
noncomputable def known1 : List (FuncId × List Memo) := [(59, betweens), (71, ors), (72, ands), (94, withouts), (111, raiseds), (86, emptys)]
theorem known1_ok : Knowns Tryd.prog known1 := by
  intro p hp
  simp only [known1, List.mem_cons, List.not_mem_nil, or_false] at hp
  rcases hp with rfl | rfl | rfl | rfl | rfl | rfl
  · exact betweens_ok
  · exact ors_ok
  · exact ands_ok
  · exact withouts_ok
  · exact raiseds_ok
  · exact emptys_ok
theorem own1 (ids : List Nat) : @NoOwn (memoEnv ids known1) Tryd.prog := noOwn_memo named known1_ok
end Go.Proofs.YtjkeojpmmljfaaaDoor.Kn
