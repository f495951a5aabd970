/- What is known of the sets' functions. -/
import Derived.Test.YtjkeojpmmljfaaaDoorKnMemoF
namespace Go.Proofs.YtjkeojpmmljfaaaDoor.Kn
open Go Go.Rv
noncomputable def known2 : List (FuncId × List Memo) := known1 ++ [(93, steppeds), (58, verdicts)]
theorem known2_ok : Knowns Tryd.prog known2 := by
  intro p hp
  simp only [known2, List.mem_append, List.mem_cons, List.not_mem_nil, or_false] at hp
  rcases hp with hp | rfl | rfl
  · exact known1_ok p hp
  · exact steppeds_ok
  · exact verdicts_ok
theorem own2 (ids : List Nat) : @NoOwn (memoEnv ids known2) Tryd.prog := noOwn_memo named known2_ok
end Go.Proofs.YtjkeojpmmljfaaaDoor.Kn
