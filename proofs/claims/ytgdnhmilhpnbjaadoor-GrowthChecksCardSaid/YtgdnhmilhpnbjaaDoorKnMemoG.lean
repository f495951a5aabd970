/- What is known of the sets' functions. -/
import Derived.Test.YtgdnhmilhpnbjaaDoorKnMemoF
namespace Go.Proofs.YtgdnhmilhpnbjaaDoor.Kn
open Go Go.Rv
noncomputable def known2 : List (FuncId × List Memo) := known1 ++ [(65, steppeds)]
theorem known2_ok : Knowns Tryd.prog known2 := by
  intro p hp
  simp only [known2, List.mem_append, List.mem_cons, List.not_mem_nil, or_false] at hp
  rcases hp with hp | rfl
  · exact known1_ok p hp
  · exact steppeds_ok
theorem own2 (ids : List Nat) : @NoOwn (memoEnv ids known2) Tryd.prog := noOwn_memo named known2_ok
end Go.Proofs.YtgdnhmilhpnbjaaDoor.Kn
