/- Known runs over tables, all of them. -/
import Derived.Test.YtgchcfhbcaemoabGreatDoorKnCTa
import Derived.Test.YtgchcfhbcaemoabGreatDoorKnCTb
import Derived.Test.YtgchcfhbcaemoabGreatDoorKnCTc
import Derived.Test.YtgchcfhbcaemoabGreatDoorKnCTd
import Derived.Test.YtgchcfhbcaemoabGreatDoorKnCTe
import Derived.Test.YtgchcfhbcaemoabGreatDoorKnCTf
import Derived.Test.YtgchcfhbcaemoabGreatDoorKnCTg
namespace Go.Proofs.YtgchcfhbcaemoabGreatDoor.Kn
open Go Go.Rv
def knownT : List MemoM := [t0, t1, t2, t3, t4, t5, t6]
theorem knownT_ok : ∀ q ∈ knownT, q.OkT [5, 1, 4] T Tryz.prog := (consT_ok t0_ok (consT_ok t1_ok (consT_ok t2_ok (consT_ok t3_ok (consT_ok t4_ok (consT_ok t5_ok (consT_ok t6_ok nilT_ok)))))))
@[reducible] noncomputable def envZ : Env := memoTEnv [5, 1, 4] [] [5] 32 known4 [7, 8] T knownT
theorem nownZ : @NoOwn envZ Tryz.prog := noOwn_memoT named [5, 1, 4] [] [5] 32 known4_ok [7, 8] (by decide) knownT_ok
end Go.Proofs.YtgchcfhbcaemoabGreatDoor.Kn
