/- Known runs, by their keys. -/
import Derived.Test.YtgchcfhbcaemoaaGreatDoorKnW1a
namespace Go.Proofs.YtgchcfhbcaemoaaGreatDoor.Kn
open Go Go.Rv
def known1 : List (List MemoM) := [[m1, m2, m3, m4], [], [], [], [], [], [], [], [], [], [], [], [], [], [], [], [], [], [], [], [], [], [], [], [], [], [], [], [], [m0], [], []]
theorem known1_ok : ∀ b ∈ known1, ∀ q ∈ b, q.Ok Tryz.prog := (conss_ok (cons_ok m1_ok (cons_ok m2_ok (cons_ok m3_ok (cons_ok m4_ok nil_ok)))) (conss_ok nil_ok (conss_ok nil_ok (conss_ok nil_ok (conss_ok nil_ok (conss_ok nil_ok (conss_ok nil_ok (conss_ok nil_ok (conss_ok nil_ok (conss_ok nil_ok (conss_ok nil_ok (conss_ok nil_ok (conss_ok nil_ok (conss_ok nil_ok (conss_ok nil_ok (conss_ok nil_ok (conss_ok nil_ok (conss_ok nil_ok (conss_ok nil_ok (conss_ok nil_ok (conss_ok nil_ok (conss_ok nil_ok (conss_ok nil_ok (conss_ok nil_ok (conss_ok nil_ok (conss_ok nil_ok (conss_ok nil_ok (conss_ok nil_ok (conss_ok nil_ok (conss_ok (cons_ok m0_ok nil_ok) (conss_ok nil_ok (conss_ok nil_ok nils_ok))))))))))))))))))))))))))))))))
def knownR1 : List (List MemoR) := []
theorem knownR1_ok : ∀ b ∈ knownR1, ∀ q ∈ b, q.Ok Tryz.prog := nilsR_ok
def fm1 : List Nat := [20, 66, 18]
def fr1 : List Nat := []
@[reducible] noncomputable def env1 : Env := memoDEnv [] gs [20, 66, 18] 32 known1 [] knownR1
theorem nown1 : @NoOwn env1 Tryz.prog := noOwn_memoD named [] gs [20, 66, 18] 32 known1_ok [] knownR1_ok
end Go.Proofs.YtgchcfhbcaemoaaGreatDoor.Kn
