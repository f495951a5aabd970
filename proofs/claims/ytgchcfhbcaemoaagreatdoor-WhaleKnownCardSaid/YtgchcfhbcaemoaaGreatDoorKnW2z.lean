/- Known runs, by their keys. -/
import Derived.Test.YtgchcfhbcaemoaaGreatDoorKnW2a
namespace Go.Proofs.YtgchcfhbcaemoaaGreatDoor.Kn
open Go Go.Rv
def known2 : List (List MemoM) := [[m1, m2, m3, m4], [m8], [], [], [m5, m7], [], [], [], [], [], [], [], [], [], [], [], [], [], [], [], [], [], [], [m6], [], [], [], [], [], [m0], [], []]
theorem known2_ok : ∀ b ∈ known2, ∀ q ∈ b, q.Ok Tryz.prog := (conss_ok (cons_ok m1_ok (cons_ok m2_ok (cons_ok m3_ok (cons_ok m4_ok nil_ok)))) (conss_ok (cons_ok m8_ok nil_ok) (conss_ok nil_ok (conss_ok nil_ok (conss_ok (cons_ok m5_ok (cons_ok m7_ok nil_ok)) (conss_ok nil_ok (conss_ok nil_ok (conss_ok nil_ok (conss_ok nil_ok (conss_ok nil_ok (conss_ok nil_ok (conss_ok nil_ok (conss_ok nil_ok (conss_ok nil_ok (conss_ok nil_ok (conss_ok nil_ok (conss_ok nil_ok (conss_ok nil_ok (conss_ok nil_ok (conss_ok nil_ok (conss_ok nil_ok (conss_ok nil_ok (conss_ok nil_ok (conss_ok (cons_ok m6_ok nil_ok) (conss_ok nil_ok (conss_ok nil_ok (conss_ok nil_ok (conss_ok nil_ok (conss_ok nil_ok (conss_ok (cons_ok m0_ok nil_ok) (conss_ok nil_ok (conss_ok nil_ok nils_ok))))))))))))))))))))))))))))))))
def knownR2 : List (List MemoR) := []
theorem knownR2_ok : ∀ b ∈ knownR2, ∀ q ∈ b, q.Ok Tryz.prog := nilsR_ok
def fm2 : List Nat := [20, 66, 18, 103, 6]
def fr2 : List Nat := []
@[reducible] noncomputable def env2 : Env := memoDEnv [] gs [20, 66, 18, 103, 6] 32 known2 [] knownR2
theorem nown2 : @NoOwn env2 Tryz.prog := noOwn_memoD named [] gs [20, 66, 18, 103, 6] 32 known2_ok [] knownR2_ok
end Go.Proofs.YtgchcfhbcaemoaaGreatDoor.Kn
