/- Known runs over maps: all orders. -/
import Derived.Test.YtgchcfhbcaemoaaGreatDoorRvZF
import Derived.Test.YtgchcfhbcaemoaaGreatDoorKnW0
namespace Go.Proofs.YtgchcfhbcaemoaaGreatDoor.Kn
open Go Go.Rv
def st (l : List UInt8) : RV := .v (.string ⟨l.toArray⟩)
def u (n : Int) : RV := .v (.int .u64 n)
def mp0 : MapM := ⟨48, [(.v (.string ⟨#[97]⟩), u 1, 0), (.v (.string ⟨#[98]⟩), u 3, 1), (.v (.string ⟨#[99]⟩), u 3, 2), (.v (.string ⟨#[100]⟩), u 2, 3)], 4, false⟩
theorem mp0_ok : mp0.Ok Tryz.prog := mapM_of (e := (gcEnv [] gs)) rfl (noOwn_gc named [] gs) 200 (by kernel_rfl) (by kernel_rfl)
def mp1 : MapM := ⟨48, [(.v (.string ⟨#[97, 98]⟩), u 1, 0), (.v (.string ⟨#[98, 99]⟩), u 3, 1), (.v (.string ⟨#[99, 98]⟩), u 3, 2), (.v (.string ⟨#[98, 97]⟩), u 1, 3), (.v (.string ⟨#[98, 100]⟩), u 2, 4), (.v (.string ⟨#[100, 98]⟩), u 2, 5)], 6, false⟩
theorem mp1_ok : mp1.Ok Tryz.prog := mapM_of (e := (gcEnv [] gs)) rfl (noOwn_gc named [] gs) 200 (by kernel_rfl) (by kernel_rfl)
def mp2 : MapM := ⟨48, [(.v (.string ⟨#[97, 98, 99]⟩), u 1, 0), (.v (.string ⟨#[99, 98, 97]⟩), u 1, 1), (.v (.string ⟨#[99, 98, 100]⟩), u 2, 2), (.v (.string ⟨#[100, 98, 99]⟩), u 2, 3)], 4, true⟩
theorem mp2_ok : mp2.Ok Tryz.prog := mapM_of (e := (gcEnv [] gs)) rfl (noOwn_gc named [] gs) 200 (by kernel_rfl) (by kernel_rfl)
def mp3 : MapM := ⟨48, [(.v (.string ⟨#[97]⟩), u 3, 0), (.v (.string ⟨#[98]⟩), u 2, 1)], 2, false⟩
theorem mp3_ok : mp3.Ok Tryz.prog := mapM_of (e := (gcEnv [] gs)) rfl (noOwn_gc named [] gs) 200 (by kernel_rfl) (by kernel_rfl)
def mp4 : MapM := ⟨48, [(.v (.string ⟨#[97, 97]⟩), u 1, 0), (.v (.string ⟨#[97, 98]⟩), u 2, 1), (.v (.string ⟨#[98, 97]⟩), u 2, 2)], 3, true⟩
theorem mp4_ok : mp4.Ok Tryz.prog := mapM_of (e := (gcEnv [] gs)) rfl (noOwn_gc named [] gs) 200 (by kernel_rfl) (by kernel_rfl)
def mp5 : MapM := ⟨48, [(.v (.string ⟨#[97]⟩), u 3, 0), (.v (.string ⟨#[98]⟩), u 3, 1), (.v (.string ⟨#[99]⟩), u 3, 2)], 3, false⟩
theorem mp5_ok : mp5.Ok Tryz.prog := mapM_of (e := (gcEnv [] gs)) rfl (noOwn_gc named [] gs) 200 (by kernel_rfl) (by kernel_rfl)
def mp6 : MapM := ⟨48, [(.v (.string ⟨#[97, 98]⟩), u 3, 0), (.v (.string ⟨#[98, 99]⟩), u 3, 1), (.v (.string ⟨#[99, 98]⟩), u 3, 2), (.v (.string ⟨#[98, 97]⟩), u 3, 3)], 4, false⟩
theorem mp6_ok : mp6.Ok Tryz.prog := mapM_of (e := (gcEnv [] gs)) rfl (noOwn_gc named [] gs) 200 (by kernel_rfl) (by kernel_rfl)
def mp7 : MapM := ⟨48, [(.v (.string ⟨#[97, 98, 99]⟩), u 3, 0), (.v (.string ⟨#[99, 98, 97]⟩), u 3, 1)], 2, false⟩
theorem mp7_ok : mp7.Ok Tryz.prog := mapM_of (e := (gcEnv [] gs)) rfl (noOwn_gc named [] gs) 200 (by kernel_rfl) (by kernel_rfl)
def maps : List MapM := [mp0, mp1, mp2, mp3, mp4, mp5, mp6, mp7]
theorem nomap : ∀ q ∈ ([] : List MapM), q.Ok Tryz.prog := by simp
theorem consmap {m : MapM} {l : List MapM} (h1 : m.Ok Tryz.prog) (h2 : ∀ q ∈ l, q.Ok Tryz.prog) : ∀ q ∈ m :: l, q.Ok Tryz.prog := by
  intro q hq
  rcases List.mem_cons.1 hq with rfl | hq
  · exact h1
  · exact h2 q hq
theorem maps_ok : ∀ q ∈ maps, q.Ok Tryz.prog := (consmap mp0_ok (consmap mp1_ok (consmap mp2_ok (consmap mp3_ok (consmap mp4_ok (consmap mp5_ok (consmap mp6_ok (consmap mp7_ok nomap))))))))
@[reducible] noncomputable def envM : Env := mapEnv (gcEnv [] gs) maps
theorem nownM : @NoOwn envM Tryz.prog := noOwn_map (noOwn_gc named [] gs) maps_ok
end Go.Proofs.YtgchcfhbcaemoaaGreatDoor.Kn
