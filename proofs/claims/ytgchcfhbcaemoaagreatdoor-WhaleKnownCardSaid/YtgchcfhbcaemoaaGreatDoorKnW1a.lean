/- Known runs, each by the kernel. -/
import Derived.Test.YtgchcfhbcaemoaaGreatDoorKnWm
namespace Go.Proofs.YtgchcfhbcaemoaaGreatDoor.Kn
open Go Go.Rv
/-- ground.Check -/
def m0 : MemoM := ⟨20, 1075952482018279165, [.agg [i 10, i 4, i 1, .v (.slice none 0 0), .v (.slice none 0 0)]], [], i 0⟩
theorem m0_ok : m0.Ok Tryz.prog := memoM_of (e := (gcEnv [] gs)) rfl (noOwn_gc named [] gs) 3000 (by kernel_rfl) (by kernel_rfl)
/-- whale.CheckRopes -/
def m1 : MemoM := ⟨66, 0, [.agg [.sl 0 0 1 5, .sl 1 0 3 1], .sl 2 0 3 4], [[i 0, i 5, i (-1), i 0, i 364], [i 0, i 0, i 0], [i 1, i 0, i 0, .v (.string ⟨#[]⟩), i 2, i 700, i 900, .v (.string ⟨#[]⟩), i 3, i 0, i 0, .v (.string ⟨#[]⟩)]], i 0⟩
theorem m1_ok : m1.Ok Tryz.prog := memoM_of (e := (gcEnv [] gs)) rfl (noOwn_gc named [] gs) 3000 (by kernel_rfl) (by kernel_rfl)
/-- whale.Short -/
def m2 : MemoM := ⟨18, 0, [.sl 0 0 2 1], [[.v (.string ⟨#[97, 98, 99]⟩), .v (.string ⟨#[99, 98, 100]⟩)]], .tup [i 3, i 0]⟩
theorem m2_ok : m2.Ok Tryz.prog := memoM_of (e := envM) rfl nownM 3000 (by kernel_rfl) (by kernel_rfl)
/-- whale.Short -/
def m3 : MemoM := ⟨18, 0, [.sl 0 0 2 1], [[.v (.string ⟨#[97, 97]⟩), .v (.string ⟨#[97, 98]⟩)]], .tup [i 2, i 0]⟩
theorem m3_ok : m3.Ok Tryz.prog := memoM_of (e := envM) rfl nownM 3000 (by kernel_rfl) (by kernel_rfl)
/-- whale.Short -/
def m4 : MemoM := ⟨18, 0, [.sl 0 0 2 1], [[.v (.string ⟨#[97, 98, 99]⟩), .v (.string ⟨#[99, 98, 97]⟩)]], .tup [i 0, i 6]⟩
theorem m4_ok : m4.Ok Tryz.prog := memoM_of (e := envM) rfl nownM 3000 (by kernel_rfl) (by kernel_rfl)
end Go.Proofs.YtgchcfhbcaemoaaGreatDoor.Kn
