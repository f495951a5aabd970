/- Known runs, each by the kernel. -/
import Derived.Test.YtgchcfhbcaemoaaGreatDoorKnW2z
namespace Go.Proofs.YtgchcfhbcaemoaaGreatDoor.Kn
open Go Go.Rv
/-- ground.Book -/
def m9 : MemoR := ⟨⟨87, 1105811094666773653, [.agg [i 10, i 4, i 1, .v (.slice none 0 0), .v (.slice none 0 0)], .agg [.sl 0 0 1 5, .sl 1 0 3 1], .sl 2 0 3 5], [[i 0, i 5, i (-1), i 0, i 364], [i 0, i 0, i 0], [i 0, i 5, i 2, i 4, i 1, i 1, i 5, i 2, i 9, i 3, i 2, i 5, i 2, i 5, i 0]], .tup [.sl 0 0 3 5, i 0]⟩, [[i 0, i 5, i 2, i 4, i 1, i 1, i 5, i 2, i 9, i 3, i 2, i 5, i 2, i 5, i 0]]⟩
theorem m9_ok : m9.Ok Tryz.prog := memoR_of (e := env2) rfl nown2 3000 (by kernel_rfl)
/-- ground.Book -/
def m10 : MemoR := ⟨⟨87, 1105811094666773653, [.agg [i 10, i 4, i 1, .v (.slice none 0 0), .v (.slice none 0 0)], .agg [.sl 0 0 1 5, .sl 1 0 3 1], .sl 2 0 1 5], [[i 0, i 5, i (-1), i 0, i 364], [i 0, i 0, i 0], [i 0, i 5, i 2, i 4, i 1]], .tup [.sl 0 0 1 5, i 0]⟩, [[i 0, i 5, i 2, i 4, i 1]]⟩
theorem m10_ok : m10.Ok Tryz.prog := memoR_of (e := env2) rfl nown2 3000 (by kernel_rfl)
/-- ground.State -/
def m11 : MemoM := ⟨94, 1224203256121145843, [.agg [i 10, i 4, i 1, .v (.slice none 0 0), .v (.slice none 0 0)], .agg [.sl 0 0 1 5, .sl 1 0 3 1], .sl 2 0 1 5, i 0, i 13], [[i 0, i 5, i (-1), i 0, i 364], [i 0, i 0, i 0], [i 0, i 5, i 2, i 4, i 1]], .tup [.agg [i 2, i 4, i 1, i 5], i 0]⟩
theorem m11_ok : m11.Ok Tryz.prog := memoM_of (e := env2) rfl nown2 3000 (by kernel_rfl) (by kernel_rfl)
/-- ground.Book -/
def m12 : MemoR := ⟨⟨87, 1105811094666773653, [.agg [i 10, i 4, i 1, .v (.slice none 0 0), .v (.slice none 0 0)], .agg [.sl 0 0 1 5, .sl 1 0 3 1], .sl 2 0 1 5], [[i 0, i 5, i (-1), i 0, i 364], [i 0, i 0, i 0], [i 1, i 5, i 2, i 9, i 3]], .tup [.sl 0 0 1 5, i 0]⟩, [[i 1, i 5, i 2, i 9, i 3]]⟩
theorem m12_ok : m12.Ok Tryz.prog := memoR_of (e := env2) rfl nown2 3000 (by kernel_rfl)
/-- ground.State -/
def m13 : MemoM := ⟨94, 1224203256122145846, [.agg [i 10, i 4, i 1, .v (.slice none 0 0), .v (.slice none 0 0)], .agg [.sl 0 0 1 5, .sl 1 0 3 1], .sl 2 0 1 5, i 1, i 13], [[i 0, i 5, i (-1), i 0, i 364], [i 0, i 0, i 0], [i 1, i 5, i 2, i 9, i 3]], .tup [.agg [i 2, i 9, i 3, i 5], i 0]⟩
theorem m13_ok : m13.Ok Tryz.prog := memoM_of (e := env2) rfl nown2 3000 (by kernel_rfl) (by kernel_rfl)
/-- ground.Book -/
def m14 : MemoR := ⟨⟨87, 1105811094666773653, [.agg [i 10, i 4, i 1, .v (.slice none 0 0), .v (.slice none 0 0)], .agg [.sl 0 0 1 5, .sl 1 0 3 1], .sl 2 0 1 5], [[i 0, i 5, i (-1), i 0, i 364], [i 0, i 0, i 0], [i 2, i 5, i 2, i 5, i 0]], .tup [.sl 0 0 1 5, i 0]⟩, [[i 2, i 5, i 2, i 5, i 0]]⟩
theorem m14_ok : m14.Ok Tryz.prog := memoR_of (e := env2) rfl nown2 3000 (by kernel_rfl)
/-- ground.State -/
def m15 : MemoM := ⟨94, 1224203256123145849, [.agg [i 10, i 4, i 1, .v (.slice none 0 0), .v (.slice none 0 0)], .agg [.sl 0 0 1 5, .sl 1 0 3 1], .sl 2 0 1 5, i 2, i 13], [[i 0, i 5, i (-1), i 0, i 364], [i 0, i 0, i 0], [i 2, i 5, i 2, i 5, i 0]], .tup [.agg [i 2, i 5, i 0, i 5], i 0]⟩
theorem m15_ok : m15.Ok Tryz.prog := memoM_of (e := env2) rfl nown2 3000 (by kernel_rfl) (by kernel_rfl)
/-- ground.State -/
def m16 : MemoM := ⟨94, 1224203256121145841, [.agg [i 10, i 4, i 1, .v (.slice none 0 0), .v (.slice none 0 0)], .agg [.sl 0 0 1 5, .sl 1 0 3 1], .sl 2 0 1 5, i 0, i 11], [[i 0, i 5, i (-1), i 0, i 364], [i 0, i 0, i 0], [i 0, i 5, i 2, i 4, i 1]], .tup [.agg [i 2, i 4, i 1, i 5], i 0]⟩
theorem m16_ok : m16.Ok Tryz.prog := memoM_of (e := env2) rfl nown2 3000 (by kernel_rfl) (by kernel_rfl)
/-- ground.State -/
def m17 : MemoM := ⟨94, 1224203256122145844, [.agg [i 10, i 4, i 1, .v (.slice none 0 0), .v (.slice none 0 0)], .agg [.sl 0 0 1 5, .sl 1 0 3 1], .sl 2 0 1 5, i 1, i 11], [[i 0, i 5, i (-1), i 0, i 364], [i 0, i 0, i 0], [i 1, i 5, i 2, i 9, i 3]], .tup [.agg [i 2, i 9, i 3, i 5], i 0]⟩
theorem m17_ok : m17.Ok Tryz.prog := memoM_of (e := env2) rfl nown2 3000 (by kernel_rfl) (by kernel_rfl)
/-- ground.State -/
def m18 : MemoM := ⟨94, 1224203256123145847, [.agg [i 10, i 4, i 1, .v (.slice none 0 0), .v (.slice none 0 0)], .agg [.sl 0 0 1 5, .sl 1 0 3 1], .sl 2 0 1 5, i 2, i 11], [[i 0, i 5, i (-1), i 0, i 364], [i 0, i 0, i 0], [i 2, i 5, i 2, i 5, i 0]], .tup [.agg [i 2, i 5, i 0, i 5], i 0]⟩
theorem m18_ok : m18.Ok Tryz.prog := memoM_of (e := env2) rfl nown2 3000 (by kernel_rfl) (by kernel_rfl)
/-- ground.State -/
def m19 : MemoM := ⟨94, 1224203256121145842, [.agg [i 10, i 4, i 1, .v (.slice none 0 0), .v (.slice none 0 0)], .agg [.sl 0 0 1 5, .sl 1 0 3 1], .sl 2 0 1 5, i 0, i 12], [[i 0, i 5, i (-1), i 0, i 364], [i 0, i 0, i 0], [i 0, i 5, i 2, i 4, i 1]], .tup [.agg [i 2, i 4, i 1, i 5], i 0]⟩
theorem m19_ok : m19.Ok Tryz.prog := memoM_of (e := env2) rfl nown2 3000 (by kernel_rfl) (by kernel_rfl)
/-- ground.State -/
def m20 : MemoM := ⟨94, 1224203256122145845, [.agg [i 10, i 4, i 1, .v (.slice none 0 0), .v (.slice none 0 0)], .agg [.sl 0 0 1 5, .sl 1 0 3 1], .sl 2 0 1 5, i 1, i 12], [[i 0, i 5, i (-1), i 0, i 364], [i 0, i 0, i 0], [i 1, i 5, i 2, i 9, i 3]], .tup [.agg [i 2, i 9, i 3, i 5], i 0]⟩
theorem m20_ok : m20.Ok Tryz.prog := memoM_of (e := env2) rfl nown2 3000 (by kernel_rfl) (by kernel_rfl)
/-- ground.State -/
def m21 : MemoM := ⟨94, 1224203256123145848, [.agg [i 10, i 4, i 1, .v (.slice none 0 0), .v (.slice none 0 0)], .agg [.sl 0 0 1 5, .sl 1 0 3 1], .sl 2 0 1 5, i 2, i 12], [[i 0, i 5, i (-1), i 0, i 364], [i 0, i 0, i 0], [i 2, i 5, i 2, i 5, i 0]], .tup [.agg [i 2, i 5, i 0, i 5], i 0]⟩
theorem m21_ok : m21.Ok Tryz.prog := memoM_of (e := env2) rfl nown2 3000 (by kernel_rfl) (by kernel_rfl)
/-- ground.State -/
def m22 : MemoM := ⟨94, 1224203256121145840, [.agg [i 10, i 4, i 1, .v (.slice none 0 0), .v (.slice none 0 0)], .agg [.sl 0 0 1 5, .sl 1 0 3 1], .sl 2 0 1 5, i 0, i 10], [[i 0, i 5, i (-1), i 0, i 364], [i 0, i 0, i 0], [i 0, i 5, i 2, i 4, i 1]], .tup [.agg [i 2, i 4, i 1, i 5], i 0]⟩
theorem m22_ok : m22.Ok Tryz.prog := memoM_of (e := env2) rfl nown2 3000 (by kernel_rfl) (by kernel_rfl)
/-- ground.State -/
def m23 : MemoM := ⟨94, 1224203256122145843, [.agg [i 10, i 4, i 1, .v (.slice none 0 0), .v (.slice none 0 0)], .agg [.sl 0 0 1 5, .sl 1 0 3 1], .sl 2 0 1 5, i 1, i 10], [[i 0, i 5, i (-1), i 0, i 364], [i 0, i 0, i 0], [i 1, i 5, i 2, i 9, i 3]], .tup [.agg [i 2, i 9, i 3, i 5], i 0]⟩
theorem m23_ok : m23.Ok Tryz.prog := memoM_of (e := env2) rfl nown2 3000 (by kernel_rfl) (by kernel_rfl)
/-- ground.State -/
def m24 : MemoM := ⟨94, 1224203256123145846, [.agg [i 10, i 4, i 1, .v (.slice none 0 0), .v (.slice none 0 0)], .agg [.sl 0 0 1 5, .sl 1 0 3 1], .sl 2 0 1 5, i 2, i 10], [[i 0, i 5, i (-1), i 0, i 364], [i 0, i 0, i 0], [i 2, i 5, i 2, i 5, i 0]], .tup [.agg [i 2, i 5, i 0, i 5], i 0]⟩
theorem m24_ok : m24.Ok Tryz.prog := memoM_of (e := env2) rfl nown2 3000 (by kernel_rfl) (by kernel_rfl)
/-- ground.State -/
def m25 : MemoM := ⟨94, 1224203256121145844, [.agg [i 10, i 4, i 1, .v (.slice none 0 0), .v (.slice none 0 0)], .agg [.sl 0 0 1 5, .sl 1 0 3 1], .sl 2 0 1 5, i 0, i 14], [[i 0, i 5, i (-1), i 0, i 364], [i 0, i 0, i 0], [i 0, i 5, i 2, i 4, i 1]], .tup [.agg [i 2, i 4, i 1, i 5], i 0]⟩
theorem m25_ok : m25.Ok Tryz.prog := memoM_of (e := env2) rfl nown2 3000 (by kernel_rfl) (by kernel_rfl)
/-- ground.State -/
def m26 : MemoM := ⟨94, 1224203256122145847, [.agg [i 10, i 4, i 1, .v (.slice none 0 0), .v (.slice none 0 0)], .agg [.sl 0 0 1 5, .sl 1 0 3 1], .sl 2 0 1 5, i 1, i 14], [[i 0, i 5, i (-1), i 0, i 364], [i 0, i 0, i 0], [i 1, i 5, i 2, i 9, i 3]], .tup [.agg [i 2, i 9, i 3, i 5], i 0]⟩
theorem m26_ok : m26.Ok Tryz.prog := memoM_of (e := env2) rfl nown2 3000 (by kernel_rfl) (by kernel_rfl)
/-- ground.State -/
def m27 : MemoM := ⟨94, 1224203256123145850, [.agg [i 10, i 4, i 1, .v (.slice none 0 0), .v (.slice none 0 0)], .agg [.sl 0 0 1 5, .sl 1 0 3 1], .sl 2 0 1 5, i 2, i 14], [[i 0, i 5, i (-1), i 0, i 364], [i 0, i 0, i 0], [i 2, i 5, i 2, i 5, i 0]], .tup [.agg [i 2, i 5, i 0, i 5], i 0]⟩
theorem m27_ok : m27.Ok Tryz.prog := memoM_of (e := env2) rfl nown2 3000 (by kernel_rfl) (by kernel_rfl)
/-- whale.Codes -/
def m28 : MemoR := ⟨⟨39, 921265634543393465, [.agg [i 10, i 4, i 1, .v (.slice none 0 0), .v (.slice none 0 0)], .sl 0 0 3 2, i 2], [[i 0, i 0, i 2, i 0, i 4, i 0]], .tup [.sl 0 0 3 1, i 0]⟩, [[i 0, i 1, i 0]]⟩
theorem m28_ok : m28.Ok Tryz.prog := memoR_of (e := env2) rfl nown2 3000 (by kernel_rfl)
/-- whale.Codes -/
def m29 : MemoR := ⟨⟨39, 921265634543393464, [.agg [i 10, i 4, i 1, .v (.slice none 0 0), .v (.slice none 0 0)], .sl 0 0 3 2, i 1], [[i 0, i 0, i 2, i 0, i 4, i 0]], .tup [.sl 0 0 3 1, i 0]⟩, [[i 0, i 0, i 0]]⟩
theorem m29_ok : m29.Ok Tryz.prog := memoR_of (e := env2) rfl nown2 3000 (by kernel_rfl)
/-- whale.Codes -/
def m30 : MemoR := ⟨⟨39, 921265634543393467, [.agg [i 10, i 4, i 1, .v (.slice none 0 0), .v (.slice none 0 0)], .sl 0 0 3 2, i 4], [[i 0, i 0, i 2, i 0, i 4, i 0]], .tup [.sl 0 0 3 1, i 0]⟩, [[i 0, i 1, i 2]]⟩
theorem m30_ok : m30.Ok Tryz.prog := memoR_of (e := env2) rfl nown2 3000 (by kernel_rfl)
end Go.Proofs.YtgchcfhbcaemoaaGreatDoor.Kn
