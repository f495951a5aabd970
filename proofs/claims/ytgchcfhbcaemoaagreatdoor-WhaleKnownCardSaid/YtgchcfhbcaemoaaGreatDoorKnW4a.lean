/- Known runs, each by the kernel. -/
import Derived.Test.YtgchcfhbcaemoaaGreatDoorKnW3z
namespace Go.Proofs.YtgchcfhbcaemoaaGreatDoor.Kn
open Go Go.Rv
/-- whale.Danger -/
def m31 : MemoR := ⟨⟨14, 176781407903932954, [.agg [i 10, i 4, i 1, .v (.slice none 0 0), .v (.slice none 0 0)], .agg [i 1, i 2, .sl 0 0 2 6], .agg [.sl 1 0 1 5, .sl 2 0 3 1], .sl 3 0 3 5, .sl 4 0 3 4, i 800, i 13], [[i 0, i 10, i 2, i 3, i 0, i 0, i 0, i 13, i 7, i 9, i 2, i 3], [i 0, i 5, i (-1), i 0, i 364], [i 0, i 0, i 0], [i 0, i 5, i 2, i 4, i 1, i 1, i 5, i 2, i 9, i 3, i 2, i 5, i 2, i 5, i 0], [i 1, i 0, i 0, .v (.string ⟨#[]⟩), i 2, i 700, i 900, .v (.string ⟨#[]⟩), i 3, i 0, i 0, .v (.string ⟨#[]⟩)]], .tup [.sl 0 0 1 3, i 0]⟩, [[i 0, i 1, i 3]]⟩
theorem m31_ok : m31.Ok Tryz.prog := memoR_of (e := env3) rfl nown3 3000 (by kernel_rfl)
/-- whale.Meet -/
def m32 : MemoR := ⟨⟨36, 1340419351747427907, [.agg [i 10, i 4, i 1, .v (.slice none 0 0), .v (.slice none 0 0)], .agg [i 1, i 2, .sl 0 0 2 6], .agg [.sl 1 0 1 5, .sl 2 0 3 1], .sl 3 0 3 5, i 11], [[i 0, i 10, i 2, i 3, i 0, i 0, i 0, i 13, i 7, i 9, i 2, i 3], [i 0, i 5, i (-1), i 0, i 364], [i 0, i 0, i 0], [i 0, i 5, i 2, i 4, i 1, i 1, i 5, i 2, i 9, i 3, i 2, i 5, i 2, i 5, i 0]], .tup [.sl 0 0 2 3, i 0]⟩, [[i 0, i 0, i 3, i 0, i 2, i 3]]⟩
theorem m32_ok : m32.Ok Tryz.prog := memoR_of (e := env3) rfl nown3 3000 (by kernel_rfl)
/-- whale.Meet -/
def m33 : MemoR := ⟨⟨36, 1340419351747427908, [.agg [i 10, i 4, i 1, .v (.slice none 0 0), .v (.slice none 0 0)], .agg [i 1, i 2, .sl 0 0 2 6], .agg [.sl 1 0 1 5, .sl 2 0 3 1], .sl 3 0 3 5, i 12], [[i 0, i 10, i 2, i 3, i 0, i 0, i 0, i 13, i 7, i 9, i 2, i 3], [i 0, i 5, i (-1), i 0, i 364], [i 0, i 0, i 0], [i 0, i 5, i 2, i 4, i 1, i 1, i 5, i 2, i 9, i 3, i 2, i 5, i 2, i 5, i 0]], .tup [.sl 0 0 1 3, i 0]⟩, [[i 0, i 2, i 3]]⟩
theorem m33_ok : m33.Ok Tryz.prog := memoR_of (e := env3) rfl nown3 3000 (by kernel_rfl)
/-- whale.Meet -/
def m34 : MemoR := ⟨⟨36, 1340419351747427909, [.agg [i 10, i 4, i 1, .v (.slice none 0 0), .v (.slice none 0 0)], .agg [i 1, i 2, .sl 0 0 2 6], .agg [.sl 1 0 1 5, .sl 2 0 3 1], .sl 3 0 3 5, i 13], [[i 0, i 10, i 2, i 3, i 0, i 0, i 0, i 13, i 7, i 9, i 2, i 3], [i 0, i 5, i (-1), i 0, i 364], [i 0, i 0, i 0], [i 0, i 5, i 2, i 4, i 1, i 1, i 5, i 2, i 9, i 3, i 2, i 5, i 2, i 5, i 0]], .tup [.sl 0 0 1 3, i 0]⟩, [[i 0, i 1, i 3]]⟩
theorem m34_ok : m34.Ok Tryz.prog := memoR_of (e := env3) rfl nown3 3000 (by kernel_rfl)
/-- whale.Danger -/
def m35 : MemoR := ⟨⟨14, 176781407903932952, [.agg [i 10, i 4, i 1, .v (.slice none 0 0), .v (.slice none 0 0)], .agg [i 1, i 2, .sl 0 0 2 6], .agg [.sl 1 0 1 5, .sl 2 0 3 1], .sl 3 0 3 5, .sl 4 0 3 4, i 800, i 11], [[i 0, i 10, i 2, i 3, i 0, i 0, i 0, i 13, i 7, i 9, i 2, i 3], [i 0, i 5, i (-1), i 0, i 364], [i 0, i 0, i 0], [i 0, i 5, i 2, i 4, i 1, i 1, i 5, i 2, i 9, i 3, i 2, i 5, i 2, i 5, i 0], [i 1, i 0, i 0, .v (.string ⟨#[]⟩), i 2, i 700, i 900, .v (.string ⟨#[]⟩), i 3, i 0, i 0, .v (.string ⟨#[]⟩)]], .tup [.sl 0 0 1 3, i 0]⟩, [[i 0, i 0, i 3]]⟩
theorem m35_ok : m35.Ok Tryz.prog := memoR_of (e := env3) rfl nown3 3000 (by kernel_rfl)
/-- whale.Danger -/
def m36 : MemoR := ⟨⟨14, 176781407903932953, [.agg [i 10, i 4, i 1, .v (.slice none 0 0), .v (.slice none 0 0)], .agg [i 1, i 2, .sl 0 0 2 6], .agg [.sl 1 0 1 5, .sl 2 0 3 1], .sl 3 0 3 5, .sl 4 0 3 4, i 800, i 12], [[i 0, i 10, i 2, i 3, i 0, i 0, i 0, i 13, i 7, i 9, i 2, i 3], [i 0, i 5, i (-1), i 0, i 364], [i 0, i 0, i 0], [i 0, i 5, i 2, i 4, i 1, i 1, i 5, i 2, i 9, i 3, i 2, i 5, i 2, i 5, i 0], [i 1, i 0, i 0, .v (.string ⟨#[]⟩), i 2, i 700, i 900, .v (.string ⟨#[]⟩), i 3, i 0, i 0, .v (.string ⟨#[]⟩)]], .tup [.v (.slice none 0 0), i 0]⟩, []⟩
theorem m36_ok : m36.Ok Tryz.prog := memoR_of (e := env3) rfl nown3 3000 (by kernel_rfl)
/-- whale.Danger -/
def m37 : MemoR := ⟨⟨14, 176781408003933254, [.agg [i 10, i 4, i 1, .v (.slice none 0 0), .v (.slice none 0 0)], .agg [i 1, i 2, .sl 0 0 2 6], .agg [.sl 1 0 1 5, .sl 2 0 3 1], .sl 3 0 3 5, .sl 4 0 3 4, i 900, i 13], [[i 0, i 10, i 2, i 3, i 0, i 0, i 0, i 13, i 7, i 9, i 2, i 3], [i 0, i 5, i (-1), i 0, i 364], [i 0, i 0, i 0], [i 0, i 5, i 2, i 4, i 1, i 1, i 5, i 2, i 9, i 3, i 2, i 5, i 2, i 5, i 0], [i 1, i 0, i 0, .v (.string ⟨#[]⟩), i 2, i 700, i 900, .v (.string ⟨#[]⟩), i 3, i 0, i 0, .v (.string ⟨#[]⟩)]], .tup [.v (.slice none 0 0), i 0]⟩, []⟩
theorem m37_ok : m37.Ok Tryz.prog := memoR_of (e := env3) rfl nown3 3000 (by kernel_rfl)
/-- whale.Haul -/
def m38 : MemoR := ⟨⟨37, 2178103779602351501, [.agg [i 10, i 4, i 1, .v (.slice none 0 0), .v (.slice none 0 0)], .agg [i 1, i 2, .sl 0 0 2 6], .agg [.sl 1 0 1 5, .sl 2 0 3 1], .sl 3 0 3 5, .sl 4 0 3 4, i 800, i 10, i 14], [[i 0, i 10, i 2, i 3, i 0, i 0, i 0, i 13, i 7, i 9, i 2, i 3], [i 0, i 5, i (-1), i 0, i 364], [i 0, i 0, i 0], [i 0, i 5, i 2, i 4, i 1, i 1, i 5, i 2, i 9, i 3, i 2, i 5, i 2, i 5, i 0], [i 1, i 0, i 0, .v (.string ⟨#[]⟩), i 2, i 700, i 900, .v (.string ⟨#[]⟩), i 3, i 0, i 0, .v (.string ⟨#[]⟩)]], .tup [.sl 0 0 2 2, i 0]⟩, [[i 0, i 11, i 1, i 13]]⟩
theorem m38_ok : m38.Ok Tryz.prog := memoR_of (e := env3) rfl nown3 3000 (by kernel_rfl)
end Go.Proofs.YtgchcfhbcaemoaaGreatDoor.Kn
