/- Known runs, each by the kernel. -/
import Derived.Test.YtgchcfhbcaemoabGreatDoorKnC0

namespace Go.Proofs.YtgchcfhbcaemoabGreatDoor.Kn
open Go Go.Rv
/-- homaruskit.Page -/
def m0 : MemoM := ⟨9, 0, [.sl 0 0 7 1], [[.v (.string ⟨#[115, 101, 116, 32, 48, 32, 50, 32, 48]⟩), .v (.string ⟨#[119, 104, 97, 108, 101, 32, 48, 32, 50, 32, 51, 32, 48, 32, 49]⟩), .v (.string ⟨#[100, 97, 110, 103, 101, 114]⟩), .v (.string ⟨#[100, 97, 121, 32, 49]⟩), .v (.string ⟨#[104, 97, 117, 108, 32, 48]⟩), .v (.string ⟨#[99, 97, 116, 99, 104, 32, 48, 32, 57, 53, 48, 32, 57, 54, 48, 32, 102, 32, 121, 32, 63, 32, 104, 97, 114, 100]⟩), .v (.string ⟨#[102, 117, 101, 108]⟩)]], .v (.string ⟨#[115, 101, 116, 32, 48, 32, 50, 32, 48, 10, 119, 104, 97, 108, 101, 32, 48, 32, 50, 32, 51, 32, 48, 32, 49, 10, 100, 97, 110, 103, 101, 114, 10, 100, 97, 121, 32, 49, 10, 104, 97, 117, 108, 32, 48, 10, 99, 97, 116, 99, 104, 32, 48, 32, 57, 53, 48, 32, 57, 54, 48, 32, 102, 32, 121, 32, 63, 32, 104, 97, 114, 100, 10, 102, 117, 101, 108, 10]⟩)⟩
theorem m0_ok : m0.Ok Tryz.prog := memoM_of (e := (gcEnv [] gs)) rfl (noOwn_gc named [] gs) 3000 (by kernel_rfl) (by kernel_rfl)
/-- ground.Check -/
def m1 : MemoM := ⟨22, 1381779491189973080, [.agg [i 10, i 2, i 3, .sl 0 0 2 1, .sl 3 0 2 6]], [[.sl 1 0 2 1, .sl 2 0 2 1], [i 3, i 4], [i 7, i 7], [i 0, i 0, i 0, i 10, i 19, i 5, i 1, i 0, i 1, i 15, i 30, i (-2)]], i 0⟩
theorem m1_ok : m1.Ok Tryz.prog := memoM_of (e := (gcEnv [] gs)) rfl (noOwn_gc named [] gs) 3000 (by kernel_rfl) (by kernel_rfl)
/-- whale.CheckRopes -/
def m2 : MemoM := ⟨12, 0, [.agg [.sl 0 0 3 5, .sl 1 0 4 1], .sl 2 0 4 4], [[i 0, i 1, i (-1), i 0, i 100, i 0, i 1, i 0, i 0, i 100, i 2, i 2, i (-1), i 50, i 60], [i 0, i 1, i 2, i 2], [i 1, i 0, i 0, .v (.string ⟨#[]⟩), i 2, i 700, i 900, .v (.string ⟨#[]⟩), i 3, i 0, i 0, .v (.string ⟨#[]⟩), i 1, i 0, i 0, .v (.string ⟨#[]⟩)]], i 0⟩
theorem m2_ok : m2.Ok Tryz.prog := memoM_of (e := (gcEnv [] gs)) rfl (noOwn_gc named [] gs) 3000 (by kernel_rfl) (by kernel_rfl)
/-- trade.Check -/
def m3 : MemoM := ⟨16, 0, [.sl 0 0 3 6], [[.v (.string ⟨#[99, 104, 105, 99, 107]⟩), i 450, i 550, bo false, bo false, i 1000, .v (.string ⟨#[115, 101, 108, 101, 99, 116]⟩), i 551, i 900, bo false, bo false, i 1600, .v (.string ⟨#[99, 117, 108, 108]⟩), i 400, i 900, bo true, bo true, i 700]], i 0⟩
theorem m3_ok : m3.Ok Tryz.prog := memoM_of (e := (gcEnv [] gs)) rfl (noOwn_gc named [] gs) 3000 (by kernel_rfl) (by kernel_rfl)
/-- bay.checkDiary -/
def m4 : MemoM := ⟨28, 1661048090461842871, [.v (.string ⟨#[115, 101, 116, 32, 48, 32, 50, 32, 48, 10, 119, 104, 97, 108, 101, 32, 48, 32, 50, 32, 51, 32, 48, 32, 49, 10, 100, 97, 110, 103, 101, 114, 10, 100, 97, 121, 32, 49, 10, 104, 97, 117, 108, 32, 48, 10, 99, 97, 116, 99, 104, 32, 48, 32, 57, 53, 48, 32, 57, 54, 48, 32, 102, 32, 121, 32, 63, 32, 104, 97, 114, 100, 10, 102, 117, 101, 108, 10]⟩)], [], i 0⟩
theorem m4_ok : m4.Ok Tryz.prog := memoM_of (e := (gcEnv [] gs)) rfl (noOwn_gc named [] gs) 3000 (by kernel_rfl) (by kernel_rfl)
/-- strings.Cut -/
def m5 : MemoM := ⟨92, 1222514852126367529, [.v (.string ⟨#[115, 101, 116, 32, 48, 32, 50, 32, 48]⟩), .v (.string ⟨#[32]⟩)], [], .tup [.v (.string ⟨#[115, 101, 116]⟩), .v (.string ⟨#[48, 32, 50, 32, 48]⟩), bo true]⟩
theorem m5_ok : m5.Ok Tryz.prog := memoM_of (e := (gcEnv [] gs)) rfl (noOwn_gc named [] gs) 3000 (by kernel_rfl) (by kernel_rfl)
/-- strings.Cut -/
def m6 : MemoM := ⟨92, 1140524474791905013, [.v (.string ⟨#[48, 32, 50, 32, 48]⟩), .v (.string ⟨#[32]⟩)], [], .tup [.v (.string ⟨#[48]⟩), .v (.string ⟨#[50, 32, 48]⟩), bo true]⟩
theorem m6_ok : m6.Ok Tryz.prog := memoM_of (e := (gcEnv [] gs)) rfl (noOwn_gc named [] gs) 3000 (by kernel_rfl) (by kernel_rfl)
/-- strings.Cut -/
def m7 : MemoM := ⟨92, 122133239400450, [.v (.string ⟨#[50, 32, 48]⟩), .v (.string ⟨#[32]⟩)], [], .tup [.v (.string ⟨#[50]⟩), .v (.string ⟨#[48]⟩), bo true]⟩
theorem m7_ok : m7.Ok Tryz.prog := memoM_of (e := (gcEnv [] gs)) rfl (noOwn_gc named [] gs) 3000 (by kernel_rfl) (by kernel_rfl)
/-- strings.Cut -/
def m8 : MemoM := ⟨92, 1847007372, [.v (.string ⟨#[48]⟩), .v (.string ⟨#[32]⟩)], [], .tup [.v (.string ⟨#[48]⟩), .v (.string ⟨#[]⟩), bo false]⟩
theorem m8_ok : m8.Ok Tryz.prog := memoM_of (e := (gcEnv [] gs)) rfl (noOwn_gc named [] gs) 3000 (by kernel_rfl) (by kernel_rfl)
/-- strconv.Atoi -/
def m9 : MemoM := ⟨155, 1847, [.v (.string ⟨#[48]⟩)], [], .tup [i 0, .v .nilIface]⟩
theorem m9_ok : m9.Ok Tryz.prog := memoM_of (e := (gcEnv [] gs)) rfl (noOwn_gc named [] gs) 3000 (by kernel_rfl) (by kernel_rfl)
/-- strconv.Atoi -/
def m10 : MemoM := ⟨155, 1849, [.v (.string ⟨#[50]⟩)], [], .tup [i 2, .v .nilIface]⟩
theorem m10_ok : m10.Ok Tryz.prog := memoM_of (e := (gcEnv [] gs)) rfl (noOwn_gc named [] gs) 3000 (by kernel_rfl) (by kernel_rfl)
/-- strings.Cut -/
def m11 : MemoM := ⟨92, 1848007375, [.v (.string ⟨#[49]⟩), .v (.string ⟨#[32]⟩)], [], .tup [.v (.string ⟨#[49]⟩), .v (.string ⟨#[]⟩), bo false]⟩
theorem m11_ok : m11.Ok Tryz.prog := memoM_of (e := (gcEnv [] gs)) rfl (noOwn_gc named [] gs) 3000 (by kernel_rfl) (by kernel_rfl)
/-- strconv.Atoi -/
def m12 : MemoM := ⟨155, 1850, [.v (.string ⟨#[51]⟩)], [], .tup [i 3, .v .nilIface]⟩
theorem m12_ok : m12.Ok Tryz.prog := memoM_of (e := (gcEnv [] gs)) rfl (noOwn_gc named [] gs) 3000 (by kernel_rfl) (by kernel_rfl)
/-- strconv.Atoi -/
def m13 : MemoM := ⟨155, 1848, [.v (.string ⟨#[49]⟩)], [], .tup [i 1, .v .nilIface]⟩
theorem m13_ok : m13.Ok Tryz.prog := memoM_of (e := (gcEnv [] gs)) rfl (noOwn_gc named [] gs) 3000 (by kernel_rfl) (by kernel_rfl)
/-- strings.Cut -/
def m14 : MemoM := ⟨92, 1368481657538401644, [.v (.string ⟨#[100, 97, 121, 32, 49]⟩), .v (.string ⟨#[32]⟩)], [], .tup [.v (.string ⟨#[100, 97, 121]⟩), .v (.string ⟨#[49]⟩), bo true]⟩
theorem m14_ok : m14.Ok Tryz.prog := memoM_of (e := (gcEnv [] gs)) rfl (noOwn_gc named [] gs) 3000 (by kernel_rfl) (by kernel_rfl)
/-- strings.Cut -/
def m15 : MemoM := ⟨92, 1084532711388953095, [.v (.string ⟨#[104, 97, 117, 108, 32, 48]⟩), .v (.string ⟨#[32]⟩)], [], .tup [.v (.string ⟨#[104, 97, 117, 108]⟩), .v (.string ⟨#[48]⟩), bo true]⟩
theorem m15_ok : m15.Ok Tryz.prog := memoM_of (e := (gcEnv [] gs)) rfl (noOwn_gc named [] gs) 3000 (by kernel_rfl) (by kernel_rfl)
/-- strings.Cut -/
def m16 : MemoM := ⟨92, 1411771015345780913, [.v (.string ⟨#[99, 97, 116, 99, 104, 32, 48, 32, 57, 53, 48, 32, 57, 54, 48, 32, 102, 32, 121, 32, 63, 32, 104, 97, 114, 100]⟩), .v (.string ⟨#[32]⟩)], [], .tup [.v (.string ⟨#[99, 97, 116, 99, 104]⟩), .v (.string ⟨#[48, 32, 57, 53, 48, 32, 57, 54, 48, 32, 102, 32, 121, 32, 63, 32, 104, 97, 114, 100]⟩), bo true]⟩
theorem m16_ok : m16.Ok Tryz.prog := memoM_of (e := (gcEnv [] gs)) rfl (noOwn_gc named [] gs) 3000 (by kernel_rfl) (by kernel_rfl)
/-- strings.Cut -/
def m17 : MemoM := ⟨92, 1707432567679851378, [.v (.string ⟨#[48, 32, 57, 53, 48, 32, 57, 54, 48, 32, 102, 32, 121, 32, 63, 32, 104, 97, 114, 100]⟩), .v (.string ⟨#[32]⟩)], [], .tup [.v (.string ⟨#[48]⟩), .v (.string ⟨#[57, 53, 48, 32, 57, 54, 48, 32, 102, 32, 121, 32, 63, 32, 104, 97, 114, 100]⟩), bo true]⟩
theorem m17_ok : m17.Ok Tryz.prog := memoM_of (e := (gcEnv [] gs)) rfl (noOwn_gc named [] gs) 3000 (by kernel_rfl) (by kernel_rfl)
/-- strings.Cut -/
def m18 : MemoM := ⟨92, 1139034053161589456, [.v (.string ⟨#[57, 53, 48, 32, 57, 54, 48, 32, 102, 32, 121, 32, 63, 32, 104, 97, 114, 100]⟩), .v (.string ⟨#[32]⟩)], [], .tup [.v (.string ⟨#[57, 53, 48]⟩), .v (.string ⟨#[57, 54, 48, 32, 102, 32, 121, 32, 63, 32, 104, 97, 114, 100]⟩), bo true]⟩
theorem m18_ok : m18.Ok Tryz.prog := memoM_of (e := (gcEnv [] gs)) rfl (noOwn_gc named [] gs) 3000 (by kernel_rfl) (by kernel_rfl)
/-- strings.Cut -/
def m19 : MemoM := ⟨92, 1878399802400656552, [.v (.string ⟨#[57, 54, 48, 32, 102, 32, 121, 32, 63, 32, 104, 97, 114, 100]⟩), .v (.string ⟨#[32]⟩)], [], .tup [.v (.string ⟨#[57, 54, 48]⟩), .v (.string ⟨#[102, 32, 121, 32, 63, 32, 104, 97, 114, 100]⟩), bo true]⟩
theorem m19_ok : m19.Ok Tryz.prog := memoM_of (e := (gcEnv [] gs)) rfl (noOwn_gc named [] gs) 3000 (by kernel_rfl) (by kernel_rfl)
/-- strings.Cut -/
def m20 : MemoM := ⟨92, 2031619563866409097, [.v (.string ⟨#[102, 32, 121, 32, 63, 32, 104, 97, 114, 100]⟩), .v (.string ⟨#[32]⟩)], [], .tup [.v (.string ⟨#[102]⟩), .v (.string ⟨#[121, 32, 63, 32, 104, 97, 114, 100]⟩), bo true]⟩
theorem m20_ok : m20.Ok Tryz.prog := memoM_of (e := (gcEnv [] gs)) rfl (noOwn_gc named [] gs) 3000 (by kernel_rfl) (by kernel_rfl)
/-- strings.Cut -/
def m21 : MemoM := ⟨92, 278875826438350912, [.v (.string ⟨#[121, 32, 63, 32, 104, 97, 114, 100]⟩), .v (.string ⟨#[32]⟩)], [], .tup [.v (.string ⟨#[121]⟩), .v (.string ⟨#[63, 32, 104, 97, 114, 100]⟩), bo true]⟩
theorem m21_ok : m21.Ok Tryz.prog := memoM_of (e := (gcEnv [] gs)) rfl (noOwn_gc named [] gs) 3000 (by kernel_rfl) (by kernel_rfl)
/-- strings.Cut -/
def m22 : MemoM := ⟨92, 950121575741132543, [.v (.string ⟨#[63, 32, 104, 97, 114, 100]⟩), .v (.string ⟨#[32]⟩)], [], .tup [.v (.string ⟨#[63]⟩), .v (.string ⟨#[104, 97, 114, 100]⟩), bo true]⟩
theorem m22_ok : m22.Ok Tryz.prog := memoM_of (e := (gcEnv [] gs)) rfl (noOwn_gc named [] gs) 3000 (by kernel_rfl) (by kernel_rfl)
/-- strings.Cut -/
def m23 : MemoM := ⟨92, 32309183557261721, [.v (.string ⟨#[104, 97, 114, 100]⟩), .v (.string ⟨#[32]⟩)], [], .tup [.v (.string ⟨#[104, 97, 114, 100]⟩), .v (.string ⟨#[]⟩), bo false]⟩
theorem m23_ok : m23.Ok Tryz.prog := memoM_of (e := (gcEnv [] gs)) rfl (noOwn_gc named [] gs) 3000 (by kernel_rfl) (by kernel_rfl)
/-- strconv.Atoi -/
def m24 : MemoM := ⟨155, 122600613, [.v (.string ⟨#[57, 53, 48]⟩)], [], .tup [i 950, .v .nilIface]⟩
theorem m24_ok : m24.Ok Tryz.prog := memoM_of (e := (gcEnv [] gs)) rfl (noOwn_gc named [] gs) 3000 (by kernel_rfl) (by kernel_rfl)
/-- strconv.Atoi -/
def m25 : MemoM := ⟨155, 122600870, [.v (.string ⟨#[57, 54, 48]⟩)], [], .tup [i 960, .v .nilIface]⟩
theorem m25_ok : m25.Ok Tryz.prog := memoM_of (e := (gcEnv [] gs)) rfl (noOwn_gc named [] gs) 3000 (by kernel_rfl) (by kernel_rfl)
/-- catch.Keep -/
def m26 : MemoM := ⟨142, 1678197445196518468, [.agg [i 830, i 1270, bo true, bo true, bo false], .agg [i 950, i 960, i 2, i 1, i 3, i 1]], [], .tup [i 2, i 0]⟩
theorem m26_ok : m26.Ok Tryz.prog := memoM_of (e := (gcEnv [] gs)) rfl (noOwn_gc named [] gs) 3000 (by kernel_rfl) (by kernel_rfl)
/-- bay.text -/
def m27 : MemoM := ⟨20, 0, [.sl 0 0 7 1], [[.v (.string ⟨#[111, 107]⟩), .v (.string ⟨#[104, 97, 117, 108, 32, 48, 32, 48]⟩), .v (.string ⟨#[48, 32, 48, 32, 111, 112, 101, 110]⟩), .v (.string ⟨#[111, 107]⟩), .v (.string ⟨#[111, 107]⟩), .v (.string ⟨#[98, 97, 99, 107, 32, 110, 111, 116, 99, 104, 101, 100]⟩), .v (.string ⟨#[101, 114, 114, 111, 114, 32, 50]⟩)]], .v (.string ⟨#[111, 107, 10, 104, 97, 117, 108, 32, 48, 32, 48, 10, 48, 32, 48, 32, 111, 112, 101, 110, 10, 111, 107, 10, 111, 107, 10, 98, 97, 99, 107, 32, 110, 111, 116, 99, 104, 101, 100, 10, 101, 114, 114, 111, 114, 32, 50, 10]⟩)⟩
theorem m27_ok : m27.Ok Tryz.prog := memoM_of (e := (gcEnv [] gs)) rfl (noOwn_gc named [] gs) 3000 (by kernel_rfl) (by kernel_rfl)
/-- homaruskit.Page -/
def m28 : MemoM := ⟨9, 0, [.sl 0 0 7 1], [[.v (.string ⟨#[111, 107]⟩), .v (.string ⟨#[104, 97, 117, 108, 32, 48, 32, 48]⟩), .v (.string ⟨#[48, 32, 48, 32, 111, 112, 101, 110]⟩), .v (.string ⟨#[111, 107]⟩), .v (.string ⟨#[111, 107]⟩), .v (.string ⟨#[98, 97, 99, 107, 32, 110, 111, 116, 99, 104, 101, 100]⟩), .v (.string ⟨#[101, 114, 114, 111, 114, 32, 50]⟩)]], .v (.string ⟨#[111, 107, 10, 104, 97, 117, 108, 32, 48, 32, 48, 10, 48, 32, 48, 32, 111, 112, 101, 110, 10, 111, 107, 10, 111, 107, 10, 98, 97, 99, 107, 32, 110, 111, 116, 99, 104, 101, 100, 10, 101, 114, 114, 111, 114, 32, 50, 10]⟩)⟩
theorem m28_ok : m28.Ok Tryz.prog := memoM_of (e := (gcEnv [] gs)) rfl (noOwn_gc named [] gs) 3000 (by kernel_rfl) (by kernel_rfl)
/-- homaruskit.Page -/
def m29 : MemoM := ⟨9, 0, [.sl 0 0 8 1], [[.v (.string ⟨#[115, 101, 116, 32, 48, 32, 50, 32, 48]⟩), .v (.string ⟨#[119, 104, 101, 114, 101, 32, 48]⟩), .v (.string ⟨#[115, 101, 116, 32, 48, 32, 50, 32, 48]⟩), .v (.string ⟨#[115, 101, 116, 32, 49, 32, 50, 32, 48]⟩), .v (.string ⟨#[104, 97, 117, 108, 32, 48]⟩), .v (.string ⟨#[100, 97, 121, 32, 49]⟩), .v (.string ⟨#[104, 97, 117, 108, 32, 48]⟩), .v (.string ⟨#[119, 104, 101, 114, 101, 32, 48]⟩)]], .v (.string ⟨#[115, 101, 116, 32, 48, 32, 50, 32, 48, 10, 119, 104, 101, 114, 101, 32, 48, 10, 115, 101, 116, 32, 48, 32, 50, 32, 48, 10, 115, 101, 116, 32, 49, 32, 50, 32, 48, 10, 104, 97, 117, 108, 32, 48, 10, 100, 97, 121, 32, 49, 10, 104, 97, 117, 108, 32, 48, 10, 119, 104, 101, 114, 101, 32, 48, 10]⟩)⟩
theorem m29_ok : m29.Ok Tryz.prog := memoM_of (e := (gcEnv [] gs)) rfl (noOwn_gc named [] gs) 3000 (by kernel_rfl) (by kernel_rfl)
/-- bay.checkDiary -/
def m30 : MemoM := ⟨28, 1909307111369872974, [.v (.string ⟨#[115, 101, 116, 32, 48, 32, 50, 32, 48, 10, 119, 104, 101, 114, 101, 32, 48, 10, 115, 101, 116, 32, 48, 32, 50, 32, 48, 10, 115, 101, 116, 32, 49, 32, 50, 32, 48, 10, 104, 97, 117, 108, 32, 48, 10, 100, 97, 121, 32, 49, 10, 104, 97, 117, 108, 32, 48, 10, 119, 104, 101, 114, 101, 32, 48, 10]⟩)], [], i 0⟩
theorem m30_ok : m30.Ok Tryz.prog := memoM_of (e := (gcEnv [] gs)) rfl (noOwn_gc named [] gs) 3000 (by kernel_rfl) (by kernel_rfl)
/-- bay.text -/
def m31 : MemoM := ⟨20, 0, [.sl 0 0 8 1], [[.v (.string ⟨#[111, 107]⟩), .v (.string ⟨#[111, 117, 116, 32, 50, 32, 48]⟩), .v (.string ⟨#[101, 114, 114, 111, 114, 32, 49, 48]⟩), .v (.string ⟨#[101, 114, 114, 111, 114, 32, 53]⟩), .v (.string ⟨#[101, 114, 114, 111, 114, 32, 49, 51]⟩), .v (.string ⟨#[111, 107]⟩), .v (.string ⟨#[111, 107]⟩), .v (.string ⟨#[104, 111, 109, 101]⟩)]], .v (.string ⟨#[111, 107, 10, 111, 117, 116, 32, 50, 32, 48, 10, 101, 114, 114, 111, 114, 32, 49, 48, 10, 101, 114, 114, 111, 114, 32, 53, 10, 101, 114, 114, 111, 114, 32, 49, 51, 10, 111, 107, 10, 111, 107, 10, 104, 111, 109, 101, 10]⟩)⟩
theorem m31_ok : m31.Ok Tryz.prog := memoM_of (e := (gcEnv [] gs)) rfl (noOwn_gc named [] gs) 3000 (by kernel_rfl) (by kernel_rfl)
/-- homaruskit.Page -/
def m32 : MemoM := ⟨9, 0, [.sl 0 0 8 1], [[.v (.string ⟨#[111, 107]⟩), .v (.string ⟨#[111, 117, 116, 32, 50, 32, 48]⟩), .v (.string ⟨#[101, 114, 114, 111, 114, 32, 49, 48]⟩), .v (.string ⟨#[101, 114, 114, 111, 114, 32, 53]⟩), .v (.string ⟨#[101, 114, 114, 111, 114, 32, 49, 51]⟩), .v (.string ⟨#[111, 107]⟩), .v (.string ⟨#[111, 107]⟩), .v (.string ⟨#[104, 111, 109, 101]⟩)]], .v (.string ⟨#[111, 107, 10, 111, 117, 116, 32, 50, 32, 48, 10, 101, 114, 114, 111, 114, 32, 49, 48, 10, 101, 114, 114, 111, 114, 32, 53, 10, 101, 114, 114, 111, 114, 32, 49, 51, 10, 111, 107, 10, 111, 107, 10, 104, 111, 109, 101, 10]⟩)⟩
theorem m32_ok : m32.Ok Tryz.prog := memoM_of (e := (gcEnv [] gs)) rfl (noOwn_gc named [] gs) 3000 (by kernel_rfl) (by kernel_rfl)
/-- homaruskit.Page -/
def m33 : MemoM := ⟨9, 0, [.sl 0 0 5 1], [[.v (.string ⟨#[115, 101, 116, 32, 49, 32, 54, 32, 48]⟩), .v (.string ⟨#[115, 101, 116, 32, 50, 32, 56, 32, 48]⟩), .v (.string ⟨#[115, 101, 116, 32, 52, 32, 48, 32, 48]⟩), .v (.string ⟨#[115, 101, 116, 32, 49, 32, 49, 50, 32, 48]⟩), .v (.string ⟨#[104, 111, 108, 100, 101, 114, 32, 54, 32, 48]⟩)]], .v (.string ⟨#[115, 101, 116, 32, 49, 32, 54, 32, 48, 10, 115, 101, 116, 32, 50, 32, 56, 32, 48, 10, 115, 101, 116, 32, 52, 32, 48, 32, 48, 10, 115, 101, 116, 32, 49, 32, 49, 50, 32, 48, 10, 104, 111, 108, 100, 101, 114, 32, 54, 32, 48, 10]⟩)⟩
theorem m33_ok : m33.Ok Tryz.prog := memoM_of (e := (gcEnv [] gs)) rfl (noOwn_gc named [] gs) 3000 (by kernel_rfl) (by kernel_rfl)
/-- bay.checkDiary -/
def m34 : MemoM := ⟨28, 645189020587572176, [.v (.string ⟨#[115, 101, 116, 32, 49, 32, 54, 32, 48, 10, 115, 101, 116, 32, 50, 32, 56, 32, 48, 10, 115, 101, 116, 32, 52, 32, 48, 32, 48, 10, 115, 101, 116, 32, 49, 32, 49, 50, 32, 48, 10, 104, 111, 108, 100, 101, 114, 32, 54, 32, 48, 10]⟩)], [], i 0⟩
theorem m34_ok : m34.Ok Tryz.prog := memoM_of (e := (gcEnv [] gs)) rfl (noOwn_gc named [] gs) 3000 (by kernel_rfl) (by kernel_rfl)
/-- strconv.Atoi -/
def m35 : MemoM := ⟨155, 1853, [.v (.string ⟨#[54]⟩)], [], .tup [i 6, .v .nilIface]⟩
theorem m35_ok : m35.Ok Tryz.prog := memoM_of (e := (gcEnv [] gs)) rfl (noOwn_gc named [] gs) 3000 (by kernel_rfl) (by kernel_rfl)
/-- strconv.Atoi -/
def m36 : MemoM := ⟨155, 1855, [.v (.string ⟨#[56]⟩)], [], .tup [i 8, .v .nilIface]⟩
theorem m36_ok : m36.Ok Tryz.prog := memoM_of (e := (gcEnv [] gs)) rfl (noOwn_gc named [] gs) 3000 (by kernel_rfl) (by kernel_rfl)
/-- strconv.Atoi -/
def m37 : MemoM := ⟨155, 1851, [.v (.string ⟨#[52]⟩)], [], .tup [i 4, .v .nilIface]⟩
theorem m37_ok : m37.Ok Tryz.prog := memoM_of (e := (gcEnv [] gs)) rfl (noOwn_gc named [] gs) 3000 (by kernel_rfl) (by kernel_rfl)
/-- strconv.Atoi -/
def m38 : MemoM := ⟨155, 474986, [.v (.string ⟨#[49, 50]⟩)], [], .tup [i 12, .v .nilIface]⟩
theorem m38_ok : m38.Ok Tryz.prog := memoM_of (e := (gcEnv [] gs)) rfl (noOwn_gc named [] gs) 3000 (by kernel_rfl) (by kernel_rfl)
/-- bay.text -/
def m39 : MemoM := ⟨20, 0, [.sl 0 0 5 1], [[.v (.string ⟨#[101, 114, 114, 111, 114, 32, 57]⟩), .v (.string ⟨#[101, 114, 114, 111, 114, 32, 49, 51]⟩), .v (.string ⟨#[101, 114, 114, 111, 114, 32, 54]⟩), .v (.string ⟨#[101, 114, 114, 111, 114, 32, 49]⟩), .v (.string ⟨#[49]⟩)]], .v (.string ⟨#[101, 114, 114, 111, 114, 32, 57, 10, 101, 114, 114, 111, 114, 32, 49, 51, 10, 101, 114, 114, 111, 114, 32, 54, 10, 101, 114, 114, 111, 114, 32, 49, 10, 49, 10]⟩)⟩
theorem m39_ok : m39.Ok Tryz.prog := memoM_of (e := (gcEnv [] gs)) rfl (noOwn_gc named [] gs) 3000 (by kernel_rfl) (by kernel_rfl)
/-- homaruskit.Page -/
def m40 : MemoM := ⟨9, 0, [.sl 0 0 5 1], [[.v (.string ⟨#[101, 114, 114, 111, 114, 32, 57]⟩), .v (.string ⟨#[101, 114, 114, 111, 114, 32, 49, 51]⟩), .v (.string ⟨#[101, 114, 114, 111, 114, 32, 54]⟩), .v (.string ⟨#[101, 114, 114, 111, 114, 32, 49]⟩), .v (.string ⟨#[49]⟩)]], .v (.string ⟨#[101, 114, 114, 111, 114, 32, 57, 10, 101, 114, 114, 111, 114, 32, 49, 51, 10, 101, 114, 114, 111, 114, 32, 54, 10, 101, 114, 114, 111, 114, 32, 49, 10, 49, 10]⟩)⟩
theorem m40_ok : m40.Ok Tryz.prog := memoM_of (e := (gcEnv [] gs)) rfl (noOwn_gc named [] gs) 3000 (by kernel_rfl) (by kernel_rfl)
/-- homaruskit.Page -/
def m41 : MemoM := ⟨9, 0, [.sl 0 0 12 1], [[.v (.string ⟨#[115, 101, 116, 32, 48, 32, 50, 32, 48]⟩), .v (.string ⟨#[100, 97, 121, 32, 49]⟩), .v (.string ⟨#[104, 97, 117, 108, 32, 48]⟩), .v (.string ⟨#[99, 97, 116, 99, 104, 32, 48, 32, 57, 48, 48, 32, 57, 48, 48, 32, 109, 32, 110, 32, 110, 32, 104, 97, 114, 100]⟩), .v (.string ⟨#[99, 97, 116, 99, 104, 32, 48, 32, 56, 50, 48, 32, 56, 52, 48, 32, 109, 32, 110, 32, 110, 32, 104, 97, 114, 100]⟩), .v (.string ⟨#[99, 97, 116, 99, 104, 32, 48, 32, 57, 53, 48, 32, 57, 54, 48, 32, 102, 32, 121, 32, 63, 32, 104, 97, 114, 100]⟩), .v (.string ⟨#[99, 111, 117, 110, 116, 32, 56, 51, 48, 32, 49, 48, 48, 48]⟩), .v (.string ⟨#[99, 97, 116, 99, 104, 32, 49, 32, 57, 48, 48, 32, 57, 48, 48, 32, 109, 32, 110, 32, 110, 32, 104, 97, 114, 100]⟩), .v (.string ⟨#[98, 117, 121, 32, 115, 101, 108, 101, 99, 116, 32, 49, 32, 54, 48, 48]⟩), .v (.string ⟨#[98, 117, 121, 32, 115, 101, 108, 101, 99, 116, 32, 49, 32, 54, 48, 48]⟩), .v (.string ⟨#[115, 101, 108, 108, 32, 115, 101, 108, 101, 99, 116, 32, 49, 32, 54, 48, 48]⟩), .v (.string ⟨#[108, 101, 102, 116, 32, 115, 101, 108, 101, 99, 116]⟩)]], .v (.string ⟨#[115, 101, 116, 32, 48, 32, 50, 32, 48, 10, 100, 97, 121, 32, 49, 10, 104, 97, 117, 108, 32, 48, 10, 99, 97, 116, 99, 104, 32, 48, 32, 57, 48, 48, 32, 57, 48, 48, 32, 109, 32, 110, 32, 110, 32, 104, 97, 114, 100, 10, 99, 97, 116, 99, 104, 32, 48, 32, 56, 50, 48, 32, 56, 52, 48, 32, 109, 32, 110, 32, 110, 32, 104, 97, 114, 100, 10, 99, 97, 116, 99, 104, 32, 48, 32, 57, 53, 48, 32, 57, 54, 48, 32, 102, 32, 121, 32, 63, 32, 104, 97, 114, 100, 10, 99, 111, 117, 110, 116, 32, 56, 51, 48, 32, 49, 48, 48, 48, 10, 99, 97, 116, 99, 104, 32, 49, 32, 57, 48, 48, 32, 57, 48, 48, 32, 109, 32, 110, 32, 110, 32, 104, 97, 114, 100, 10, 98, 117, 121, 32, 115, 101, 108, 101, 99, 116, 32, 49, 32, 54, 48, 48, 10, 98, 117, 121, 32, 115, 101, 108, 101, 99, 116, 32, 49, 32, 54, 48, 48, 10, 115, 101, 108, 108, 32, 115, 101, 108, 101, 99, 116, 32, 49, 32, 54, 48, 48, 10, 108, 101, 102, 116, 32, 115, 101, 108, 101, 99, 116, 10]⟩)⟩
theorem m41_ok : m41.Ok Tryz.prog := memoM_of (e := (gcEnv [] gs)) rfl (noOwn_gc named [] gs) 3000 (by kernel_rfl) (by kernel_rfl)
/-- bay.checkDiary -/
def m42 : MemoM := ⟨28, 1303730844703063401, [.v (.string ⟨#[115, 101, 116, 32, 48, 32, 50, 32, 48, 10, 100, 97, 121, 32, 49, 10, 104, 97, 117, 108, 32, 48, 10, 99, 97, 116, 99, 104, 32, 48, 32, 57, 48, 48, 32, 57, 48, 48, 32, 109, 32, 110, 32, 110, 32, 104, 97, 114, 100, 10, 99, 97, 116, 99, 104, 32, 48, 32, 56, 50, 48, 32, 56, 52, 48, 32, 109, 32, 110, 32, 110, 32, 104, 97, 114, 100, 10, 99, 97, 116, 99, 104, 32, 48, 32, 57, 53, 48, 32, 57, 54, 48, 32, 102, 32, 121, 32, 63, 32, 104, 97, 114, 100, 10, 99, 111, 117, 110, 116, 32, 56, 51, 48, 32, 49, 48, 48, 48, 10, 99, 97, 116, 99, 104, 32, 49, 32, 57, 48, 48, 32, 57, 48, 48, 32, 109, 32, 110, 32, 110, 32, 104, 97, 114, 100, 10, 98, 117, 121, 32, 115, 101, 108, 101, 99, 116, 32, 49, 32, 54, 48, 48, 10, 98, 117, 121, 32, 115, 101, 108, 101, 99, 116, 32, 49, 32, 54, 48, 48, 10, 115, 101, 108, 108, 32, 115, 101, 108, 101, 99, 116, 32, 49, 32, 54, 48, 48, 10, 108, 101, 102, 116, 32, 115, 101, 108, 101, 99, 116, 10]⟩)], [], i 0⟩
theorem m42_ok : m42.Ok Tryz.prog := memoM_of (e := (gcEnv [] gs)) rfl (noOwn_gc named [] gs) 3000 (by kernel_rfl) (by kernel_rfl)
/-- strings.Cut -/
def m43 : MemoM := ⟨92, 1579382788328219684, [.v (.string ⟨#[99, 97, 116, 99, 104, 32, 48, 32, 57, 48, 48, 32, 57, 48, 48, 32, 109, 32, 110, 32, 110, 32, 104, 97, 114, 100]⟩), .v (.string ⟨#[32]⟩)], [], .tup [.v (.string ⟨#[99, 97, 116, 99, 104]⟩), .v (.string ⟨#[48, 32, 57, 48, 48, 32, 57, 48, 48, 32, 109, 32, 110, 32, 110, 32, 104, 97, 114, 100]⟩), bo true]⟩
theorem m43_ok : m43.Ok Tryz.prog := memoM_of (e := (gcEnv [] gs)) rfl (noOwn_gc named [] gs) 3000 (by kernel_rfl) (by kernel_rfl)
/-- strings.Cut -/
def m44 : MemoM := ⟨92, 1875044340662290149, [.v (.string ⟨#[48, 32, 57, 48, 48, 32, 57, 48, 48, 32, 109, 32, 110, 32, 110, 32, 104, 97, 114, 100]⟩), .v (.string ⟨#[32]⟩)], [], .tup [.v (.string ⟨#[48]⟩), .v (.string ⟨#[57, 48, 48, 32, 57, 48, 48, 32, 109, 32, 110, 32, 110, 32, 104, 97, 114, 100]⟩), bo true]⟩
theorem m44_ok : m44.Ok Tryz.prog := memoM_of (e := (gcEnv [] gs)) rfl (noOwn_gc named [] gs) 3000 (by kernel_rfl) (by kernel_rfl)
/-- strings.Cut -/
def m45 : MemoM := ⟨92, 1306645826144028227, [.v (.string ⟨#[57, 48, 48, 32, 57, 48, 48, 32, 109, 32, 110, 32, 110, 32, 104, 97, 114, 100]⟩), .v (.string ⟨#[32]⟩)], [], .tup [.v (.string ⟨#[57, 48, 48]⟩), .v (.string ⟨#[57, 48, 48, 32, 109, 32, 110, 32, 110, 32, 104, 97, 114, 100]⟩), bo true]⟩
theorem m45_ok : m45.Ok Tryz.prog := memoM_of (e := (gcEnv [] gs)) rfl (noOwn_gc named [] gs) 3000 (by kernel_rfl) (by kernel_rfl)
/-- strings.Cut -/
def m46 : MemoM := ⟨92, 1871834132587930747, [.v (.string ⟨#[57, 48, 48, 32, 109, 32, 110, 32, 110, 32, 104, 97, 114, 100]⟩), .v (.string ⟨#[32]⟩)], [], .tup [.v (.string ⟨#[57, 48, 48]⟩), .v (.string ⟨#[109, 32, 110, 32, 110, 32, 104, 97, 114, 100]⟩), bo true]⟩
theorem m46_ok : m46.Ok Tryz.prog := memoM_of (e := (gcEnv [] gs)) rfl (noOwn_gc named [] gs) 3000 (by kernel_rfl) (by kernel_rfl)
/-- strings.Cut -/
def m47 : MemoM := ⟨92, 1829344724108950707, [.v (.string ⟨#[109, 32, 110, 32, 110, 32, 104, 97, 114, 100]⟩), .v (.string ⟨#[32]⟩)], [], .tup [.v (.string ⟨#[109]⟩), .v (.string ⟨#[110, 32, 110, 32, 104, 97, 114, 100]⟩), bo true]⟩
theorem m47_ok : m47.Ok Tryz.prog := memoM_of (e := (gcEnv [] gs)) rfl (noOwn_gc named [] gs) 3000 (by kernel_rfl) (by kernel_rfl)
/-- strings.Cut -/
def m48 : MemoM := ⟨92, 1453510514731610069, [.v (.string ⟨#[110, 32, 110, 32, 104, 97, 114, 100]⟩), .v (.string ⟨#[32]⟩)], [], .tup [.v (.string ⟨#[110]⟩), .v (.string ⟨#[110, 32, 104, 97, 114, 100]⟩), bo true]⟩
theorem m48_ok : m48.Ok Tryz.prog := memoM_of (e := (gcEnv [] gs)) rfl (noOwn_gc named [] gs) 3000 (by kernel_rfl) (by kernel_rfl)
/-- strings.Cut -/
def m49 : MemoM := ⟨92, 610170420345092707, [.v (.string ⟨#[110, 32, 104, 97, 114, 100]⟩), .v (.string ⟨#[32]⟩)], [], .tup [.v (.string ⟨#[110]⟩), .v (.string ⟨#[104, 97, 114, 100]⟩), bo true]⟩
theorem m49_ok : m49.Ok Tryz.prog := memoM_of (e := (gcEnv [] gs)) rfl (noOwn_gc named [] gs) 3000 (by kernel_rfl) (by kernel_rfl)
/-- strconv.Atoi -/
def m50 : MemoM := ⟨155, 122599328, [.v (.string ⟨#[57, 48, 48]⟩)], [], .tup [i 900, .v .nilIface]⟩
theorem m50_ok : m50.Ok Tryz.prog := memoM_of (e := (gcEnv [] gs)) rfl (noOwn_gc named [] gs) 3000 (by kernel_rfl) (by kernel_rfl)
/-- catch.Keep -/
def m51 : MemoM := ⟨142, 1149990360950293015, [.agg [i 830, i 1270, bo true, bo true, bo false], .agg [i 900, i 900, i 1, i 2, i 2, i 1]], [], .tup [i 1, i 0]⟩
theorem m51_ok : m51.Ok Tryz.prog := memoM_of (e := (gcEnv [] gs)) rfl (noOwn_gc named [] gs) 3000 (by kernel_rfl) (by kernel_rfl)
/-- strings.Cut -/
def m52 : MemoM := ⟨92, 2189627470853030412, [.v (.string ⟨#[99, 97, 116, 99, 104, 32, 48, 32, 56, 50, 48, 32, 56, 52, 48, 32, 109, 32, 110, 32, 110, 32, 104, 97, 114, 100]⟩), .v (.string ⟨#[32]⟩)], [], .tup [.v (.string ⟨#[99, 97, 116, 99, 104]⟩), .v (.string ⟨#[48, 32, 56, 50, 48, 32, 56, 52, 48, 32, 109, 32, 110, 32, 110, 32, 104, 97, 114, 100]⟩), bo true]⟩
theorem m52_ok : m52.Ok Tryz.prog := memoM_of (e := (gcEnv [] gs)) rfl (noOwn_gc named [] gs) 3000 (by kernel_rfl) (by kernel_rfl)
/-- strings.Cut -/
def m53 : MemoM := ⟨92, 179446013973406926, [.v (.string ⟨#[48, 32, 56, 50, 48, 32, 56, 52, 48, 32, 109, 32, 110, 32, 110, 32, 104, 97, 114, 100]⟩), .v (.string ⟨#[32]⟩)], [], .tup [.v (.string ⟨#[48]⟩), .v (.string ⟨#[56, 50, 48, 32, 56, 52, 48, 32, 109, 32, 110, 32, 110, 32, 104, 97, 114, 100]⟩), bo true]⟩
theorem m53_ok : m53.Ok Tryz.prog := memoM_of (e := (gcEnv [] gs)) rfl (noOwn_gc named [] gs) 3000 (by kernel_rfl) (by kernel_rfl)
/-- strings.Cut -/
def m54 : MemoM := ⟨92, 1916890508668838955, [.v (.string ⟨#[56, 50, 48, 32, 56, 52, 48, 32, 109, 32, 110, 32, 110, 32, 104, 97, 114, 100]⟩), .v (.string ⟨#[32]⟩)], [], .tup [.v (.string ⟨#[56, 50, 48]⟩), .v (.string ⟨#[56, 52, 48, 32, 109, 32, 110, 32, 110, 32, 104, 97, 114, 100]⟩), bo true]⟩
theorem m54_ok : m54.Ok Tryz.prog := memoM_of (e := (gcEnv [] gs)) rfl (noOwn_gc named [] gs) 3000 (by kernel_rfl) (by kernel_rfl)
/-- strings.Cut -/
def m55 : MemoM := ⟨92, 516558260200429952, [.v (.string ⟨#[56, 52, 48, 32, 109, 32, 110, 32, 110, 32, 104, 97, 114, 100]⟩), .v (.string ⟨#[32]⟩)], [], .tup [.v (.string ⟨#[56, 52, 48]⟩), .v (.string ⟨#[109, 32, 110, 32, 110, 32, 104, 97, 114, 100]⟩), bo true]⟩
theorem m55_ok : m55.Ok Tryz.prog := memoM_of (e := (gcEnv [] gs)) rfl (noOwn_gc named [] gs) 3000 (by kernel_rfl) (by kernel_rfl)
/-- strconv.Atoi -/
def m56 : MemoM := ⟨155, 122533793, [.v (.string ⟨#[56, 50, 48]⟩)], [], .tup [i 820, .v .nilIface]⟩
theorem m56_ok : m56.Ok Tryz.prog := memoM_of (e := (gcEnv [] gs)) rfl (noOwn_gc named [] gs) 3000 (by kernel_rfl) (by kernel_rfl)
/-- strconv.Atoi -/
def m57 : MemoM := ⟨155, 122534307, [.v (.string ⟨#[56, 52, 48]⟩)], [], .tup [i 840, .v .nilIface]⟩
theorem m57_ok : m57.Ok Tryz.prog := memoM_of (e := (gcEnv [] gs)) rfl (noOwn_gc named [] gs) 3000 (by kernel_rfl) (by kernel_rfl)
/-- catch.Keep -/
def m58 : MemoM := ⟨142, 1523876801587190281, [.agg [i 830, i 1270, bo true, bo true, bo false], .agg [i 820, i 840, i 1, i 2, i 2, i 1]], [], .tup [i 3, i 0]⟩
theorem m58_ok : m58.Ok Tryz.prog := memoM_of (e := (gcEnv [] gs)) rfl (noOwn_gc named [] gs) 3000 (by kernel_rfl) (by kernel_rfl)
/-- strings.Cut -/
def m59 : MemoM := ⟨92, 1505735286347367482, [.v (.string ⟨#[99, 111, 117, 110, 116, 32, 56, 51, 48, 32, 49, 48, 48, 48]⟩), .v (.string ⟨#[32]⟩)], [], .tup [.v (.string ⟨#[99, 111, 117, 110, 116]⟩), .v (.string ⟨#[56, 51, 48, 32, 49, 48, 48, 48]⟩), bo true]⟩
theorem m59_ok : m59.Ok Tryz.prog := memoM_of (e := (gcEnv [] gs)) rfl (noOwn_gc named [] gs) 3000 (by kernel_rfl) (by kernel_rfl)
/-- strings.Cut -/
def m60 : MemoM := ⟨92, 1549359043419446352, [.v (.string ⟨#[56, 51, 48, 32, 49, 48, 48, 48]⟩), .v (.string ⟨#[32]⟩)], [], .tup [.v (.string ⟨#[56, 51, 48]⟩), .v (.string ⟨#[49, 48, 48, 48]⟩), bo true]⟩
theorem m60_ok : m60.Ok Tryz.prog := memoM_of (e := (gcEnv [] gs)) rfl (noOwn_gc named [] gs) 3000 (by kernel_rfl) (by kernel_rfl)
/-- strings.Cut -/
def m61 : MemoM := ⟨92, 31372324716693631, [.v (.string ⟨#[49, 48, 48, 48]⟩), .v (.string ⟨#[32]⟩)], [], .tup [.v (.string ⟨#[49, 48, 48, 48]⟩), .v (.string ⟨#[]⟩), bo false]⟩
theorem m61_ok : m61.Ok Tryz.prog := memoM_of (e := (gcEnv [] gs)) rfl (noOwn_gc named [] gs) 3000 (by kernel_rfl) (by kernel_rfl)
/-- strconv.Atoi -/
def m62 : MemoM := ⟨155, 122534050, [.v (.string ⟨#[56, 51, 48]⟩)], [], .tup [i 830, .v .nilIface]⟩
theorem m62_ok : m62.Ok Tryz.prog := memoM_of (e := (gcEnv [] gs)) rfl (noOwn_gc named [] gs) 3000 (by kernel_rfl) (by kernel_rfl)
/-- strconv.Atoi -/
def m63 : MemoM := ⟨155, 31372230600, [.v (.string ⟨#[49, 48, 48, 48]⟩)], [], .tup [i 1000, .v .nilIface]⟩
theorem m63_ok : m63.Ok Tryz.prog := memoM_of (e := (gcEnv [] gs)) rfl (noOwn_gc named [] gs) 3000 (by kernel_rfl) (by kernel_rfl)
/-- catch.Keep -/
def m64 : MemoM := ⟨142, 506653133117486915, [.agg [i 830, i 1000, bo false, bo false, bo false], .agg [i 900, i 900, i 1, i 2, i 2, i 1]], [], .tup [i 1, i 0]⟩
theorem m64_ok : m64.Ok Tryz.prog := memoM_of (e := (gcEnv [] gs)) rfl (noOwn_gc named [] gs) 3000 (by kernel_rfl) (by kernel_rfl)
/-- strings.Cut -/
def m65 : MemoM := ⟨92, 2021454640965188834, [.v (.string ⟨#[99, 97, 116, 99, 104, 32, 49, 32, 57, 48, 48, 32, 57, 48, 48, 32, 109, 32, 110, 32, 110, 32, 104, 97, 114, 100]⟩), .v (.string ⟨#[32]⟩)], [], .tup [.v (.string ⟨#[99, 97, 116, 99, 104]⟩), .v (.string ⟨#[49, 32, 57, 48, 48, 32, 57, 48, 48, 32, 109, 32, 110, 32, 110, 32, 104, 97, 114, 100]⟩), bo true]⟩
theorem m65_ok : m65.Ok Tryz.prog := memoM_of (e := (gcEnv [] gs)) rfl (noOwn_gc named [] gs) 3000 (by kernel_rfl) (by kernel_rfl)
/-- strings.Cut -/
def m66 : MemoM := ⟨92, 11273184085565348, [.v (.string ⟨#[49, 32, 57, 48, 48, 32, 57, 48, 48, 32, 109, 32, 110, 32, 110, 32, 104, 97, 114, 100]⟩), .v (.string ⟨#[32]⟩)], [], .tup [.v (.string ⟨#[49]⟩), .v (.string ⟨#[57, 48, 48, 32, 57, 48, 48, 32, 109, 32, 110, 32, 110, 32, 104, 97, 114, 100]⟩), bo true]⟩
theorem m66_ok : m66.Ok Tryz.prog := memoM_of (e := (gcEnv [] gs)) rfl (noOwn_gc named [] gs) 3000 (by kernel_rfl) (by kernel_rfl)
/-- strings.Cut -/
def m67 : MemoM := ⟨92, 1889037465601277071, [.v (.string ⟨#[98, 117, 121, 32, 115, 101, 108, 101, 99, 116, 32, 49, 32, 54, 48, 48]⟩), .v (.string ⟨#[32]⟩)], [], .tup [.v (.string ⟨#[98, 117, 121]⟩), .v (.string ⟨#[115, 101, 108, 101, 99, 116, 32, 49, 32, 54, 48, 48]⟩), bo true]⟩
theorem m67_ok : m67.Ok Tryz.prog := memoM_of (e := (gcEnv [] gs)) rfl (noOwn_gc named [] gs) 3000 (by kernel_rfl) (by kernel_rfl)
/-- strings.Cut -/
def m68 : MemoM := ⟨92, 1357685714946886234, [.v (.string ⟨#[115, 101, 108, 101, 99, 116, 32, 49, 32, 54, 48, 48]⟩), .v (.string ⟨#[32]⟩)], [], .tup [.v (.string ⟨#[115, 101, 108, 101, 99, 116]⟩), .v (.string ⟨#[49, 32, 54, 48, 48]⟩), bo true]⟩
theorem m68_ok : m68.Ok Tryz.prog := memoM_of (e := (gcEnv [] gs)) rfl (noOwn_gc named [] gs) 3000 (by kernel_rfl) (by kernel_rfl)
/-- strings.Cut -/
def m69 : MemoM := ⟨92, 1144887226589121140, [.v (.string ⟨#[49, 32, 54, 48, 48]⟩), .v (.string ⟨#[32]⟩)], [], .tup [.v (.string ⟨#[49]⟩), .v (.string ⟨#[54, 48, 48]⟩), bo true]⟩
theorem m69_ok : m69.Ok Tryz.prog := memoM_of (e := (gcEnv [] gs)) rfl (noOwn_gc named [] gs) 3000 (by kernel_rfl) (by kernel_rfl)
/-- strings.Cut -/
def m70 : MemoM := ⟨92, 122401548205374, [.v (.string ⟨#[54, 48, 48]⟩), .v (.string ⟨#[32]⟩)], [], .tup [.v (.string ⟨#[54, 48, 48]⟩), .v (.string ⟨#[]⟩), bo false]⟩
theorem m70_ok : m70.Ok Tryz.prog := memoM_of (e := (gcEnv [] gs)) rfl (noOwn_gc named [] gs) 3000 (by kernel_rfl) (by kernel_rfl)
/-- strconv.Atoi -/
def m71 : MemoM := ⟨155, 122401181, [.v (.string ⟨#[54, 48, 48]⟩)], [], .tup [i 600, .v .nilIface]⟩
theorem m71_ok : m71.Ok Tryz.prog := memoM_of (e := (gcEnv [] gs)) rfl (noOwn_gc named [] gs) 3000 (by kernel_rfl) (by kernel_rfl)
/-- strings.Cut -/
def m72 : MemoM := ⟨92, 1618074847029493550, [.v (.string ⟨#[115, 101, 108, 108, 32, 115, 101, 108, 101, 99, 116, 32, 49, 32, 54, 48, 48]⟩), .v (.string ⟨#[32]⟩)], [], .tup [.v (.string ⟨#[115, 101, 108, 108]⟩), .v (.string ⟨#[115, 101, 108, 101, 99, 116, 32, 49, 32, 54, 48, 48]⟩), bo true]⟩
theorem m72_ok : m72.Ok Tryz.prog := memoM_of (e := (gcEnv [] gs)) rfl (noOwn_gc named [] gs) 3000 (by kernel_rfl) (by kernel_rfl)
/-- strings.Cut -/
def m73 : MemoM := ⟨92, 1621148209092585102, [.v (.string ⟨#[108, 101, 102, 116, 32, 115, 101, 108, 101, 99, 116]⟩), .v (.string ⟨#[32]⟩)], [], .tup [.v (.string ⟨#[108, 101, 102, 116]⟩), .v (.string ⟨#[115, 101, 108, 101, 99, 116]⟩), bo true]⟩
theorem m73_ok : m73.Ok Tryz.prog := memoM_of (e := (gcEnv [] gs)) rfl (noOwn_gc named [] gs) 3000 (by kernel_rfl) (by kernel_rfl)
/-- strings.Cut -/
def m74 : MemoM := ⟨92, 1905355204159949854, [.v (.string ⟨#[115, 101, 108, 101, 99, 116]⟩), .v (.string ⟨#[32]⟩)], [], .tup [.v (.string ⟨#[115, 101, 108, 101, 99, 116]⟩), .v (.string ⟨#[]⟩), bo false]⟩
theorem m74_ok : m74.Ok Tryz.prog := memoM_of (e := (gcEnv [] gs)) rfl (noOwn_gc named [] gs) 3000 (by kernel_rfl) (by kernel_rfl)
/-- bay.text -/
def m75 : MemoM := ⟨20, 0, [.sl 0 0 12 1], [[.v (.string ⟨#[111, 107]⟩), .v (.string ⟨#[111, 107]⟩), .v (.string ⟨#[111, 107]⟩), .v (.string ⟨#[107, 101, 112, 116]⟩), .v (.string ⟨#[98, 97, 99, 107]⟩), .v (.string ⟨#[98, 97, 99, 107, 32, 110, 111, 116, 99, 104, 101, 100]⟩), .v (.string ⟨#[49, 32, 49]⟩), .v (.string ⟨#[101, 114, 114, 111, 114, 32, 49, 48]⟩), .v (.string ⟨#[111, 107]⟩), .v (.string ⟨#[101, 114, 114, 111, 114, 32, 52]⟩), .v (.string ⟨#[111, 107]⟩), .v (.string ⟨#[48, 32, 48]⟩)]], .v (.string ⟨#[111, 107, 10, 111, 107, 10, 111, 107, 10, 107, 101, 112, 116, 10, 98, 97, 99, 107, 10, 98, 97, 99, 107, 32, 110, 111, 116, 99, 104, 101, 100, 10, 49, 32, 49, 10, 101, 114, 114, 111, 114, 32, 49, 48, 10, 111, 107, 10, 101, 114, 114, 111, 114, 32, 52, 10, 111, 107, 10, 48, 32, 48, 10]⟩)⟩
theorem m75_ok : m75.Ok Tryz.prog := memoM_of (e := (gcEnv [] gs)) rfl (noOwn_gc named [] gs) 3000 (by kernel_rfl) (by kernel_rfl)
/-- homaruskit.Page -/
def m76 : MemoM := ⟨9, 0, [.sl 0 0 12 1], [[.v (.string ⟨#[111, 107]⟩), .v (.string ⟨#[111, 107]⟩), .v (.string ⟨#[111, 107]⟩), .v (.string ⟨#[107, 101, 112, 116]⟩), .v (.string ⟨#[98, 97, 99, 107]⟩), .v (.string ⟨#[98, 97, 99, 107, 32, 110, 111, 116, 99, 104, 101, 100]⟩), .v (.string ⟨#[49, 32, 49]⟩), .v (.string ⟨#[101, 114, 114, 111, 114, 32, 49, 48]⟩), .v (.string ⟨#[111, 107]⟩), .v (.string ⟨#[101, 114, 114, 111, 114, 32, 52]⟩), .v (.string ⟨#[111, 107]⟩), .v (.string ⟨#[48, 32, 48]⟩)]], .v (.string ⟨#[111, 107, 10, 111, 107, 10, 111, 107, 10, 107, 101, 112, 116, 10, 98, 97, 99, 107, 10, 98, 97, 99, 107, 32, 110, 111, 116, 99, 104, 101, 100, 10, 49, 32, 49, 10, 101, 114, 114, 111, 114, 32, 49, 48, 10, 111, 107, 10, 101, 114, 114, 111, 114, 32, 52, 10, 111, 107, 10, 48, 32, 48, 10]⟩)⟩
theorem m76_ok : m76.Ok Tryz.prog := memoM_of (e := (gcEnv [] gs)) rfl (noOwn_gc named [] gs) 3000 (by kernel_rfl) (by kernel_rfl)
/-- homaruskit.Page -/
def m77 : MemoM := ⟨9, 0, [.sl 0 0 5 1], [[.v (.string ⟨#[115, 101, 116, 32, 48, 32, 50, 32, 48]⟩), .v (.string ⟨#[119, 104, 97, 108, 101, 32, 48, 32, 50, 32, 51, 32, 48, 32, 49]⟩), .v (.string ⟨#[100, 97, 110, 103, 101, 114]⟩), .v (.string ⟨#[100, 97, 121, 32, 49]⟩), .v (.string ⟨#[119, 104, 97, 108, 101, 32, 48, 32, 57, 32, 57, 32, 48, 32, 48]⟩)]], .v (.string ⟨#[115, 101, 116, 32, 48, 32, 50, 32, 48, 10, 119, 104, 97, 108, 101, 32, 48, 32, 50, 32, 51, 32, 48, 32, 49, 10, 100, 97, 110, 103, 101, 114, 10, 100, 97, 121, 32, 49, 10, 119, 104, 97, 108, 101, 32, 48, 32, 57, 32, 57, 32, 48, 32, 48, 10]⟩)⟩
theorem m77_ok : m77.Ok Tryz.prog := memoM_of (e := (gcEnv [] gs)) rfl (noOwn_gc named [] gs) 3000 (by kernel_rfl) (by kernel_rfl)
/-- bay.checkDiary -/
def m78 : MemoM := ⟨28, 1464027065376287019, [.v (.string ⟨#[115, 101, 116, 32, 48, 32, 50, 32, 48, 10, 119, 104, 97, 108, 101, 32, 48, 32, 50, 32, 51, 32, 48, 32, 49, 10, 100, 97, 110, 103, 101, 114, 10, 100, 97, 121, 32, 49, 10, 119, 104, 97, 108, 101, 32, 48, 32, 57, 32, 57, 32, 48, 32, 48, 10]⟩)], [], i 0⟩
theorem m78_ok : m78.Ok Tryz.prog := memoM_of (e := (gcEnv [] gs)) rfl (noOwn_gc named [] gs) 3000 (by kernel_rfl) (by kernel_rfl)
/-- strconv.Atoi -/
def m79 : MemoM := ⟨155, 1856, [.v (.string ⟨#[57]⟩)], [], .tup [i 9, .v .nilIface]⟩
theorem m79_ok : m79.Ok Tryz.prog := memoM_of (e := (gcEnv [] gs)) rfl (noOwn_gc named [] gs) 3000 (by kernel_rfl) (by kernel_rfl)
/-- bay.text -/
def m80 : MemoM := ⟨20, 0, [.sl 0 0 5 1], [[.v (.string ⟨#[111, 107]⟩), .v (.string ⟨#[104, 97, 117, 108, 32, 48, 32, 48]⟩), .v (.string ⟨#[48, 32, 48, 32, 111, 112, 101, 110]⟩), .v (.string ⟨#[111, 107]⟩), .v (.string ⟨#[101, 114, 114, 111, 114, 32, 57]⟩)]], .v (.string ⟨#[111, 107, 10, 104, 97, 117, 108, 32, 48, 32, 48, 10, 48, 32, 48, 32, 111, 112, 101, 110, 10, 111, 107, 10, 101, 114, 114, 111, 114, 32, 57, 10]⟩)⟩
theorem m80_ok : m80.Ok Tryz.prog := memoM_of (e := (gcEnv [] gs)) rfl (noOwn_gc named [] gs) 3000 (by kernel_rfl) (by kernel_rfl)
/-- homaruskit.Page -/
def m81 : MemoM := ⟨9, 0, [.sl 0 0 5 1], [[.v (.string ⟨#[111, 107]⟩), .v (.string ⟨#[104, 97, 117, 108, 32, 48, 32, 48]⟩), .v (.string ⟨#[48, 32, 48, 32, 111, 112, 101, 110]⟩), .v (.string ⟨#[111, 107]⟩), .v (.string ⟨#[101, 114, 114, 111, 114, 32, 57]⟩)]], .v (.string ⟨#[111, 107, 10, 104, 97, 117, 108, 32, 48, 32, 48, 10, 48, 32, 48, 32, 111, 112, 101, 110, 10, 111, 107, 10, 101, 114, 114, 111, 114, 32, 57, 10]⟩)⟩
theorem m81_ok : m81.Ok Tryz.prog := memoM_of (e := (gcEnv [] gs)) rfl (noOwn_gc named [] gs) 3000 (by kernel_rfl) (by kernel_rfl)
/-- bay.checkDiary -/
def m82 : MemoM := ⟨28, 1865037230937763121, [.v (.string ⟨#[115, 101, 116, 32, 48, 32, 50, 32, 48, 10, 100, 97, 121, 32, 51, 10]⟩)], [], i 0⟩
theorem m82_ok : m82.Ok Tryz.prog := memoM_of (e := (gcEnv [] gs)) rfl (noOwn_gc named [] gs) 3000 (by kernel_rfl) (by kernel_rfl)
/-- bay.text -/
def m83 : MemoM := ⟨20, 0, [.sl 0 0 8 1], [[.v (.string ⟨#[100, 97, 121, 32, 51]⟩), .v (.string ⟨#[116, 114, 97, 112, 32, 48, 32, 111, 117, 116, 32, 50, 32, 48, 32, 48]⟩), .v (.string ⟨#[107, 101, 112, 116, 32, 48]⟩), .v (.string ⟨#[98, 97, 99, 107, 32, 48]⟩), .v (.string ⟨#[103, 114, 97, 100, 101, 32, 99, 104, 105, 99, 107, 32, 48, 32, 48, 32, 48, 32, 48, 32, 48, 32, 48, 32, 48, 32, 48, 32, 48, 32, 48, 32, 48]⟩), .v (.string ⟨#[103, 114, 97, 100, 101, 32, 115, 101, 108, 101, 99, 116, 32, 48, 32, 48, 32, 48, 32, 48, 32, 48, 32, 48, 32, 48, 32, 48, 32, 48, 32, 48, 32, 48]⟩), .v (.string ⟨#[103, 114, 97, 100, 101, 32, 99, 117, 108, 108, 32, 48, 32, 48, 32, 48, 32, 48, 32, 48, 32, 48, 32, 48, 32, 48, 32, 48, 32, 48, 32, 48]⟩), .v (.string ⟨#[101, 110, 100]⟩)]], .v (.string ⟨#[100, 97, 121, 32, 51, 10, 116, 114, 97, 112, 32, 48, 32, 111, 117, 116, 32, 50, 32, 48, 32, 48, 10, 107, 101, 112, 116, 32, 48, 10, 98, 97, 99, 107, 32, 48, 10, 103, 114, 97, 100, 101, 32, 99, 104, 105, 99, 107, 32, 48, 32, 48, 32, 48, 32, 48, 32, 48, 32, 48, 32, 48, 32, 48, 32, 48, 32, 48, 32, 48, 10, 103, 114, 97, 100, 101, 32, 115, 101, 108, 101, 99, 116, 32, 48, 32, 48, 32, 48, 32, 48, 32, 48, 32, 48, 32, 48, 32, 48, 32, 48, 32, 48, 32, 48, 10, 103, 114, 97, 100, 101, 32, 99, 117, 108, 108, 32, 48, 32, 48, 32, 48, 32, 48, 32, 48, 32, 48, 32, 48, 32, 48, 32, 48, 32, 48, 32, 48, 10, 101, 110, 100, 10]⟩)⟩
theorem m83_ok : m83.Ok Tryz.prog := memoM_of (e := (gcEnv [] gs)) rfl (noOwn_gc named [] gs) 3000 (by kernel_rfl) (by kernel_rfl)
/-- homaruskit.Page -/
def m84 : MemoM := ⟨9, 0, [.sl 0 0 6 1], [[.v (.string ⟨#[119, 104, 97, 108, 101, 32, 48, 32, 50, 32, 51, 32, 48, 32, 48]⟩), .v (.string ⟨#[115, 101, 116, 32, 48, 32, 50, 32, 49]⟩), .v (.string ⟨#[115, 101, 116, 32, 49, 32, 48, 32, 48]⟩), .v (.string ⟨#[102, 97, 117, 108, 116, 115]⟩), .v (.string ⟨#[102, 117, 101, 108]⟩), .v (.string ⟨#[100, 97, 121, 32, 51, 54, 53, 48, 48]⟩)]], .v (.string ⟨#[119, 104, 97, 108, 101, 32, 48, 32, 50, 32, 51, 32, 48, 32, 48, 10, 115, 101, 116, 32, 48, 32, 50, 32, 49, 10, 115, 101, 116, 32, 49, 32, 48, 32, 48, 10, 102, 97, 117, 108, 116, 115, 10, 102, 117, 101, 108, 10, 100, 97, 121, 32, 51, 54, 53, 48, 48, 10]⟩)⟩
theorem m84_ok : m84.Ok Tryz.prog := memoM_of (e := (gcEnv [] gs)) rfl (noOwn_gc named [] gs) 3000 (by kernel_rfl) (by kernel_rfl)
/-- bay.checkDiary -/
def m85 : MemoM := ⟨28, 703657522381353618, [.v (.string ⟨#[119, 104, 97, 108, 101, 32, 48, 32, 50, 32, 51, 32, 48, 32, 48, 10, 115, 101, 116, 32, 48, 32, 50, 32, 49, 10, 115, 101, 116, 32, 49, 32, 48, 32, 48, 10, 102, 97, 117, 108, 116, 115, 10, 102, 117, 101, 108, 10, 100, 97, 121, 32, 51, 54, 53, 48, 48, 10]⟩)], [], i 0⟩
theorem m85_ok : m85.Ok Tryz.prog := memoM_of (e := (gcEnv [] gs)) rfl (noOwn_gc named [] gs) 3000 (by kernel_rfl) (by kernel_rfl)
/-- bay.text -/
def m86 : MemoM := ⟨20, 0, [.sl 0 0 6 1], [[.v (.string ⟨#[111, 107]⟩), .v (.string ⟨#[101, 114, 114, 111, 114, 32, 49, 52]⟩), .v (.string ⟨#[111, 107]⟩), .v (.string ⟨#[110, 111, 110, 101]⟩), .v (.string ⟨#[101, 114, 114, 111, 114, 32, 50]⟩), .v (.string ⟨#[101, 114, 114, 111, 114, 32, 49]⟩)]], .v (.string ⟨#[111, 107, 10, 101, 114, 114, 111, 114, 32, 49, 52, 10, 111, 107, 10, 110, 111, 110, 101, 10, 101, 114, 114, 111, 114, 32, 50, 10, 101, 114, 114, 111, 114, 32, 49, 10]⟩)⟩
theorem m86_ok : m86.Ok Tryz.prog := memoM_of (e := (gcEnv [] gs)) rfl (noOwn_gc named [] gs) 3000 (by kernel_rfl) (by kernel_rfl)
/-- homaruskit.Page -/
def m87 : MemoM := ⟨9, 0, [.sl 0 0 6 1], [[.v (.string ⟨#[111, 107]⟩), .v (.string ⟨#[101, 114, 114, 111, 114, 32, 49, 52]⟩), .v (.string ⟨#[111, 107]⟩), .v (.string ⟨#[110, 111, 110, 101]⟩), .v (.string ⟨#[101, 114, 114, 111, 114, 32, 50]⟩), .v (.string ⟨#[101, 114, 114, 111, 114, 32, 49]⟩)]], .v (.string ⟨#[111, 107, 10, 101, 114, 114, 111, 114, 32, 49, 52, 10, 111, 107, 10, 110, 111, 110, 101, 10, 101, 114, 114, 111, 114, 32, 50, 10, 101, 114, 114, 111, 114, 32, 49, 10]⟩)⟩
theorem m87_ok : m87.Ok Tryz.prog := memoM_of (e := (gcEnv [] gs)) rfl (noOwn_gc named [] gs) 3000 (by kernel_rfl) (by kernel_rfl)
/-- homaruskit.Page -/
def m88 : MemoM := ⟨9, 0, [.sl 0 0 8 1], [[.v (.string ⟨#[100, 97, 121, 32, 51]⟩), .v (.string ⟨#[116, 114, 97, 112, 32, 48, 32, 111, 117, 116, 32, 50, 32, 48, 32, 48]⟩), .v (.string ⟨#[107, 101, 112, 116, 32, 48]⟩), .v (.string ⟨#[98, 97, 99, 107, 32, 48]⟩), .v (.string ⟨#[103, 114, 97, 100, 101, 32, 99, 104, 105, 99, 107, 32, 48, 32, 48, 32, 48, 32, 48, 32, 48, 32, 48, 32, 48, 32, 48, 32, 48, 32, 48, 32, 48]⟩), .v (.string ⟨#[103, 114, 97, 100, 101, 32, 115, 101, 108, 101, 99, 116, 32, 48, 32, 48, 32, 48, 32, 48, 32, 48, 32, 48, 32, 48, 32, 48, 32, 48, 32, 48, 32, 48]⟩), .v (.string ⟨#[103, 114, 97, 100, 101, 32, 99, 117, 108, 108, 32, 48, 32, 48, 32, 48, 32, 48, 32, 48, 32, 48, 32, 48, 32, 48, 32, 48, 32, 48, 32, 48]⟩), .v (.string ⟨#[101, 110, 100]⟩)]], .v (.string ⟨#[100, 97, 121, 32, 51, 10, 116, 114, 97, 112, 32, 48, 32, 111, 117, 116, 32, 50, 32, 48, 32, 48, 10, 107, 101, 112, 116, 32, 48, 10, 98, 97, 99, 107, 32, 48, 10, 103, 114, 97, 100, 101, 32, 99, 104, 105, 99, 107, 32, 48, 32, 48, 32, 48, 32, 48, 32, 48, 32, 48, 32, 48, 32, 48, 32, 48, 32, 48, 32, 48, 10, 103, 114, 97, 100, 101, 32, 115, 101, 108, 101, 99, 116, 32, 48, 32, 48, 32, 48, 32, 48, 32, 48, 32, 48, 32, 48, 32, 48, 32, 48, 32, 48, 32, 48, 10, 103, 114, 97, 100, 101, 32, 99, 117, 108, 108, 32, 48, 32, 48, 32, 48, 32, 48, 32, 48, 32, 48, 32, 48, 32, 48, 32, 48, 32, 48, 32, 48, 10, 101, 110, 100, 10]⟩)⟩
theorem m88_ok : m88.Ok Tryz.prog := memoM_of (e := (gcEnv [] gs)) rfl (noOwn_gc named [] gs) 3000 (by kernel_rfl) (by kernel_rfl)
end Go.Proofs.YtgchcfhbcaemoabGreatDoor.Kn

namespace Go.Proofs.YtgchcfhbcaemoabGreatDoor.Kn
open Go Go.Rv
def known1 : List (List MemoM) := [[m0, m2, m3, m21, m27, m28, m29, m31, m32, m33, m39, m40, m41, m50, m55, m75, m76, m77, m79, m80, m81, m83, m84, m86, m87, m88], [m56], [m7, m62, m65], [m45, m49, m57, m64], [m26, m43, m66], [m24, m44], [m25], [m15], [m19, m63], [m5, m20, m42, m58], [m38], [m54, m78], [m8, m14, m52], [], [m30, m53, m72, m73], [m11, m67], [m18, m34, m60], [m16, m82], [m17, m85], [m47], [m69], [m6, m48], [], [m4, m9, m51], [m1, m13], [m10, m23], [m12, m59, m68], [m37, m46], [], [m35, m71], [m70, m74], [m22, m36, m61]]
theorem known1_ok : ∀ b ∈ known1, ∀ q ∈ b, q.Ok Tryz.prog := (conss_ok (cons_ok m0_ok (cons_ok m2_ok (cons_ok m3_ok (cons_ok m21_ok (cons_ok m27_ok (cons_ok m28_ok (cons_ok m29_ok (cons_ok m31_ok (cons_ok m32_ok (cons_ok m33_ok (cons_ok m39_ok (cons_ok m40_ok (cons_ok m41_ok (cons_ok m50_ok (cons_ok m55_ok (cons_ok m75_ok (cons_ok m76_ok (cons_ok m77_ok (cons_ok m79_ok (cons_ok m80_ok (cons_ok m81_ok (cons_ok m83_ok (cons_ok m84_ok (cons_ok m86_ok (cons_ok m87_ok (cons_ok m88_ok nil_ok)))))))))))))))))))))))))) (conss_ok (cons_ok m56_ok nil_ok) (conss_ok (cons_ok m7_ok (cons_ok m62_ok (cons_ok m65_ok nil_ok))) (conss_ok (cons_ok m45_ok (cons_ok m49_ok (cons_ok m57_ok (cons_ok m64_ok nil_ok)))) (conss_ok (cons_ok m26_ok (cons_ok m43_ok (cons_ok m66_ok nil_ok))) (conss_ok (cons_ok m24_ok (cons_ok m44_ok nil_ok)) (conss_ok (cons_ok m25_ok nil_ok) (conss_ok (cons_ok m15_ok nil_ok) (conss_ok (cons_ok m19_ok (cons_ok m63_ok nil_ok)) (conss_ok (cons_ok m5_ok (cons_ok m20_ok (cons_ok m42_ok (cons_ok m58_ok nil_ok)))) (conss_ok (cons_ok m38_ok nil_ok) (conss_ok (cons_ok m54_ok (cons_ok m78_ok nil_ok)) (conss_ok (cons_ok m8_ok (cons_ok m14_ok (cons_ok m52_ok nil_ok))) (conss_ok nil_ok (conss_ok (cons_ok m30_ok (cons_ok m53_ok (cons_ok m72_ok (cons_ok m73_ok nil_ok)))) (conss_ok (cons_ok m11_ok (cons_ok m67_ok nil_ok)) (conss_ok (cons_ok m18_ok (cons_ok m34_ok (cons_ok m60_ok nil_ok))) (conss_ok (cons_ok m16_ok (cons_ok m82_ok nil_ok)) (conss_ok (cons_ok m17_ok (cons_ok m85_ok nil_ok)) (conss_ok (cons_ok m47_ok nil_ok) (conss_ok (cons_ok m69_ok nil_ok) (conss_ok (cons_ok m6_ok (cons_ok m48_ok nil_ok)) (conss_ok nil_ok (conss_ok (cons_ok m4_ok (cons_ok m9_ok (cons_ok m51_ok nil_ok))) (conss_ok (cons_ok m1_ok (cons_ok m13_ok nil_ok)) (conss_ok (cons_ok m10_ok (cons_ok m23_ok nil_ok)) (conss_ok (cons_ok m12_ok (cons_ok m59_ok (cons_ok m68_ok nil_ok))) (conss_ok (cons_ok m37_ok (cons_ok m46_ok nil_ok)) (conss_ok nil_ok (conss_ok (cons_ok m35_ok (cons_ok m71_ok nil_ok)) (conss_ok (cons_ok m70_ok (cons_ok m74_ok nil_ok)) (conss_ok (cons_ok m22_ok (cons_ok m36_ok (cons_ok m61_ok nil_ok))) nils_ok))))))))))))))))))))))))))))))))
def knownR1 : List (List MemoR) := []
theorem knownR1_ok : ∀ b ∈ knownR1, ∀ q ∈ b, q.Ok Tryz.prog := nilsR_ok
def fm1 : List Nat := [22, 12, 16, 142, 92, 155, 9, 28, 20]
def fr1 : List Nat := []
@[reducible] noncomputable def env1 : Env := memoDEnv [] gs [22, 12, 16, 142, 92, 155, 9, 28, 20] 32 known1 [] knownR1
theorem nown1 : @NoOwn env1 Tryz.prog := noOwn_memoD named [] gs [22, 12, 16, 142, 92, 155, 9, 28, 20] 32 known1_ok [] knownR1_ok
end Go.Proofs.YtgchcfhbcaemoabGreatDoor.Kn


namespace Go.Proofs.YtgchcfhbcaemoabGreatDoor.Kn
open Go Go.Rv
/-- ground.CheckFleet -/
def m89 : MemoM := ⟨11, 22475364686498259, [.agg [i 10, i 2, i 3, .sl 0 0 2 1, .sl 3 0 2 6], .agg [.sl 4 0 3 5, .sl 5 0 4 1]], [[.sl 1 0 2 1, .sl 2 0 2 1], [i 3, i 4], [i 7, i 7], [i 0, i 0, i 0, i 10, i 19, i 5, i 1, i 0, i 1, i 15, i 30, i (-2)], [i 0, i 1, i (-1), i 0, i 100, i 0, i 1, i 0, i 0, i 100, i 2, i 2, i (-1), i 50, i 60], [i 0, i 1, i 2, i 2]], i 0⟩
theorem m89_ok : m89.Ok Tryz.prog := memoM_of (e := env1) rfl nown1 3000 (by kernel_rfl) (by kernel_rfl)
/-- ground.Holder -/
def m90 : MemoM := ⟨135, 380301786445554386, [.agg [i 10, i 2, i 3, .sl 0 0 2 1, .sl 3 0 2 6], i 0, i 2, i 0], [[.sl 1 0 2 1, .sl 2 0 2 1], [i 3, i 4], [i 7, i 7], [i 0, i 0, i 0, i 10, i 19, i 5, i 1, i 0, i 1, i 15, i 30, i (-2)]], .tup [i 0, i 0]⟩
theorem m90_ok : m90.Ok Tryz.prog := memoM_of (e := env1) rfl nown1 3000 (by kernel_rfl) (by kernel_rfl)
/-- whale.Check -/
def m91 : MemoM := ⟨146, 380301786445554386, [.agg [i 10, i 2, i 3, .sl 0 0 2 1, .sl 3 0 2 6], .agg [i 0, i 2, .v (.slice none 0 0)]], [[.sl 1 0 2 1, .sl 2 0 2 1], [i 3, i 4], [i 7, i 7], [i 0, i 0, i 0, i 10, i 19, i 5, i 1, i 0, i 1, i 15, i 30, i (-2)]], i 0⟩
theorem m91_ok : m91.Ok Tryz.prog := memoM_of (e := env1) rfl nown1 3000 (by kernel_rfl) (by kernel_rfl)
/-- whale.Check -/
def m92 : MemoM := ⟨146, 380302786451554395, [.agg [i 10, i 2, i 3, .sl 0 0 2 1, .sl 3 0 2 6], .agg [i 1, i 2, .sl 4 0 1 6]], [[.sl 1 0 2 1, .sl 2 0 2 1], [i 3, i 4], [i 7, i 7], [i 0, i 0, i 0, i 10, i 19, i 5, i 1, i 0, i 1, i 15, i 30, i (-2)], [i 0, i 0, i 2, i 3, i 0, i 1]], i 0⟩
theorem m92_ok : m92.Ok Tryz.prog := memoM_of (e := env1) rfl nown1 3000 (by kernel_rfl) (by kernel_rfl)
/-- ground.Holder -/
def m93 : MemoM := ⟨135, 380301786449554398, [.agg [i 10, i 2, i 3, .sl 0 0 2 1, .sl 3 0 2 6], i 0, i 6, i 0], [[.sl 1 0 2 1, .sl 2 0 2 1], [i 3, i 4], [i 7, i 7], [i 0, i 0, i 0, i 10, i 19, i 5, i 1, i 0, i 1, i 15, i 30, i (-2)]], .tup [i 1, i 0]⟩
theorem m93_ok : m93.Ok Tryz.prog := memoM_of (e := env1) rfl nown1 3000 (by kernel_rfl) (by kernel_rfl)
/-- ground.Holder -/
def m94 : MemoM := ⟨135, 380301786451554404, [.agg [i 10, i 2, i 3, .sl 0 0 2 1, .sl 3 0 2 6], i 0, i 8, i 0], [[.sl 1 0 2 1, .sl 2 0 2 1], [i 3, i 4], [i 7, i 7], [i 0, i 0, i 0, i 10, i 19, i 5, i 1, i 0, i 1, i 15, i 30, i (-2)]], .tup [i 2, i 0]⟩
theorem m94_ok : m94.Ok Tryz.prog := memoM_of (e := env1) rfl nown1 3000 (by kernel_rfl) (by kernel_rfl)
/-- ground.Holder -/
def m95 : MemoM := ⟨135, 380301786455554416, [.agg [i 10, i 2, i 3, .sl 0 0 2 1, .sl 3 0 2 6], i 0, i 12, i 0], [[.sl 1 0 2 1, .sl 2 0 2 1], [i 3, i 4], [i 7, i 7], [i 0, i 0, i 0, i 10, i 19, i 5, i 1, i 0, i 1, i 15, i 30, i (-2)]], .tup [i 0, i 1]⟩
theorem m95_ok : m95.Ok Tryz.prog := memoM_of (e := env1) rfl nown1 3000 (by kernel_rfl) (by kernel_rfl)
/-- trade.Book -/
def m96 : MemoR := ⟨⟨39, 0, [.sl 0 0 3 6, .sl 1 0 1 4], [[.v (.string ⟨#[99, 104, 105, 99, 107]⟩), i 450, i 550, bo false, bo false, i 1000, .v (.string ⟨#[115, 101, 108, 101, 99, 116]⟩), i 551, i 900, bo false, bo false, i 1600, .v (.string ⟨#[99, 117, 108, 108]⟩), i 400, i 900, bo true, bo true, i 700], [i 1, i 1, i 1, i 600]], .tup [.sl 0 0 3 11, i 0]⟩, [[i 0, i 0, i 0, i 0, i 0, i 0, i 0, i 0, i 0, i 0, i 0, i 1, i 600, i 0, i 0, i 0, i 0, i 0, i 0, i 1, i 600, i 0, i 0, i 0, i 0, i 0, i 0, i 0, i 0, i 0, i 0, i 0, i 0]]⟩
theorem m96_ok : m96.Ok Tryz.prog := memoR_of (e := env1) rfl nown1 3000 (by kernel_rfl)
/-- trade.Book -/
def m97 : MemoR := ⟨⟨39, 0, [.sl 0 0 3 6, .sl 1 0 2 4], [[.v (.string ⟨#[99, 104, 105, 99, 107]⟩), i 450, i 550, bo false, bo false, i 1000, .v (.string ⟨#[115, 101, 108, 101, 99, 116]⟩), i 551, i 900, bo false, bo false, i 1600, .v (.string ⟨#[99, 117, 108, 108]⟩), i 400, i 900, bo true, bo true, i 700], [i 1, i 1, i 1, i 600, i 3, i 1, i 1, i 600]], .tup [.sl 0 0 3 11, i 0]⟩, [[i 0, i 0, i 0, i 0, i 0, i 0, i 0, i 0, i 0, i 0, i 0, i 1, i 600, i 0, i 0, i 1, i 600, i 0, i 0, i 0, i 0, i 0, i 0, i 0, i 0, i 0, i 0, i 0, i 0, i 0, i 0, i 0, i 0]]⟩
theorem m97_ok : m97.Ok Tryz.prog := memoR_of (e := env1) rfl nown1 3000 (by kernel_rfl)
/-- whale.Check -/
def m98 : MemoM := ⟨146, 380302786451554395, [.agg [i 10, i 2, i 3, .sl 0 0 2 1, .sl 3 0 2 6], .agg [i 1, i 2, .sl 4 0 2 6]], [[.sl 1 0 2 1, .sl 2 0 2 1], [i 3, i 4], [i 7, i 7], [i 0, i 0, i 0, i 10, i 19, i 5, i 1, i 0, i 1, i 15, i 30, i (-2)], [i 0, i 0, i 2, i 3, i 0, i 1, i 0, i 1, i 9, i 9, i 0, i 0]], i 9⟩
theorem m98_ok : m98.Ok Tryz.prog := memoM_of (e := env1) rfl nown1 3000 (by kernel_rfl) (by kernel_rfl)
/-- trade.Book -/
def m99 : MemoR := ⟨⟨39, 0, [.sl 0 0 3 6, .v (.slice none 0 0)], [[.v (.string ⟨#[99, 104, 105, 99, 107]⟩), i 450, i 550, bo false, bo false, i 1000, .v (.string ⟨#[115, 101, 108, 101, 99, 116]⟩), i 551, i 900, bo false, bo false, i 1600, .v (.string ⟨#[99, 117, 108, 108]⟩), i 400, i 900, bo true, bo true, i 700]], .tup [.sl 0 0 3 11, i 0]⟩, [[i 0, i 0, i 0, i 0, i 0, i 0, i 0, i 0, i 0, i 0, i 0, i 0, i 0, i 0, i 0, i 0, i 0, i 0, i 0, i 0, i 0, i 0, i 0, i 0, i 0, i 0, i 0, i 0, i 0, i 0, i 0, i 0, i 0]]⟩
theorem m99_ok : m99.Ok Tryz.prog := memoR_of (e := env1) rfl nown1 3000 (by kernel_rfl)
/-- whale.Check -/
def m100 : MemoM := ⟨146, 380302786451554395, [.agg [i 10, i 2, i 3, .sl 0 0 2 1, .sl 3 0 2 6], .agg [i 1, i 2, .sl 4 0 1 6]], [[.sl 1 0 2 1, .sl 2 0 2 1], [i 3, i 4], [i 7, i 7], [i 0, i 0, i 0, i 10, i 19, i 5, i 1, i 0, i 1, i 15, i 30, i (-2)], [i 0, i 0, i 2, i 3, i 0, i 0]], i 0⟩
theorem m100_ok : m100.Ok Tryz.prog := memoM_of (e := env1) rfl nown1 3000 (by kernel_rfl) (by kernel_rfl)
/-- ground.Holder -/
def m101 : MemoM := ⟨135, 380301786445554387, [.agg [i 10, i 2, i 3, .sl 0 0 2 1, .sl 3 0 2 6], i 0, i 2, i 1], [[.sl 1 0 2 1, .sl 2 0 2 1], [i 3, i 4], [i 7, i 7], [i 0, i 0, i 0, i 10, i 19, i 5, i 1, i 0, i 1, i 15, i 30, i (-2)]], .tup [i 0, i 0]⟩
theorem m101_ok : m101.Ok Tryz.prog := memoM_of (e := env1) rfl nown1 3000 (by kernel_rfl) (by kernel_rfl)
/-- ground.Holder -/
def m102 : MemoM := ⟨135, 380301786443554380, [.agg [i 10, i 2, i 3, .sl 0 0 2 1, .sl 3 0 2 6], i 0, i 0, i 0], [[.sl 1 0 2 1, .sl 2 0 2 1], [i 3, i 4], [i 7, i 7], [i 0, i 0, i 0, i 10, i 19, i 5, i 1, i 0, i 1, i 15, i 30, i (-2)]], .tup [i 0, i 0]⟩
theorem m102_ok : m102.Ok Tryz.prog := memoM_of (e := env1) rfl nown1 3000 (by kernel_rfl) (by kernel_rfl)
end Go.Proofs.YtgchcfhbcaemoabGreatDoor.Kn


namespace Go.Proofs.YtgchcfhbcaemoabGreatDoor.Kn
open Go Go.Rv
def known2 : List (List MemoM) := [[m0, m2, m3, m21, m27, m28, m29, m31, m32, m33, m39, m40, m41, m50, m55, m75, m76, m77, m79, m80, m81, m83, m84, m86, m87, m88], [m56], [m7, m62, m65], [m45, m49, m57, m64], [m26, m43, m66, m94], [m24, m44], [m25], [m15], [m19, m63], [m5, m20, m42, m58], [m38], [m54, m78], [m8, m14, m52, m102], [], [m30, m53, m72, m73], [m11, m67], [m18, m34, m60, m95], [m16, m82], [m17, m85, m90, m91], [m47, m89, m101], [m69], [m6, m48], [], [m4, m9, m51], [m1, m13], [m10, m23], [m12, m59, m68], [m37, m46, m92, m98, m100], [], [m35, m71], [m70, m74, m93], [m22, m36, m61]]
theorem known2_ok : ∀ b ∈ known2, ∀ q ∈ b, q.Ok Tryz.prog := (conss_ok (cons_ok m0_ok (cons_ok m2_ok (cons_ok m3_ok (cons_ok m21_ok (cons_ok m27_ok (cons_ok m28_ok (cons_ok m29_ok (cons_ok m31_ok (cons_ok m32_ok (cons_ok m33_ok (cons_ok m39_ok (cons_ok m40_ok (cons_ok m41_ok (cons_ok m50_ok (cons_ok m55_ok (cons_ok m75_ok (cons_ok m76_ok (cons_ok m77_ok (cons_ok m79_ok (cons_ok m80_ok (cons_ok m81_ok (cons_ok m83_ok (cons_ok m84_ok (cons_ok m86_ok (cons_ok m87_ok (cons_ok m88_ok nil_ok)))))))))))))))))))))))))) (conss_ok (cons_ok m56_ok nil_ok) (conss_ok (cons_ok m7_ok (cons_ok m62_ok (cons_ok m65_ok nil_ok))) (conss_ok (cons_ok m45_ok (cons_ok m49_ok (cons_ok m57_ok (cons_ok m64_ok nil_ok)))) (conss_ok (cons_ok m26_ok (cons_ok m43_ok (cons_ok m66_ok (cons_ok m94_ok nil_ok)))) (conss_ok (cons_ok m24_ok (cons_ok m44_ok nil_ok)) (conss_ok (cons_ok m25_ok nil_ok) (conss_ok (cons_ok m15_ok nil_ok) (conss_ok (cons_ok m19_ok (cons_ok m63_ok nil_ok)) (conss_ok (cons_ok m5_ok (cons_ok m20_ok (cons_ok m42_ok (cons_ok m58_ok nil_ok)))) (conss_ok (cons_ok m38_ok nil_ok) (conss_ok (cons_ok m54_ok (cons_ok m78_ok nil_ok)) (conss_ok (cons_ok m8_ok (cons_ok m14_ok (cons_ok m52_ok (cons_ok m102_ok nil_ok)))) (conss_ok nil_ok (conss_ok (cons_ok m30_ok (cons_ok m53_ok (cons_ok m72_ok (cons_ok m73_ok nil_ok)))) (conss_ok (cons_ok m11_ok (cons_ok m67_ok nil_ok)) (conss_ok (cons_ok m18_ok (cons_ok m34_ok (cons_ok m60_ok (cons_ok m95_ok nil_ok)))) (conss_ok (cons_ok m16_ok (cons_ok m82_ok nil_ok)) (conss_ok (cons_ok m17_ok (cons_ok m85_ok (cons_ok m90_ok (cons_ok m91_ok nil_ok)))) (conss_ok (cons_ok m47_ok (cons_ok m89_ok (cons_ok m101_ok nil_ok))) (conss_ok (cons_ok m69_ok nil_ok) (conss_ok (cons_ok m6_ok (cons_ok m48_ok nil_ok)) (conss_ok nil_ok (conss_ok (cons_ok m4_ok (cons_ok m9_ok (cons_ok m51_ok nil_ok))) (conss_ok (cons_ok m1_ok (cons_ok m13_ok nil_ok)) (conss_ok (cons_ok m10_ok (cons_ok m23_ok nil_ok)) (conss_ok (cons_ok m12_ok (cons_ok m59_ok (cons_ok m68_ok nil_ok))) (conss_ok (cons_ok m37_ok (cons_ok m46_ok (cons_ok m92_ok (cons_ok m98_ok (cons_ok m100_ok nil_ok))))) (conss_ok nil_ok (conss_ok (cons_ok m35_ok (cons_ok m71_ok nil_ok)) (conss_ok (cons_ok m70_ok (cons_ok m74_ok (cons_ok m93_ok nil_ok))) (conss_ok (cons_ok m22_ok (cons_ok m36_ok (cons_ok m61_ok nil_ok))) nils_ok))))))))))))))))))))))))))))))))
def knownR2 : List (List MemoR) := [[m96, m97, m99], [], [], [], [], [], [], [], [], [], [], [], [], [], [], [], [], [], [], [], [], [], [], [], [], [], [], [], [], [], [], []]
theorem knownR2_ok : ∀ b ∈ knownR2, ∀ q ∈ b, q.Ok Tryz.prog := (conssR_ok (consR_ok m96_ok (consR_ok m97_ok (consR_ok m99_ok nilR_ok))) (conssR_ok nilR_ok (conssR_ok nilR_ok (conssR_ok nilR_ok (conssR_ok nilR_ok (conssR_ok nilR_ok (conssR_ok nilR_ok (conssR_ok nilR_ok (conssR_ok nilR_ok (conssR_ok nilR_ok (conssR_ok nilR_ok (conssR_ok nilR_ok (conssR_ok nilR_ok (conssR_ok nilR_ok (conssR_ok nilR_ok (conssR_ok nilR_ok (conssR_ok nilR_ok (conssR_ok nilR_ok (conssR_ok nilR_ok (conssR_ok nilR_ok (conssR_ok nilR_ok (conssR_ok nilR_ok (conssR_ok nilR_ok (conssR_ok nilR_ok (conssR_ok nilR_ok (conssR_ok nilR_ok (conssR_ok nilR_ok (conssR_ok nilR_ok (conssR_ok nilR_ok (conssR_ok nilR_ok (conssR_ok nilR_ok (conssR_ok nilR_ok nilsR_ok))))))))))))))))))))))))))))))))
def fm2 : List Nat := [22, 12, 16, 142, 92, 155, 9, 28, 20, 11, 135, 146]
def fr2 : List Nat := [39]
@[reducible] noncomputable def env2 : Env := memoDEnv [] gs [22, 12, 16, 142, 92, 155, 9, 28, 20, 11, 135, 146] 32 known2 [39] knownR2
theorem nown2 : @NoOwn env2 Tryz.prog := noOwn_memoD named [] gs [22, 12, 16, 142, 92, 155, 9, 28, 20, 11, 135, 146] 32 known2_ok [39] knownR2_ok
end Go.Proofs.YtgchcfhbcaemoabGreatDoor.Kn
