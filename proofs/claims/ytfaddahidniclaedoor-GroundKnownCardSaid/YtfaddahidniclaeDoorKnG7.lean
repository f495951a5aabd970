/- Known runs: the states of traps, and the first examples. -/
import Derived.Test.YtfaddahidniclaeDoorKnG0
namespace Go.Proofs.YtfaddahidniclaeDoor.Kn
open Go Go.Rv
def fA : RV := .agg [.sl 4 0 3 5, .sl 5 0 4 1]
def fM : List (List RV) := [[i 0, i 1, i (-1), i 0, i 100, i 0, i 1, i 0, i 0, i 100, i 2, i 2, i (-1), i 50, i 60], [i 0, i 1, i 2, i 2], [i 0, i 12, i 2, i 6, i 0, i 2, i 55, i 2, i 6, i 1, i 2, i 56, i 3, i 8, i 1, i 2, i 56, i 4, i 0, i 0, i 0, i 13, i 1, i 0, i 0]]
def st0 : MemoM := ⟨14, 63924869049354828, [bA, fA, .sl 6 0 5 5, i 0, i 12], bM ++ fM, .tup [.agg [i 2, i 6, i 0, i 12], i 0]⟩
theorem st0_ok : st0.Ok Tryd.prog := memoM_of (e := gcEnv [] [25, 38, 7, 20, 21, 22, 34, 42, 43, 57, 58, 59, 10, 26, 62, 63]) rfl (noOwn_gc named [] [25, 38, 7, 20, 21, 22, 34, 42, 43, 57, 58, 59, 10, 26, 62, 63]) 3000 (by kernel_rfl) (by kernel_rfl)
def st1 : MemoM := ⟨14, 63924869049354829, [bA, fA, .sl 6 0 5 5, i 0, i 13], bM ++ fM, .tup [.agg [i 1, i 0, i 0, i 13], i 0]⟩
theorem st1_ok : st1.Ok Tryd.prog := memoM_of (e := gcEnv [] [25, 38, 7, 20, 21, 22, 34, 42, 43, 57, 58, 59, 10, 26, 62, 63]) rfl (noOwn_gc named [] [25, 38, 7, 20, 21, 22, 34, 42, 43, 57, 58, 59, 10, 26, 62, 63]) 3000 (by kernel_rfl) (by kernel_rfl)
def st2 : MemoM := ⟨14, 63924869051354877, [bA, fA, .sl 6 0 5 5, i 2, i 55], bM ++ fM, .tup [.agg [i 2, i 6, i 1, i 55], i 0]⟩
theorem st2_ok : st2.Ok Tryd.prog := memoM_of (e := gcEnv [] [25, 38, 7, 20, 21, 22, 34, 42, 43, 57, 58, 59, 10, 26, 62, 63]) rfl (noOwn_gc named [] [25, 38, 7, 20, 21, 22, 34, 42, 43, 57, 58, 59, 10, 26, 62, 63]) 3000 (by kernel_rfl) (by kernel_rfl)
def st3 : MemoM := ⟨14, 63924869051354912, [bA, fA, .sl 6 0 5 5, i 2, i 90], bM ++ fM, .tup [.agg [i 3, i 8, i 1, i 56], i 0]⟩
theorem st3_ok : st3.Ok Tryd.prog := memoM_of (e := gcEnv [] [25, 38, 7, 20, 21, 22, 34, 42, 43, 57, 58, 59, 10, 26, 62, 63]) rfl (noOwn_gc named [] [25, 38, 7, 20, 21, 22, 34, 42, 43, 57, 58, 59, 10, 26, 62, 63]) 3000 (by kernel_rfl) (by kernel_rfl)
def chk : MemoM := ⟨7, 1381779491189973080, [bA], bM, i 0⟩
theorem chk_ok : chk.Ok Tryd.prog := memoM_of (e := gcEnv [] [25, 38, 7, 20, 21, 22, 34, 42, 43, 57, 58, 59, 10, 26, 62, 63]) rfl (noOwn_gc named [] [25, 38, 7, 20, 21, 22, 34, 42, 43, 57, 58, 59, 10, 26, 62, 63]) 3000 (by kernel_rfl) (by kernel_rfl)
def chf : MemoM := ⟨42, 22475364686498259, [bA, fA], bM ++ fM.take 2, i 0⟩
theorem chf_ok : chf.Ok Tryd.prog := memoM_of (e := gcEnv [] [25, 38, 7, 20, 21, 22, 34, 42, 43, 57, 58, 59, 10, 26, 62, 63]) rfl (noOwn_gc named [] [25, 38, 7, 20, 21, 22, 34, 42, 43, 57, 58, 59, 10, 26, 62, 63]) 3000 (by kernel_rfl) (by kernel_rfl)
def aw : MemoM := ⟨6, 0, [], [], .v (.bool true)⟩
theorem aw_ok : aw.Ok Tryd.prog := memoM_of (e := gcEnv [] [25, 38, 7, 20, 21, 22, 34, 42, 43, 57, 58, 59, 10, 26, 62, 63]) rfl (noOwn_gc named [] [25, 38, 7, 20, 21, 22, 34, 42, 43, 57, 58, 59, 10, 26, 62, 63]) 3000 (by kernel_rfl) (by kernel_rfl)
end Go.Proofs.YtfaddahidniclaeDoor.Kn
