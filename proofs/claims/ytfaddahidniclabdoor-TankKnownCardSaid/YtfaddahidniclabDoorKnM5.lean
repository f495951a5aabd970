/- Known runs: what a tank's limits say of some scenarios, each run by the kernel. -/
import Derived.Test.YtfaddahidniclabDoorKnM0
namespace Go.Proofs.YtfaddahidniclabDoor.Kn
open Go Go.Rv
def v4 : MemoM := ⟨54, 918254685687278495, [.agg [.sl 0 0 1 8, .sl 1 0 2 2, i 1000, i 1000, i 0, i 0, i 50, i 70, i 5000, i 6000, i 100, i 100, i 0, i 0, i 0, i 0, i 800, i 50, i 40, i 90, i 1000, i 10000, i 900, i 900, i 0, i 0, i 60, i 60, i 0], .agg [i 0, i 3], i 5], [[i 1000, i 10000, i 900, i 900, i 0, i 0, i 60, i 60], [i 0, i 500, i 0, i 250]], i 1⟩
theorem v4_ok : v4.Ok Tryd.prog := memoM_of (e := gcEnv [] gs) rfl (noOwn_gc named [] gs) 3000 (by kernel_rfl) (by kernel_rfl)
def v10 : MemoM := ⟨54, 918255685694278507, [.agg [.sl 0 0 1 8, .sl 1 0 2 2, i 1000, i 1000, i 0, i 0, i 50, i 70, i 5000, i 6000, i 100, i 100, i 0, i 0, i 0, i 0, i 800, i 50, i 40, i 90, i 1000, i 10000, i 900, i 900, i 0, i 0, i 60, i 60, i 0], .agg [i 1, i 4], i 5], [[i 1000, i 10000, i 900, i 900, i 0, i 0, i 60, i 60], [i 0, i 500, i 0, i 250]], i 1⟩
theorem v10_ok : v10.Ok Tryd.prog := memoM_of (e := gcEnv [] gs) rfl (noOwn_gc named [] gs) 3000 (by kernel_rfl) (by kernel_rfl)
def v17 : MemoM := ⟨54, 918255685691278497, [.agg [.sl 0 0 1 8, .sl 1 0 2 2, i 1000, i 1000, i 0, i 0, i 50, i 70, i 5000, i 6000, i 100, i 100, i 0, i 0, i 0, i 0, i 800, i 50, i 40, i 90, i 1000, i 10000, i 900, i 900, i 0, i 0, i 60, i 60, i 0], .agg [i 1, i 1], i 4], [[i 1000, i 10000, i 900, i 900, i 0, i 0, i 60, i 60], [i 0, i 500, i 0, i 250]], i 1⟩
theorem v17_ok : v17.Ok Tryd.prog := memoM_of (e := gcEnv [] gs) rfl (noOwn_gc named [] gs) 3000 (by kernel_rfl) (by kernel_rfl)
def v92 : MemoM := ⟨48, 918255685690278490, [.agg [.sl 0 0 1 8, .sl 1 0 2 2, i 1000, i 1000, i 0, i 0, i 50, i 70, i 5000, i 6000, i 100, i 100, i 0, i 0, i 0, i 0, i 800, i 50, i 40, i 90, i 1000, i 10000, i 900, i 900, i 0, i 0, i 60, i 60, i 0], .agg [i 1, i 0], .sl 2 0 2 4], [[i 1000, i 10000, i 900, i 900, i 0, i 0, i 60, i 60], [i 0, i 500, i 0, i 250], [i 1, i 920, i 1, i 60, i 2, i 900, i 2, i 60]], i 0⟩
theorem v92_ok : v92.Ok Tryd.prog := memoM_of (e := gcEnv [] gs) rfl (noOwn_gc named [] gs) 3000 (by kernel_rfl) (by kernel_rfl)
def v96 : MemoM := ⟨48, 918254685685278484, [.agg [.sl 0 0 1 8, .sl 1 0 2 2, i 1000, i 1000, i 0, i 0, i 50, i 70, i 5000, i 6000, i 100, i 100, i 0, i 0, i 0, i 0, i 800, i 50, i 40, i 90, i 1000, i 10000, i 900, i 900, i 0, i 0, i 60, i 60, i 0], .agg [i 0, i 1], .sl 2 0 2 4], [[i 1000, i 10000, i 900, i 900, i 0, i 0, i 60, i 60], [i 0, i 500, i 0, i 250], [i 1, i 920, i 1, i 60, i 2, i 950, i 2, i 60]], i 1⟩
theorem v96_ok : v96.Ok Tryd.prog := memoM_of (e := gcEnv [] gs) rfl (noOwn_gc named [] gs) 3000 (by kernel_rfl) (by kernel_rfl)
def v102 : MemoM := ⟨48, 918255685690278490, [.agg [.sl 0 0 1 8, .sl 1 0 2 2, i 1000, i 1000, i 0, i 0, i 50, i 70, i 5000, i 6000, i 100, i 100, i 0, i 0, i 0, i 0, i 800, i 50, i 40, i 90, i 1000, i 10000, i 900, i 900, i 0, i 0, i 60, i 60, i 0], .agg [i 1, i 0], .sl 2 0 2 4], [[i 1000, i 10000, i 900, i 900, i 0, i 0, i 60, i 60], [i 0, i 500, i 0, i 250], [i 1, i 930, i 1, i 60, i 2, i 900, i 2, i 60]], i 0⟩
theorem v102_ok : v102.Ok Tryd.prog := memoM_of (e := gcEnv [] gs) rfl (noOwn_gc named [] gs) 3000 (by kernel_rfl) (by kernel_rfl)
def v24 : MemoM := ⟨54, 573834442003628981, [.agg [.sl 0 0 1 8, .sl 1 0 2 2, i 1000, i 1000, i 0, i 0, i 50, i 70, i 5000, i 6000, i 100, i 100, i 0, i 0, i 0, i 0, i 800, i 50, i 40, i 90, i 1000, i 2500000, i 900, i 900, i 0, i 0, i 60, i 60, i 0], .agg [i (-1), i 0], i 1], [[i 1000, i 10000, i 900, i 900, i 0, i 0, i 60, i 60], [i 0, i 500, i 0, i 250]], i 2⟩
theorem v24_ok : v24.Ok Tryd.prog := memoM_of (e := gcEnv [] gs) rfl (noOwn_gc named [] gs) 3000 (by kernel_rfl) (by kernel_rfl)
def v30 : MemoM := ⟨54, 2171948987675379674, [.agg [.sl 0 0 1 8, .sl 1 0 2 2, i 1000, i 1000, i 0, i 0, i 50, i 70, i 5000, i 6000, i 100, i 100, i 0, i 0, i 0, i 0, i 800, i 50, i 40, i 90, i 1000, i 39062, i 900, i 900, i 0, i 0, i 60, i 60, i 0], .agg [i (-1), i 0], i 1], [[i 1000, i 10000, i 900, i 900, i 0, i 0, i 60, i 60], [i 0, i 500, i 0, i 250]], i 2⟩
theorem v30_ok : v30.Ok Tryd.prog := memoM_of (e := gcEnv [] gs) rfl (noOwn_gc named [] gs) 3000 (by kernel_rfl) (by kernel_rfl)
def v36 : MemoM := ⟨54, 1506254842142013633, [.agg [.sl 0 0 1 8, .sl 1 0 2 2, i 1000, i 1000, i 0, i 0, i 50, i 70, i 5000, i 6000, i 100, i 100, i 0, i 0, i 0, i 0, i 800, i 50, i 40, i 90, i 1000, i 24414, i 900, i 900, i 0, i 0, i 60, i 60, i 0], .agg [i 0, i 0], i 1], [[i 1000, i 10000, i 900, i 900, i 0, i 0, i 60, i 60], [i 0, i 500, i 0, i 250]], i 3⟩
theorem v36_ok : v36.Ok Tryd.prog := memoM_of (e := gcEnv [] gs) rfl (noOwn_gc named [] gs) 3000 (by kernel_rfl) (by kernel_rfl)
def v42 : MemoM := ⟨54, 1734852528001738387, [.agg [.sl 0 0 1 8, .sl 1 0 2 2, i 1000, i 1000, i 0, i 0, i 50, i 70, i 5000, i 6000, i 100, i 100, i 0, i 0, i 0, i 0, i 800, i 50, i 40, i 90, i 1000, i 21363, i 900, i 900, i 0, i 0, i 60, i 60, i 0], .agg [i (-1), i 0], i 1], [[i 1000, i 10000, i 900, i 900, i 0, i 0, i 60, i 60], [i 0, i 500, i 0, i 250]], i 1⟩
theorem v42_ok : v42.Ok Tryd.prog := memoM_of (e := gcEnv [] gs) rfl (noOwn_gc named [] gs) 3000 (by kernel_rfl) (by kernel_rfl)
def v48 : MemoM := ⟨54, 670688164772595862, [.agg [.sl 0 0 1 8, .sl 1 0 2 2, i 1000, i 1000, i 0, i 0, i 50, i 70, i 5000, i 6000, i 100, i 100, i 0, i 0, i 0, i 0, i 800, i 50, i 40, i 90, i 1000, i 20829, i 900, i 900, i 0, i 0, i 60, i 60, i 0], .agg [i (-1), i 0], i 1], [[i 1000, i 10000, i 900, i 900, i 0, i 0, i 60, i 60], [i 0, i 500, i 0, i 250]], i 1⟩
theorem v48_ok : v48.Ok Tryd.prog := memoM_of (e := gcEnv [] gs) rfl (noOwn_gc named [] gs) 3000 (by kernel_rfl) (by kernel_rfl)
def v54 : MemoM := ⟨54, 617872471341633568, [.agg [.sl 0 0 1 8, .sl 1 0 2 2, i 1000, i 1000, i 0, i 0, i 50, i 70, i 5000, i 6000, i 100, i 100, i 0, i 0, i 0, i 0, i 800, i 50, i 40, i 90, i 1000, i 20848, i 900, i 900, i 0, i 0, i 60, i 60, i 0], .agg [i 0, i 0], i 1], [[i 1000, i 10000, i 900, i 900, i 0, i 0, i 60, i 60], [i 0, i 500, i 0, i 250]], i 3⟩
theorem v54_ok : v54.Ok Tryd.prog := memoM_of (e := gcEnv [] gs) rfl (noOwn_gc named [] gs) 3000 (by kernel_rfl) (by kernel_rfl)
def v60 : MemoM := ⟨54, 1026429319896185071, [.agg [.sl 0 0 1 8, .sl 1 0 2 2, i 1000, i 1000, i 0, i 0, i 50, i 70, i 5000, i 6000, i 100, i 100, i 0, i 0, i 0, i 0, i 800, i 50, i 40, i 90, i 1000, i 20832, i 900, i 900, i 0, i 0, i 60, i 60, i 0], .agg [i 0, i 0], i 1], [[i 1000, i 10000, i 900, i 900, i 0, i 0, i 60, i 60], [i 0, i 500, i 0, i 250]], i 1⟩
theorem v60_ok : v60.Ok Tryd.prog := memoM_of (e := gcEnv [] gs) rfl (noOwn_gc named [] gs) 3000 (by kernel_rfl) (by kernel_rfl)
def v66 : MemoM := ⟨54, 92779247393691761, [.agg [.sl 0 0 1 8, .sl 1 0 2 2, i 1000, i 1000, i 0, i 0, i 50, i 70, i 5000, i 6000, i 100, i 100, i 0, i 0, i 0, i 0, i 950, i 50, i 40, i 90, i 1000, i 2500000, i 900, i 900, i 0, i 0, i 60, i 60, i 0], .agg [i (-1), i 0], i 1], [[i 1000, i 10000, i 900, i 900, i 0, i 0, i 60, i 60], [i 0, i 500, i 0, i 250]], i 2⟩
theorem v66_ok : v66.Ok Tryd.prog := memoM_of (e := gcEnv [] gs) rfl (noOwn_gc named [] gs) 3000 (by kernel_rfl) (by kernel_rfl)
def v72 : MemoM := ⟨54, 1690893793065442454, [.agg [.sl 0 0 1 8, .sl 1 0 2 2, i 1000, i 1000, i 0, i 0, i 50, i 70, i 5000, i 6000, i 100, i 100, i 0, i 0, i 0, i 0, i 950, i 50, i 40, i 90, i 1000, i 39062, i 900, i 900, i 0, i 0, i 60, i 60, i 0], .agg [i (-1), i 0], i 1], [[i 1000, i 10000, i 900, i 900, i 0, i 0, i 60, i 60], [i 0, i 500, i 0, i 250]], i 2⟩
theorem v72_ok : v72.Ok Tryd.prog := memoM_of (e := gcEnv [] gs) rfl (noOwn_gc named [] gs) 3000 (by kernel_rfl) (by kernel_rfl)
def v78 : MemoM := ⟨54, 689557404454295425, [.agg [.sl 0 0 1 8, .sl 1 0 2 2, i 1000, i 1000, i 0, i 0, i 50, i 70, i 5000, i 6000, i 100, i 100, i 0, i 0, i 0, i 0, i 950, i 50, i 40, i 90, i 1000, i 610, i 900, i 900, i 0, i 0, i 60, i 60, i 0], .agg [i (-1), i 0], i 1], [[i 1000, i 10000, i 900, i 900, i 0, i 0, i 60, i 60], [i 0, i 500, i 0, i 250]], i 2⟩
theorem v78_ok : v78.Ok Tryd.prog := memoM_of (e := gcEnv [] gs) rfl (noOwn_gc named [] gs) 3000 (by kernel_rfl) (by kernel_rfl)
def v84 : MemoM := ⟨54, 903879280319769703, [.agg [.sl 0 0 1 8, .sl 1 0 2 2, i 1000, i 1000, i 0, i 0, i 50, i 70, i 5000, i 6000, i 100, i 100, i 0, i 0, i 0, i 0, i 950, i 50, i 40, i 90, i 1000, i 9, i 900, i 900, i 0, i 0, i 60, i 60, i 0], .agg [i (-1), i 0], i 1], [[i 1000, i 10000, i 900, i 900, i 0, i 0, i 60, i 60], [i 0, i 500, i 0, i 250]], i 2⟩
theorem v84_ok : v84.Ok Tryd.prog := memoM_of (e := gcEnv [] gs) rfl (noOwn_gc named [] gs) 3000 (by kernel_rfl) (by kernel_rfl)
def part5 : List MemoM := [v4, v10, v17, v92, v96, v102, v24, v30, v36, v42, v48, v54, v60, v66, v72, v78, v84]
theorem part5_ok : ∀ e ∈ part5, e.Ok Tryd.prog := by
  intro e he
  simp only [part5, List.mem_cons, List.not_mem_nil, or_false] at he
  rcases he with rfl | rfl | rfl | rfl | rfl | rfl | rfl | rfl | rfl | rfl | rfl | rfl | rfl | rfl | rfl | rfl | rfl
  · exact v4_ok
  · exact v10_ok
  · exact v17_ok
  · exact v92_ok
  · exact v96_ok
  · exact v102_ok
  · exact v24_ok
  · exact v30_ok
  · exact v36_ok
  · exact v42_ok
  · exact v48_ok
  · exact v54_ok
  · exact v60_ok
  · exact v66_ok
  · exact v72_ok
  · exact v78_ok
  · exact v84_ok
end Go.Proofs.YtfaddahidniclabDoor.Kn
