/- Known runs: what a tank's limits say of some scenarios, each run by the kernel. -/
import Derived.Test.YtfaddahidniclabDoorKnM0
namespace Go.Proofs.YtfaddahidniclabDoor.Kn
open Go Go.Rv
def v3 : MemoM := ⟨54, 918254685686278492, [.agg [.sl 0 0 1 8, .sl 1 0 2 2, i 1000, i 1000, i 0, i 0, i 50, i 70, i 5000, i 6000, i 100, i 100, i 0, i 0, i 0, i 0, i 800, i 50, i 40, i 90, i 1000, i 10000, i 900, i 900, i 0, i 0, i 60, i 60, i 0], .agg [i 0, i 2], i 5], [[i 1000, i 10000, i 900, i 900, i 0, i 0, i 60, i 60], [i 0, i 500, i 0, i 250]], i 1⟩
theorem v3_ok : v3.Ok Tryd.prog := memoM_of (e := gcEnv [] gs) rfl (noOwn_gc named [] gs) 3000 (by kernel_rfl) (by kernel_rfl)
def v9 : MemoM := ⟨54, 918255685693278504, [.agg [.sl 0 0 1 8, .sl 1 0 2 2, i 1000, i 1000, i 0, i 0, i 50, i 70, i 5000, i 6000, i 100, i 100, i 0, i 0, i 0, i 0, i 800, i 50, i 40, i 90, i 1000, i 10000, i 900, i 900, i 0, i 0, i 60, i 60, i 0], .agg [i 1, i 3], i 5], [[i 1000, i 10000, i 900, i 900, i 0, i 0, i 60, i 60], [i 0, i 500, i 0, i 250]], i 1⟩
theorem v9_ok : v9.Ok Tryd.prog := memoM_of (e := gcEnv [] gs) rfl (noOwn_gc named [] gs) 3000 (by kernel_rfl) (by kernel_rfl)
def v16 : MemoM := ⟨54, 918255685690278494, [.agg [.sl 0 0 1 8, .sl 1 0 2 2, i 1000, i 1000, i 0, i 0, i 50, i 70, i 5000, i 6000, i 100, i 100, i 0, i 0, i 0, i 0, i 800, i 50, i 40, i 90, i 1000, i 10000, i 900, i 900, i 0, i 0, i 60, i 60, i 0], .agg [i 1, i 0], i 4], [[i 1000, i 10000, i 900, i 900, i 0, i 0, i 60, i 60], [i 0, i 500, i 0, i 250]], i 1⟩
theorem v16_ok : v16.Ok Tryd.prog := memoM_of (e := gcEnv [] gs) rfl (noOwn_gc named [] gs) 3000 (by kernel_rfl) (by kernel_rfl)
def v91 : MemoM := ⟨48, 918254685685278484, [.agg [.sl 0 0 1 8, .sl 1 0 2 2, i 1000, i 1000, i 0, i 0, i 50, i 70, i 5000, i 6000, i 100, i 100, i 0, i 0, i 0, i 0, i 800, i 50, i 40, i 90, i 1000, i 10000, i 900, i 900, i 0, i 0, i 60, i 60, i 0], .agg [i 0, i 1], .sl 2 0 2 4], [[i 1000, i 10000, i 900, i 900, i 0, i 0, i 60, i 60], [i 0, i 500, i 0, i 250], [i 1, i 920, i 1, i 60, i 2, i 900, i 2, i 60]], i 1⟩
theorem v91_ok : v91.Ok Tryd.prog := memoM_of (e := gcEnv [] gs) rfl (noOwn_gc named [] gs) 3000 (by kernel_rfl) (by kernel_rfl)
def v95 : MemoM := ⟨48, 918254685684278481, [.agg [.sl 0 0 1 8, .sl 1 0 2 2, i 1000, i 1000, i 0, i 0, i 50, i 70, i 5000, i 6000, i 100, i 100, i 0, i 0, i 0, i 0, i 800, i 50, i 40, i 90, i 1000, i 10000, i 900, i 900, i 0, i 0, i 60, i 60, i 0], .agg [i 0, i 0], .sl 2 0 2 4], [[i 1000, i 10000, i 900, i 900, i 0, i 0, i 60, i 60], [i 0, i 500, i 0, i 250], [i 1, i 920, i 1, i 60, i 2, i 950, i 2, i 60]], i 0⟩
theorem v95_ok : v95.Ok Tryd.prog := memoM_of (e := gcEnv [] gs) rfl (noOwn_gc named [] gs) 3000 (by kernel_rfl) (by kernel_rfl)
def v101 : MemoM := ⟨48, 918254685685278484, [.agg [.sl 0 0 1 8, .sl 1 0 2 2, i 1000, i 1000, i 0, i 0, i 50, i 70, i 5000, i 6000, i 100, i 100, i 0, i 0, i 0, i 0, i 800, i 50, i 40, i 90, i 1000, i 10000, i 900, i 900, i 0, i 0, i 60, i 60, i 0], .agg [i 0, i 1], .sl 2 0 2 4], [[i 1000, i 10000, i 900, i 900, i 0, i 0, i 60, i 60], [i 0, i 500, i 0, i 250], [i 1, i 930, i 1, i 60, i 2, i 900, i 2, i 60]], i 0⟩
theorem v101_ok : v101.Ok Tryd.prog := memoM_of (e := gcEnv [] gs) rfl (noOwn_gc named [] gs) 3000 (by kernel_rfl) (by kernel_rfl)
def v23 : MemoM := ⟨54, 829957874448318666, [.agg [.sl 0 0 1 8, .sl 1 0 2 2, i 1000, i 1000, i 0, i 0, i 50, i 70, i 5000, i 6000, i 100, i 100, i 0, i 0, i 0, i 0, i 800, i 50, i 40, i 90, i 1000, i 5000000, i 900, i 900, i 0, i 0, i 60, i 60, i 0], .agg [i (-1), i 0], i 1], [[i 1000, i 10000, i 900, i 900, i 0, i 0, i 60, i 60], [i 0, i 500, i 0, i 250]], i 2⟩
theorem v23_ok : v23.Ok Tryd.prog := memoM_of (e := gcEnv [] gs) rfl (noOwn_gc named [] gs) 3000 (by kernel_rfl) (by kernel_rfl)
def v29 : MemoM := ⟨54, 1838924341619322504, [.agg [.sl 0 0 1 8, .sl 1 0 2 2, i 1000, i 1000, i 0, i 0, i 50, i 70, i 5000, i 6000, i 100, i 100, i 0, i 0, i 0, i 0, i 800, i 50, i 40, i 90, i 1000, i 78125, i 900, i 900, i 0, i 0, i 60, i 60, i 0], .agg [i (-1), i 0], i 1], [[i 1000, i 10000, i 900, i 900, i 0, i 0, i 60, i 60], [i 0, i 500, i 0, i 250]], i 2⟩
theorem v29_ok : v29.Ok Tryd.prog := memoM_of (e := gcEnv [] gs) rfl (noOwn_gc named [] gs) 3000 (by kernel_rfl) (by kernel_rfl)
def v35 : MemoM := ⟨54, 1506254842142013633, [.agg [.sl 0 0 1 8, .sl 1 0 2 2, i 1000, i 1000, i 0, i 0, i 50, i 70, i 5000, i 6000, i 100, i 100, i 0, i 0, i 0, i 0, i 800, i 50, i 40, i 90, i 1000, i 24414, i 900, i 900, i 0, i 0, i 60, i 60, i 0], .agg [i (-1), i 0], i 1], [[i 1000, i 10000, i 900, i 900, i 0, i 0, i 60, i 60], [i 0, i 500, i 0, i 250]], i 1⟩
theorem v35_ok : v35.Ok Tryd.prog := memoM_of (e := gcEnv [] gs) rfl (noOwn_gc named [] gs) 3000 (by kernel_rfl) (by kernel_rfl)
def v41 : MemoM := ⟨54, 763371553461248644, [.agg [.sl 0 0 1 8, .sl 1 0 2 2, i 1000, i 1000, i 0, i 0, i 50, i 70, i 5000, i 6000, i 100, i 100, i 0, i 0, i 0, i 0, i 800, i 50, i 40, i 90, i 1000, i 20752, i 900, i 900, i 0, i 0, i 60, i 60, i 0], .agg [i 1, i 0], i 1], [[i 1000, i 10000, i 900, i 900, i 0, i 0, i 60, i 60], [i 0, i 500, i 0, i 250]], i 1⟩
theorem v41_ok : v41.Ok Tryd.prog := memoM_of (e := gcEnv [] gs) rfl (noOwn_gc named [] gs) 3000 (by kernel_rfl) (by kernel_rfl)
def v47 : MemoM := ⟨54, 459425391048746686, [.agg [.sl 0 0 1 8, .sl 1 0 2 2, i 1000, i 1000, i 0, i 0, i 50, i 70, i 5000, i 6000, i 100, i 100, i 0, i 0, i 0, i 0, i 800, i 50, i 40, i 90, i 1000, i 20905, i 900, i 900, i 0, i 0, i 60, i 60, i 0], .agg [i 0, i 0], i 1], [[i 1000, i 10000, i 900, i 900, i 0, i 0, i 60, i 60], [i 0, i 500, i 0, i 250]], i 3⟩
theorem v47_ok : v47.Ok Tryd.prog := memoM_of (e := gcEnv [] gs) rfl (noOwn_gc named [] gs) 3000 (by kernel_rfl) (by kernel_rfl)
def v53 : MemoM := ⟨54, 617872471341633568, [.agg [.sl 0 0 1 8, .sl 1 0 2 2, i 1000, i 1000, i 0, i 0, i 50, i 70, i 5000, i 6000, i 100, i 100, i 0, i 0, i 0, i 0, i 800, i 50, i 40, i 90, i 1000, i 20848, i 900, i 900, i 0, i 0, i 60, i 60, i 0], .agg [i (-1), i 0], i 1], [[i 1000, i 10000, i 900, i 900, i 0, i 0, i 60, i 60], [i 0, i 500, i 0, i 250]], i 1⟩
theorem v53_ok : v53.Ok Tryd.prog := memoM_of (e := gcEnv [] gs) rfl (noOwn_gc named [] gs) 3000 (by kernel_rfl) (by kernel_rfl)
def v59 : MemoM := ⟨54, 1026429319896185071, [.agg [.sl 0 0 1 8, .sl 1 0 2 2, i 1000, i 1000, i 0, i 0, i 50, i 70, i 5000, i 6000, i 100, i 100, i 0, i 0, i 0, i 0, i 800, i 50, i 40, i 90, i 1000, i 20832, i 900, i 900, i 0, i 0, i 60, i 60, i 0], .agg [i (-1), i 0], i 1], [[i 1000, i 10000, i 900, i 900, i 0, i 0, i 60, i 60], [i 0, i 500, i 0, i 250]], i 1⟩
theorem v59_ok : v59.Ok Tryd.prog := memoM_of (e := gcEnv [] gs) rfl (noOwn_gc named [] gs) 3000 (by kernel_rfl) (by kernel_rfl)
def v65 : MemoM := ⟨54, 348902679838381446, [.agg [.sl 0 0 1 8, .sl 1 0 2 2, i 1000, i 1000, i 0, i 0, i 50, i 70, i 5000, i 6000, i 100, i 100, i 0, i 0, i 0, i 0, i 950, i 50, i 40, i 90, i 1000, i 5000000, i 900, i 900, i 0, i 0, i 60, i 60, i 0], .agg [i (-1), i 0], i 1], [[i 1000, i 10000, i 900, i 900, i 0, i 0, i 60, i 60], [i 0, i 500, i 0, i 250]], i 2⟩
theorem v65_ok : v65.Ok Tryd.prog := memoM_of (e := gcEnv [] gs) rfl (noOwn_gc named [] gs) 3000 (by kernel_rfl) (by kernel_rfl)
def v71 : MemoM := ⟨54, 1357869147009385284, [.agg [.sl 0 0 1 8, .sl 1 0 2 2, i 1000, i 1000, i 0, i 0, i 50, i 70, i 5000, i 6000, i 100, i 100, i 0, i 0, i 0, i 0, i 950, i 50, i 40, i 90, i 1000, i 78125, i 900, i 900, i 0, i 0, i 60, i 60, i 0], .agg [i (-1), i 0], i 1], [[i 1000, i 10000, i 900, i 900, i 0, i 0, i 60, i 60], [i 0, i 500, i 0, i 250]], i 2⟩
theorem v71_ok : v71.Ok Tryd.prog := memoM_of (e := gcEnv [] gs) rfl (noOwn_gc named [] gs) 3000 (by kernel_rfl) (by kernel_rfl)
def v77 : MemoM := ⟨54, 1542458993959588774, [.agg [.sl 0 0 1 8, .sl 1 0 2 2, i 1000, i 1000, i 0, i 0, i 50, i 70, i 5000, i 6000, i 100, i 100, i 0, i 0, i 0, i 0, i 950, i 50, i 40, i 90, i 1000, i 1220, i 900, i 900, i 0, i 0, i 60, i 60, i 0], .agg [i (-1), i 0], i 1], [[i 1000, i 10000, i 900, i 900, i 0, i 0, i 60, i 60], [i 0, i 500, i 0, i 250]], i 2⟩
theorem v77_ok : v77.Ok Tryd.prog := memoM_of (e := gcEnv [] gs) rfl (noOwn_gc named [] gs) 3000 (by kernel_rfl) (by kernel_rfl)
def v83 : MemoM := ⟨54, 2089683130731733733, [.agg [.sl 0 0 1 8, .sl 1 0 2 2, i 1000, i 1000, i 0, i 0, i 50, i 70, i 5000, i 6000, i 100, i 100, i 0, i 0, i 0, i 0, i 950, i 50, i 40, i 90, i 1000, i 19, i 900, i 900, i 0, i 0, i 60, i 60, i 0], .agg [i (-1), i 0], i 1], [[i 1000, i 10000, i 900, i 900, i 0, i 0, i 60, i 60], [i 0, i 500, i 0, i 250]], i 2⟩
theorem v83_ok : v83.Ok Tryd.prog := memoM_of (e := gcEnv [] gs) rfl (noOwn_gc named [] gs) 3000 (by kernel_rfl) (by kernel_rfl)
def part4 : List MemoM := [v3, v9, v16, v91, v95, v101, v23, v29, v35, v41, v47, v53, v59, v65, v71, v77, v83]
theorem part4_ok : ∀ e ∈ part4, e.Ok Tryd.prog := by
  intro e he
  simp only [part4, List.mem_cons, List.not_mem_nil, or_false] at he
  rcases he with rfl | rfl | rfl | rfl | rfl | rfl | rfl | rfl | rfl | rfl | rfl | rfl | rfl | rfl | rfl | rfl | rfl
  · exact v3_ok
  · exact v9_ok
  · exact v16_ok
  · exact v91_ok
  · exact v95_ok
  · exact v101_ok
  · exact v23_ok
  · exact v29_ok
  · exact v35_ok
  · exact v41_ok
  · exact v47_ok
  · exact v53_ok
  · exact v59_ok
  · exact v65_ok
  · exact v71_ok
  · exact v77_ok
  · exact v83_ok
end Go.Proofs.YtfaddahidniclabDoor.Kn
