/- Known runs: what a tank's limits say of some scenarios, each run by the kernel. -/
import Derived.Test.YtfaddahidniclabDoorKnM0
namespace Go.Proofs.YtfaddahidniclabDoor.Kn
open Go Go.Rv
def v2 : MemoM := ⟨54, 918254685685278489, [.agg [.sl 0 0 1 8, .sl 1 0 2 2, i 1000, i 1000, i 0, i 0, i 50, i 70, i 5000, i 6000, i 100, i 100, i 0, i 0, i 0, i 0, i 800, i 50, i 40, i 90, i 1000, i 10000, i 900, i 900, i 0, i 0, i 60, i 60, i 0], .agg [i 0, i 1], i 5], [[i 1000, i 10000, i 900, i 900, i 0, i 0, i 60, i 60], [i 0, i 500, i 0, i 250]], i 1⟩
theorem v2_ok : v2.Ok Tryd.prog := memoM_of (e := gcEnv [] gs) rfl (noOwn_gc named [] gs) 3000 (by kernel_rfl) (by kernel_rfl)
def v8 : MemoM := ⟨54, 918255685692278501, [.agg [.sl 0 0 1 8, .sl 1 0 2 2, i 1000, i 1000, i 0, i 0, i 50, i 70, i 5000, i 6000, i 100, i 100, i 0, i 0, i 0, i 0, i 800, i 50, i 40, i 90, i 1000, i 10000, i 900, i 900, i 0, i 0, i 60, i 60, i 0], .agg [i 1, i 2], i 5], [[i 1000, i 10000, i 900, i 900, i 0, i 0, i 60, i 60], [i 0, i 500, i 0, i 250]], i 1⟩
theorem v8_ok : v8.Ok Tryd.prog := memoM_of (e := gcEnv [] gs) rfl (noOwn_gc named [] gs) 3000 (by kernel_rfl) (by kernel_rfl)
def v15 : MemoM := ⟨54, 918254685687278494, [.agg [.sl 0 0 1 8, .sl 1 0 2 2, i 1000, i 1000, i 0, i 0, i 50, i 70, i 5000, i 6000, i 100, i 100, i 0, i 0, i 0, i 0, i 800, i 50, i 40, i 90, i 1000, i 10000, i 900, i 900, i 0, i 0, i 60, i 60, i 0], .agg [i 0, i 3], i 4], [[i 1000, i 10000, i 900, i 900, i 0, i 0, i 60, i 60], [i 0, i 500, i 0, i 250]], i 1⟩
theorem v15_ok : v15.Ok Tryd.prog := memoM_of (e := gcEnv [] gs) rfl (noOwn_gc named [] gs) 3000 (by kernel_rfl) (by kernel_rfl)
def v90 : MemoM := ⟨48, 918254685684278481, [.agg [.sl 0 0 1 8, .sl 1 0 2 2, i 1000, i 1000, i 0, i 0, i 50, i 70, i 5000, i 6000, i 100, i 100, i 0, i 0, i 0, i 0, i 800, i 50, i 40, i 90, i 1000, i 10000, i 900, i 900, i 0, i 0, i 60, i 60, i 0], .agg [i 0, i 0], .sl 2 0 2 4], [[i 1000, i 10000, i 900, i 900, i 0, i 0, i 60, i 60], [i 0, i 500, i 0, i 250], [i 1, i 920, i 1, i 60, i 2, i 900, i 2, i 60]], i 0⟩
theorem v90_ok : v90.Ok Tryd.prog := memoM_of (e := gcEnv [] gs) rfl (noOwn_gc named [] gs) 3000 (by kernel_rfl) (by kernel_rfl)
def v94 : MemoM := ⟨48, 918254685684278481, [.agg [.sl 0 0 1 8, .sl 1 0 2 2, i 1000, i 1000, i 0, i 0, i 50, i 70, i 5000, i 6000, i 100, i 100, i 0, i 0, i 0, i 0, i 800, i 50, i 40, i 90, i 1000, i 10000, i 900, i 900, i 0, i 0, i 60, i 60, i 0], .agg [i (-1), i 0], .sl 2 0 2 4], [[i 1000, i 10000, i 900, i 900, i 0, i 0, i 60, i 60], [i 0, i 500, i 0, i 250], [i 1, i 920, i 1, i 60, i 2, i 950, i 2, i 60]], i 1⟩
theorem v94_ok : v94.Ok Tryd.prog := memoM_of (e := gcEnv [] gs) rfl (noOwn_gc named [] gs) 3000 (by kernel_rfl) (by kernel_rfl)
def v100 : MemoM := ⟨48, 918254685684278481, [.agg [.sl 0 0 1 8, .sl 1 0 2 2, i 1000, i 1000, i 0, i 0, i 50, i 70, i 5000, i 6000, i 100, i 100, i 0, i 0, i 0, i 0, i 800, i 50, i 40, i 90, i 1000, i 10000, i 900, i 900, i 0, i 0, i 60, i 60, i 0], .agg [i 0, i 0], .sl 2 0 2 4], [[i 1000, i 10000, i 900, i 900, i 0, i 0, i 60, i 60], [i 0, i 500, i 0, i 250], [i 1, i 930, i 1, i 60, i 2, i 900, i 2, i 60]], i 0⟩
theorem v100_ok : v100.Ok Tryd.prog := memoM_of (e := gcEnv [] gs) rfl (noOwn_gc named [] gs) 3000 (by kernel_rfl) (by kernel_rfl)
def v22 : MemoM := ⟨54, 437199491074341262, [.agg [.sl 0 0 1 8, .sl 1 0 2 2, i 1000, i 1000, i 0, i 0, i 50, i 70, i 5000, i 6000, i 100, i 100, i 0, i 0, i 0, i 0, i 950, i 50, i 40, i 90, i 1000, i 10000, i 900, i 900, i 0, i 0, i 60, i 60, i 0], .agg [i (-1), i 0], i 1], [[i 1000, i 10000, i 900, i 900, i 0, i 0, i 60, i 60], [i 0, i 500, i 0, i 250]], i 2⟩
theorem v22_ok : v22.Ok Tryd.prog := memoM_of (e := gcEnv [] gs) rfl (noOwn_gc named [] gs) 3000 (by kernel_rfl) (by kernel_rfl)
def v28 : MemoM := ⟨54, 1054294664466011761, [.agg [.sl 0 0 1 8, .sl 1 0 2 2, i 1000, i 1000, i 0, i 0, i 50, i 70, i 5000, i 6000, i 100, i 100, i 0, i 0, i 0, i 0, i 800, i 50, i 40, i 90, i 1000, i 156250, i 900, i 900, i 0, i 0, i 60, i 60, i 0], .agg [i (-1), i 0], i 1], [[i 1000, i 10000, i 900, i 900, i 0, i 0, i 60, i 60], [i 0, i 500, i 0, i 250]], i 2⟩
theorem v28_ok : v28.Ok Tryd.prog := memoM_of (e := gcEnv [] gs) rfl (noOwn_gc named [] gs) 3000 (by kernel_rfl) (by kernel_rfl)
def v34 : MemoM := ⟨54, 1767679685666867781, [.agg [.sl 0 0 1 8, .sl 1 0 2 2, i 1000, i 1000, i 0, i 0, i 50, i 70, i 5000, i 6000, i 100, i 100, i 0, i 0, i 0, i 0, i 800, i 50, i 40, i 90, i 1000, i 29297, i 900, i 900, i 0, i 0, i 60, i 60, i 0], .agg [i (-1), i 0], i 1], [[i 1000, i 10000, i 900, i 900, i 0, i 0, i 60, i 60], [i 0, i 500, i 0, i 250]], i 3⟩
theorem v34_ok : v34.Ok Tryd.prog := memoM_of (e := gcEnv [] gs) rfl (noOwn_gc named [] gs) 3000 (by kernel_rfl) (by kernel_rfl)
def v40 : MemoM := ⟨54, 763370553455248635, [.agg [.sl 0 0 1 8, .sl 1 0 2 2, i 1000, i 1000, i 0, i 0, i 50, i 70, i 5000, i 6000, i 100, i 100, i 0, i 0, i 0, i 0, i 800, i 50, i 40, i 90, i 1000, i 20752, i 900, i 900, i 0, i 0, i 60, i 60, i 0], .agg [i 0, i 0], i 1], [[i 1000, i 10000, i 900, i 900, i 0, i 0, i 60, i 60], [i 0, i 500, i 0, i 250]], i 1⟩
theorem v40_ok : v40.Ok Tryd.prog := memoM_of (e := gcEnv [] gs) rfl (noOwn_gc named [] gs) 3000 (by kernel_rfl) (by kernel_rfl)
def v46 : MemoM := ⟨54, 459425391048746686, [.agg [.sl 0 0 1 8, .sl 1 0 2 2, i 1000, i 1000, i 0, i 0, i 50, i 70, i 5000, i 6000, i 100, i 100, i 0, i 0, i 0, i 0, i 800, i 50, i 40, i 90, i 1000, i 20905, i 900, i 900, i 0, i 0, i 60, i 60, i 0], .agg [i (-1), i 0], i 1], [[i 1000, i 10000, i 900, i 900, i 0, i 0, i 60, i 60], [i 0, i 500, i 0, i 250]], i 1⟩
theorem v46_ok : v46.Ok Tryd.prog := memoM_of (e := gcEnv [] gs) rfl (noOwn_gc named [] gs) 3000 (by kernel_rfl) (by kernel_rfl)
def v52 : MemoM := ⟨54, 565056777910671274, [.agg [.sl 0 0 1 8, .sl 1 0 2 2, i 1000, i 1000, i 0, i 0, i 50, i 70, i 5000, i 6000, i 100, i 100, i 0, i 0, i 0, i 0, i 800, i 50, i 40, i 90, i 1000, i 20867, i 900, i 900, i 0, i 0, i 60, i 60, i 0], .agg [i 0, i 0], i 1], [[i 1000, i 10000, i 900, i 900, i 0, i 0, i 60, i 60], [i 0, i 500, i 0, i 250]], i 3⟩
theorem v52_ok : v52.Ok Tryd.prog := memoM_of (e := gcEnv [] gs) rfl (noOwn_gc named [] gs) 3000 (by kernel_rfl) (by kernel_rfl)
def v58 : MemoM := ⟨54, 1263590089978577877, [.agg [.sl 0 0 1 8, .sl 1 0 2 2, i 1000, i 1000, i 0, i 0, i 50, i 70, i 5000, i 6000, i 100, i 100, i 0, i 0, i 0, i 0, i 800, i 50, i 40, i 90, i 1000, i 20834, i 900, i 900, i 0, i 0, i 60, i 60, i 0], .agg [i 0, i 0], i 1], [[i 1000, i 10000, i 900, i 900, i 0, i 0, i 60, i 60], [i 0, i 500, i 0, i 250]], i 3⟩
theorem v58_ok : v58.Ok Tryd.prog := memoM_of (e := gcEnv [] gs) rfl (noOwn_gc named [] gs) 3000 (by kernel_rfl) (by kernel_rfl)
def v64 : MemoM := ⟨54, 1145010704943381483, [.agg [.sl 0 0 1 8, .sl 1 0 2 2, i 1000, i 1000, i 0, i 0, i 50, i 70, i 5000, i 6000, i 100, i 100, i 0, i 0, i 0, i 0, i 800, i 50, i 40, i 90, i 1000, i 20833, i 900, i 900, i 0, i 0, i 60, i 60, i 0], .agg [i 1, i 0], i 1], [[i 1000, i 10000, i 900, i 900, i 0, i 0, i 60, i 60], [i 0, i 500, i 0, i 250]], i 1⟩
theorem v64_ok : v64.Ok Tryd.prog := memoM_of (e := gcEnv [] gs) rfl (noOwn_gc named [] gs) 3000 (by kernel_rfl) (by kernel_rfl)
def v70 : MemoM := ⟨54, 573239469856074541, [.agg [.sl 0 0 1 8, .sl 1 0 2 2, i 1000, i 1000, i 0, i 0, i 50, i 70, i 5000, i 6000, i 100, i 100, i 0, i 0, i 0, i 0, i 950, i 50, i 40, i 90, i 1000, i 156250, i 900, i 900, i 0, i 0, i 60, i 60, i 0], .agg [i (-1), i 0], i 1], [[i 1000, i 10000, i 900, i 900, i 0, i 0, i 60, i 60], [i 0, i 500, i 0, i 250]], i 2⟩
theorem v70_ok : v70.Ok Tryd.prog := memoM_of (e := gcEnv [] gs) rfl (noOwn_gc named [] gs) 3000 (by kernel_rfl) (by kernel_rfl)
def v76 : MemoM := ⟨54, 1060999548797677924, [.agg [.sl 0 0 1 8, .sl 1 0 2 2, i 1000, i 1000, i 0, i 0, i 50, i 70, i 5000, i 6000, i 100, i 100, i 0, i 0, i 0, i 0, i 950, i 50, i 40, i 90, i 1000, i 2441, i 900, i 900, i 0, i 0, i 60, i 60, i 0], .agg [i (-1), i 0], i 1], [[i 1000, i 10000, i 900, i 900, i 0, i 0, i 60, i 60], [i 0, i 500, i 0, i 250]], i 2⟩
theorem v76_ok : v76.Ok Tryd.prog := memoM_of (e := gcEnv [] gs) rfl (noOwn_gc named [] gs) 3000 (by kernel_rfl) (by kernel_rfl)
def v82 : MemoM := ⟨54, 2036867437300771439, [.agg [.sl 0 0 1 8, .sl 1 0 2 2, i 1000, i 1000, i 0, i 0, i 50, i 70, i 5000, i 6000, i 100, i 100, i 0, i 0, i 0, i 0, i 950, i 50, i 40, i 90, i 1000, i 38, i 900, i 900, i 0, i 0, i 60, i 60, i 0], .agg [i (-1), i 0], i 1], [[i 1000, i 10000, i 900, i 900, i 0, i 0, i 60, i 60], [i 0, i 500, i 0, i 250]], i 2⟩
theorem v82_ok : v82.Ok Tryd.prog := memoM_of (e := gcEnv [] gs) rfl (noOwn_gc named [] gs) 3000 (by kernel_rfl) (by kernel_rfl)
def v88 : MemoM := ⟨54, 2142498824162696027, [.agg [.sl 0 0 1 8, .sl 1 0 2 2, i 1000, i 1000, i 0, i 0, i 50, i 70, i 5000, i 6000, i 100, i 100, i 0, i 0, i 0, i 0, i 950, i 50, i 40, i 90, i 1000, i 0, i 900, i 900, i 0, i 0, i 60, i 60, i 0], .agg [i (-1), i 0], i 1], [[i 1000, i 10000, i 900, i 900, i 0, i 0, i 60, i 60], [i 0, i 500, i 0, i 250]], i 2⟩
theorem v88_ok : v88.Ok Tryd.prog := memoM_of (e := gcEnv [] gs) rfl (noOwn_gc named [] gs) 3000 (by kernel_rfl) (by kernel_rfl)
def part3 : List MemoM := [v2, v8, v15, v90, v94, v100, v22, v28, v34, v40, v46, v52, v58, v64, v70, v76, v82, v88]
theorem part3_ok : ∀ e ∈ part3, e.Ok Tryd.prog := by
  intro e he
  simp only [part3, List.mem_cons, List.not_mem_nil, or_false] at he
  rcases he with rfl | rfl | rfl | rfl | rfl | rfl | rfl | rfl | rfl | rfl | rfl | rfl | rfl | rfl | rfl | rfl | rfl | rfl
  · exact v2_ok
  · exact v8_ok
  · exact v15_ok
  · exact v90_ok
  · exact v94_ok
  · exact v100_ok
  · exact v22_ok
  · exact v28_ok
  · exact v34_ok
  · exact v40_ok
  · exact v46_ok
  · exact v52_ok
  · exact v58_ok
  · exact v64_ok
  · exact v70_ok
  · exact v76_ok
  · exact v82_ok
  · exact v88_ok
end Go.Proofs.YtfaddahidniclabDoor.Kn
