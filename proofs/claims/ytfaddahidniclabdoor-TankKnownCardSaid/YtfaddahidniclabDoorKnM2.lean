/- Known runs: what a tank's limits say of some scenarios, each run by the kernel. -/
import Derived.Test.YtfaddahidniclabDoorKnM0
namespace Go.Proofs.YtfaddahidniclabDoor.Kn
open Go Go.Rv
def v1 : MemoM := ⟨54, 918254685684278486, [.agg [.sl 0 0 1 8, .sl 1 0 2 2, i 1000, i 1000, i 0, i 0, i 50, i 70, i 5000, i 6000, i 100, i 100, i 0, i 0, i 0, i 0, i 800, i 50, i 40, i 90, i 1000, i 10000, i 900, i 900, i 0, i 0, i 60, i 60, i 0], .agg [i 0, i 0], i 5], [[i 1000, i 10000, i 900, i 900, i 0, i 0, i 60, i 60], [i 0, i 500, i 0, i 250]], i 3⟩
theorem v1_ok : v1.Ok Tryd.prog := memoM_of (e := gcEnv [] gs) rfl (noOwn_gc named [] gs) 3000 (by kernel_rfl) (by kernel_rfl)
def v7 : MemoM := ⟨54, 918255685691278498, [.agg [.sl 0 0 1 8, .sl 1 0 2 2, i 1000, i 1000, i 0, i 0, i 50, i 70, i 5000, i 6000, i 100, i 100, i 0, i 0, i 0, i 0, i 800, i 50, i 40, i 90, i 1000, i 10000, i 900, i 900, i 0, i 0, i 60, i 60, i 0], .agg [i 1, i 1], i 5], [[i 1000, i 10000, i 900, i 900, i 0, i 0, i 60, i 60], [i 0, i 500, i 0, i 250]], i 1⟩
theorem v7_ok : v7.Ok Tryd.prog := memoM_of (e := gcEnv [] gs) rfl (noOwn_gc named [] gs) 3000 (by kernel_rfl) (by kernel_rfl)
def v14 : MemoM := ⟨54, 918254685686278491, [.agg [.sl 0 0 1 8, .sl 1 0 2 2, i 1000, i 1000, i 0, i 0, i 50, i 70, i 5000, i 6000, i 100, i 100, i 0, i 0, i 0, i 0, i 800, i 50, i 40, i 90, i 1000, i 10000, i 900, i 900, i 0, i 0, i 60, i 60, i 0], .agg [i 0, i 2], i 4], [[i 1000, i 10000, i 900, i 900, i 0, i 0, i 60, i 60], [i 0, i 500, i 0, i 250]], i 1⟩
theorem v14_ok : v14.Ok Tryd.prog := memoM_of (e := gcEnv [] gs) rfl (noOwn_gc named [] gs) 3000 (by kernel_rfl) (by kernel_rfl)
def v89 : MemoM := ⟨48, 918254685684278481, [.agg [.sl 0 0 1 8, .sl 1 0 2 2, i 1000, i 1000, i 0, i 0, i 50, i 70, i 5000, i 6000, i 100, i 100, i 0, i 0, i 0, i 0, i 800, i 50, i 40, i 90, i 1000, i 10000, i 900, i 900, i 0, i 0, i 60, i 60, i 0], .agg [i (-1), i 0], .sl 2 0 2 4], [[i 1000, i 10000, i 900, i 900, i 0, i 0, i 60, i 60], [i 0, i 500, i 0, i 250], [i 1, i 920, i 1, i 60, i 2, i 900, i 2, i 60]], i 1⟩
theorem v89_ok : v89.Ok Tryd.prog := memoM_of (e := gcEnv [] gs) rfl (noOwn_gc named [] gs) 3000 (by kernel_rfl) (by kernel_rfl)
def v93 : MemoM := ⟨48, 918255685691278493, [.agg [.sl 0 0 1 8, .sl 1 0 2 2, i 1000, i 1000, i 0, i 0, i 50, i 70, i 5000, i 6000, i 100, i 100, i 0, i 0, i 0, i 0, i 800, i 50, i 40, i 90, i 1000, i 10000, i 900, i 900, i 0, i 0, i 60, i 60, i 0], .agg [i 1, i 1], .sl 2 0 2 4], [[i 1000, i 10000, i 900, i 900, i 0, i 0, i 60, i 60], [i 0, i 500, i 0, i 250], [i 1, i 920, i 1, i 60, i 2, i 900, i 2, i 60]], i 2⟩
theorem v93_ok : v93.Ok Tryd.prog := memoM_of (e := gcEnv [] gs) rfl (noOwn_gc named [] gs) 3000 (by kernel_rfl) (by kernel_rfl)
def v99 : MemoM := ⟨48, 918254685684278481, [.agg [.sl 0 0 1 8, .sl 1 0 2 2, i 1000, i 1000, i 0, i 0, i 50, i 70, i 5000, i 6000, i 100, i 100, i 0, i 0, i 0, i 0, i 800, i 50, i 40, i 90, i 1000, i 10000, i 900, i 900, i 0, i 0, i 60, i 60, i 0], .agg [i (-1), i 0], .sl 2 0 2 4], [[i 1000, i 10000, i 900, i 900, i 0, i 0, i 60, i 60], [i 0, i 500, i 0, i 250], [i 1, i 930, i 1, i 60, i 2, i 900, i 2, i 60]], i 0⟩
theorem v99_ok : v99.Ok Tryd.prog := memoM_of (e := gcEnv [] gs) rfl (noOwn_gc named [] gs) 3000 (by kernel_rfl) (by kernel_rfl)
def v21 : MemoM := ⟨54, 661691915225645298, [.agg [.sl 0 0 1 8, .sl 1 0 2 2, i 1000, i 1000, i 0, i 0, i 50, i 70, i 5000, i 6000, i 100, i 100, i 0, i 0, i 0, i 0, i 880, i 50, i 40, i 90, i 1000, i 10000, i 900, i 900, i 0, i 0, i 60, i 60, i 0], .agg [i 0, i 0], i 1], [[i 1000, i 10000, i 900, i 900, i 0, i 0, i 60, i 60], [i 0, i 500, i 0, i 250]], i 2⟩
theorem v21_ok : v21.Ok Tryd.prog := memoM_of (e := gcEnv [] gs) rfl (noOwn_gc named [] gs) 3000 (by kernel_rfl) (by kernel_rfl)
def v27 : MemoM := ⟨54, 1790878319373084226, [.agg [.sl 0 0 1 8, .sl 1 0 2 2, i 1000, i 1000, i 0, i 0, i 50, i 70, i 5000, i 6000, i 100, i 100, i 0, i 0, i 0, i 0, i 800, i 50, i 40, i 90, i 1000, i 312500, i 900, i 900, i 0, i 0, i 60, i 60, i 0], .agg [i (-1), i 0], i 1], [[i 1000, i 10000, i 900, i 900, i 0, i 0, i 60, i 60], [i 0, i 500, i 0, i 250]], i 2⟩
theorem v27_ok : v27.Ok Tryd.prog := memoM_of (e := gcEnv [] gs) rfl (noOwn_gc named [] gs) 3000 (by kernel_rfl) (by kernel_rfl)
def v33 : MemoM := ⟨54, 1244830998623159494, [.agg [.sl 0 0 1 8, .sl 1 0 2 2, i 1000, i 1000, i 0, i 0, i 50, i 70, i 5000, i 6000, i 100, i 100, i 0, i 0, i 0, i 0, i 800, i 50, i 40, i 90, i 1000, i 19531, i 900, i 900, i 0, i 0, i 60, i 60, i 0], .agg [i 1, i 0], i 1], [[i 1000, i 10000, i 900, i 900, i 0, i 0, i 60, i 60], [i 0, i 500, i 0, i 250]], i 1⟩
theorem v33_ok : v33.Ok Tryd.prog := memoM_of (e := gcEnv [] gs) rfl (noOwn_gc named [] gs) 3000 (by kernel_rfl) (by kernel_rfl)
def v39 : MemoM := ⟨54, 763370553455248635, [.agg [.sl 0 0 1 8, .sl 1 0 2 2, i 1000, i 1000, i 0, i 0, i 50, i 70, i 5000, i 6000, i 100, i 100, i 0, i 0, i 0, i 0, i 800, i 50, i 40, i 90, i 1000, i 20752, i 900, i 900, i 0, i 0, i 60, i 60, i 0], .agg [i (-1), i 0], i 1], [[i 1000, i 10000, i 900, i 900, i 0, i 0, i 60, i 60], [i 0, i 500, i 0, i 250]], i 1⟩
theorem v39_ok : v39.Ok Tryd.prog := memoM_of (e := gcEnv [] gs) rfl (noOwn_gc named [] gs) 3000 (by kernel_rfl) (by kernel_rfl)
def v45 : MemoM := ⟨54, 155480228642244737, [.agg [.sl 0 0 1 8, .sl 1 0 2 2, i 1000, i 1000, i 0, i 0, i 50, i 70, i 5000, i 6000, i 100, i 100, i 0, i 0, i 0, i 0, i 800, i 50, i 40, i 90, i 1000, i 21058, i 900, i 900, i 0, i 0, i 60, i 60, i 0], .agg [i 0, i 0], i 1], [[i 1000, i 10000, i 900, i 900, i 0, i 0, i 60, i 60], [i 0, i 500, i 0, i 250]], i 3⟩
theorem v45_ok : v45.Ok Tryd.prog := memoM_of (e := gcEnv [] gs) rfl (noOwn_gc named [] gs) 3000 (by kernel_rfl) (by kernel_rfl)
def v51 : MemoM := ⟨54, 565056777910671274, [.agg [.sl 0 0 1 8, .sl 1 0 2 2, i 1000, i 1000, i 0, i 0, i 50, i 70, i 5000, i 6000, i 100, i 100, i 0, i 0, i 0, i 0, i 800, i 50, i 40, i 90, i 1000, i 20867, i 900, i 900, i 0, i 0, i 60, i 60, i 0], .agg [i (-1), i 0], i 1], [[i 1000, i 10000, i 900, i 900, i 0, i 0, i 60, i 60], [i 0, i 500, i 0, i 250]], i 1⟩
theorem v51_ok : v51.Ok Tryd.prog := memoM_of (e := gcEnv [] gs) rfl (noOwn_gc named [] gs) 3000 (by kernel_rfl) (by kernel_rfl)
def v57 : MemoM := ⟨54, 1263590089978577877, [.agg [.sl 0 0 1 8, .sl 1 0 2 2, i 1000, i 1000, i 0, i 0, i 50, i 70, i 5000, i 6000, i 100, i 100, i 0, i 0, i 0, i 0, i 800, i 50, i 40, i 90, i 1000, i 20834, i 900, i 900, i 0, i 0, i 60, i 60, i 0], .agg [i (-1), i 0], i 1], [[i 1000, i 10000, i 900, i 900, i 0, i 0, i 60, i 60], [i 0, i 500, i 0, i 250]], i 1⟩
theorem v57_ok : v57.Ok Tryd.prog := memoM_of (e := gcEnv [] gs) rfl (noOwn_gc named [] gs) 3000 (by kernel_rfl) (by kernel_rfl)
def v63 : MemoM := ⟨54, 1145009704937381474, [.agg [.sl 0 0 1 8, .sl 1 0 2 2, i 1000, i 1000, i 0, i 0, i 50, i 70, i 5000, i 6000, i 100, i 100, i 0, i 0, i 0, i 0, i 800, i 50, i 40, i 90, i 1000, i 20833, i 900, i 900, i 0, i 0, i 60, i 60, i 0], .agg [i 0, i 0], i 1], [[i 1000, i 10000, i 900, i 900, i 0, i 0, i 60, i 60], [i 0, i 500, i 0, i 250]], i 1⟩
theorem v63_ok : v63.Ok Tryd.prog := memoM_of (e := gcEnv [] gs) rfl (noOwn_gc named [] gs) 3000 (by kernel_rfl) (by kernel_rfl)
def v69 : MemoM := ⟨54, 1309823124763147006, [.agg [.sl 0 0 1 8, .sl 1 0 2 2, i 1000, i 1000, i 0, i 0, i 50, i 70, i 5000, i 6000, i 100, i 100, i 0, i 0, i 0, i 0, i 950, i 50, i 40, i 90, i 1000, i 312500, i 900, i 900, i 0, i 0, i 60, i 60, i 0], .agg [i (-1), i 0], i 1], [[i 1000, i 10000, i 900, i 900, i 0, i 0, i 60, i 60], [i 0, i 500, i 0, i 250]], i 2⟩
theorem v69_ok : v69.Ok Tryd.prog := memoM_of (e := gcEnv [] gs) rfl (noOwn_gc named [] gs) 3000 (by kernel_rfl) (by kernel_rfl)
def v75 : MemoM := ⟨54, 2285343282646353772, [.agg [.sl 0 0 1 8, .sl 1 0 2 2, i 1000, i 1000, i 0, i 0, i 50, i 70, i 5000, i 6000, i 100, i 100, i 0, i 0, i 0, i 0, i 950, i 50, i 40, i 90, i 1000, i 4882, i 900, i 900, i 0, i 0, i 60, i 60, i 0], .agg [i (-1), i 0], i 1], [[i 1000, i 10000, i 900, i 900, i 0, i 0, i 60, i 60], [i 0, i 500, i 0, i 250]], i 2⟩
theorem v75_ok : v75.Ok Tryd.prog := memoM_of (e := gcEnv [] gs) rfl (noOwn_gc named [] gs) 3000 (by kernel_rfl) (by kernel_rfl)
def v81 : MemoM := ⟨54, 1931236050438846851, [.agg [.sl 0 0 1 8, .sl 1 0 2 2, i 1000, i 1000, i 0, i 0, i 50, i 70, i 5000, i 6000, i 100, i 100, i 0, i 0, i 0, i 0, i 950, i 50, i 40, i 90, i 1000, i 76, i 900, i 900, i 0, i 0, i 60, i 60, i 0], .agg [i (-1), i 0], i 1], [[i 1000, i 10000, i 900, i 900, i 0, i 0, i 60, i 60], [i 0, i 500, i 0, i 250]], i 2⟩
theorem v81_ok : v81.Ok Tryd.prog := memoM_of (e := gcEnv [] gs) rfl (noOwn_gc named [] gs) 3000 (by kernel_rfl) (by kernel_rfl)
def v87 : MemoM := ⟨54, 2261079209203892430, [.agg [.sl 0 0 1 8, .sl 1 0 2 2, i 1000, i 1000, i 0, i 0, i 50, i 70, i 5000, i 6000, i 100, i 100, i 0, i 0, i 0, i 0, i 950, i 50, i 40, i 90, i 1000, i 1, i 900, i 900, i 0, i 0, i 60, i 60, i 0], .agg [i (-1), i 0], i 1], [[i 1000, i 10000, i 900, i 900, i 0, i 0, i 60, i 60], [i 0, i 500, i 0, i 250]], i 2⟩
theorem v87_ok : v87.Ok Tryd.prog := memoM_of (e := gcEnv [] gs) rfl (noOwn_gc named [] gs) 3000 (by kernel_rfl) (by kernel_rfl)
def part2 : List MemoM := [v1, v7, v14, v89, v93, v99, v21, v27, v33, v39, v45, v51, v57, v63, v69, v75, v81, v87]
theorem part2_ok : ∀ e ∈ part2, e.Ok Tryd.prog := by
  intro e he
  simp only [part2, List.mem_cons, List.not_mem_nil, or_false] at he
  rcases he with rfl | rfl | rfl | rfl | rfl | rfl | rfl | rfl | rfl | rfl | rfl | rfl | rfl | rfl | rfl | rfl | rfl | rfl
  · exact v1_ok
  · exact v7_ok
  · exact v14_ok
  · exact v89_ok
  · exact v93_ok
  · exact v99_ok
  · exact v21_ok
  · exact v27_ok
  · exact v33_ok
  · exact v39_ok
  · exact v45_ok
  · exact v51_ok
  · exact v57_ok
  · exact v63_ok
  · exact v69_ok
  · exact v75_ok
  · exact v81_ok
  · exact v87_ok
end Go.Proofs.YtfaddahidniclabDoor.Kn
