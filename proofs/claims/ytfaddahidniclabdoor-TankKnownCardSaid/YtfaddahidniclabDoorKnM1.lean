/- Known runs: what a tank's limits say of some scenarios, each run by the kernel. -/
import Derived.Test.YtfaddahidniclabDoorKnM0
namespace Go.Proofs.YtfaddahidniclabDoor.Kn
open Go Go.Rv
def v0 : MemoM := ⟨54, 918254685684278486, [.agg [.sl 0 0 1 8, .sl 1 0 2 2, i 1000, i 1000, i 0, i 0, i 50, i 70, i 5000, i 6000, i 100, i 100, i 0, i 0, i 0, i 0, i 800, i 50, i 40, i 90, i 1000, i 10000, i 900, i 900, i 0, i 0, i 60, i 60, i 0], .agg [i (-1), i 0], i 5], [[i 1000, i 10000, i 900, i 900, i 0, i 0, i 60, i 60], [i 0, i 500, i 0, i 250]], i 1⟩
theorem v0_ok : v0.Ok Tryd.prog := memoM_of (e := gcEnv [] gs) rfl (noOwn_gc named [] gs) 3000 (by kernel_rfl) (by kernel_rfl)
def v6 : MemoM := ⟨54, 918255685690278495, [.agg [.sl 0 0 1 8, .sl 1 0 2 2, i 1000, i 1000, i 0, i 0, i 50, i 70, i 5000, i 6000, i 100, i 100, i 0, i 0, i 0, i 0, i 800, i 50, i 40, i 90, i 1000, i 10000, i 900, i 900, i 0, i 0, i 60, i 60, i 0], .agg [i 1, i 0], i 5], [[i 1000, i 10000, i 900, i 900, i 0, i 0, i 60, i 60], [i 0, i 500, i 0, i 250]], i 1⟩
theorem v6_ok : v6.Ok Tryd.prog := memoM_of (e := gcEnv [] gs) rfl (noOwn_gc named [] gs) 3000 (by kernel_rfl) (by kernel_rfl)
def v13 : MemoM := ⟨54, 918254685685278488, [.agg [.sl 0 0 1 8, .sl 1 0 2 2, i 1000, i 1000, i 0, i 0, i 50, i 70, i 5000, i 6000, i 100, i 100, i 0, i 0, i 0, i 0, i 800, i 50, i 40, i 90, i 1000, i 10000, i 900, i 900, i 0, i 0, i 60, i 60, i 0], .agg [i 0, i 1], i 4], [[i 1000, i 10000, i 900, i 900, i 0, i 0, i 60, i 60], [i 0, i 500, i 0, i 250]], i 1⟩
theorem v13_ok : v13.Ok Tryd.prog := memoM_of (e := gcEnv [] gs) rfl (noOwn_gc named [] gs) 3000 (by kernel_rfl) (by kernel_rfl)
def v19 : MemoM := ⟨54, 918255685693278503, [.agg [.sl 0 0 1 8, .sl 1 0 2 2, i 1000, i 1000, i 0, i 0, i 50, i 70, i 5000, i 6000, i 100, i 100, i 0, i 0, i 0, i 0, i 800, i 50, i 40, i 90, i 1000, i 10000, i 900, i 900, i 0, i 0, i 60, i 60, i 0], .agg [i 1, i 3], i 4], [[i 1000, i 10000, i 900, i 900, i 0, i 0, i 60, i 60], [i 0, i 500, i 0, i 250]], i 1⟩
theorem v19_ok : v19.Ok Tryd.prog := memoM_of (e := gcEnv [] gs) rfl (noOwn_gc named [] gs) 3000 (by kernel_rfl) (by kernel_rfl)
def v98 : MemoM := ⟨48, 918255685691278493, [.agg [.sl 0 0 1 8, .sl 1 0 2 2, i 1000, i 1000, i 0, i 0, i 50, i 70, i 5000, i 6000, i 100, i 100, i 0, i 0, i 0, i 0, i 800, i 50, i 40, i 90, i 1000, i 10000, i 900, i 900, i 0, i 0, i 60, i 60, i 0], .agg [i 1, i 1], .sl 2 0 2 4], [[i 1000, i 10000, i 900, i 900, i 0, i 0, i 60, i 60], [i 0, i 500, i 0, i 250], [i 1, i 920, i 1, i 60, i 2, i 950, i 2, i 60]], i 1⟩
theorem v98_ok : v98.Ok Tryd.prog := memoM_of (e := gcEnv [] gs) rfl (noOwn_gc named [] gs) 3000 (by kernel_rfl) (by kernel_rfl)
def v20 : MemoM := ⟨54, 661691915225645298, [.agg [.sl 0 0 1 8, .sl 1 0 2 2, i 1000, i 1000, i 0, i 0, i 50, i 70, i 5000, i 6000, i 100, i 100, i 0, i 0, i 0, i 0, i 880, i 50, i 40, i 90, i 1000, i 10000, i 900, i 900, i 0, i 0, i 60, i 60, i 0], .agg [i (-1), i 0], i 1], [[i 1000, i 10000, i 900, i 900, i 0, i 0, i 60, i 60], [i 0, i 500, i 0, i 250]], i 1⟩
theorem v20_ok : v20.Ok Tryd.prog := memoM_of (e := gcEnv [] gs) rfl (noOwn_gc named [] gs) 3000 (by kernel_rfl) (by kernel_rfl)
def v25 : MemoM := ⟨54, 1598694230388131114, [.agg [.sl 0 0 1 8, .sl 1 0 2 2, i 1000, i 1000, i 0, i 0, i 50, i 70, i 5000, i 6000, i 100, i 100, i 0, i 0, i 0, i 0, i 800, i 50, i 40, i 90, i 1000, i 1250000, i 900, i 900, i 0, i 0, i 60, i 60, i 0], .agg [i (-1), i 0], i 1], [[i 1000, i 10000, i 900, i 900, i 0, i 0, i 60, i 60], [i 0, i 500, i 0, i 250]], i 2⟩
theorem v25_ok : v25.Ok Tryd.prog := memoM_of (e := gcEnv [] gs) rfl (noOwn_gc named [] gs) 3000 (by kernel_rfl) (by kernel_rfl)
def v31 : MemoM := ⟨54, 1244829998617159485, [.agg [.sl 0 0 1 8, .sl 1 0 2 2, i 1000, i 1000, i 0, i 0, i 50, i 70, i 5000, i 6000, i 100, i 100, i 0, i 0, i 0, i 0, i 800, i 50, i 40, i 90, i 1000, i 19531, i 900, i 900, i 0, i 0, i 60, i 60, i 0], .agg [i (-1), i 0], i 1], [[i 1000, i 10000, i 900, i 900, i 0, i 0, i 60, i 60], [i 0, i 500, i 0, i 250]], i 1⟩
theorem v31_ok : v31.Ok Tryd.prog := memoM_of (e := gcEnv [] gs) rfl (noOwn_gc named [] gs) 3000 (by kernel_rfl) (by kernel_rfl)
def v37 : MemoM := ⟨54, 281911108293337785, [.agg [.sl 0 0 1 8, .sl 1 0 2 2, i 1000, i 1000, i 0, i 0, i 50, i 70, i 5000, i 6000, i 100, i 100, i 0, i 0, i 0, i 0, i 800, i 50, i 40, i 90, i 1000, i 21973, i 900, i 900, i 0, i 0, i 60, i 60, i 0], .agg [i (-1), i 0], i 1], [[i 1000, i 10000, i 900, i 900, i 0, i 0, i 60, i 60], [i 0, i 500, i 0, i 250]], i 1⟩
theorem v37_ok : v37.Ok Tryd.prog := memoM_of (e := gcEnv [] gs) rfl (noOwn_gc named [] gs) 3000 (by kernel_rfl) (by kernel_rfl)
def v43 : MemoM := ⟨54, 1734852528001738387, [.agg [.sl 0 0 1 8, .sl 1 0 2 2, i 1000, i 1000, i 0, i 0, i 50, i 70, i 5000, i 6000, i 100, i 100, i 0, i 0, i 0, i 0, i 800, i 50, i 40, i 90, i 1000, i 21363, i 900, i 900, i 0, i 0, i 60, i 60, i 0], .agg [i 0, i 0], i 1], [[i 1000, i 10000, i 900, i 900, i 0, i 0, i 60, i 60], [i 0, i 500, i 0, i 250]], i 3⟩
theorem v43_ok : v43.Ok Tryd.prog := memoM_of (e := gcEnv [] gs) rfl (noOwn_gc named [] gs) 3000 (by kernel_rfl) (by kernel_rfl)
def v49 : MemoM := ⟨54, 670688164772595862, [.agg [.sl 0 0 1 8, .sl 1 0 2 2, i 1000, i 1000, i 0, i 0, i 50, i 70, i 5000, i 6000, i 100, i 100, i 0, i 0, i 0, i 0, i 800, i 50, i 40, i 90, i 1000, i 20829, i 900, i 900, i 0, i 0, i 60, i 60, i 0], .agg [i 0, i 0], i 1], [[i 1000, i 10000, i 900, i 900, i 0, i 0, i 60, i 60], [i 0, i 500, i 0, i 250]], i 1⟩
theorem v49_ok : v49.Ok Tryd.prog := memoM_of (e := gcEnv [] gs) rfl (noOwn_gc named [] gs) 3000 (by kernel_rfl) (by kernel_rfl)
def v55 : MemoM := ⟨54, 1856492015184559892, [.agg [.sl 0 0 1 8, .sl 1 0 2 2, i 1000, i 1000, i 0, i 0, i 50, i 70, i 5000, i 6000, i 100, i 100, i 0, i 0, i 0, i 0, i 800, i 50, i 40, i 90, i 1000, i 20839, i 900, i 900, i 0, i 0, i 60, i 60, i 0], .agg [i (-1), i 0], i 1], [[i 1000, i 10000, i 900, i 900, i 0, i 0, i 60, i 60], [i 0, i 500, i 0, i 250]], i 1⟩
theorem v55_ok : v55.Ok Tryd.prog := memoM_of (e := gcEnv [] gs) rfl (noOwn_gc named [] gs) 3000 (by kernel_rfl) (by kernel_rfl)
def v61 : MemoM := ⟨54, 1026430319902185080, [.agg [.sl 0 0 1 8, .sl 1 0 2 2, i 1000, i 1000, i 0, i 0, i 50, i 70, i 5000, i 6000, i 100, i 100, i 0, i 0, i 0, i 0, i 800, i 50, i 40, i 90, i 1000, i 20832, i 900, i 900, i 0, i 0, i 60, i 60, i 0], .agg [i 1, i 0], i 1], [[i 1000, i 10000, i 900, i 900, i 0, i 0, i 60, i 60], [i 0, i 500, i 0, i 250]], i 1⟩
theorem v61_ok : v61.Ok Tryd.prog := memoM_of (e := gcEnv [] gs) rfl (noOwn_gc named [] gs) 3000 (by kernel_rfl) (by kernel_rfl)
def v67 : MemoM := ⟨54, 1117639035778193894, [.agg [.sl 0 0 1 8, .sl 1 0 2 2, i 1000, i 1000, i 0, i 0, i 50, i 70, i 5000, i 6000, i 100, i 100, i 0, i 0, i 0, i 0, i 950, i 50, i 40, i 90, i 1000, i 1250000, i 900, i 900, i 0, i 0, i 60, i 60, i 0], .agg [i (-1), i 0], i 1], [[i 1000, i 10000, i 900, i 900, i 0, i 0, i 60, i 60], [i 0, i 500, i 0, i 250]], i 2⟩
theorem v67_ok : v67.Ok Tryd.prog := memoM_of (e := gcEnv [] gs) rfl (noOwn_gc named [] gs) 3000 (by kernel_rfl) (by kernel_rfl)
def v73 : MemoM := ⟨54, 763774804007222265, [.agg [.sl 0 0 1 8, .sl 1 0 2 2, i 1000, i 1000, i 0, i 0, i 50, i 70, i 5000, i 6000, i 100, i 100, i 0, i 0, i 0, i 0, i 950, i 50, i 40, i 90, i 1000, i 19531, i 900, i 900, i 0, i 0, i 60, i 60, i 0], .agg [i (-1), i 0], i 1], [[i 1000, i 10000, i 900, i 900, i 0, i 0, i 60, i 60], [i 0, i 500, i 0, i 250]], i 2⟩
theorem v73_ok : v73.Ok Tryd.prog := memoM_of (e := gcEnv [] gs) rfl (noOwn_gc named [] gs) 3000 (by kernel_rfl) (by kernel_rfl)
def v79 : MemoM := ⟨54, 1416028114308495726, [.agg [.sl 0 0 1 8, .sl 1 0 2 2, i 1000, i 1000, i 0, i 0, i 50, i 70, i 5000, i 6000, i 100, i 100, i 0, i 0, i 0, i 0, i 950, i 50, i 40, i 90, i 1000, i 305, i 900, i 900, i 0, i 0, i 60, i 60, i 0], .agg [i (-1), i 0], i 1], [[i 1000, i 10000, i 900, i 900, i 0, i 0, i 60, i 60], [i 0, i 500, i 0, i 250]], i 2⟩
theorem v79_ok : v79.Ok Tryd.prog := memoM_of (e := gcEnv [] gs) rfl (noOwn_gc named [] gs) 3000 (by kernel_rfl) (by kernel_rfl)
def v85 : MemoM := ⟨54, 310977355113787688, [.agg [.sl 0 0 1 8, .sl 1 0 2 2, i 1000, i 1000, i 0, i 0, i 50, i 70, i 5000, i 6000, i 100, i 100, i 0, i 0, i 0, i 0, i 950, i 50, i 40, i 90, i 1000, i 4, i 900, i 900, i 0, i 0, i 60, i 60, i 0], .agg [i (-1), i 0], i 1], [[i 1000, i 10000, i 900, i 900, i 0, i 0, i 60, i 60], [i 0, i 500, i 0, i 250]], i 2⟩
theorem v85_ok : v85.Ok Tryd.prog := memoM_of (e := gcEnv [] gs) rfl (noOwn_gc named [] gs) 3000 (by kernel_rfl) (by kernel_rfl)
def part1 : List MemoM := [v0, v6, v13, v19, v98, v20, v25, v31, v37, v43, v49, v55, v61, v67, v73, v79, v85]
theorem part1_ok : ∀ e ∈ part1, e.Ok Tryd.prog := by
  intro e he
  simp only [part1, List.mem_cons, List.not_mem_nil, or_false] at he
  rcases he with rfl | rfl | rfl | rfl | rfl | rfl | rfl | rfl | rfl | rfl | rfl | rfl | rfl | rfl | rfl | rfl | rfl
  · exact v0_ok
  · exact v6_ok
  · exact v13_ok
  · exact v19_ok
  · exact v98_ok
  · exact v20_ok
  · exact v25_ok
  · exact v31_ok
  · exact v37_ok
  · exact v43_ok
  · exact v49_ok
  · exact v55_ok
  · exact v61_ok
  · exact v67_ok
  · exact v73_ok
  · exact v79_ok
  · exact v85_ok
end Go.Proofs.YtfaddahidniclabDoor.Kn
