/- The chapter's examples hold: 'awake' returns true. -/
import Derived.Test.YtgdnhmilhpnbjaaDoorKnMemoG
namespace Go.Proofs.YtgdnhmilhpnbjaaDoor.Kn
open Go Go.Rv Go.Proofs
def g64 : List Int := [0, 1, 56, 2, 57, 49, 28, 3, 61, 58, 42, 50, 38, 29, 17, 4, 62, 47, 59, 36, 45, 43, 51, 22, 53, 39, 33, 30, 24, 18, 12, 5, 63, 55, 48, 27, 60, 41, 37, 16, 46, 35, 44, 21, 52, 32, 23, 11, 54, 26, 40, 15, 34, 20, 31, 10, 25, 14, 19, 9, 13, 8, 7, 6]
def g10 : List Int := [1, 10, 100, 1000, 10000, 100000, 1000000, 10000000, 100000000, 1000000000, 10000000000, 100000000000, 1000000000000, 10000000000000, 100000000000000, 1000000000000000, 10000000000000000, 100000000000000000, 1000000000000000000, 10000000000000000000]
def g32 : List Int := [0, 1, 28, 2, 29, 14, 24, 3, 30, 22, 20, 15, 25, 17, 4, 8, 31, 27, 13, 23, 21, 19, 16, 7, 26, 12, 18, 6, 11, 5, 10, 9]
def tab1 : Tabs := [(0, .u8, g64)]
theorem awake_run : (@callF (memoEnv [0] known2) Tryd.prog (@evR (memoEnv [0] known2) Tryd.prog 3000) 6 [] (tabRw tab1)).map (·.1) = some (.v (.bool true)) := by kernel_rfl
theorem awake_calls {W : World} (h : TabsAt tab1 W) : Calls Tryd.prog 6 #[] W fun e W' => e = .returned (.bool true) ∧ RowKit.Below W.heap.size W W' :=
  run_calls (own2 [0]) rfl awake_run h
end Go.Proofs.YtgdnhmilhpnbjaaDoor.Kn
