/- Layer 4: the chapter's examples hold: 'awake' returns true. -/
import Derived.Test.YthlodlileecmdaaDoorSyP2
import Derived.KernelRfl
import Derived.Test.YthlodlileecmdaaDoorProg
namespace Go.Proofs.YthlodlileecmdaaDoor.Kn
open Go Go.Rv Go.Proofs
def g32 : List Int := [0, 1, 28, 2, 29, 14, 24, 3, 30, 22, 20, 15, 25, 17, 4, 8, 31, 27, 13, 23, 21, 19, 16, 7, 26, 12, 18, 6, 11, 5, 10, 9]
def tab1 : Tabs := [(1, .u8, g32)]
theorem named : Named Tryd.prog := named_of (by kernel_rfl)
theorem own1 : @NoOwn (plainEnv [1]) Tryd.prog := noOwn_plain named [1]
theorem awake_run : (@callF (plainEnv [1]) Tryd.prog (@evR (plainEnv [1]) Tryd.prog 3000) 20 [] (tabRw tab1)).map (·.1) = some (.v (.bool true)) := by kernel_rfl
theorem awake_ok (W : RW) (h : hasTabs tab1 W) : @CallOk (plainEnv (tab1.map (·.1))) Tryd.prog 20 [] W (.v (.bool true)) W := by
  have hc := awake_run
  cases hq : @callF (plainEnv [1]) Tryd.prog (@evR (plainEnv [1]) Tryd.prog 3000) 20 [] (tabRw tab1) with
  | none => rw [hq] at hc; simp at hc
  | some q =>
    obtain ⟨y, W1⟩ := q
    rw [hq] at hc
    simp only [Option.map_some, Option.some.injEq] at hc
    subst hc
    obtain ⟨h1, _⟩ := @callF_ok (plainEnv [1]) Tryd.prog _ own1 (@ev_ok (plainEnv [1]) Tryd.prog own1 3000) 20 [] (tabRw tab1) W1 (.v (.bool true)) hq
    exact lift_tab (tabs := tab1) rfl rfl h1 rfl h
end Go.Proofs.YthlodlileecmdaaDoor.Kn
