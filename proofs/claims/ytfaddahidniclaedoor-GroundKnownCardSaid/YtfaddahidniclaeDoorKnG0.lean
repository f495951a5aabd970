/- Known runs: what is common. -/
import Derived.Test.YtfaddahidniclaeDoorRvZC
import Derived.Test.YtfaddahidniclaeDoorProg
import Derived.KernelRfl
namespace Go.Proofs.YtfaddahidniclaeDoor.Kn
open Go Go.Rv
theorem named : Named Tryd.prog := named_of (by kernel_rfl)
def i (n : Int) : RV := .v (.int .i64 n)
def gs : List Nat := [38, 34, 19]
/-- the bay of the chapter's examples -/
def bA : RV := .agg [i 10, i 2, i 3, .sl 0 0 2 1, .sl 3 0 2 6]
def bM : List (List RV) := [[.sl 1 0 2 1, .sl 2 0 2 1], [i 3, i 4], [i 7, i 7], [i 0, i 0, i 0, i 10, i 19, i 5, i 1, i 0, i 1, i 15, i 30, i (-2)]]
/-- who holds a cell on a day -/
def e (k : Nat) (d x r h : Int) : MemoM := ⟨25, k, [bA, i d, i x, i r], bM, i h⟩
theorem nil_ok : ∀ q ∈ ([] : List MemoM), q.Ok Tryd.prog := by simp
theorem cons_ok {m : MemoM} {l : List MemoM} (h1 : m.Ok Tryd.prog) (h2 : ∀ q ∈ l, q.Ok Tryd.prog) : ∀ q ∈ m :: l, q.Ok Tryd.prog := by
  intro q hq
  rcases List.mem_cons.1 hq with rfl | hq
  · exact h1
  · exact h2 q hq
theorem ok_of {m : MemoM} (h : (@callF (gcEnv [] gs) Tryd.prog (@evR (gcEnv [] gs) Tryd.prog 3000) m.g m.args (memW m.mem)).map (·.1) = some m.x) (hx : below 0 m.x = true) : m.Ok Tryd.prog :=
  memoM_of (e := gcEnv [] gs) rfl (noOwn_gc named [] gs) 3000 h hx
end Go.Proofs.YtfaddahidniclaeDoor.Kn
