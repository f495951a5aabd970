/- Known runs: what is common. -/
import Derived.Test.YtfaddahidniclafDoorRvZC
import Derived.Test.YtfaddahidniclafDoorProg
import Derived.KernelRfl
namespace Go.Proofs.YtfaddahidniclafDoor.Kn
open Go Go.Rv
theorem named : Named Tryd.prog := named_of (by kernel_rfl)
def i (n : Int) : RV := .v (.int .i64 n)
def b (n : Bool) : RV := .v (.bool n)
def gs : List Nat := [15, 16, 17, 18, 19, 20, 21, 46, 47]
def bM : List (List RV) := [[i 10, i 4000, i 60, i 10, i 300, i 600, i 20, i 6000, i 80, i 20, i 350, i 420, i 10, i 1000, i 30, i 5, i 300, i 600], [.sl 2 0 4 2, .sl 3 0 4 2, .sl 4 0 4 2, .sl 5 0 4 2], [i 0, i 0, i 30, i 20, i 40, i 30, i 20, i 10], [i 30, i 20, i 0, i 0, i 25, i 15, i 30, i 20], [i 40, i 30, i 25, i 15, i 0, i 0, i 50, i 40], [i 20, i 10, i 30, i 20, i 50, i 40, i 0, i 0]]
/-- the tour of the chapter's examples, its beginning another one -/
def tA (s : Int) : RV := .agg [i s, i 600, i 200, i 5, i 30, .sl 0 0 3 6, .sl 1 0 4 1]
theorem nil_ok : ∀ q ∈ ([] : List MemoM), q.Ok Tryd.prog := by simp
theorem cons_ok {m : MemoM} {l : List MemoM} (h1 : m.Ok Tryd.prog) (h2 : ∀ q ∈ l, q.Ok Tryd.prog) : ∀ q ∈ m :: l, q.Ok Tryd.prog := by
  intro q hq
  rcases List.mem_cons.1 hq with rfl | hq
  · exact h1
  · exact h2 q hq
theorem ok_of {m : MemoM} (h : (@callF (gcEnv [] gs) Tryd.prog (@evR (gcEnv [] gs) Tryd.prog 3000) m.g m.args (memW m.mem)).map (·.1) = some m.x) (hx : below 0 m.x = true) : m.Ok Tryd.prog :=
  memoM_of (e := gcEnv [] gs) rfl (noOwn_gc named [] gs) 3000 h hx
/-- what Check says -/
def ck (k : Nat) (s r : Int) : MemoM := ⟨6, k, [tA s], bM, i r⟩
end Go.Proofs.YtfaddahidniclafDoor.Kn
