/- Known runs: what is common. -/
import Derived.Test.YtgchcfhbcaemoabGreatDoorRvZD
import Derived.Test.YtgchcfhbcaemoabGreatDoorProg
import Derived.KernelRfl
namespace Go.Proofs.YtgchcfhbcaemoabGreatDoor.Kn
open Go Go.Rv
theorem named : Named Tryz.prog := named_of (by kernel_rfl)
def i (n : Int) : RV := .v (.int .i64 n)
def bo (b : Bool) : RV := .v (.bool b)
def gs : List Nat := [5, 13, 14, 34, 35, 36, 145, 146, 149, 30, 78, 98, 111]
theorem nil_ok : ∀ q ∈ ([] : List MemoM), q.Ok Tryz.prog := by simp
theorem cons_ok {m : MemoM} {l : List MemoM} (h1 : m.Ok Tryz.prog) (h2 : ∀ q ∈ l, q.Ok Tryz.prog) : ∀ q ∈ m :: l, q.Ok Tryz.prog := by
  intro q hq
  rcases List.mem_cons.1 hq with rfl | hq
  · exact h1
  · exact h2 q hq
theorem nils_ok : ∀ b ∈ ([] : List (List MemoM)), ∀ q ∈ b, q.Ok Tryz.prog := by simp
theorem conss_ok {b : List MemoM} {l : List (List MemoM)} (h1 : ∀ q ∈ b, q.Ok Tryz.prog) (h2 : ∀ b ∈ l, ∀ q ∈ b, q.Ok Tryz.prog) : ∀ c ∈ b :: l, ∀ q ∈ c, q.Ok Tryz.prog := by
  intro c hc
  rcases List.mem_cons.1 hc with rfl | hc
  · exact h1
  · exact h2 c hc
theorem nilR_ok : ∀ q ∈ ([] : List MemoR), q.Ok Tryz.prog := by simp
theorem consR_ok {m : MemoR} {l : List MemoR} (h1 : m.Ok Tryz.prog) (h2 : ∀ q ∈ l, q.Ok Tryz.prog) : ∀ q ∈ m :: l, q.Ok Tryz.prog := by
  intro q hq
  rcases List.mem_cons.1 hq with rfl | hq
  · exact h1
  · exact h2 q hq
theorem nilsR_ok : ∀ b ∈ ([] : List (List MemoR)), ∀ q ∈ b, q.Ok Tryz.prog := by simp
theorem conssR_ok {b : List MemoR} {l : List (List MemoR)} (h1 : ∀ q ∈ b, q.Ok Tryz.prog) (h2 : ∀ b ∈ l, ∀ q ∈ b, q.Ok Tryz.prog) : ∀ c ∈ b :: l, ∀ q ∈ c, q.Ok Tryz.prog := by
  intro c hc
  rcases List.mem_cons.1 hc with rfl | hc
  · exact h1
  · exact h2 c hc
end Go.Proofs.YtgchcfhbcaemoabGreatDoor.Kn
