/- Known runs over tables: what is common, and the first ones. -/
import Derived.Test.YtgchcfhbcaemoabGreatDoorRvZE
import Derived.Test.YtgchcfhbcaemoabGreatDoorKnC3a
namespace Go.Proofs.YtgchcfhbcaemoabGreatDoor.Kn
open Go Go.Rv
def tv (k : IntKind) (l : List Int) : List RV := l.map fun z => .v (.int k z)
def tb0 : List RV := tv .u8 [0, 1, 56, 2, 57, 49, 28, 3, 61, 58, 42, 50, 38, 29, 17, 4, 62, 47, 59, 36, 45, 43, 51, 22, 53, 39, 33, 30, 24, 18, 12, 5, 63, 55, 48, 27, 60, 41, 37, 16, 46, 35, 44, 21, 52, 32, 23, 11, 54, 26, 40, 15, 34, 20, 31, 10, 25, 14, 19, 9, 13, 8, 7, 6]
def tb1 : List RV := tv .u64 [1, 10, 100, 1000, 10000, 100000, 1000000, 10000000, 100000000, 1000000000, 10000000000, 100000000000, 1000000000000, 10000000000000, 100000000000000, 1000000000000000, 10000000000000000, 100000000000000000, 1000000000000000000, 10000000000000000000]
def tb2 : List RV := tv .u8 [0, 1, 28, 2, 29, 14, 24, 3, 30, 22, 20, 15, 25, 17, 4, 8, 31, 27, 13, 23, 21, 19, 16, 7, 26, 12, 18, 6, 11, 5, 10, 9]
def T : List (List RV) := [tb0, tb1, tb2]
@[reducible] noncomputable def envS : Env := memoDEnv [5, 1, 4] gs [22, 12, 16, 142, 92, 155, 9, 28, 20, 11, 135, 146, 63, 5] 32 known4 [39, 83, 148, 154] knownR4
theorem nownS : @NoOwn envS Tryz.prog := noOwn_memoD named [5, 1, 4] gs [22, 12, 16, 142, 92, 155, 9, 28, 20, 11, 135, 146, 63, 5] 32 known4_ok [39, 83, 148, 154] knownR4_ok
theorem nilT_ok : ∀ q ∈ ([] : List MemoM), q.OkT [5, 1, 4] T Tryz.prog := by simp
theorem consT_ok {m : MemoM} {l : List MemoM} (h1 : m.OkT [5, 1, 4] T Tryz.prog) (h2 : ∀ q ∈ l, q.OkT [5, 1, 4] T Tryz.prog) : ∀ q ∈ m :: l, q.OkT [5, 1, 4] T Tryz.prog := by
  intro q hq
  rcases List.mem_cons.1 hq with rfl | hq
  · exact h1
  · exact h2 q hq
/-- strconv.Itoa -/
def s0 : MemoM := ⟨62, 950, [i 950], [], .v (.string ⟨#[57, 53, 48]⟩)⟩
theorem s0_ok : s0.OkT [5, 1, 4] T Tryz.prog := memoT_of (e := envS) rfl nownS 3000 (by kernel_rfl) (by kernel_rfl)
/-- strconv.Itoa -/
def s1 : MemoM := ⟨62, 960, [i 960], [], .v (.string ⟨#[57, 54, 48]⟩)⟩
theorem s1_ok : s1.OkT [5, 1, 4] T Tryz.prog := memoT_of (e := envS) rfl nownS 3000 (by kernel_rfl) (by kernel_rfl)
/-- strconv.Itoa -/
def s2 : MemoM := ⟨62, 900, [i 900], [], .v (.string ⟨#[57, 48, 48]⟩)⟩
theorem s2_ok : s2.OkT [5, 1, 4] T Tryz.prog := memoT_of (e := envS) rfl nownS 3000 (by kernel_rfl) (by kernel_rfl)
/-- strconv.Itoa -/
def s3 : MemoM := ⟨62, 820, [i 820], [], .v (.string ⟨#[56, 50, 48]⟩)⟩
theorem s3_ok : s3.OkT [5, 1, 4] T Tryz.prog := memoT_of (e := envS) rfl nownS 3000 (by kernel_rfl) (by kernel_rfl)
/-- strconv.Itoa -/
def s4 : MemoM := ⟨62, 840, [i 840], [], .v (.string ⟨#[56, 52, 48]⟩)⟩
theorem s4_ok : s4.OkT [5, 1, 4] T Tryz.prog := memoT_of (e := envS) rfl nownS 3000 (by kernel_rfl) (by kernel_rfl)
/-- strconv.Itoa -/
def s5 : MemoM := ⟨62, 830, [i 830], [], .v (.string ⟨#[56, 51, 48]⟩)⟩
theorem s5_ok : s5.OkT [5, 1, 4] T Tryz.prog := memoT_of (e := envS) rfl nownS 3000 (by kernel_rfl) (by kernel_rfl)
/-- strconv.Itoa -/
def s6 : MemoM := ⟨62, 1000, [i 1000], [], .v (.string ⟨#[49, 48, 48, 48]⟩)⟩
theorem s6_ok : s6.OkT [5, 1, 4] T Tryz.prog := memoT_of (e := envS) rfl nownS 3000 (by kernel_rfl) (by kernel_rfl)
/-- strconv.Itoa -/
def s7 : MemoM := ⟨62, 600, [i 600], [], .v (.string ⟨#[54, 48, 48]⟩)⟩
theorem s7_ok : s7.OkT [5, 1, 4] T Tryz.prog := memoT_of (e := envS) rfl nownS 3000 (by kernel_rfl) (by kernel_rfl)
/-- strconv.Itoa -/
def s8 : MemoM := ⟨62, 36500, [i 36500], [], .v (.string ⟨#[51, 54, 53, 48, 48]⟩)⟩
theorem s8_ok : s8.OkT [5, 1, 4] T Tryz.prog := memoT_of (e := envS) rfl nownS 3000 (by kernel_rfl) (by kernel_rfl)
def knownS : List MemoM := [s0, s1, s2, s3, s4, s5, s6, s7, s8]
theorem knownS_ok : ∀ q ∈ knownS, q.OkT [5, 1, 4] T Tryz.prog := (consT_ok s0_ok (consT_ok s1_ok (consT_ok s2_ok (consT_ok s3_ok (consT_ok s4_ok (consT_ok s5_ok (consT_ok s6_ok (consT_ok s7_ok (consT_ok s8_ok nilT_ok)))))))))
@[reducible] noncomputable def envT : Env := plusT envS [62] T knownS
theorem nownT : @NoOwn envT Tryz.prog := noOwn_plusT nownS [62] (by decide) knownS_ok
end Go.Proofs.YtgchcfhbcaemoabGreatDoor.Kn
