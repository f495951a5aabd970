/- A known run over tables, by the kernel. -/
import Derived.Test.YtgchcfhbcaemoabGreatDoorKnCVa
namespace Go.Proofs.YtgchcfhbcaemoabGreatDoor.Kn
open Go Go.Rv
/-- homaruslaw10.says -/
def t2 : MemoM := ⟨7, 0, [.sl 3 0 5 1, .sl 4 0 5 1], [[.v (.string ⟨#[115, 101, 116, 32, 49, 32, 54, 32, 48]⟩), .v (.string ⟨#[115, 101, 116, 32, 50, 32, 56, 32, 48]⟩), .v (.string ⟨#[115, 101, 116, 32, 52, 32, 48, 32, 48]⟩), .v (.string ⟨#[115, 101, 116, 32, 49, 32, 49, 50, 32, 48]⟩), .v (.string ⟨#[104, 111, 108, 100, 101, 114, 32, 54, 32, 48]⟩)], [.v (.string ⟨#[101, 114, 114, 111, 114, 32, 57]⟩), .v (.string ⟨#[101, 114, 114, 111, 114, 32, 49, 51]⟩), .v (.string ⟨#[101, 114, 114, 111, 114, 32, 54]⟩), .v (.string ⟨#[101, 114, 114, 111, 114, 32, 49]⟩), .v (.string ⟨#[49]⟩)]], bo true⟩
theorem t2_ok : t2.OkT [5, 1, 4] T Tryz.prog := memoT_of (e := envV) rfl nownV 3000 (by kernel_rfl) (by kernel_rfl)
end Go.Proofs.YtgchcfhbcaemoabGreatDoor.Kn
