/- A known run over tables, by the kernel. -/
import Derived.Test.YtgchcfhbcaemoabGreatDoorKnCVa
namespace Go.Proofs.YtgchcfhbcaemoabGreatDoor.Kn
open Go Go.Rv
/-- homaruslaw10.says -/
def t1 : MemoM := ⟨7, 0, [.sl 3 0 8 1, .sl 4 0 8 1], [[.v (.string ⟨#[115, 101, 116, 32, 48, 32, 50, 32, 48]⟩), .v (.string ⟨#[119, 104, 101, 114, 101, 32, 48]⟩), .v (.string ⟨#[115, 101, 116, 32, 48, 32, 50, 32, 48]⟩), .v (.string ⟨#[115, 101, 116, 32, 49, 32, 50, 32, 48]⟩), .v (.string ⟨#[104, 97, 117, 108, 32, 48]⟩), .v (.string ⟨#[100, 97, 121, 32, 49]⟩), .v (.string ⟨#[104, 97, 117, 108, 32, 48]⟩), .v (.string ⟨#[119, 104, 101, 114, 101, 32, 48]⟩)], [.v (.string ⟨#[111, 107]⟩), .v (.string ⟨#[111, 117, 116, 32, 50, 32, 48]⟩), .v (.string ⟨#[101, 114, 114, 111, 114, 32, 49, 48]⟩), .v (.string ⟨#[101, 114, 114, 111, 114, 32, 53]⟩), .v (.string ⟨#[101, 114, 114, 111, 114, 32, 49, 51]⟩), .v (.string ⟨#[111, 107]⟩), .v (.string ⟨#[111, 107]⟩), .v (.string ⟨#[104, 111, 109, 101]⟩)]], bo true⟩
theorem t1_ok : t1.OkT [5, 1, 4] T Tryz.prog := memoT_of (e := envV) rfl nownV 3000 (by kernel_rfl) (by kernel_rfl)
end Go.Proofs.YtgchcfhbcaemoabGreatDoor.Kn
