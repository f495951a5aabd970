/- A known run over tables, by the kernel. -/
import Derived.Test.YtgchcfhbcaemoabGreatDoorKnCVa
namespace Go.Proofs.YtgchcfhbcaemoabGreatDoor.Kn
open Go Go.Rv
/-- homaruslaw10.says -/
def t6 : MemoM := ⟨7, 0, [.sl 3 0 6 1, .sl 4 0 6 1], [[.v (.string ⟨#[119, 104, 97, 108, 101, 32, 48, 32, 50, 32, 51, 32, 48, 32, 48]⟩), .v (.string ⟨#[115, 101, 116, 32, 48, 32, 50, 32, 49]⟩), .v (.string ⟨#[115, 101, 116, 32, 49, 32, 48, 32, 48]⟩), .v (.string ⟨#[102, 97, 117, 108, 116, 115]⟩), .v (.string ⟨#[102, 117, 101, 108]⟩), .v (.string ⟨#[100, 97, 121, 32, 51, 54, 53, 48, 48]⟩)], [.v (.string ⟨#[111, 107]⟩), .v (.string ⟨#[101, 114, 114, 111, 114, 32, 49, 52]⟩), .v (.string ⟨#[111, 107]⟩), .v (.string ⟨#[110, 111, 110, 101]⟩), .v (.string ⟨#[101, 114, 114, 111, 114, 32, 50]⟩), .v (.string ⟨#[101, 114, 114, 111, 114, 32, 49]⟩)]], bo true⟩
theorem t6_ok : t6.OkT [5, 1, 4] T Tryz.prog := memoT_of (e := envV) rfl nownV 3000 (by kernel_rfl) (by kernel_rfl)
end Go.Proofs.YtgchcfhbcaemoabGreatDoor.Kn
