/- A known run over tables, by the kernel. -/
import Derived.Test.YtgchcfhbcaemoabGreatDoorKnCVa
namespace Go.Proofs.YtgchcfhbcaemoabGreatDoor.Kn
open Go Go.Rv
/-- homaruslaw10.says -/
def t4 : MemoM := ⟨7, 0, [.sl 3 0 5 1, .sl 4 0 5 1], [[.v (.string ⟨#[115, 101, 116, 32, 48, 32, 50, 32, 48]⟩), .v (.string ⟨#[119, 104, 97, 108, 101, 32, 48, 32, 50, 32, 51, 32, 48, 32, 49]⟩), .v (.string ⟨#[100, 97, 110, 103, 101, 114]⟩), .v (.string ⟨#[100, 97, 121, 32, 49]⟩), .v (.string ⟨#[119, 104, 97, 108, 101, 32, 48, 32, 57, 32, 57, 32, 48, 32, 48]⟩)], [.v (.string ⟨#[111, 107]⟩), .v (.string ⟨#[104, 97, 117, 108, 32, 48, 32, 48]⟩), .v (.string ⟨#[48, 32, 48, 32, 111, 112, 101, 110]⟩), .v (.string ⟨#[111, 107]⟩), .v (.string ⟨#[101, 114, 114, 111, 114, 32, 57]⟩)]], bo true⟩
theorem t4_ok : t4.OkT [5, 1, 4] T Tryz.prog := memoT_of (e := envV) rfl nownV 3000 (by kernel_rfl) (by kernel_rfl)
end Go.Proofs.YtgchcfhbcaemoabGreatDoor.Kn
