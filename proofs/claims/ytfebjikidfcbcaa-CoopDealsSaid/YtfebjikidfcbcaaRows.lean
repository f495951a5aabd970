/-
  No cell of these rows narrows 'for every input' (looked for: loops, veiled, ifaces, maps, wideKeys, modest, calm, conditions, laid).
  DERIVED. THE GIVEN ROWS OF THIS SEAT. 5 by the template 'for every input the law returns true; each argument reads behind the call as it read before'; 0 by the template 'total and deterministic' (their statements: YtfebjikidfcbcaaTotals.lean).
  GIVEN WITH THE SEED: the statements are not yours to turn. If you find one false, say at which input.
  Laid BY PROGRAM, IN A SANDBOX (cutbox-rows.mjs): the forced cells as the released guide's own fill.sh prints them over the translation 63446529a90c333e… (all of the seat's roots in one cut). By AI agents, Wed Nov 11 2026. No macro, syntax, notation, axiom, sorry.
-/
import Derived.Test.YtfebjikidfcbcaaChecked
import GoSem.Claim
import GoSem.ClaimJoined
import GoSem.ClaimMapViews
import Derived.JoinedTies
import Derived.KernelRfl
namespace Go.Proofs.Ytfebjikidfcbcaa
/- THE CELL 'sum', in the pinned program and in every row, IS THE sha256 OF THE DUMP (.gsa) THAT YtfebjikidfcbcaaProg.lean LOADS. Nothing in Lean hashes anything: it is a label: what it is worth is what the hold of that sum in a sandbox is worth. -/
noncomputable def Try.pinned : Pinned := { name := "ytfebjikidfcbcaa", sum := "63446529a90c333e15b8929929fbaa3c3145cfbbad1edc9561ed0b0586ff4f90", checked := Try.checked }
namespace Rows
def none {H : Type} : Left H := { results := [], args := [] }

/-- 'homaruslaw09.CoopDeals': WHATEVER THE INPUT: true; the input reads as it did. -/
def coopDealsSpec : ChangeSpec := { name := "coopDeals", fn := fun _ => fun
  | [d1, d2, d3, d4] => { results := [.lit (.bool true)], args := [d1, d2, d3, d4] }
  | _ => none }
def coopDealsRow : OpenClaim := { program := "ytfebjikidfcbcaa", sum := "63446529a90c333e15b8929929fbaa3c3145cfbbad1edc9561ed0b0586ff4f90", func := "homarus/homaruslaw09.CoopDeals", spec := "coopDeals", unfollowed := true, recurses := true, apart := false }
def CoopDealsSaid : Prop := coopDealsRow.holds Try.pinned (OpenSpec.ofChange coopDealsSpec)

/-- ITS FALSE NEIGHBOUR: 'it returns false'. Refute it at one input. -/
def coopDealsWrong : ChangeSpec := { name := "coopDeals", fn := fun _ => fun
  | [d1, d2, d3, d4] => { results := [.lit (.bool false)], args := [d1, d2, d3, d4] }
  | _ => none }
def CoopDealsWrongFalsely : Prop := coopDealsRow.holds Try.pinned (OpenSpec.ofChange coopDealsWrong)

/-- 'homaruslaw09.CoopMoney': WHATEVER THE INPUT: true; the input reads as it did. -/
def coopMoneySpec : ChangeSpec := { name := "coopMoney", fn := fun _ => fun
  | [d] => { results := [.lit (.bool true)], args := [d] }
  | _ => none }
def coopMoneyRow : OpenClaim := { program := "ytfebjikidfcbcaa", sum := "63446529a90c333e15b8929929fbaa3c3145cfbbad1edc9561ed0b0586ff4f90", func := "homarus/homaruslaw09.CoopMoney", spec := "coopMoney", unfollowed := true, recurses := true, apart := false }
def CoopMoneySaid : Prop := coopMoneyRow.holds Try.pinned (OpenSpec.ofChange coopMoneySpec)

/-- ITS FALSE NEIGHBOUR: 'it returns false'. Refute it at one input. -/
def coopMoneyWrong : ChangeSpec := { name := "coopMoney", fn := fun _ => fun
  | [d] => { results := [.lit (.bool false)], args := [d] }
  | _ => none }
def CoopMoneyWrongFalsely : Prop := coopMoneyRow.holds Try.pinned (OpenSpec.ofChange coopMoneyWrong)

/-- 'homaruslaw09.CoopSlips': WHATEVER THE INPUT: true; the input reads as it did. -/
def coopSlipsSpec : ChangeSpec := { name := "coopSlips", fn := fun _ => fun
  | [d] => { results := [.lit (.bool true)], args := [d] }
  | _ => none }
def coopSlipsRow : OpenClaim := { program := "ytfebjikidfcbcaa", sum := "63446529a90c333e15b8929929fbaa3c3145cfbbad1edc9561ed0b0586ff4f90", func := "homarus/homaruslaw09.CoopSlips", spec := "coopSlips", unfollowed := true, recurses := true, apart := false }
def CoopSlipsSaid : Prop := coopSlipsRow.holds Try.pinned (OpenSpec.ofChange coopSlipsSpec)

/-- ITS FALSE NEIGHBOUR: 'it returns false'. Refute it at one input. -/
def coopSlipsWrong : ChangeSpec := { name := "coopSlips", fn := fun _ => fun
  | [d] => { results := [.lit (.bool false)], args := [d] }
  | _ => none }
def CoopSlipsWrongFalsely : Prop := coopSlipsRow.holds Try.pinned (OpenSpec.ofChange coopSlipsWrong)

/-- 'homaruslaw09.CoopRefused': WHATEVER THE INPUT: true; the input reads as it did. -/
def coopRefusedSpec : ChangeSpec := { name := "coopRefused", fn := fun _ => fun
  | [d] => { results := [.lit (.bool true)], args := [d] }
  | _ => none }
def coopRefusedRow : OpenClaim := { program := "ytfebjikidfcbcaa", sum := "63446529a90c333e15b8929929fbaa3c3145cfbbad1edc9561ed0b0586ff4f90", func := "homarus/homaruslaw09.CoopRefused", spec := "coopRefused", unfollowed := true, recurses := true, apart := false }
def CoopRefusedSaid : Prop := coopRefusedRow.holds Try.pinned (OpenSpec.ofChange coopRefusedSpec)

/-- ITS FALSE NEIGHBOUR: 'it returns false'. Refute it at one input. -/
def coopRefusedWrong : ChangeSpec := { name := "coopRefused", fn := fun _ => fun
  | [d] => { results := [.lit (.bool false)], args := [d] }
  | _ => none }
def CoopRefusedWrongFalsely : Prop := coopRefusedRow.holds Try.pinned (OpenSpec.ofChange coopRefusedWrong)

/-- 'homaruslaw09.CoopBonus': WHATEVER THE INPUT: true; the input reads as it did. -/
def coopBonusSpec : ChangeSpec := { name := "coopBonus", fn := fun _ => fun
  | [d] => { results := [.lit (.bool true)], args := [d] }
  | _ => none }
def coopBonusRow : OpenClaim := { program := "ytfebjikidfcbcaa", sum := "63446529a90c333e15b8929929fbaa3c3145cfbbad1edc9561ed0b0586ff4f90", func := "homarus/homaruslaw09.CoopBonus", spec := "coopBonus", unfollowed := true, recurses := true, apart := false }
def CoopBonusSaid : Prop := coopBonusRow.holds Try.pinned (OpenSpec.ofChange coopBonusSpec)

/-- ITS FALSE NEIGHBOUR: 'it returns false'. Refute it at one input. -/
def coopBonusWrong : ChangeSpec := { name := "coopBonus", fn := fun _ => fun
  | [d] => { results := [.lit (.bool false)], args := [d] }
  | _ => none }
def CoopBonusWrongFalsely : Prop := coopBonusRow.holds Try.pinned (OpenSpec.ofChange coopBonusWrong)

/- THE SECOND FORM. 'bulk': how many values and letters a reading holds, each counted each time it is reached (what is shared counts as often as it is met; a slice's spare places count too). A statement '..UptoSaid' is the law's where the arguments, and the package variables that the reading takes, are together of bulk at most 1048576: NARROWER than '..Said'. Prove '..Said' where nothing that the law and all that it calls make is longer than what came in: it says more and counts as full. Else prove '..UptoSaid'. A law counts once. -/
mutual
def uptoBulk {H : Type} : DataW H → Nat
  | .lit (.string bytes) => bytes.length + 1
  | .lit _ => 1
  | .nil => 1
  | .ptr d => uptoBulk d + 1
  | .slice elems spare => uptoBulkAll elems + uptoBulkAll spare + 1
  | .agg parts => uptoBulkAll parts + 1
  | .iface _ d => uptoBulk d + 1
  | .map entries => uptoBulkEntries entries + 1
  | .held _ => 1
def uptoBulkAll {H : Type} : List (DataW H) → Nat
  | [] => 0
  | d :: r => uptoBulk d + uptoBulkAll r
def uptoBulkEntries {H : Type} : List (Lit × DataW H) → Nat
  | [] => 0
  | x :: r => uptoBulkEntry x + uptoBulkEntries r
def uptoBulkEntry {H : Type} : Lit × DataW H → Nat
  | (.string bytes, d) => bytes.length + uptoBulk d + 1
  | (_, d) => uptoBulk d + 1
 end
def uptoSmall : (H : Type) → List (DataW H) → Bool := fun _ ds => decide (uptoBulkAll ds ≤ 1048576)
def OpenSpec.upto (s : _root_.Go.ChangeSpec) : _root_.Go.OpenSpec := { _root_.Go.OpenSpec.ofChange s with cond := some uptoSmall }

/-- 'homaruslaw09.CoopDeals', WHERE WHAT IT READS IS OF BULK AT MOST 1048576: true; the input reads as it did. -/
def coopDealsUptoRow : OpenClaim := { program := "ytfebjikidfcbcaa", sum := "63446529a90c333e15b8929929fbaa3c3145cfbbad1edc9561ed0b0586ff4f90", func := "homarus/homaruslaw09.CoopDeals", spec := "coopDeals", unfollowed := true, recurses := true, apart := false, narrowed := true }
def CoopDealsUptoSaid : Prop := coopDealsUptoRow.holds Try.pinned (OpenSpec.upto coopDealsSpec)

/-- 'homaruslaw09.CoopMoney', WHERE WHAT IT READS IS OF BULK AT MOST 1048576: true; the input reads as it did. -/
def coopMoneyUptoRow : OpenClaim := { program := "ytfebjikidfcbcaa", sum := "63446529a90c333e15b8929929fbaa3c3145cfbbad1edc9561ed0b0586ff4f90", func := "homarus/homaruslaw09.CoopMoney", spec := "coopMoney", unfollowed := true, recurses := true, apart := false, narrowed := true }
def CoopMoneyUptoSaid : Prop := coopMoneyUptoRow.holds Try.pinned (OpenSpec.upto coopMoneySpec)

/-- 'homaruslaw09.CoopSlips', WHERE WHAT IT READS IS OF BULK AT MOST 1048576: true; the input reads as it did. -/
def coopSlipsUptoRow : OpenClaim := { program := "ytfebjikidfcbcaa", sum := "63446529a90c333e15b8929929fbaa3c3145cfbbad1edc9561ed0b0586ff4f90", func := "homarus/homaruslaw09.CoopSlips", spec := "coopSlips", unfollowed := true, recurses := true, apart := false, narrowed := true }
def CoopSlipsUptoSaid : Prop := coopSlipsUptoRow.holds Try.pinned (OpenSpec.upto coopSlipsSpec)

/-- 'homaruslaw09.CoopRefused', WHERE WHAT IT READS IS OF BULK AT MOST 1048576: true; the input reads as it did. -/
def coopRefusedUptoRow : OpenClaim := { program := "ytfebjikidfcbcaa", sum := "63446529a90c333e15b8929929fbaa3c3145cfbbad1edc9561ed0b0586ff4f90", func := "homarus/homaruslaw09.CoopRefused", spec := "coopRefused", unfollowed := true, recurses := true, apart := false, narrowed := true }
def CoopRefusedUptoSaid : Prop := coopRefusedUptoRow.holds Try.pinned (OpenSpec.upto coopRefusedSpec)

/-- 'homaruslaw09.CoopBonus', WHERE WHAT IT READS IS OF BULK AT MOST 1048576: true; the input reads as it did. -/
def coopBonusUptoRow : OpenClaim := { program := "ytfebjikidfcbcaa", sum := "63446529a90c333e15b8929929fbaa3c3145cfbbad1edc9561ed0b0586ff4f90", func := "homarus/homaruslaw09.CoopBonus", spec := "coopBonus", unfollowed := true, recurses := true, apart := false, narrowed := true }
def CoopBonusUptoSaid : Prop := coopBonusUptoRow.holds Try.pinned (OpenSpec.upto coopBonusSpec)

end Rows
end Go.Proofs.Ytfebjikidfcbcaa
