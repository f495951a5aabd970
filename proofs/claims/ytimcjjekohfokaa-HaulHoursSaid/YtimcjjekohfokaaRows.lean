/-
  No cell of these rows narrows 'for every input' (looked for: loops, veiled, ifaces, maps, wideKeys, modest, calm, conditions, laid).
  DERIVED. THE GIVEN ROWS OF THIS SEAT. 2 by the template 'for every input the law returns true; each argument reads behind the call as it read before'; 0 by the template 'total and deterministic' (their statements: YtimcjjekohfokaaTotals.lean).
  GIVEN WITH THE SEED: the statements are not yours to turn. If you find one false, say at which input.
  Laid BY PROGRAM, IN A SANDBOX (cutbox-rows.mjs): the forced cells as the released guide's own fill.sh prints them over the translation 5f74a289974e5060… (all of the seat's roots in one cut). By AI agents, Wed Nov 11 2026. No macro, syntax, notation, axiom, sorry.
-/
import Derived.Test.YtimcjjekohfokaaChecked
import GoSem.Claim
import GoSem.ClaimJoined
import GoSem.ClaimMapViews
import Derived.JoinedTies
import Derived.KernelRfl
namespace Go.Proofs.Ytimcjjekohfokaa
/- THE CELL 'sum', in the pinned program and in every row, IS THE sha256 OF THE DUMP (.gsa) THAT YtimcjjekohfokaaProg.lean LOADS. Nothing in Lean hashes anything: it is a label: what it is worth is what the hold of that sum in a sandbox is worth. -/
noncomputable def Try.pinned : Pinned := { name := "ytimcjjekohfokaa", sum := "5f74a289974e5060b8a3423fb08b312025bb57629070ad89df8c541fa857a18c", checked := Try.checked }
namespace Rows
def none {H : Type} : Left H := { results := [], args := [] }

/-- 'homaruslaw03.HaulLate': WHATEVER THE INPUT: true; the input reads as it did. -/
def haulLateSpec : ChangeSpec := { name := "haulLate", fn := fun _ => fun
  | [d] => { results := [.lit (.bool true)], args := [d] }
  | _ => none }
def haulLateRow : OpenClaim := { program := "ytimcjjekohfokaa", sum := "5f74a289974e5060b8a3423fb08b312025bb57629070ad89df8c541fa857a18c", func := "homarus/homaruslaw03.HaulLate", spec := "haulLate", unfollowed := true, recurses := true, apart := false }
def HaulLateSaid : Prop := haulLateRow.holds Try.pinned (OpenSpec.ofChange haulLateSpec)

/-- ITS FALSE NEIGHBOUR: 'it returns false'. Refute it at one input. -/
def haulLateWrong : ChangeSpec := { name := "haulLate", fn := fun _ => fun
  | [d] => { results := [.lit (.bool false)], args := [d] }
  | _ => none }
def HaulLateWrongFalsely : Prop := haulLateRow.holds Try.pinned (OpenSpec.ofChange haulLateWrong)

/-- 'homaruslaw03.HaulHours': WHATEVER THE INPUT: true; the input reads as it did. -/
def haulHoursSpec : ChangeSpec := { name := "haulHours", fn := fun _ => fun
  | [d] => { results := [.lit (.bool true)], args := [d] }
  | _ => none }
def haulHoursRow : OpenClaim := { program := "ytimcjjekohfokaa", sum := "5f74a289974e5060b8a3423fb08b312025bb57629070ad89df8c541fa857a18c", func := "homarus/homaruslaw03.HaulHours", spec := "haulHours", unfollowed := true, recurses := true, apart := false }
def HaulHoursSaid : Prop := haulHoursRow.holds Try.pinned (OpenSpec.ofChange haulHoursSpec)

/-- ITS FALSE NEIGHBOUR: 'it returns false'. Refute it at one input. -/
def haulHoursWrong : ChangeSpec := { name := "haulHours", fn := fun _ => fun
  | [d] => { results := [.lit (.bool false)], args := [d] }
  | _ => none }
def HaulHoursWrongFalsely : Prop := haulHoursRow.holds Try.pinned (OpenSpec.ofChange haulHoursWrong)

/- THE SECOND FORM. 'bulk': how many values and letters a reading holds, each counted each time it is reached (what is shared counts as often as it is met; a slice's spare places count too). A statement '..UptoSaid' is the law's where the arguments, and the package variables that the reading takes, are together of bulk at most 1048576: NARROWER than '..Said'. Prove '..Said' where nothing that the law and all that it calls make is longer than what came in: it says more and counts as full. Else prove '..UptoSaid'. A law counts once. -/
mutual
def uptoBulk {H : Type} : DataW H → Nat
  | .lit (.string bytes) => bytes.length + 1
  | .lit _ => 1
  | .nil => 1
  | .ptr d => uptoBulk d + 1
  | .slice elems spare => uptoBulkAll elems + uptoBulkAll spare + 1
  | .agg parts => uptoBulkAll parts + 1
  | .iface _ d => uptoBulk d + 1
  | .map entries => uptoBulkEntries entries + 1
  | .held _ => 1
def uptoBulkAll {H : Type} : List (DataW H) → Nat
  | [] => 0
  | d :: r => uptoBulk d + uptoBulkAll r
def uptoBulkEntries {H : Type} : List (Lit × DataW H) → Nat
  | [] => 0
  | x :: r => uptoBulkEntry x + uptoBulkEntries r
def uptoBulkEntry {H : Type} : Lit × DataW H → Nat
  | (.string bytes, d) => bytes.length + uptoBulk d + 1
  | (_, d) => uptoBulk d + 1
 end
def uptoSmall : (H : Type) → List (DataW H) → Bool := fun _ ds => decide (uptoBulkAll ds ≤ 1048576)
def OpenSpec.upto (s : _root_.Go.ChangeSpec) : _root_.Go.OpenSpec := { _root_.Go.OpenSpec.ofChange s with cond := some uptoSmall }

/-- 'homaruslaw03.HaulLate', WHERE WHAT IT READS IS OF BULK AT MOST 1048576: true; the input reads as it did. -/
def haulLateUptoRow : OpenClaim := { program := "ytimcjjekohfokaa", sum := "5f74a289974e5060b8a3423fb08b312025bb57629070ad89df8c541fa857a18c", func := "homarus/homaruslaw03.HaulLate", spec := "haulLate", unfollowed := true, recurses := true, apart := false, narrowed := true }
def HaulLateUptoSaid : Prop := haulLateUptoRow.holds Try.pinned (OpenSpec.upto haulLateSpec)

/-- 'homaruslaw03.HaulHours', WHERE WHAT IT READS IS OF BULK AT MOST 1048576: true; the input reads as it did. -/
def haulHoursUptoRow : OpenClaim := { program := "ytimcjjekohfokaa", sum := "5f74a289974e5060b8a3423fb08b312025bb57629070ad89df8c541fa857a18c", func := "homarus/homaruslaw03.HaulHours", spec := "haulHours", unfollowed := true, recurses := true, apart := false, narrowed := true }
def HaulHoursUptoSaid : Prop := haulHoursUptoRow.holds Try.pinned (OpenSpec.upto haulHoursSpec)

end Rows
end Go.Proofs.Ytimcjjekohfokaa
