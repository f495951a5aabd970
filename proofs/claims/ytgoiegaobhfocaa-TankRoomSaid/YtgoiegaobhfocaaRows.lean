/-
  No cell of these rows narrows 'for every input' (looked for: loops, veiled, ifaces, maps, wideKeys, modest, calm, conditions, laid).
  DERIVED. THE GIVEN ROWS OF THIS SEAT. 3 by the template 'for every input the law returns true; each argument reads behind the call as it read before'; 0 by the template 'total and deterministic' (their statements: YtgoiegaobhfocaaTotals.lean).
  GIVEN WITH THE SEED: the statements are not yours to turn. If you find one false, say at which input.
  Laid BY PROGRAM, IN A SANDBOX (cutbox-rows.mjs): the forced cells as the released guide's own fill.sh prints them over the translation 5c11da76cb8af61e… (all of the seat's roots in one cut). By AI agents, Wed Nov 11 2026. No macro, syntax, notation, axiom, sorry.
-/
import Derived.Test.YtgoiegaobhfocaaChecked
import GoSem.Claim
import GoSem.ClaimJoined
import GoSem.ClaimMapViews
import Derived.JoinedTies
import Derived.KernelRfl
namespace Go.Proofs.Ytgoiegaobhfocaa
/- THE CELL 'sum', in the pinned program and in every row, IS THE sha256 OF THE DUMP (.gsa) THAT YtgoiegaobhfocaaProg.lean LOADS. Nothing in Lean hashes anything: it is a label: what it is worth is what the hold of that sum in a sandbox is worth. -/
noncomputable def Try.pinned : Pinned := { name := "ytgoiegaobhfocaa", sum := "5c11da76cb8af61e1bd7584a0a3864d182b2bcd7efd8aa425674a3dd9c513130", checked := Try.checked }
namespace Rows
def none {H : Type} : Left H := { results := [], args := [] }

/-- 'homaruslaw07.TankRuns': WHATEVER THE INPUT: true; the input reads as it did. -/
def tankRunsSpec : ChangeSpec := { name := "tankRuns", fn := fun _ => fun
  | [d1, d2, d3, d4, d5, d6, d7, d8] => { results := [.lit (.bool true)], args := [d1, d2, d3, d4, d5, d6, d7, d8] }
  | _ => none }
def tankRunsRow : OpenClaim := { program := "ytgoiegaobhfocaa", sum := "5c11da76cb8af61e1bd7584a0a3864d182b2bcd7efd8aa425674a3dd9c513130", func := "homarus/homaruslaw07.TankRuns", spec := "tankRuns", unfollowed := true, recurses := true, apart := false }
def TankRunsSaid : Prop := tankRunsRow.holds Try.pinned (OpenSpec.ofChange tankRunsSpec)

/-- ITS FALSE NEIGHBOUR: 'it returns false'. Refute it at one input. -/
def tankRunsWrong : ChangeSpec := { name := "tankRuns", fn := fun _ => fun
  | [d1, d2, d3, d4, d5, d6, d7, d8] => { results := [.lit (.bool false)], args := [d1, d2, d3, d4, d5, d6, d7, d8] }
  | _ => none }
def TankRunsWrongFalsely : Prop := tankRunsRow.holds Try.pinned (OpenSpec.ofChange tankRunsWrong)

/-- 'homaruslaw07.TankHolds': WHATEVER THE INPUT: true; the input reads as it did. -/
def tankHoldsSpec : ChangeSpec := { name := "tankHolds", fn := fun _ => fun
  | [d1, d2, d3, d4] => { results := [.lit (.bool true)], args := [d1, d2, d3, d4] }
  | _ => none }
def tankHoldsRow : OpenClaim := { program := "ytgoiegaobhfocaa", sum := "5c11da76cb8af61e1bd7584a0a3864d182b2bcd7efd8aa425674a3dd9c513130", func := "homarus/homaruslaw07.TankHolds", spec := "tankHolds", unfollowed := true, recurses := true, apart := false }
def TankHoldsSaid : Prop := tankHoldsRow.holds Try.pinned (OpenSpec.ofChange tankHoldsSpec)

/-- ITS FALSE NEIGHBOUR: 'it returns false'. Refute it at one input. -/
def tankHoldsWrong : ChangeSpec := { name := "tankHolds", fn := fun _ => fun
  | [d1, d2, d3, d4] => { results := [.lit (.bool false)], args := [d1, d2, d3, d4] }
  | _ => none }
def TankHoldsWrongFalsely : Prop := tankHoldsRow.holds Try.pinned (OpenSpec.ofChange tankHoldsWrong)

/-- 'homaruslaw07.TankRoom': WHATEVER THE INPUT: true; the input reads as it did. -/
def tankRoomSpec : ChangeSpec := { name := "tankRoom", fn := fun _ => fun
  | [d] => { results := [.lit (.bool true)], args := [d] }
  | _ => none }
def tankRoomRow : OpenClaim := { program := "ytgoiegaobhfocaa", sum := "5c11da76cb8af61e1bd7584a0a3864d182b2bcd7efd8aa425674a3dd9c513130", func := "homarus/homaruslaw07.TankRoom", spec := "tankRoom", unfollowed := true, recurses := true, apart := false }
def TankRoomSaid : Prop := tankRoomRow.holds Try.pinned (OpenSpec.ofChange tankRoomSpec)

/-- ITS FALSE NEIGHBOUR: 'it returns false'. Refute it at one input. -/
def tankRoomWrong : ChangeSpec := { name := "tankRoom", fn := fun _ => fun
  | [d] => { results := [.lit (.bool false)], args := [d] }
  | _ => none }
def TankRoomWrongFalsely : Prop := tankRoomRow.holds Try.pinned (OpenSpec.ofChange tankRoomWrong)

/- THE SECOND FORM. 'bulk': how many values and letters a reading holds, each counted each time it is reached (what is shared counts as often as it is met; a slice's spare places count too). A statement '..UptoSaid' is the law's where the arguments, and the package variables that the reading takes, are together of bulk at most 1048576: NARROWER than '..Said'. Prove '..Said' where nothing that the law and all that it calls make is longer than what came in: it says more and counts as full. Else prove '..UptoSaid'. A law counts once. -/
mutual
def uptoBulk {H : Type} : DataW H → Nat
  | .lit (.string bytes) => bytes.length + 1
  | .lit _ => 1
  | .nil => 1
  | .ptr d => uptoBulk d + 1
  | .slice elems spare => uptoBulkAll elems + uptoBulkAll spare + 1
  | .agg parts => uptoBulkAll parts + 1
  | .iface _ d => uptoBulk d + 1
  | .map entries => uptoBulkEntries entries + 1
  | .held _ => 1
def uptoBulkAll {H : Type} : List (DataW H) → Nat
  | [] => 0
  | d :: r => uptoBulk d + uptoBulkAll r
def uptoBulkEntries {H : Type} : List (Lit × DataW H) → Nat
  | [] => 0
  | x :: r => uptoBulkEntry x + uptoBulkEntries r
def uptoBulkEntry {H : Type} : Lit × DataW H → Nat
  | (.string bytes, d) => bytes.length + uptoBulk d + 1
  | (_, d) => uptoBulk d + 1
 end
def uptoSmall : (H : Type) → List (DataW H) → Bool := fun _ ds => decide (uptoBulkAll ds ≤ 1048576)
def OpenSpec.upto (s : _root_.Go.ChangeSpec) : _root_.Go.OpenSpec := { _root_.Go.OpenSpec.ofChange s with cond := some uptoSmall }

/-- 'homaruslaw07.TankRuns', WHERE WHAT IT READS IS OF BULK AT MOST 1048576: true; the input reads as it did. -/
def tankRunsUptoRow : OpenClaim := { program := "ytgoiegaobhfocaa", sum := "5c11da76cb8af61e1bd7584a0a3864d182b2bcd7efd8aa425674a3dd9c513130", func := "homarus/homaruslaw07.TankRuns", spec := "tankRuns", unfollowed := true, recurses := true, apart := false, narrowed := true }
def TankRunsUptoSaid : Prop := tankRunsUptoRow.holds Try.pinned (OpenSpec.upto tankRunsSpec)

/-- 'homaruslaw07.TankHolds', WHERE WHAT IT READS IS OF BULK AT MOST 1048576: true; the input reads as it did. -/
def tankHoldsUptoRow : OpenClaim := { program := "ytgoiegaobhfocaa", sum := "5c11da76cb8af61e1bd7584a0a3864d182b2bcd7efd8aa425674a3dd9c513130", func := "homarus/homaruslaw07.TankHolds", spec := "tankHolds", unfollowed := true, recurses := true, apart := false, narrowed := true }
def TankHoldsUptoSaid : Prop := tankHoldsUptoRow.holds Try.pinned (OpenSpec.upto tankHoldsSpec)

/-- 'homaruslaw07.TankRoom', WHERE WHAT IT READS IS OF BULK AT MOST 1048576: true; the input reads as it did. -/
def tankRoomUptoRow : OpenClaim := { program := "ytgoiegaobhfocaa", sum := "5c11da76cb8af61e1bd7584a0a3864d182b2bcd7efd8aa425674a3dd9c513130", func := "homarus/homaruslaw07.TankRoom", spec := "tankRoom", unfollowed := true, recurses := true, apart := false, narrowed := true }
def TankRoomUptoSaid : Prop := tankRoomUptoRow.holds Try.pinned (OpenSpec.upto tankRoomSpec)

end Rows
end Go.Proofs.Ytgoiegaobhfocaa
