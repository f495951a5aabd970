/-
  No cell of these rows narrows 'for every input' (looked for: loops, veiled, ifaces, maps, wideKeys, modest, calm, conditions, laid).
  DERIVED. THE GIVEN ROWS OF THIS SEAT. 2 by the template 'for every input the law returns true; each argument reads behind the call as it read before'; 0 by the template 'total and deterministic' (their statements: YtoagogieidfagaaTotals.lean).
  GIVEN WITH THE SEED: the statements are not yours to turn. If you find one false, say at which input.
  Laid BY PROGRAM, IN A SANDBOX (cutbox-rows.mjs): the forced cells as the released guide's own fill.sh prints them over the translation 780d17b3b7dacbd0… (all of the seat's roots in one cut). By AI agents, Wed Nov 11 2026. No macro, syntax, notation, axiom, sorry.
-/
import Derived.Test.YtoagogieidfagaaChecked
import GoSem.Claim
import GoSem.ClaimJoined
import GoSem.ClaimMapViews
import Derived.JoinedTies
import Derived.KernelRfl
namespace Go.Proofs.Ytoagogieidfagaa
/- THE CELL 'sum', in the pinned program and in every row, IS THE sha256 OF THE DUMP (.gsa) THAT YtoagogieidfagaaProg.lean LOADS. Nothing in Lean hashes anything: it is a label: what it is worth is what the hold of that sum in a sandbox is worth. -/
noncomputable def Try.pinned : Pinned := { name := "ytoagogieidfagaa", sum := "780d17b3b7dacbd0b049a6e295b80ccd22daa7621d9f6ad82bcb68e481ffc23d", checked := Try.checked }
namespace Rows
def none {H : Type} : Left H := { results := [], args := [] }

/-- 'homaruslaw02.GroundChanges': WHATEVER THE INPUT: true; the input reads as it did. -/
def groundChangesSpec : ChangeSpec := { name := "groundChanges", fn := fun _ => fun
  | [d] => { results := [.lit (.bool true)], args := [d] }
  | _ => none }
def groundChangesRow : OpenClaim := { program := "ytoagogieidfagaa", sum := "780d17b3b7dacbd0b049a6e295b80ccd22daa7621d9f6ad82bcb68e481ffc23d", func := "homarus/homaruslaw02.GroundChanges", spec := "groundChanges", unfollowed := true, recurses := true, plainKeys := false, apart := false }
def GroundChangesSaid : Prop := groundChangesRow.holds Try.pinned (OpenSpec.ofChange groundChangesSpec)

/-- ITS FALSE NEIGHBOUR: 'it returns false'. Refute it at one input. -/
def groundChangesWrong : ChangeSpec := { name := "groundChanges", fn := fun _ => fun
  | [d] => { results := [.lit (.bool false)], args := [d] }
  | _ => none }
def GroundChangesWrongFalsely : Prop := groundChangesRow.holds Try.pinned (OpenSpec.ofChange groundChangesWrong)

/-- 'homaruslaw02.GroundWhere': WHATEVER THE INPUT: true; the input reads as it did. -/
def groundWhereSpec : ChangeSpec := { name := "groundWhere", fn := fun _ => fun
  | [d1, d2, d3, d4, d5, d6] => { results := [.lit (.bool true)], args := [d1, d2, d3, d4, d5, d6] }
  | _ => none }
def groundWhereRow : OpenClaim := { program := "ytoagogieidfagaa", sum := "780d17b3b7dacbd0b049a6e295b80ccd22daa7621d9f6ad82bcb68e481ffc23d", func := "homarus/homaruslaw02.GroundWhere", spec := "groundWhere", unfollowed := true, recurses := true, plainKeys := false, apart := false }
def GroundWhereSaid : Prop := groundWhereRow.holds Try.pinned (OpenSpec.ofChange groundWhereSpec)

/-- ITS FALSE NEIGHBOUR: 'it returns false'. Refute it at one input. -/
def groundWhereWrong : ChangeSpec := { name := "groundWhere", fn := fun _ => fun
  | [d1, d2, d3, d4, d5, d6] => { results := [.lit (.bool false)], args := [d1, d2, d3, d4, d5, d6] }
  | _ => none }
def GroundWhereWrongFalsely : Prop := groundWhereRow.holds Try.pinned (OpenSpec.ofChange groundWhereWrong)

/- THE SECOND FORM. 'bulk': how many values and letters a reading holds, each counted each time it is reached (what is shared counts as often as it is met; a slice's spare places count too). A statement '..UptoSaid' is the law's where the arguments, and the package variables that the reading takes, are together of bulk at most 1048576: NARROWER than '..Said'. Prove '..Said' where nothing that the law and all that it calls make is longer than what came in: it says more and counts as full. Else prove '..UptoSaid'. A law counts once. -/
mutual
def uptoBulk {H : Type} : DataW H → Nat
  | .lit (.string bytes) => bytes.length + 1
  | .lit _ => 1
  | .nil => 1
  | .ptr d => uptoBulk d + 1
  | .slice elems spare => uptoBulkAll elems + uptoBulkAll spare + 1
  | .agg parts => uptoBulkAll parts + 1
  | .iface _ d => uptoBulk d + 1
  | .map entries => uptoBulkEntries entries + 1
  | .held _ => 1
def uptoBulkAll {H : Type} : List (DataW H) → Nat
  | [] => 0
  | d :: r => uptoBulk d + uptoBulkAll r
def uptoBulkEntries {H : Type} : List (Lit × DataW H) → Nat
  | [] => 0
  | x :: r => uptoBulkEntry x + uptoBulkEntries r
def uptoBulkEntry {H : Type} : Lit × DataW H → Nat
  | (.string bytes, d) => bytes.length + uptoBulk d + 1
  | (_, d) => uptoBulk d + 1
 end
def uptoSmall : (H : Type) → List (DataW H) → Bool := fun _ ds => decide (uptoBulkAll ds ≤ 1048576)
def OpenSpec.upto (s : _root_.Go.ChangeSpec) : _root_.Go.OpenSpec := { _root_.Go.OpenSpec.ofChange s with cond := some uptoSmall }

/-- 'homaruslaw02.GroundChanges', WHERE WHAT IT READS IS OF BULK AT MOST 1048576: true; the input reads as it did. -/
def groundChangesUptoRow : OpenClaim := { program := "ytoagogieidfagaa", sum := "780d17b3b7dacbd0b049a6e295b80ccd22daa7621d9f6ad82bcb68e481ffc23d", func := "homarus/homaruslaw02.GroundChanges", spec := "groundChanges", unfollowed := true, recurses := true, plainKeys := false, apart := false, narrowed := true }
def GroundChangesUptoSaid : Prop := groundChangesUptoRow.holds Try.pinned (OpenSpec.upto groundChangesSpec)

/-- 'homaruslaw02.GroundWhere', WHERE WHAT IT READS IS OF BULK AT MOST 1048576: true; the input reads as it did. -/
def groundWhereUptoRow : OpenClaim := { program := "ytoagogieidfagaa", sum := "780d17b3b7dacbd0b049a6e295b80ccd22daa7621d9f6ad82bcb68e481ffc23d", func := "homarus/homaruslaw02.GroundWhere", spec := "groundWhere", unfollowed := true, recurses := true, plainKeys := false, apart := false, narrowed := true }
def GroundWhereUptoSaid : Prop := groundWhereUptoRow.holds Try.pinned (OpenSpec.upto groundWhereSpec)

end Rows
end Go.Proofs.Ytoagogieidfagaa
