/-
  No cell of these rows narrows 'for every input' (looked for: loops, veiled, ifaces, maps, wideKeys, modest, calm, conditions, laid).
  DERIVED. THE GIVEN ROWS OF THIS SEAT. 6 by the template 'for every input the law returns true; each argument reads behind the call as it read before'; 0 by the template 'total and deterministic' (their statements: YtjgllojnbinchaaTotals.lean).
  GIVEN WITH THE SEED: the statements are not yours to turn. If you find one false, say at which input.
  Laid BY PROGRAM, IN A SANDBOX (cutbox-rows.mjs): the forced cells as the released guide's own fill.sh prints them over the translation 242d44705302fca7… (all of the seat's roots in one cut). By AI agents, Wed Nov 11 2026. No macro, syntax, notation, axiom, sorry.
-/
import Derived.Test.YtjgllojnbinchaaChecked
import GoSem.Claim
import GoSem.ClaimJoined
import GoSem.ClaimMapViews
import Derived.JoinedTies
import Derived.KernelRfl
namespace Go.Proofs.Ytjgllojnbinchaa
/- THE CELL 'sum', in the pinned program and in every row, IS THE sha256 OF THE DUMP (.gsa) THAT YtjgllojnbinchaaProg.lean LOADS. Nothing in Lean hashes anything: it is a label: what it is worth is what the hold of that sum in a sandbox is worth. -/
noncomputable def Try.pinned : Pinned := { name := "ytjgllojnbinchaa", sum := "242d44705302fca79412711d44d13dab23c4ff4e9beeb5ad37e85b5bb6943555", checked := Try.checked }
namespace Rows
def none {H : Type} : Left H := { results := [], args := [] }

/-- 'homaruslaw09.CoopMotions': WHATEVER THE INPUT: true; the input reads as it did. -/
def coopMotionsSpec : ChangeSpec := { name := "coopMotions", fn := fun _ => fun
  | [d1, d2, d3, d4, d5, d6] => { results := [.lit (.bool true)], args := [d1, d2, d3, d4, d5, d6] }
  | _ => none }
def coopMotionsRow : OpenClaim := { program := "ytjgllojnbinchaa", sum := "242d44705302fca79412711d44d13dab23c4ff4e9beeb5ad37e85b5bb6943555", func := "homarus/homaruslaw09.CoopMotions", spec := "coopMotions", unfollowed := true, recurses := true, apart := false }
def CoopMotionsSaid : Prop := coopMotionsRow.holds Try.pinned (OpenSpec.ofChange coopMotionsSpec)

/-- ITS FALSE NEIGHBOUR: 'it returns false'. Refute it at one input. -/
def coopMotionsWrong : ChangeSpec := { name := "coopMotions", fn := fun _ => fun
  | [d1, d2, d3, d4, d5, d6] => { results := [.lit (.bool false)], args := [d1, d2, d3, d4, d5, d6] }
  | _ => none }
def CoopMotionsWrongFalsely : Prop := coopMotionsRow.holds Try.pinned (OpenSpec.ofChange coopMotionsWrong)

/-- 'homaruslaw09.CoopClaims': WHATEVER THE INPUT: true; the input reads as it did. -/
def coopClaimsSpec : ChangeSpec := { name := "coopClaims", fn := fun _ => fun
  | [d1, d2, d3] => { results := [.lit (.bool true)], args := [d1, d2, d3] }
  | _ => none }
def coopClaimsRow : OpenClaim := { program := "ytjgllojnbinchaa", sum := "242d44705302fca79412711d44d13dab23c4ff4e9beeb5ad37e85b5bb6943555", func := "homarus/homaruslaw09.CoopClaims", spec := "coopClaims", unfollowed := true, recurses := true, apart := false }
def CoopClaimsSaid : Prop := coopClaimsRow.holds Try.pinned (OpenSpec.ofChange coopClaimsSpec)

/-- ITS FALSE NEIGHBOUR: 'it returns false'. Refute it at one input. -/
def coopClaimsWrong : ChangeSpec := { name := "coopClaims", fn := fun _ => fun
  | [d1, d2, d3] => { results := [.lit (.bool false)], args := [d1, d2, d3] }
  | _ => none }
def CoopClaimsWrongFalsely : Prop := coopClaimsRow.holds Try.pinned (OpenSpec.ofChange coopClaimsWrong)

/-- 'homaruslaw09.CoopBonus': WHATEVER THE INPUT: true; the input reads as it did. -/
def coopBonusSpec : ChangeSpec := { name := "coopBonus", fn := fun _ => fun
  | [d] => { results := [.lit (.bool true)], args := [d] }
  | _ => none }
def coopBonusRow : OpenClaim := { program := "ytjgllojnbinchaa", sum := "242d44705302fca79412711d44d13dab23c4ff4e9beeb5ad37e85b5bb6943555", func := "homarus/homaruslaw09.CoopBonus", spec := "coopBonus", unfollowed := true, recurses := true, apart := false }
def CoopBonusSaid : Prop := coopBonusRow.holds Try.pinned (OpenSpec.ofChange coopBonusSpec)

/-- ITS FALSE NEIGHBOUR: 'it returns false'. Refute it at one input. -/
def coopBonusWrong : ChangeSpec := { name := "coopBonus", fn := fun _ => fun
  | [d] => { results := [.lit (.bool false)], args := [d] }
  | _ => none }
def CoopBonusWrongFalsely : Prop := coopBonusRow.holds Try.pinned (OpenSpec.ofChange coopBonusWrong)

/-- 'homaruslaw09.CoopVotes': WHATEVER THE INPUT: true; the input reads as it did. -/
def coopVotesSpec : ChangeSpec := { name := "coopVotes", fn := fun _ => fun
  | [d] => { results := [.lit (.bool true)], args := [d] }
  | _ => none }
def coopVotesRow : OpenClaim := { program := "ytjgllojnbinchaa", sum := "242d44705302fca79412711d44d13dab23c4ff4e9beeb5ad37e85b5bb6943555", func := "homarus/homaruslaw09.CoopVotes", spec := "coopVotes", unfollowed := true, recurses := true, apart := false }
def CoopVotesSaid : Prop := coopVotesRow.holds Try.pinned (OpenSpec.ofChange coopVotesSpec)

/-- ITS FALSE NEIGHBOUR: 'it returns false'. Refute it at one input. -/
def coopVotesWrong : ChangeSpec := { name := "coopVotes", fn := fun _ => fun
  | [d] => { results := [.lit (.bool false)], args := [d] }
  | _ => none }
def CoopVotesWrongFalsely : Prop := coopVotesRow.holds Try.pinned (OpenSpec.ofChange coopVotesWrong)

/-- 'homaruslaw09.CoopSwing': WHATEVER THE INPUT: true; the input reads as it did. -/
def coopSwingSpec : ChangeSpec := { name := "coopSwing", fn := fun _ => fun
  | [d] => { results := [.lit (.bool true)], args := [d] }
  | _ => none }
def coopSwingRow : OpenClaim := { program := "ytjgllojnbinchaa", sum := "242d44705302fca79412711d44d13dab23c4ff4e9beeb5ad37e85b5bb6943555", func := "homarus/homaruslaw09.CoopSwing", spec := "coopSwing", unfollowed := true, recurses := true, apart := false }
def CoopSwingSaid : Prop := coopSwingRow.holds Try.pinned (OpenSpec.ofChange coopSwingSpec)

/-- ITS FALSE NEIGHBOUR: 'it returns false'. Refute it at one input. -/
def coopSwingWrong : ChangeSpec := { name := "coopSwing", fn := fun _ => fun
  | [d] => { results := [.lit (.bool false)], args := [d] }
  | _ => none }
def CoopSwingWrongFalsely : Prop := coopSwingRow.holds Try.pinned (OpenSpec.ofChange coopSwingWrong)

/-- 'homaruslaw09.CoopSettled': WHATEVER THE INPUT: true; the input reads as it did. -/
def coopSettledSpec : ChangeSpec := { name := "coopSettled", fn := fun _ => fun
  | [d] => { results := [.lit (.bool true)], args := [d] }
  | _ => none }
def coopSettledRow : OpenClaim := { program := "ytjgllojnbinchaa", sum := "242d44705302fca79412711d44d13dab23c4ff4e9beeb5ad37e85b5bb6943555", func := "homarus/homaruslaw09.CoopSettled", spec := "coopSettled", unfollowed := true, recurses := true, apart := false }
def CoopSettledSaid : Prop := coopSettledRow.holds Try.pinned (OpenSpec.ofChange coopSettledSpec)

/-- ITS FALSE NEIGHBOUR: 'it returns false'. Refute it at one input. -/
def coopSettledWrong : ChangeSpec := { name := "coopSettled", fn := fun _ => fun
  | [d] => { results := [.lit (.bool false)], args := [d] }
  | _ => none }
def CoopSettledWrongFalsely : Prop := coopSettledRow.holds Try.pinned (OpenSpec.ofChange coopSettledWrong)

/- THE SECOND FORM. 'bulk': how many values and letters a reading holds, each counted each time it is reached (what is shared counts as often as it is met; a slice's spare places count too). A statement '..UptoSaid' is the law's where the arguments, and the package variables that the reading takes, are together of bulk at most 1048576: NARROWER than '..Said'. Prove '..Said' where nothing that the law and all that it calls make is longer than what came in: it says more and counts as full. Else prove '..UptoSaid'. A law counts once. -/
mutual
def uptoBulk {H : Type} : DataW H → Nat
  | .lit (.string bytes) => bytes.length + 1
  | .lit _ => 1
  | .nil => 1
  | .ptr d => uptoBulk d + 1
  | .slice elems spare => uptoBulkAll elems + uptoBulkAll spare + 1
  | .agg parts => uptoBulkAll parts + 1
  | .iface _ d => uptoBulk d + 1
  | .map entries => uptoBulkEntries entries + 1
  | .held _ => 1
def uptoBulkAll {H : Type} : List (DataW H) → Nat
  | [] => 0
  | d :: r => uptoBulk d + uptoBulkAll r
def uptoBulkEntries {H : Type} : List (Lit × DataW H) → Nat
  | [] => 0
  | x :: r => uptoBulkEntry x + uptoBulkEntries r
def uptoBulkEntry {H : Type} : Lit × DataW H → Nat
  | (.string bytes, d) => bytes.length + uptoBulk d + 1
  | (_, d) => uptoBulk d + 1
 end
def uptoSmall : (H : Type) → List (DataW H) → Bool := fun _ ds => decide (uptoBulkAll ds ≤ 1048576)
def OpenSpec.upto (s : _root_.Go.ChangeSpec) : _root_.Go.OpenSpec := { _root_.Go.OpenSpec.ofChange s with cond := some uptoSmall }

/-- 'homaruslaw09.CoopMotions', WHERE WHAT IT READS IS OF BULK AT MOST 1048576: true; the input reads as it did. -/
def coopMotionsUptoRow : OpenClaim := { program := "ytjgllojnbinchaa", sum := "242d44705302fca79412711d44d13dab23c4ff4e9beeb5ad37e85b5bb6943555", func := "homarus/homaruslaw09.CoopMotions", spec := "coopMotions", unfollowed := true, recurses := true, apart := false, narrowed := true }
def CoopMotionsUptoSaid : Prop := coopMotionsUptoRow.holds Try.pinned (OpenSpec.upto coopMotionsSpec)

/-- 'homaruslaw09.CoopClaims', WHERE WHAT IT READS IS OF BULK AT MOST 1048576: true; the input reads as it did. -/
def coopClaimsUptoRow : OpenClaim := { program := "ytjgllojnbinchaa", sum := "242d44705302fca79412711d44d13dab23c4ff4e9beeb5ad37e85b5bb6943555", func := "homarus/homaruslaw09.CoopClaims", spec := "coopClaims", unfollowed := true, recurses := true, apart := false, narrowed := true }
def CoopClaimsUptoSaid : Prop := coopClaimsUptoRow.holds Try.pinned (OpenSpec.upto coopClaimsSpec)

/-- 'homaruslaw09.CoopBonus', WHERE WHAT IT READS IS OF BULK AT MOST 1048576: true; the input reads as it did. -/
def coopBonusUptoRow : OpenClaim := { program := "ytjgllojnbinchaa", sum := "242d44705302fca79412711d44d13dab23c4ff4e9beeb5ad37e85b5bb6943555", func := "homarus/homaruslaw09.CoopBonus", spec := "coopBonus", unfollowed := true, recurses := true, apart := false, narrowed := true }
def CoopBonusUptoSaid : Prop := coopBonusUptoRow.holds Try.pinned (OpenSpec.upto coopBonusSpec)

/-- 'homaruslaw09.CoopVotes', WHERE WHAT IT READS IS OF BULK AT MOST 1048576: true; the input reads as it did. -/
def coopVotesUptoRow : OpenClaim := { program := "ytjgllojnbinchaa", sum := "242d44705302fca79412711d44d13dab23c4ff4e9beeb5ad37e85b5bb6943555", func := "homarus/homaruslaw09.CoopVotes", spec := "coopVotes", unfollowed := true, recurses := true, apart := false, narrowed := true }
def CoopVotesUptoSaid : Prop := coopVotesUptoRow.holds Try.pinned (OpenSpec.upto coopVotesSpec)

/-- 'homaruslaw09.CoopSwing', WHERE WHAT IT READS IS OF BULK AT MOST 1048576: true; the input reads as it did. -/
def coopSwingUptoRow : OpenClaim := { program := "ytjgllojnbinchaa", sum := "242d44705302fca79412711d44d13dab23c4ff4e9beeb5ad37e85b5bb6943555", func := "homarus/homaruslaw09.CoopSwing", spec := "coopSwing", unfollowed := true, recurses := true, apart := false, narrowed := true }
def CoopSwingUptoSaid : Prop := coopSwingUptoRow.holds Try.pinned (OpenSpec.upto coopSwingSpec)

/-- 'homaruslaw09.CoopSettled', WHERE WHAT IT READS IS OF BULK AT MOST 1048576: true; the input reads as it did. -/
def coopSettledUptoRow : OpenClaim := { program := "ytjgllojnbinchaa", sum := "242d44705302fca79412711d44d13dab23c4ff4e9beeb5ad37e85b5bb6943555", func := "homarus/homaruslaw09.CoopSettled", spec := "coopSettled", unfollowed := true, recurses := true, apart := false, narrowed := true }
def CoopSettledUptoSaid : Prop := coopSettledUptoRow.holds Try.pinned (OpenSpec.upto coopSettledSpec)

end Rows
end Go.Proofs.Ytjgllojnbinchaa
