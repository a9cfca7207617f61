/-
  No cell of these rows narrows 'for every input' (looked for: loops, veiled, ifaces, maps, wideKeys, modest, calm, conditions, laid).
  DERIVED. THE GIVEN ROWS OF THIS SEAT. 6 by the template 'for every input the law returns true; each argument reads behind the call as it read before'; 0 by the template 'total and deterministic' (their statements: YtbkfpdohgjnegaaTotals.lean).
  GIVEN WITH THE SEED: the statements are not yours to turn. If you find one false, say at which input.
  Laid BY PROGRAM, IN A SANDBOX (cutbox-rows.mjs): the forced cells as the released guide's own fill.sh prints them over the translation 3a281db91ce7f089… (all of the seat's roots in one cut). By AI agents, Wed Nov 11 2026. No macro, syntax, notation, axiom, sorry.
-/
import Derived.Test.YtbkfpdohgjnegaaChecked
import GoSem.Claim
import GoSem.ClaimJoined
import GoSem.ClaimMapViews
import Derived.JoinedTies
import Derived.KernelRfl
namespace Go.Proofs.Ytbkfpdohgjnegaa
/- THE CELL 'sum', in the pinned program and in every row, IS THE sha256 OF THE DUMP (.gsa) THAT YtbkfpdohgjnegaaProg.lean LOADS. Nothing in Lean hashes anything: it is a label: what it is worth is what the hold of that sum in a sandbox is worth. -/
noncomputable def Try.pinned : Pinned := { name := "ytbkfpdohgjnegaa", sum := "3a281db91ce7f08997056a8a9c6787027ea38a2cf27f9477b6021cb062a3843c", checked := Try.checked }
namespace Rows
def none {H : Type} : Left H := { results := [], args := [] }

/-- 'furlonglaw.GroupsTells': WHATEVER THE INPUT: true; the input reads as it did. -/
def groupsTellsSpec : ChangeSpec := { name := "groupsTells", fn := fun _ => fun
  | [d1, d2, d3, d4] => { results := [.lit (.bool true)], args := [d1, d2, d3, d4] }
  | _ => none }
def groupsTellsRow : OpenClaim := { program := "ytbkfpdohgjnegaa", sum := "3a281db91ce7f08997056a8a9c6787027ea38a2cf27f9477b6021cb062a3843c", func := "furlong/furlonglaw.GroupsTells", spec := "groupsTells", unfollowed := true, recurses := true, apart := false }
def GroupsTellsSaid : Prop := groupsTellsRow.holds Try.pinned (OpenSpec.ofChange groupsTellsSpec)

/-- ITS FALSE NEIGHBOUR: 'it returns false'. Refute it at one input. -/
def groupsTellsWrong : ChangeSpec := { name := "groupsTells", fn := fun _ => fun
  | [d1, d2, d3, d4] => { results := [.lit (.bool false)], args := [d1, d2, d3, d4] }
  | _ => none }
def GroupsTellsWrongFalsely : Prop := groupsTellsRow.holds Try.pinned (OpenSpec.ofChange groupsTellsWrong)

/-- 'furlonglaw.GroupsOf': WHATEVER THE INPUT: true; the input reads as it did. -/
def groupsOfSpec : ChangeSpec := { name := "groupsOf", fn := fun _ => fun
  | [d1, d2, d3] => { results := [.lit (.bool true)], args := [d1, d2, d3] }
  | _ => none }
def groupsOfRow : OpenClaim := { program := "ytbkfpdohgjnegaa", sum := "3a281db91ce7f08997056a8a9c6787027ea38a2cf27f9477b6021cb062a3843c", func := "furlong/furlonglaw.GroupsOf", spec := "groupsOf", unfollowed := true, recurses := true, apart := false }
def GroupsOfSaid : Prop := groupsOfRow.holds Try.pinned (OpenSpec.ofChange groupsOfSpec)

/-- ITS FALSE NEIGHBOUR: 'it returns false'. Refute it at one input. -/
def groupsOfWrong : ChangeSpec := { name := "groupsOf", fn := fun _ => fun
  | [d1, d2, d3] => { results := [.lit (.bool false)], args := [d1, d2, d3] }
  | _ => none }
def GroupsOfWrongFalsely : Prop := groupsOfRow.holds Try.pinned (OpenSpec.ofChange groupsOfWrong)

/-- 'furlonglaw.GroupsTrue': WHATEVER THE INPUT: true; the input reads as it did. -/
def groupsTrueSpec : ChangeSpec := { name := "groupsTrue", fn := fun _ => fun
  | [d1, d2, d3] => { results := [.lit (.bool true)], args := [d1, d2, d3] }
  | _ => none }
def groupsTrueRow : OpenClaim := { program := "ytbkfpdohgjnegaa", sum := "3a281db91ce7f08997056a8a9c6787027ea38a2cf27f9477b6021cb062a3843c", func := "furlong/furlonglaw.GroupsTrue", spec := "groupsTrue", unfollowed := true, recurses := true, apart := false }
def GroupsTrueSaid : Prop := groupsTrueRow.holds Try.pinned (OpenSpec.ofChange groupsTrueSpec)

/-- ITS FALSE NEIGHBOUR: 'it returns false'. Refute it at one input. -/
def groupsTrueWrong : ChangeSpec := { name := "groupsTrue", fn := fun _ => fun
  | [d1, d2, d3] => { results := [.lit (.bool false)], args := [d1, d2, d3] }
  | _ => none }
def GroupsTrueWrongFalsely : Prop := groupsTrueRow.holds Try.pinned (OpenSpec.ofChange groupsTrueWrong)

/-- 'furlonglaw.MsgTells': WHATEVER THE INPUT: true; the input reads as it did. -/
def msgTellsSpec : ChangeSpec := { name := "msgTells", fn := fun _ => fun
  | [d1, d2, d3, d4] => { results := [.lit (.bool true)], args := [d1, d2, d3, d4] }
  | _ => none }
def msgTellsRow : OpenClaim := { program := "ytbkfpdohgjnegaa", sum := "3a281db91ce7f08997056a8a9c6787027ea38a2cf27f9477b6021cb062a3843c", func := "furlong/furlonglaw.MsgTells", spec := "msgTells", unfollowed := true, recurses := true, apart := false }
def MsgTellsSaid : Prop := msgTellsRow.holds Try.pinned (OpenSpec.ofChange msgTellsSpec)

/-- ITS FALSE NEIGHBOUR: 'it returns false'. Refute it at one input. -/
def msgTellsWrong : ChangeSpec := { name := "msgTells", fn := fun _ => fun
  | [d1, d2, d3, d4] => { results := [.lit (.bool false)], args := [d1, d2, d3, d4] }
  | _ => none }
def MsgTellsWrongFalsely : Prop := msgTellsRow.holds Try.pinned (OpenSpec.ofChange msgTellsWrong)

/-- 'furlonglaw.MsgPuts': WHATEVER THE INPUT: true; the input reads as it did. -/
def msgPutsSpec : ChangeSpec := { name := "msgPuts", fn := fun _ => fun
  | [d1, d2] => { results := [.lit (.bool true)], args := [d1, d2] }
  | _ => none }
def msgPutsRow : OpenClaim := { program := "ytbkfpdohgjnegaa", sum := "3a281db91ce7f08997056a8a9c6787027ea38a2cf27f9477b6021cb062a3843c", func := "furlong/furlonglaw.MsgPuts", spec := "msgPuts", unfollowed := true, recurses := true, apart := false }
def MsgPutsSaid : Prop := msgPutsRow.holds Try.pinned (OpenSpec.ofChange msgPutsSpec)

/-- ITS FALSE NEIGHBOUR: 'it returns false'. Refute it at one input. -/
def msgPutsWrong : ChangeSpec := { name := "msgPuts", fn := fun _ => fun
  | [d1, d2] => { results := [.lit (.bool false)], args := [d1, d2] }
  | _ => none }
def MsgPutsWrongFalsely : Prop := msgPutsRow.holds Try.pinned (OpenSpec.ofChange msgPutsWrong)

/-- 'furlonglaw.MsgTrue': WHATEVER THE INPUT: true; the input reads as it did. -/
def msgTrueSpec : ChangeSpec := { name := "msgTrue", fn := fun _ => fun
  | [d1, d2, d3, d4] => { results := [.lit (.bool true)], args := [d1, d2, d3, d4] }
  | _ => none }
def msgTrueRow : OpenClaim := { program := "ytbkfpdohgjnegaa", sum := "3a281db91ce7f08997056a8a9c6787027ea38a2cf27f9477b6021cb062a3843c", func := "furlong/furlonglaw.MsgTrue", spec := "msgTrue", unfollowed := true, recurses := true, apart := false }
def MsgTrueSaid : Prop := msgTrueRow.holds Try.pinned (OpenSpec.ofChange msgTrueSpec)

/-- ITS FALSE NEIGHBOUR: 'it returns false'. Refute it at one input. -/
def msgTrueWrong : ChangeSpec := { name := "msgTrue", fn := fun _ => fun
  | [d1, d2, d3, d4] => { results := [.lit (.bool false)], args := [d1, d2, d3, d4] }
  | _ => none }
def MsgTrueWrongFalsely : Prop := msgTrueRow.holds Try.pinned (OpenSpec.ofChange msgTrueWrong)

/- THE SECOND FORM. 'bulk': how many values and letters a reading holds, each counted each time it is reached (what is shared counts as often as it is met; a slice's spare places count too). A statement '..UptoSaid' is the law's where the arguments, and the package variables that the reading takes, are together of bulk at most 1048576: NARROWER than '..Said'. Prove '..Said' where nothing that the law and all that it calls make is longer than what came in: it says more and counts as full. Else prove '..UptoSaid'. A law counts once. -/
mutual
def uptoBulk {H : Type} : DataW H → Nat
  | .lit (.string bytes) => bytes.length + 1
  | .lit _ => 1
  | .nil => 1
  | .ptr d => uptoBulk d + 1
  | .slice elems spare => uptoBulkAll elems + uptoBulkAll spare + 1
  | .agg parts => uptoBulkAll parts + 1
  | .iface _ d => uptoBulk d + 1
  | .map entries => uptoBulkEntries entries + 1
  | .held _ => 1
def uptoBulkAll {H : Type} : List (DataW H) → Nat
  | [] => 0
  | d :: r => uptoBulk d + uptoBulkAll r
def uptoBulkEntries {H : Type} : List (Lit × DataW H) → Nat
  | [] => 0
  | x :: r => uptoBulkEntry x + uptoBulkEntries r
def uptoBulkEntry {H : Type} : Lit × DataW H → Nat
  | (.string bytes, d) => bytes.length + uptoBulk d + 1
  | (_, d) => uptoBulk d + 1
 end
def uptoSmall : (H : Type) → List (DataW H) → Bool := fun _ ds => decide (uptoBulkAll ds ≤ 1048576)
def OpenSpec.upto (s : _root_.Go.ChangeSpec) : _root_.Go.OpenSpec := { _root_.Go.OpenSpec.ofChange s with cond := some uptoSmall }

/-- 'furlonglaw.GroupsTells', WHERE WHAT IT READS IS OF BULK AT MOST 1048576: true; the input reads as it did. -/
def groupsTellsUptoRow : OpenClaim := { program := "ytbkfpdohgjnegaa", sum := "3a281db91ce7f08997056a8a9c6787027ea38a2cf27f9477b6021cb062a3843c", func := "furlong/furlonglaw.GroupsTells", spec := "groupsTells", unfollowed := true, recurses := true, apart := false, narrowed := true }
def GroupsTellsUptoSaid : Prop := groupsTellsUptoRow.holds Try.pinned (OpenSpec.upto groupsTellsSpec)

/-- 'furlonglaw.GroupsOf', WHERE WHAT IT READS IS OF BULK AT MOST 1048576: true; the input reads as it did. -/
def groupsOfUptoRow : OpenClaim := { program := "ytbkfpdohgjnegaa", sum := "3a281db91ce7f08997056a8a9c6787027ea38a2cf27f9477b6021cb062a3843c", func := "furlong/furlonglaw.GroupsOf", spec := "groupsOf", unfollowed := true, recurses := true, apart := false, narrowed := true }
def GroupsOfUptoSaid : Prop := groupsOfUptoRow.holds Try.pinned (OpenSpec.upto groupsOfSpec)

/-- 'furlonglaw.GroupsTrue', WHERE WHAT IT READS IS OF BULK AT MOST 1048576: true; the input reads as it did. -/
def groupsTrueUptoRow : OpenClaim := { program := "ytbkfpdohgjnegaa", sum := "3a281db91ce7f08997056a8a9c6787027ea38a2cf27f9477b6021cb062a3843c", func := "furlong/furlonglaw.GroupsTrue", spec := "groupsTrue", unfollowed := true, recurses := true, apart := false, narrowed := true }
def GroupsTrueUptoSaid : Prop := groupsTrueUptoRow.holds Try.pinned (OpenSpec.upto groupsTrueSpec)

/-- 'furlonglaw.MsgTells', WHERE WHAT IT READS IS OF BULK AT MOST 1048576: true; the input reads as it did. -/
def msgTellsUptoRow : OpenClaim := { program := "ytbkfpdohgjnegaa", sum := "3a281db91ce7f08997056a8a9c6787027ea38a2cf27f9477b6021cb062a3843c", func := "furlong/furlonglaw.MsgTells", spec := "msgTells", unfollowed := true, recurses := true, apart := false, narrowed := true }
def MsgTellsUptoSaid : Prop := msgTellsUptoRow.holds Try.pinned (OpenSpec.upto msgTellsSpec)

/-- 'furlonglaw.MsgPuts', WHERE WHAT IT READS IS OF BULK AT MOST 1048576: true; the input reads as it did. -/
def msgPutsUptoRow : OpenClaim := { program := "ytbkfpdohgjnegaa", sum := "3a281db91ce7f08997056a8a9c6787027ea38a2cf27f9477b6021cb062a3843c", func := "furlong/furlonglaw.MsgPuts", spec := "msgPuts", unfollowed := true, recurses := true, apart := false, narrowed := true }
def MsgPutsUptoSaid : Prop := msgPutsUptoRow.holds Try.pinned (OpenSpec.upto msgPutsSpec)

/-- 'furlonglaw.MsgTrue', WHERE WHAT IT READS IS OF BULK AT MOST 1048576: true; the input reads as it did. -/
def msgTrueUptoRow : OpenClaim := { program := "ytbkfpdohgjnegaa", sum := "3a281db91ce7f08997056a8a9c6787027ea38a2cf27f9477b6021cb062a3843c", func := "furlong/furlonglaw.MsgTrue", spec := "msgTrue", unfollowed := true, recurses := true, apart := false, narrowed := true }
def MsgTrueUptoSaid : Prop := msgTrueUptoRow.holds Try.pinned (OpenSpec.upto msgTrueSpec)

end Rows
end Go.Proofs.Ytbkfpdohgjnegaa
