/-
  No cell of these rows narrows 'for every input' (looked for: loops, veiled, ifaces, maps, wideKeys, modest, calm, conditions, laid).
  DERIVED. THE GIVEN ROWS OF THIS SEAT. 9 by the template 'for every input the law returns true; each argument reads behind the call as it read before'; 0 by the template 'total and deterministic' (their statements: YtiiifecfdkjmbaaTotals.lean).
  GIVEN WITH THE SEED: the statements are not yours to turn. If you find one false, say at which input.
  Laid BY PROGRAM, IN A SANDBOX (cutbox-rows.mjs): the forced cells as the released guide's own fill.sh prints them over the translation 6efd7d2bea97cc72… (all of the seat's roots in one cut). By AI agents, Wed Nov 11 2026. No macro, syntax, notation, axiom, sorry.
-/
import Derived.Test.YtiiifecfdkjmbaaChecked
import GoSem.Claim
import GoSem.ClaimJoined
import GoSem.ClaimMapViews
import Derived.JoinedTies
import Derived.KernelRfl
namespace Go.Proofs.Ytiiifecfdkjmbaa
/- THE CELL 'sum', in the pinned program and in every row, IS THE sha256 OF THE DUMP (.gsa) THAT YtiiifecfdkjmbaaProg.lean LOADS. Nothing in Lean hashes anything: it is a label: what it is worth is what the hold of that sum in a sandbox is worth. -/
noncomputable def Try.pinned : Pinned := { name := "ytiiifecfdkjmbaa", sum := "6efd7d2bea97cc72ebf645d539d7e58fc5306a8ed2e34cd2c2e23a8024eea538", checked := Try.checked }
namespace Rows
def none {H : Type} : Left H := { results := [], args := [] }

/-- 'furlonglaw.WorldTells': WHATEVER THE INPUT: true; the input reads as it did. -/
def worldTellsSpec : ChangeSpec := { name := "worldTells", fn := fun _ => fun
  | [d1, d2, d3] => { results := [.lit (.bool true)], args := [d1, d2, d3] }
  | _ => none }
def worldTellsRow : OpenClaim := { program := "ytiiifecfdkjmbaa", sum := "6efd7d2bea97cc72ebf645d539d7e58fc5306a8ed2e34cd2c2e23a8024eea538", func := "furlong/furlonglaw.WorldTells", spec := "worldTells", unfollowed := true, recurses := true, plainKeys := false, apart := false }
def WorldTellsSaid : Prop := worldTellsRow.holds Try.pinned (OpenSpec.ofChange worldTellsSpec)

/-- ITS FALSE NEIGHBOUR: 'it returns false'. Refute it at one input. -/
def worldTellsWrong : ChangeSpec := { name := "worldTells", fn := fun _ => fun
  | [d1, d2, d3] => { results := [.lit (.bool false)], args := [d1, d2, d3] }
  | _ => none }
def WorldTellsWrongFalsely : Prop := worldTellsRow.holds Try.pinned (OpenSpec.ofChange worldTellsWrong)

/-- 'furlonglaw.BoundOf': WHATEVER THE INPUT: true; the input reads as it did. -/
def boundOfSpec : ChangeSpec := { name := "boundOf", fn := fun _ => fun
  | [d1, d2] => { results := [.lit (.bool true)], args := [d1, d2] }
  | _ => none }
def boundOfRow : OpenClaim := { program := "ytiiifecfdkjmbaa", sum := "6efd7d2bea97cc72ebf645d539d7e58fc5306a8ed2e34cd2c2e23a8024eea538", func := "furlong/furlonglaw.BoundOf", spec := "boundOf", unfollowed := true, recurses := true, plainKeys := false, apart := false }
def BoundOfSaid : Prop := boundOfRow.holds Try.pinned (OpenSpec.ofChange boundOfSpec)

/-- ITS FALSE NEIGHBOUR: 'it returns false'. Refute it at one input. -/
def boundOfWrong : ChangeSpec := { name := "boundOf", fn := fun _ => fun
  | [d1, d2] => { results := [.lit (.bool false)], args := [d1, d2] }
  | _ => none }
def BoundOfWrongFalsely : Prop := boundOfRow.holds Try.pinned (OpenSpec.ofChange boundOfWrong)

/-- 'furlonglaw.BoundReady': WHATEVER THE INPUT: true; the input reads as it did. -/
def boundReadySpec : ChangeSpec := { name := "boundReady", fn := fun _ => fun
  | [d1, d2] => { results := [.lit (.bool true)], args := [d1, d2] }
  | _ => none }
def boundReadyRow : OpenClaim := { program := "ytiiifecfdkjmbaa", sum := "6efd7d2bea97cc72ebf645d539d7e58fc5306a8ed2e34cd2c2e23a8024eea538", func := "furlong/furlonglaw.BoundReady", spec := "boundReady", unfollowed := true, recurses := true, plainKeys := false, apart := false }
def BoundReadySaid : Prop := boundReadyRow.holds Try.pinned (OpenSpec.ofChange boundReadySpec)

/-- ITS FALSE NEIGHBOUR: 'it returns false'. Refute it at one input. -/
def boundReadyWrong : ChangeSpec := { name := "boundReady", fn := fun _ => fun
  | [d1, d2] => { results := [.lit (.bool false)], args := [d1, d2] }
  | _ => none }
def BoundReadyWrongFalsely : Prop := boundReadyRow.holds Try.pinned (OpenSpec.ofChange boundReadyWrong)

/-- 'furlonglaw.BoundTrue': WHATEVER THE INPUT: true; the input reads as it did. -/
def boundTrueSpec : ChangeSpec := { name := "boundTrue", fn := fun _ => fun
  | [d1, d2] => { results := [.lit (.bool true)], args := [d1, d2] }
  | _ => none }
def boundTrueRow : OpenClaim := { program := "ytiiifecfdkjmbaa", sum := "6efd7d2bea97cc72ebf645d539d7e58fc5306a8ed2e34cd2c2e23a8024eea538", func := "furlong/furlonglaw.BoundTrue", spec := "boundTrue", unfollowed := true, recurses := true, plainKeys := false, apart := false }
def BoundTrueSaid : Prop := boundTrueRow.holds Try.pinned (OpenSpec.ofChange boundTrueSpec)

/-- ITS FALSE NEIGHBOUR: 'it returns false'. Refute it at one input. -/
def boundTrueWrong : ChangeSpec := { name := "boundTrue", fn := fun _ => fun
  | [d1, d2] => { results := [.lit (.bool false)], args := [d1, d2] }
  | _ => none }
def BoundTrueWrongFalsely : Prop := boundTrueRow.holds Try.pinned (OpenSpec.ofChange boundTrueWrong)

/-- 'furlonglaw.TellTells': WHATEVER THE INPUT: true; the input reads as it did. -/
def tellTellsSpec : ChangeSpec := { name := "tellTells", fn := fun _ => fun
  | [d1, d2] => { results := [.lit (.bool true)], args := [d1, d2] }
  | _ => none }
def tellTellsRow : OpenClaim := { program := "ytiiifecfdkjmbaa", sum := "6efd7d2bea97cc72ebf645d539d7e58fc5306a8ed2e34cd2c2e23a8024eea538", func := "furlong/furlonglaw.TellTells", spec := "tellTells", unfollowed := true, recurses := true, plainKeys := false, apart := false }
def TellTellsSaid : Prop := tellTellsRow.holds Try.pinned (OpenSpec.ofChange tellTellsSpec)

/-- ITS FALSE NEIGHBOUR: 'it returns false'. Refute it at one input. -/
def tellTellsWrong : ChangeSpec := { name := "tellTells", fn := fun _ => fun
  | [d1, d2] => { results := [.lit (.bool false)], args := [d1, d2] }
  | _ => none }
def TellTellsWrongFalsely : Prop := tellTellsRow.holds Try.pinned (OpenSpec.ofChange tellTellsWrong)

/-- 'furlonglaw.TellTrue': WHATEVER THE INPUT: true; the input reads as it did. -/
def tellTrueSpec : ChangeSpec := { name := "tellTrue", fn := fun _ => fun
  | [d1, d2] => { results := [.lit (.bool true)], args := [d1, d2] }
  | _ => none }
def tellTrueRow : OpenClaim := { program := "ytiiifecfdkjmbaa", sum := "6efd7d2bea97cc72ebf645d539d7e58fc5306a8ed2e34cd2c2e23a8024eea538", func := "furlong/furlonglaw.TellTrue", spec := "tellTrue", unfollowed := true, recurses := true, plainKeys := false, apart := false }
def TellTrueSaid : Prop := tellTrueRow.holds Try.pinned (OpenSpec.ofChange tellTrueSpec)

/-- ITS FALSE NEIGHBOUR: 'it returns false'. Refute it at one input. -/
def tellTrueWrong : ChangeSpec := { name := "tellTrue", fn := fun _ => fun
  | [d1, d2] => { results := [.lit (.bool false)], args := [d1, d2] }
  | _ => none }
def TellTrueWrongFalsely : Prop := tellTrueRow.holds Try.pinned (OpenSpec.ofChange tellTrueWrong)

/-- 'furlonglaw.CastTrue': WHATEVER THE INPUT: true; the input reads as it did. -/
def castTrueSpec : ChangeSpec := { name := "castTrue", fn := fun _ => fun
  | [d1, d2, d3, d4] => { results := [.lit (.bool true)], args := [d1, d2, d3, d4] }
  | _ => none }
def castTrueRow : OpenClaim := { program := "ytiiifecfdkjmbaa", sum := "6efd7d2bea97cc72ebf645d539d7e58fc5306a8ed2e34cd2c2e23a8024eea538", func := "furlong/furlonglaw.CastTrue", spec := "castTrue", unfollowed := true, recurses := true, plainKeys := false, apart := false }
def CastTrueSaid : Prop := castTrueRow.holds Try.pinned (OpenSpec.ofChange castTrueSpec)

/-- ITS FALSE NEIGHBOUR: 'it returns false'. Refute it at one input. -/
def castTrueWrong : ChangeSpec := { name := "castTrue", fn := fun _ => fun
  | [d1, d2, d3, d4] => { results := [.lit (.bool false)], args := [d1, d2, d3, d4] }
  | _ => none }
def CastTrueWrongFalsely : Prop := castTrueRow.holds Try.pinned (OpenSpec.ofChange castTrueWrong)

/-- 'furlonglaw.CauseTrue': WHATEVER THE INPUT: true; the input reads as it did. -/
def causeTrueSpec : ChangeSpec := { name := "causeTrue", fn := fun _ => fun
  | [d1, d2, d3, d4, d5, d6] => { results := [.lit (.bool true)], args := [d1, d2, d3, d4, d5, d6] }
  | _ => none }
def causeTrueRow : OpenClaim := { program := "ytiiifecfdkjmbaa", sum := "6efd7d2bea97cc72ebf645d539d7e58fc5306a8ed2e34cd2c2e23a8024eea538", func := "furlong/furlonglaw.CauseTrue", spec := "causeTrue", inPlace := ["maps.clone"], unfollowed := true, recurses := true, plainKeys := false, apart := false }
def CauseTrueSaid : Prop := causeTrueRow.holds Try.pinned (OpenSpec.ofChange causeTrueSpec)

/-- ITS FALSE NEIGHBOUR: 'it returns false'. Refute it at one input. -/
def causeTrueWrong : ChangeSpec := { name := "causeTrue", fn := fun _ => fun
  | [d1, d2, d3, d4, d5, d6] => { results := [.lit (.bool false)], args := [d1, d2, d3, d4, d5, d6] }
  | _ => none }
def CauseTrueWrongFalsely : Prop := causeTrueRow.holds Try.pinned (OpenSpec.ofChange causeTrueWrong)

/-- 'furlonglaw.WireBack': WHATEVER THE INPUT: true; the input reads as it did. -/
def wireBackSpec : ChangeSpec := { name := "wireBack", fn := fun _ => fun
  | [d1, d2] => { results := [.lit (.bool true)], args := [d1, d2] }
  | _ => none }
def wireBackRow : OpenClaim := { program := "ytiiifecfdkjmbaa", sum := "6efd7d2bea97cc72ebf645d539d7e58fc5306a8ed2e34cd2c2e23a8024eea538", func := "furlong/furlonglaw.WireBack", spec := "wireBack", unfollowed := true, recurses := true, plainKeys := false, apart := false }
def WireBackSaid : Prop := wireBackRow.holds Try.pinned (OpenSpec.ofChange wireBackSpec)

/-- ITS FALSE NEIGHBOUR: 'it returns false'. Refute it at one input. -/
def wireBackWrong : ChangeSpec := { name := "wireBack", fn := fun _ => fun
  | [d1, d2] => { results := [.lit (.bool false)], args := [d1, d2] }
  | _ => none }
def WireBackWrongFalsely : Prop := wireBackRow.holds Try.pinned (OpenSpec.ofChange wireBackWrong)

/- THE SECOND FORM. 'bulk': how many values and letters a reading holds, each counted each time it is reached (what is shared counts as often as it is met; a slice's spare places count too). A statement '..UptoSaid' is the law's where the arguments, and the package variables that the reading takes, are together of bulk at most 1048576: NARROWER than '..Said'. Prove '..Said' where nothing that the law and all that it calls make is longer than what came in: it says more and counts as full. Else prove '..UptoSaid'. A law counts once. -/
mutual
def uptoBulk {H : Type} : DataW H → Nat
  | .lit (.string bytes) => bytes.length + 1
  | .lit _ => 1
  | .nil => 1
  | .ptr d => uptoBulk d + 1
  | .slice elems spare => uptoBulkAll elems + uptoBulkAll spare + 1
  | .agg parts => uptoBulkAll parts + 1
  | .iface _ d => uptoBulk d + 1
  | .map entries => uptoBulkEntries entries + 1
  | .held _ => 1
def uptoBulkAll {H : Type} : List (DataW H) → Nat
  | [] => 0
  | d :: r => uptoBulk d + uptoBulkAll r
def uptoBulkEntries {H : Type} : List (Lit × DataW H) → Nat
  | [] => 0
  | x :: r => uptoBulkEntry x + uptoBulkEntries r
def uptoBulkEntry {H : Type} : Lit × DataW H → Nat
  | (.string bytes, d) => bytes.length + uptoBulk d + 1
  | (_, d) => uptoBulk d + 1
 end
def uptoSmall : (H : Type) → List (DataW H) → Bool := fun _ ds => decide (uptoBulkAll ds ≤ 1048576)
def OpenSpec.upto (s : _root_.Go.ChangeSpec) : _root_.Go.OpenSpec := { _root_.Go.OpenSpec.ofChange s with cond := some uptoSmall }

/-- 'furlonglaw.WorldTells', WHERE WHAT IT READS IS OF BULK AT MOST 1048576: true; the input reads as it did. -/
def worldTellsUptoRow : OpenClaim := { program := "ytiiifecfdkjmbaa", sum := "6efd7d2bea97cc72ebf645d539d7e58fc5306a8ed2e34cd2c2e23a8024eea538", func := "furlong/furlonglaw.WorldTells", spec := "worldTells", unfollowed := true, recurses := true, plainKeys := false, apart := false, narrowed := true }
def WorldTellsUptoSaid : Prop := worldTellsUptoRow.holds Try.pinned (OpenSpec.upto worldTellsSpec)

/-- 'furlonglaw.BoundOf', WHERE WHAT IT READS IS OF BULK AT MOST 1048576: true; the input reads as it did. -/
def boundOfUptoRow : OpenClaim := { program := "ytiiifecfdkjmbaa", sum := "6efd7d2bea97cc72ebf645d539d7e58fc5306a8ed2e34cd2c2e23a8024eea538", func := "furlong/furlonglaw.BoundOf", spec := "boundOf", unfollowed := true, recurses := true, plainKeys := false, apart := false, narrowed := true }
def BoundOfUptoSaid : Prop := boundOfUptoRow.holds Try.pinned (OpenSpec.upto boundOfSpec)

/-- 'furlonglaw.BoundReady', WHERE WHAT IT READS IS OF BULK AT MOST 1048576: true; the input reads as it did. -/
def boundReadyUptoRow : OpenClaim := { program := "ytiiifecfdkjmbaa", sum := "6efd7d2bea97cc72ebf645d539d7e58fc5306a8ed2e34cd2c2e23a8024eea538", func := "furlong/furlonglaw.BoundReady", spec := "boundReady", unfollowed := true, recurses := true, plainKeys := false, apart := false, narrowed := true }
def BoundReadyUptoSaid : Prop := boundReadyUptoRow.holds Try.pinned (OpenSpec.upto boundReadySpec)

/-- 'furlonglaw.BoundTrue', WHERE WHAT IT READS IS OF BULK AT MOST 1048576: true; the input reads as it did. -/
def boundTrueUptoRow : OpenClaim := { program := "ytiiifecfdkjmbaa", sum := "6efd7d2bea97cc72ebf645d539d7e58fc5306a8ed2e34cd2c2e23a8024eea538", func := "furlong/furlonglaw.BoundTrue", spec := "boundTrue", unfollowed := true, recurses := true, plainKeys := false, apart := false, narrowed := true }
def BoundTrueUptoSaid : Prop := boundTrueUptoRow.holds Try.pinned (OpenSpec.upto boundTrueSpec)

/-- 'furlonglaw.TellTells', WHERE WHAT IT READS IS OF BULK AT MOST 1048576: true; the input reads as it did. -/
def tellTellsUptoRow : OpenClaim := { program := "ytiiifecfdkjmbaa", sum := "6efd7d2bea97cc72ebf645d539d7e58fc5306a8ed2e34cd2c2e23a8024eea538", func := "furlong/furlonglaw.TellTells", spec := "tellTells", unfollowed := true, recurses := true, plainKeys := false, apart := false, narrowed := true }
def TellTellsUptoSaid : Prop := tellTellsUptoRow.holds Try.pinned (OpenSpec.upto tellTellsSpec)

/-- 'furlonglaw.TellTrue', WHERE WHAT IT READS IS OF BULK AT MOST 1048576: true; the input reads as it did. -/
def tellTrueUptoRow : OpenClaim := { program := "ytiiifecfdkjmbaa", sum := "6efd7d2bea97cc72ebf645d539d7e58fc5306a8ed2e34cd2c2e23a8024eea538", func := "furlong/furlonglaw.TellTrue", spec := "tellTrue", unfollowed := true, recurses := true, plainKeys := false, apart := false, narrowed := true }
def TellTrueUptoSaid : Prop := tellTrueUptoRow.holds Try.pinned (OpenSpec.upto tellTrueSpec)

/-- 'furlonglaw.CastTrue', WHERE WHAT IT READS IS OF BULK AT MOST 1048576: true; the input reads as it did. -/
def castTrueUptoRow : OpenClaim := { program := "ytiiifecfdkjmbaa", sum := "6efd7d2bea97cc72ebf645d539d7e58fc5306a8ed2e34cd2c2e23a8024eea538", func := "furlong/furlonglaw.CastTrue", spec := "castTrue", unfollowed := true, recurses := true, plainKeys := false, apart := false, narrowed := true }
def CastTrueUptoSaid : Prop := castTrueUptoRow.holds Try.pinned (OpenSpec.upto castTrueSpec)

/-- 'furlonglaw.CauseTrue', WHERE WHAT IT READS IS OF BULK AT MOST 1048576: true; the input reads as it did. -/
def causeTrueUptoRow : OpenClaim := { program := "ytiiifecfdkjmbaa", sum := "6efd7d2bea97cc72ebf645d539d7e58fc5306a8ed2e34cd2c2e23a8024eea538", func := "furlong/furlonglaw.CauseTrue", spec := "causeTrue", inPlace := ["maps.clone"], unfollowed := true, recurses := true, plainKeys := false, apart := false, narrowed := true }
def CauseTrueUptoSaid : Prop := causeTrueUptoRow.holds Try.pinned (OpenSpec.upto causeTrueSpec)

/-- 'furlonglaw.WireBack', WHERE WHAT IT READS IS OF BULK AT MOST 1048576: true; the input reads as it did. -/
def wireBackUptoRow : OpenClaim := { program := "ytiiifecfdkjmbaa", sum := "6efd7d2bea97cc72ebf645d539d7e58fc5306a8ed2e34cd2c2e23a8024eea538", func := "furlong/furlonglaw.WireBack", spec := "wireBack", unfollowed := true, recurses := true, plainKeys := false, apart := false, narrowed := true }
def WireBackUptoSaid : Prop := wireBackUptoRow.holds Try.pinned (OpenSpec.upto wireBackSpec)

end Rows
end Go.Proofs.Ytiiifecfdkjmbaa
