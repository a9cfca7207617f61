/-
  No cell of these rows narrows 'for every input' (looked for: loops, veiled, ifaces, maps, wideKeys, modest, calm, conditions, laid).
  DERIVED. THE GIVEN ROWS OF THIS SEAT. 25 by the template 'for every input the law returns true; each argument reads behind the call as it read before'; 0 by the template 'total and deterministic' (their statements: YtiiifecfdkjmbaaGreatTotals.lean).
  GIVEN WITH THE SEED: the statements are not yours to turn. If you find one false, say at which input.
  Laid BY PROGRAM, IN A SANDBOX (cutbox-rows.mjs): the forced cells as the released guide's own fill.sh prints them over the translation 64aaa6f82534cccf… (all of the seat's roots in one cut). By AI agents, Wed Nov 11 2026. No macro, syntax, notation, axiom, sorry.
-/
import Derived.Test.YtiiifecfdkjmbaaGreatChecked
import GoSem.Claim
import GoSem.ClaimJoined
import GoSem.ClaimMapViews
import Derived.JoinedTies
import Derived.KernelRfl
namespace Go.Proofs.YtiiifecfdkjmbaaGreat
/- THE CELL 'sum', in the pinned program and in every row, IS THE sha256 OF THE DUMP (.gsa) THAT YtiiifecfdkjmbaaGreatProg.lean LOADS. Nothing in Lean hashes anything: it is a label: what it is worth is what the hold of that sum in a sandbox is worth. -/
noncomputable def Tryz.pinned : Pinned := { name := "ytiiifecfdkjmbaagreat", sum := "64aaa6f82534cccf0f11cb47881131fdcceaafdf77f1a3628e085629d7da6974", checked := Tryz.checked }
namespace Rows
def none {H : Type} : Left H := { results := [], args := [] }

/-- 'furlonglaw.CastSends': WHATEVER THE INPUT: true; the input reads as it did. -/
def castSendsSpec : ChangeSpec := { name := "castSends", fn := fun _ => fun
  | [d1, d2, d3, d4] => { results := [.lit (.bool true)], args := [d1, d2, d3, d4] }
  | _ => none }
def castSendsRow : OpenClaim := { program := "ytiiifecfdkjmbaagreat", sum := "64aaa6f82534cccf0f11cb47881131fdcceaafdf77f1a3628e085629d7da6974", func := "furlong/furlonglaw.CastSends", spec := "castSends", unfollowed := true, recurses := true, plainKeys := false, apart := false }
def CastSendsSaid : Prop := castSendsRow.holds Tryz.pinned (OpenSpec.ofChange castSendsSpec)

/-- ITS FALSE NEIGHBOUR: 'it returns false'. Refute it at one input. -/
def castSendsWrong : ChangeSpec := { name := "castSends", fn := fun _ => fun
  | [d1, d2, d3, d4] => { results := [.lit (.bool false)], args := [d1, d2, d3, d4] }
  | _ => none }
def CastSendsWrongFalsely : Prop := castSendsRow.holds Tryz.pinned (OpenSpec.ofChange castSendsWrong)

/-- 'furlonglaw.CastNulls': WHATEVER THE INPUT: true; the input reads as it did. -/
def castNullsSpec : ChangeSpec := { name := "castNulls", fn := fun _ => fun
  | [d1, d2, d3] => { results := [.lit (.bool true)], args := [d1, d2, d3] }
  | _ => none }
def castNullsRow : OpenClaim := { program := "ytiiifecfdkjmbaagreat", sum := "64aaa6f82534cccf0f11cb47881131fdcceaafdf77f1a3628e085629d7da6974", func := "furlong/furlonglaw.CastNulls", spec := "castNulls", unfollowed := true, recurses := true, plainKeys := false, apart := false }
def CastNullsSaid : Prop := castNullsRow.holds Tryz.pinned (OpenSpec.ofChange castNullsSpec)

/-- ITS FALSE NEIGHBOUR: 'it returns false'. Refute it at one input. -/
def castNullsWrong : ChangeSpec := { name := "castNulls", fn := fun _ => fun
  | [d1, d2, d3] => { results := [.lit (.bool false)], args := [d1, d2, d3] }
  | _ => none }
def CastNullsWrongFalsely : Prop := castNullsRow.holds Tryz.pinned (OpenSpec.ofChange castNullsWrong)

/-- 'furlonglaw.MoveOnes': WHATEVER THE INPUT: true; the input reads as it did. -/
def moveOnesSpec : ChangeSpec := { name := "moveOnes", fn := fun _ => fun
  | [d1, d2, d3] => { results := [.lit (.bool true)], args := [d1, d2, d3] }
  | _ => none }
def moveOnesRow : OpenClaim := { program := "ytiiifecfdkjmbaagreat", sum := "64aaa6f82534cccf0f11cb47881131fdcceaafdf77f1a3628e085629d7da6974", func := "furlong/furlonglaw.MoveOnes", spec := "moveOnes", unfollowed := true, recurses := true, plainKeys := false, apart := false }
def MoveOnesSaid : Prop := moveOnesRow.holds Tryz.pinned (OpenSpec.ofChange moveOnesSpec)

/-- ITS FALSE NEIGHBOUR: 'it returns false'. Refute it at one input. -/
def moveOnesWrong : ChangeSpec := { name := "moveOnes", fn := fun _ => fun
  | [d1, d2, d3] => { results := [.lit (.bool false)], args := [d1, d2, d3] }
  | _ => none }
def MoveOnesWrongFalsely : Prop := moveOnesRow.holds Tryz.pinned (OpenSpec.ofChange moveOnesWrong)

/-- 'furlonglaw.MoveWires': WHATEVER THE INPUT: true; the input reads as it did. -/
def moveWiresSpec : ChangeSpec := { name := "moveWires", fn := fun _ => fun
  | [d1, d2, d3] => { results := [.lit (.bool true)], args := [d1, d2, d3] }
  | _ => none }
def moveWiresRow : OpenClaim := { program := "ytiiifecfdkjmbaagreat", sum := "64aaa6f82534cccf0f11cb47881131fdcceaafdf77f1a3628e085629d7da6974", func := "furlong/furlonglaw.MoveWires", spec := "moveWires", unfollowed := true, recurses := true, plainKeys := false, apart := false }
def MoveWiresSaid : Prop := moveWiresRow.holds Tryz.pinned (OpenSpec.ofChange moveWiresSpec)

/-- ITS FALSE NEIGHBOUR: 'it returns false'. Refute it at one input. -/
def moveWiresWrong : ChangeSpec := { name := "moveWires", fn := fun _ => fun
  | [d1, d2, d3] => { results := [.lit (.bool false)], args := [d1, d2, d3] }
  | _ => none }
def MoveWiresWrongFalsely : Prop := moveWiresRow.holds Tryz.pinned (OpenSpec.ofChange moveWiresWrong)

/-- 'furlonglaw.MoveTrue': WHATEVER THE INPUT: true; the input reads as it did. -/
def moveTrueSpec : ChangeSpec := { name := "moveTrue", fn := fun _ => fun
  | [d1, d2, d3] => { results := [.lit (.bool true)], args := [d1, d2, d3] }
  | _ => none }
def moveTrueRow : OpenClaim := { program := "ytiiifecfdkjmbaagreat", sum := "64aaa6f82534cccf0f11cb47881131fdcceaafdf77f1a3628e085629d7da6974", func := "furlong/furlonglaw.MoveTrue", spec := "moveTrue", unfollowed := true, recurses := true, plainKeys := false, apart := false }
def MoveTrueSaid : Prop := moveTrueRow.holds Tryz.pinned (OpenSpec.ofChange moveTrueSpec)

/-- ITS FALSE NEIGHBOUR: 'it returns false'. Refute it at one input. -/
def moveTrueWrong : ChangeSpec := { name := "moveTrue", fn := fun _ => fun
  | [d1, d2, d3] => { results := [.lit (.bool false)], args := [d1, d2, d3] }
  | _ => none }
def MoveTrueWrongFalsely : Prop := moveTrueRow.holds Tryz.pinned (OpenSpec.ofChange moveTrueWrong)

/-- 'furlonglaw.CalmTells': WHATEVER THE INPUT: true; the input reads as it did. -/
def calmTellsSpec : ChangeSpec := { name := "calmTells", fn := fun _ => fun
  | [d] => { results := [.lit (.bool true)], args := [d] }
  | _ => none }
def calmTellsRow : OpenClaim := { program := "ytiiifecfdkjmbaagreat", sum := "64aaa6f82534cccf0f11cb47881131fdcceaafdf77f1a3628e085629d7da6974", func := "furlong/furlonglaw.CalmTells", spec := "calmTells", unfollowed := true, recurses := true, plainKeys := false, apart := false }
def CalmTellsSaid : Prop := calmTellsRow.holds Tryz.pinned (OpenSpec.ofChange calmTellsSpec)

/-- ITS FALSE NEIGHBOUR: 'it returns false'. Refute it at one input. -/
def calmTellsWrong : ChangeSpec := { name := "calmTells", fn := fun _ => fun
  | [d] => { results := [.lit (.bool false)], args := [d] }
  | _ => none }
def CalmTellsWrongFalsely : Prop := calmTellsRow.holds Tryz.pinned (OpenSpec.ofChange calmTellsWrong)

/-- 'furlonglaw.CalmCalms': WHATEVER THE INPUT: true; the input reads as it did. -/
def calmCalmsSpec : ChangeSpec := { name := "calmCalms", fn := fun _ => fun
  | [d] => { results := [.lit (.bool true)], args := [d] }
  | _ => none }
def calmCalmsRow : OpenClaim := { program := "ytiiifecfdkjmbaagreat", sum := "64aaa6f82534cccf0f11cb47881131fdcceaafdf77f1a3628e085629d7da6974", func := "furlong/furlonglaw.CalmCalms", spec := "calmCalms", unfollowed := true, recurses := true, plainKeys := false, apart := false }
def CalmCalmsSaid : Prop := calmCalmsRow.holds Tryz.pinned (OpenSpec.ofChange calmCalmsSpec)

/-- ITS FALSE NEIGHBOUR: 'it returns false'. Refute it at one input. -/
def calmCalmsWrong : ChangeSpec := { name := "calmCalms", fn := fun _ => fun
  | [d] => { results := [.lit (.bool false)], args := [d] }
  | _ => none }
def CalmCalmsWrongFalsely : Prop := calmCalmsRow.holds Tryz.pinned (OpenSpec.ofChange calmCalmsWrong)

/-- 'furlonglaw.CalmTrue': WHATEVER THE INPUT: true; the input reads as it did. -/
def calmTrueSpec : ChangeSpec := { name := "calmTrue", fn := fun _ => fun
  | [d1, d2, d3] => { results := [.lit (.bool true)], args := [d1, d2, d3] }
  | _ => none }
def calmTrueRow : OpenClaim := { program := "ytiiifecfdkjmbaagreat", sum := "64aaa6f82534cccf0f11cb47881131fdcceaafdf77f1a3628e085629d7da6974", func := "furlong/furlonglaw.CalmTrue", spec := "calmTrue", unfollowed := true, recurses := true, plainKeys := false, apart := false }
def CalmTrueSaid : Prop := calmTrueRow.holds Tryz.pinned (OpenSpec.ofChange calmTrueSpec)

/-- ITS FALSE NEIGHBOUR: 'it returns false'. Refute it at one input. -/
def calmTrueWrong : ChangeSpec := { name := "calmTrue", fn := fun _ => fun
  | [d1, d2, d3] => { results := [.lit (.bool false)], args := [d1, d2, d3] }
  | _ => none }
def CalmTrueWrongFalsely : Prop := calmTrueRow.holds Tryz.pinned (OpenSpec.ofChange calmTrueWrong)

/-- 'furlonglaw.CalmAll': WHATEVER THE INPUT: true; the input reads as it did. -/
def calmAllSpec : ChangeSpec := { name := "calmAll", fn := fun _ => fun
  | [d1, d2, d3] => { results := [.lit (.bool true)], args := [d1, d2, d3] }
  | _ => none }
def calmAllRow : OpenClaim := { program := "ytiiifecfdkjmbaagreat", sum := "64aaa6f82534cccf0f11cb47881131fdcceaafdf77f1a3628e085629d7da6974", func := "furlong/furlonglaw.CalmAll", spec := "calmAll", unfollowed := true, recurses := true, plainKeys := false, apart := false }
def CalmAllSaid : Prop := calmAllRow.holds Tryz.pinned (OpenSpec.ofChange calmAllSpec)

/-- ITS FALSE NEIGHBOUR: 'it returns false'. Refute it at one input. -/
def calmAllWrong : ChangeSpec := { name := "calmAll", fn := fun _ => fun
  | [d1, d2, d3] => { results := [.lit (.bool false)], args := [d1, d2, d3] }
  | _ => none }
def CalmAllWrongFalsely : Prop := calmAllRow.holds Tryz.pinned (OpenSpec.ofChange calmAllWrong)

/-- 'furlonglaw.BoundGrows': WHATEVER THE INPUT: true; the input reads as it did. -/
def boundGrowsSpec : ChangeSpec := { name := "boundGrows", fn := fun _ => fun
  | [d1, d2, d3, d4, d5] => { results := [.lit (.bool true)], args := [d1, d2, d3, d4, d5] }
  | _ => none }
def boundGrowsRow : OpenClaim := { program := "ytiiifecfdkjmbaagreat", sum := "64aaa6f82534cccf0f11cb47881131fdcceaafdf77f1a3628e085629d7da6974", func := "furlong/furlonglaw.BoundGrows", spec := "boundGrows", unfollowed := true, recurses := true, plainKeys := false, apart := false }
def BoundGrowsSaid : Prop := boundGrowsRow.holds Tryz.pinned (OpenSpec.ofChange boundGrowsSpec)

/-- ITS FALSE NEIGHBOUR: 'it returns false'. Refute it at one input. -/
def boundGrowsWrong : ChangeSpec := { name := "boundGrows", fn := fun _ => fun
  | [d1, d2, d3, d4, d5] => { results := [.lit (.bool false)], args := [d1, d2, d3, d4, d5] }
  | _ => none }
def BoundGrowsWrongFalsely : Prop := boundGrowsRow.holds Tryz.pinned (OpenSpec.ofChange boundGrowsWrong)

/-- 'furlonglaw.AgreeTells': WHATEVER THE INPUT: true; the input reads as it did. -/
def agreeTellsSpec : ChangeSpec := { name := "agreeTells", fn := fun _ => fun
  | [d1, d2, d3, d4] => { results := [.lit (.bool true)], args := [d1, d2, d3, d4] }
  | _ => none }
def agreeTellsRow : OpenClaim := { program := "ytiiifecfdkjmbaagreat", sum := "64aaa6f82534cccf0f11cb47881131fdcceaafdf77f1a3628e085629d7da6974", func := "furlong/furlonglaw.AgreeTells", spec := "agreeTells", unfollowed := true, recurses := true, plainKeys := false, apart := false }
def AgreeTellsSaid : Prop := agreeTellsRow.holds Tryz.pinned (OpenSpec.ofChange agreeTellsSpec)

/-- ITS FALSE NEIGHBOUR: 'it returns false'. Refute it at one input. -/
def agreeTellsWrong : ChangeSpec := { name := "agreeTells", fn := fun _ => fun
  | [d1, d2, d3, d4] => { results := [.lit (.bool false)], args := [d1, d2, d3, d4] }
  | _ => none }
def AgreeTellsWrongFalsely : Prop := agreeTellsRow.holds Tryz.pinned (OpenSpec.ofChange agreeTellsWrong)

/-- 'furlonglaw.AgreeAll': WHATEVER THE INPUT: true; the input reads as it did. -/
def agreeAllSpec : ChangeSpec := { name := "agreeAll", fn := fun _ => fun
  | [d] => { results := [.lit (.bool true)], args := [d] }
  | _ => none }
def agreeAllRow : OpenClaim := { program := "ytiiifecfdkjmbaagreat", sum := "64aaa6f82534cccf0f11cb47881131fdcceaafdf77f1a3628e085629d7da6974", func := "furlong/furlonglaw.AgreeAll", spec := "agreeAll", unfollowed := true, recurses := true, plainKeys := false, apart := false }
def AgreeAllSaid : Prop := agreeAllRow.holds Tryz.pinned (OpenSpec.ofChange agreeAllSpec)

/-- ITS FALSE NEIGHBOUR: 'it returns false'. Refute it at one input. -/
def agreeAllWrong : ChangeSpec := { name := "agreeAll", fn := fun _ => fun
  | [d] => { results := [.lit (.bool false)], args := [d] }
  | _ => none }
def AgreeAllWrongFalsely : Prop := agreeAllRow.holds Tryz.pinned (OpenSpec.ofChange agreeAllWrong)

/-- 'furlonglaw.AgreeOrder': WHATEVER THE INPUT: true; the input reads as it did. -/
def agreeOrderSpec : ChangeSpec := { name := "agreeOrder", fn := fun _ => fun
  | [d1, d2, d3, d4, d5] => { results := [.lit (.bool true)], args := [d1, d2, d3, d4, d5] }
  | _ => none }
def agreeOrderRow : OpenClaim := { program := "ytiiifecfdkjmbaagreat", sum := "64aaa6f82534cccf0f11cb47881131fdcceaafdf77f1a3628e085629d7da6974", func := "furlong/furlonglaw.AgreeOrder", spec := "agreeOrder", unfollowed := true, recurses := true, plainKeys := false, apart := false }
def AgreeOrderSaid : Prop := agreeOrderRow.holds Tryz.pinned (OpenSpec.ofChange agreeOrderSpec)

/-- ITS FALSE NEIGHBOUR: 'it returns false'. Refute it at one input. -/
def agreeOrderWrong : ChangeSpec := { name := "agreeOrder", fn := fun _ => fun
  | [d1, d2, d3, d4, d5] => { results := [.lit (.bool false)], args := [d1, d2, d3, d4, d5] }
  | _ => none }
def AgreeOrderWrongFalsely : Prop := agreeOrderRow.holds Tryz.pinned (OpenSpec.ofChange agreeOrderWrong)

/-- 'furlonglaw.AgreeGrows': WHATEVER THE INPUT: true; the input reads as it did. -/
def agreeGrowsSpec : ChangeSpec := { name := "agreeGrows", fn := fun _ => fun
  | [d1, d2, d3, d4, d5] => { results := [.lit (.bool true)], args := [d1, d2, d3, d4, d5] }
  | _ => none }
def agreeGrowsRow : OpenClaim := { program := "ytiiifecfdkjmbaagreat", sum := "64aaa6f82534cccf0f11cb47881131fdcceaafdf77f1a3628e085629d7da6974", func := "furlong/furlonglaw.AgreeGrows", spec := "agreeGrows", unfollowed := true, recurses := true, plainKeys := false, apart := false }
def AgreeGrowsSaid : Prop := agreeGrowsRow.holds Tryz.pinned (OpenSpec.ofChange agreeGrowsSpec)

/-- ITS FALSE NEIGHBOUR: 'it returns false'. Refute it at one input. -/
def agreeGrowsWrong : ChangeSpec := { name := "agreeGrows", fn := fun _ => fun
  | [d1, d2, d3, d4, d5] => { results := [.lit (.bool false)], args := [d1, d2, d3, d4, d5] }
  | _ => none }
def AgreeGrowsWrongFalsely : Prop := agreeGrowsRow.holds Tryz.pinned (OpenSpec.ofChange agreeGrowsWrong)

/-- 'furlonglaw.AgreeSafe': WHATEVER THE INPUT: true; the input reads as it did. -/
def agreeSafeSpec : ChangeSpec := { name := "agreeSafe", fn := fun _ => fun
  | [d1, d2, d3, d4, d5] => { results := [.lit (.bool true)], args := [d1, d2, d3, d4, d5] }
  | _ => none }
def agreeSafeRow : OpenClaim := { program := "ytiiifecfdkjmbaagreat", sum := "64aaa6f82534cccf0f11cb47881131fdcceaafdf77f1a3628e085629d7da6974", func := "furlong/furlonglaw.AgreeSafe", spec := "agreeSafe", unfollowed := true, recurses := true, plainKeys := false, apart := false }
def AgreeSafeSaid : Prop := agreeSafeRow.holds Tryz.pinned (OpenSpec.ofChange agreeSafeSpec)

/-- ITS FALSE NEIGHBOUR: 'it returns false'. Refute it at one input. -/
def agreeSafeWrong : ChangeSpec := { name := "agreeSafe", fn := fun _ => fun
  | [d1, d2, d3, d4, d5] => { results := [.lit (.bool false)], args := [d1, d2, d3, d4, d5] }
  | _ => none }
def AgreeSafeWrongFalsely : Prop := agreeSafeRow.holds Tryz.pinned (OpenSpec.ofChange agreeSafeWrong)

/-- 'furlonglaw.LogDoes': WHATEVER THE INPUT: true; the input reads as it did. -/
def logDoesSpec : ChangeSpec := { name := "logDoes", fn := fun _ => fun
  | [d1, d2] => { results := [.lit (.bool true)], args := [d1, d2] }
  | _ => none }
def logDoesRow : OpenClaim := { program := "ytiiifecfdkjmbaagreat", sum := "64aaa6f82534cccf0f11cb47881131fdcceaafdf77f1a3628e085629d7da6974", func := "furlong/furlonglaw.LogDoes", spec := "logDoes", unfollowed := true, recurses := true, plainKeys := false, apart := false }
def LogDoesSaid : Prop := logDoesRow.holds Tryz.pinned (OpenSpec.ofChange logDoesSpec)

/-- ITS FALSE NEIGHBOUR: 'it returns false'. Refute it at one input. -/
def logDoesWrong : ChangeSpec := { name := "logDoes", fn := fun _ => fun
  | [d1, d2] => { results := [.lit (.bool false)], args := [d1, d2] }
  | _ => none }
def LogDoesWrongFalsely : Prop := logDoesRow.holds Tryz.pinned (OpenSpec.ofChange logDoesWrong)

/-- 'furlonglaw.LogReplays': WHATEVER THE INPUT: true; the input reads as it did. -/
def logReplaysSpec : ChangeSpec := { name := "logReplays", fn := fun _ => fun
  | [d1, d2] => { results := [.lit (.bool true)], args := [d1, d2] }
  | _ => none }
def logReplaysRow : OpenClaim := { program := "ytiiifecfdkjmbaagreat", sum := "64aaa6f82534cccf0f11cb47881131fdcceaafdf77f1a3628e085629d7da6974", func := "furlong/furlonglaw.LogReplays", spec := "logReplays", unfollowed := true, recurses := true, plainKeys := false, apart := false }
def LogReplaysSaid : Prop := logReplaysRow.holds Tryz.pinned (OpenSpec.ofChange logReplaysSpec)

/-- ITS FALSE NEIGHBOUR: 'it returns false'. Refute it at one input. -/
def logReplaysWrong : ChangeSpec := { name := "logReplays", fn := fun _ => fun
  | [d1, d2] => { results := [.lit (.bool false)], args := [d1, d2] }
  | _ => none }
def LogReplaysWrongFalsely : Prop := logReplaysRow.holds Tryz.pinned (OpenSpec.ofChange logReplaysWrong)

/-- 'furlonglaw.LogRecovers': WHATEVER THE INPUT: true; the input reads as it did. -/
def logRecoversSpec : ChangeSpec := { name := "logRecovers", fn := fun _ => fun
  | [d1, d2, d3] => { results := [.lit (.bool true)], args := [d1, d2, d3] }
  | _ => none }
def logRecoversRow : OpenClaim := { program := "ytiiifecfdkjmbaagreat", sum := "64aaa6f82534cccf0f11cb47881131fdcceaafdf77f1a3628e085629d7da6974", func := "furlong/furlonglaw.LogRecovers", spec := "logRecovers", unfollowed := true, recurses := true, plainKeys := false, apart := false }
def LogRecoversSaid : Prop := logRecoversRow.holds Tryz.pinned (OpenSpec.ofChange logRecoversSpec)

/-- ITS FALSE NEIGHBOUR: 'it returns false'. Refute it at one input. -/
def logRecoversWrong : ChangeSpec := { name := "logRecovers", fn := fun _ => fun
  | [d1, d2, d3] => { results := [.lit (.bool false)], args := [d1, d2, d3] }
  | _ => none }
def LogRecoversWrongFalsely : Prop := logRecoversRow.holds Tryz.pinned (OpenSpec.ofChange logRecoversWrong)

/-- 'furlonglaw.LogKept': WHATEVER THE INPUT: true; the input reads as it did. -/
def logKeptSpec : ChangeSpec := { name := "logKept", fn := fun _ => fun
  | [d1, d2, d3, d4] => { results := [.lit (.bool true)], args := [d1, d2, d3, d4] }
  | _ => none }
def logKeptRow : OpenClaim := { program := "ytiiifecfdkjmbaagreat", sum := "64aaa6f82534cccf0f11cb47881131fdcceaafdf77f1a3628e085629d7da6974", func := "furlong/furlonglaw.LogKept", spec := "logKept", unfollowed := true, recurses := true, plainKeys := false, apart := false }
def LogKeptSaid : Prop := logKeptRow.holds Tryz.pinned (OpenSpec.ofChange logKeptSpec)

/-- ITS FALSE NEIGHBOUR: 'it returns false'. Refute it at one input. -/
def logKeptWrong : ChangeSpec := { name := "logKept", fn := fun _ => fun
  | [d1, d2, d3, d4] => { results := [.lit (.bool false)], args := [d1, d2, d3, d4] }
  | _ => none }
def LogKeptWrongFalsely : Prop := logKeptRow.holds Tryz.pinned (OpenSpec.ofChange logKeptWrong)

/-- 'furlonglaw.LogMore': WHATEVER THE INPUT: true; the input reads as it did. -/
def logMoreSpec : ChangeSpec := { name := "logMore", fn := fun _ => fun
  | [d1, d2, d3, d4] => { results := [.lit (.bool true)], args := [d1, d2, d3, d4] }
  | _ => none }
def logMoreRow : OpenClaim := { program := "ytiiifecfdkjmbaagreat", sum := "64aaa6f82534cccf0f11cb47881131fdcceaafdf77f1a3628e085629d7da6974", func := "furlong/furlonglaw.LogMore", spec := "logMore", unfollowed := true, recurses := true, plainKeys := false, apart := false }
def LogMoreSaid : Prop := logMoreRow.holds Tryz.pinned (OpenSpec.ofChange logMoreSpec)

/-- ITS FALSE NEIGHBOUR: 'it returns false'. Refute it at one input. -/
def logMoreWrong : ChangeSpec := { name := "logMore", fn := fun _ => fun
  | [d1, d2, d3, d4] => { results := [.lit (.bool false)], args := [d1, d2, d3, d4] }
  | _ => none }
def LogMoreWrongFalsely : Prop := logMoreRow.holds Tryz.pinned (OpenSpec.ofChange logMoreWrong)

/-- 'furlonglaw.LogRight': WHATEVER THE INPUT: true; the input reads as it did. -/
def logRightSpec : ChangeSpec := { name := "logRight", fn := fun _ => fun
  | [d1, d2, d3] => { results := [.lit (.bool true)], args := [d1, d2, d3] }
  | _ => none }
def logRightRow : OpenClaim := { program := "ytiiifecfdkjmbaagreat", sum := "64aaa6f82534cccf0f11cb47881131fdcceaafdf77f1a3628e085629d7da6974", func := "furlong/furlonglaw.LogRight", spec := "logRight", unfollowed := true, recurses := true, plainKeys := false, apart := false }
def LogRightSaid : Prop := logRightRow.holds Tryz.pinned (OpenSpec.ofChange logRightSpec)

/-- ITS FALSE NEIGHBOUR: 'it returns false'. Refute it at one input. -/
def logRightWrong : ChangeSpec := { name := "logRight", fn := fun _ => fun
  | [d1, d2, d3] => { results := [.lit (.bool false)], args := [d1, d2, d3] }
  | _ => none }
def LogRightWrongFalsely : Prop := logRightRow.holds Tryz.pinned (OpenSpec.ofChange logRightWrong)

/-- 'furlonglaw.CauseMarks': WHATEVER THE INPUT: true; the input reads as it did. -/
def causeMarksSpec : ChangeSpec := { name := "causeMarks", fn := fun _ => fun
  | [d1, d2, d3] => { results := [.lit (.bool true)], args := [d1, d2, d3] }
  | _ => none }
def causeMarksRow : OpenClaim := { program := "ytiiifecfdkjmbaagreat", sum := "64aaa6f82534cccf0f11cb47881131fdcceaafdf77f1a3628e085629d7da6974", func := "furlong/furlonglaw.CauseMarks", spec := "causeMarks", inPlace := ["maps.clone"], unfollowed := true, recurses := true, plainKeys := false, apart := false }
def CauseMarksSaid : Prop := causeMarksRow.holds Tryz.pinned (OpenSpec.ofChange causeMarksSpec)

/-- ITS FALSE NEIGHBOUR: 'it returns false'. Refute it at one input. -/
def causeMarksWrong : ChangeSpec := { name := "causeMarks", fn := fun _ => fun
  | [d1, d2, d3] => { results := [.lit (.bool false)], args := [d1, d2, d3] }
  | _ => none }
def CauseMarksWrongFalsely : Prop := causeMarksRow.holds Tryz.pinned (OpenSpec.ofChange causeMarksWrong)

/-- 'furlonglaw.CauseTold': WHATEVER THE INPUT: true; the input reads as it did. -/
def causeToldSpec : ChangeSpec := { name := "causeTold", fn := fun _ => fun
  | [d1, d2, d3, d4] => { results := [.lit (.bool true)], args := [d1, d2, d3, d4] }
  | _ => none }
def causeToldRow : OpenClaim := { program := "ytiiifecfdkjmbaagreat", sum := "64aaa6f82534cccf0f11cb47881131fdcceaafdf77f1a3628e085629d7da6974", func := "furlong/furlonglaw.CauseTold", spec := "causeTold", inPlace := ["maps.clone"], unfollowed := true, recurses := true, plainKeys := false, apart := false }
def CauseToldSaid : Prop := causeToldRow.holds Tryz.pinned (OpenSpec.ofChange causeToldSpec)

/-- ITS FALSE NEIGHBOUR: 'it returns false'. Refute it at one input. -/
def causeToldWrong : ChangeSpec := { name := "causeTold", fn := fun _ => fun
  | [d1, d2, d3, d4] => { results := [.lit (.bool false)], args := [d1, d2, d3, d4] }
  | _ => none }
def CauseToldWrongFalsely : Prop := causeToldRow.holds Tryz.pinned (OpenSpec.ofChange causeToldWrong)

/-- 'furlonglaw.WireWrites': WHATEVER THE INPUT: true; the input reads as it did. -/
def wireWritesSpec : ChangeSpec := { name := "wireWrites", fn := fun _ => fun
  | [d1, d2] => { results := [.lit (.bool true)], args := [d1, d2] }
  | _ => none }
def wireWritesRow : OpenClaim := { program := "ytiiifecfdkjmbaagreat", sum := "64aaa6f82534cccf0f11cb47881131fdcceaafdf77f1a3628e085629d7da6974", func := "furlong/furlonglaw.WireWrites", spec := "wireWrites", unfollowed := true, recurses := true, plainKeys := false, apart := false }
def WireWritesSaid : Prop := wireWritesRow.holds Tryz.pinned (OpenSpec.ofChange wireWritesSpec)

/-- ITS FALSE NEIGHBOUR: 'it returns false'. Refute it at one input. -/
def wireWritesWrong : ChangeSpec := { name := "wireWrites", fn := fun _ => fun
  | [d1, d2] => { results := [.lit (.bool false)], args := [d1, d2] }
  | _ => none }
def WireWritesWrongFalsely : Prop := wireWritesRow.holds Tryz.pinned (OpenSpec.ofChange wireWritesWrong)

/-- 'furlonglaw.RestWorlds': WHATEVER THE INPUT: true; the input reads as it did. -/
def restWorldsSpec : ChangeSpec := { name := "restWorlds", fn := fun _ => fun
  | [d1, d2] => { results := [.lit (.bool true)], args := [d1, d2] }
  | _ => none }
def restWorldsRow : OpenClaim := { program := "ytiiifecfdkjmbaagreat", sum := "64aaa6f82534cccf0f11cb47881131fdcceaafdf77f1a3628e085629d7da6974", func := "furlong/furlonglaw.RestWorlds", spec := "restWorlds", unfollowed := true, recurses := true, plainKeys := false, apart := false }
def RestWorldsSaid : Prop := restWorldsRow.holds Tryz.pinned (OpenSpec.ofChange restWorldsSpec)

/-- ITS FALSE NEIGHBOUR: 'it returns false'. Refute it at one input. -/
def restWorldsWrong : ChangeSpec := { name := "restWorlds", fn := fun _ => fun
  | [d1, d2] => { results := [.lit (.bool false)], args := [d1, d2] }
  | _ => none }
def RestWorldsWrongFalsely : Prop := restWorldsRow.holds Tryz.pinned (OpenSpec.ofChange restWorldsWrong)

/- THE SECOND FORM. 'bulk': how many values and letters a reading holds, each counted each time it is reached (what is shared counts as often as it is met; a slice's spare places count too). A statement '..UptoSaid' is the law's where the arguments, and the package variables that the reading takes, are together of bulk at most 1048576: NARROWER than '..Said'. Prove '..Said' where nothing that the law and all that it calls make is longer than what came in: it says more and counts as full. Else prove '..UptoSaid'. A law counts once. -/
mutual
def uptoBulk {H : Type} : DataW H → Nat
  | .lit (.string bytes) => bytes.length + 1
  | .lit _ => 1
  | .nil => 1
  | .ptr d => uptoBulk d + 1
  | .slice elems spare => uptoBulkAll elems + uptoBulkAll spare + 1
  | .agg parts => uptoBulkAll parts + 1
  | .iface _ d => uptoBulk d + 1
  | .map entries => uptoBulkEntries entries + 1
  | .held _ => 1
def uptoBulkAll {H : Type} : List (DataW H) → Nat
  | [] => 0
  | d :: r => uptoBulk d + uptoBulkAll r
def uptoBulkEntries {H : Type} : List (Lit × DataW H) → Nat
  | [] => 0
  | x :: r => uptoBulkEntry x + uptoBulkEntries r
def uptoBulkEntry {H : Type} : Lit × DataW H → Nat
  | (.string bytes, d) => bytes.length + uptoBulk d + 1
  | (_, d) => uptoBulk d + 1
 end
def uptoSmall : (H : Type) → List (DataW H) → Bool := fun _ ds => decide (uptoBulkAll ds ≤ 1048576)
def OpenSpec.upto (s : _root_.Go.ChangeSpec) : _root_.Go.OpenSpec := { _root_.Go.OpenSpec.ofChange s with cond := some uptoSmall }

/-- 'furlonglaw.CastSends', WHERE WHAT IT READS IS OF BULK AT MOST 1048576: true; the input reads as it did. -/
def castSendsUptoRow : OpenClaim := { program := "ytiiifecfdkjmbaagreat", sum := "64aaa6f82534cccf0f11cb47881131fdcceaafdf77f1a3628e085629d7da6974", func := "furlong/furlonglaw.CastSends", spec := "castSends", unfollowed := true, recurses := true, plainKeys := false, apart := false, narrowed := true }
def CastSendsUptoSaid : Prop := castSendsUptoRow.holds Tryz.pinned (OpenSpec.upto castSendsSpec)

/-- 'furlonglaw.CastNulls', WHERE WHAT IT READS IS OF BULK AT MOST 1048576: true; the input reads as it did. -/
def castNullsUptoRow : OpenClaim := { program := "ytiiifecfdkjmbaagreat", sum := "64aaa6f82534cccf0f11cb47881131fdcceaafdf77f1a3628e085629d7da6974", func := "furlong/furlonglaw.CastNulls", spec := "castNulls", unfollowed := true, recurses := true, plainKeys := false, apart := false, narrowed := true }
def CastNullsUptoSaid : Prop := castNullsUptoRow.holds Tryz.pinned (OpenSpec.upto castNullsSpec)

/-- 'furlonglaw.MoveOnes', WHERE WHAT IT READS IS OF BULK AT MOST 1048576: true; the input reads as it did. -/
def moveOnesUptoRow : OpenClaim := { program := "ytiiifecfdkjmbaagreat", sum := "64aaa6f82534cccf0f11cb47881131fdcceaafdf77f1a3628e085629d7da6974", func := "furlong/furlonglaw.MoveOnes", spec := "moveOnes", unfollowed := true, recurses := true, plainKeys := false, apart := false, narrowed := true }
def MoveOnesUptoSaid : Prop := moveOnesUptoRow.holds Tryz.pinned (OpenSpec.upto moveOnesSpec)

/-- 'furlonglaw.MoveWires', WHERE WHAT IT READS IS OF BULK AT MOST 1048576: true; the input reads as it did. -/
def moveWiresUptoRow : OpenClaim := { program := "ytiiifecfdkjmbaagreat", sum := "64aaa6f82534cccf0f11cb47881131fdcceaafdf77f1a3628e085629d7da6974", func := "furlong/furlonglaw.MoveWires", spec := "moveWires", unfollowed := true, recurses := true, plainKeys := false, apart := false, narrowed := true }
def MoveWiresUptoSaid : Prop := moveWiresUptoRow.holds Tryz.pinned (OpenSpec.upto moveWiresSpec)

/-- 'furlonglaw.MoveTrue', WHERE WHAT IT READS IS OF BULK AT MOST 1048576: true; the input reads as it did. -/
def moveTrueUptoRow : OpenClaim := { program := "ytiiifecfdkjmbaagreat", sum := "64aaa6f82534cccf0f11cb47881131fdcceaafdf77f1a3628e085629d7da6974", func := "furlong/furlonglaw.MoveTrue", spec := "moveTrue", unfollowed := true, recurses := true, plainKeys := false, apart := false, narrowed := true }
def MoveTrueUptoSaid : Prop := moveTrueUptoRow.holds Tryz.pinned (OpenSpec.upto moveTrueSpec)

/-- 'furlonglaw.CalmTells', WHERE WHAT IT READS IS OF BULK AT MOST 1048576: true; the input reads as it did. -/
def calmTellsUptoRow : OpenClaim := { program := "ytiiifecfdkjmbaagreat", sum := "64aaa6f82534cccf0f11cb47881131fdcceaafdf77f1a3628e085629d7da6974", func := "furlong/furlonglaw.CalmTells", spec := "calmTells", unfollowed := true, recurses := true, plainKeys := false, apart := false, narrowed := true }
def CalmTellsUptoSaid : Prop := calmTellsUptoRow.holds Tryz.pinned (OpenSpec.upto calmTellsSpec)

/-- 'furlonglaw.CalmCalms', WHERE WHAT IT READS IS OF BULK AT MOST 1048576: true; the input reads as it did. -/
def calmCalmsUptoRow : OpenClaim := { program := "ytiiifecfdkjmbaagreat", sum := "64aaa6f82534cccf0f11cb47881131fdcceaafdf77f1a3628e085629d7da6974", func := "furlong/furlonglaw.CalmCalms", spec := "calmCalms", unfollowed := true, recurses := true, plainKeys := false, apart := false, narrowed := true }
def CalmCalmsUptoSaid : Prop := calmCalmsUptoRow.holds Tryz.pinned (OpenSpec.upto calmCalmsSpec)

/-- 'furlonglaw.CalmTrue', WHERE WHAT IT READS IS OF BULK AT MOST 1048576: true; the input reads as it did. -/
def calmTrueUptoRow : OpenClaim := { program := "ytiiifecfdkjmbaagreat", sum := "64aaa6f82534cccf0f11cb47881131fdcceaafdf77f1a3628e085629d7da6974", func := "furlong/furlonglaw.CalmTrue", spec := "calmTrue", unfollowed := true, recurses := true, plainKeys := false, apart := false, narrowed := true }
def CalmTrueUptoSaid : Prop := calmTrueUptoRow.holds Tryz.pinned (OpenSpec.upto calmTrueSpec)

/-- 'furlonglaw.CalmAll', WHERE WHAT IT READS IS OF BULK AT MOST 1048576: true; the input reads as it did. -/
def calmAllUptoRow : OpenClaim := { program := "ytiiifecfdkjmbaagreat", sum := "64aaa6f82534cccf0f11cb47881131fdcceaafdf77f1a3628e085629d7da6974", func := "furlong/furlonglaw.CalmAll", spec := "calmAll", unfollowed := true, recurses := true, plainKeys := false, apart := false, narrowed := true }
def CalmAllUptoSaid : Prop := calmAllUptoRow.holds Tryz.pinned (OpenSpec.upto calmAllSpec)

/-- 'furlonglaw.BoundGrows', WHERE WHAT IT READS IS OF BULK AT MOST 1048576: true; the input reads as it did. -/
def boundGrowsUptoRow : OpenClaim := { program := "ytiiifecfdkjmbaagreat", sum := "64aaa6f82534cccf0f11cb47881131fdcceaafdf77f1a3628e085629d7da6974", func := "furlong/furlonglaw.BoundGrows", spec := "boundGrows", unfollowed := true, recurses := true, plainKeys := false, apart := false, narrowed := true }
def BoundGrowsUptoSaid : Prop := boundGrowsUptoRow.holds Tryz.pinned (OpenSpec.upto boundGrowsSpec)

/-- 'furlonglaw.AgreeTells', WHERE WHAT IT READS IS OF BULK AT MOST 1048576: true; the input reads as it did. -/
def agreeTellsUptoRow : OpenClaim := { program := "ytiiifecfdkjmbaagreat", sum := "64aaa6f82534cccf0f11cb47881131fdcceaafdf77f1a3628e085629d7da6974", func := "furlong/furlonglaw.AgreeTells", spec := "agreeTells", unfollowed := true, recurses := true, plainKeys := false, apart := false, narrowed := true }
def AgreeTellsUptoSaid : Prop := agreeTellsUptoRow.holds Tryz.pinned (OpenSpec.upto agreeTellsSpec)

/-- 'furlonglaw.AgreeAll', WHERE WHAT IT READS IS OF BULK AT MOST 1048576: true; the input reads as it did. -/
def agreeAllUptoRow : OpenClaim := { program := "ytiiifecfdkjmbaagreat", sum := "64aaa6f82534cccf0f11cb47881131fdcceaafdf77f1a3628e085629d7da6974", func := "furlong/furlonglaw.AgreeAll", spec := "agreeAll", unfollowed := true, recurses := true, plainKeys := false, apart := false, narrowed := true }
def AgreeAllUptoSaid : Prop := agreeAllUptoRow.holds Tryz.pinned (OpenSpec.upto agreeAllSpec)

/-- 'furlonglaw.AgreeOrder', WHERE WHAT IT READS IS OF BULK AT MOST 1048576: true; the input reads as it did. -/
def agreeOrderUptoRow : OpenClaim := { program := "ytiiifecfdkjmbaagreat", sum := "64aaa6f82534cccf0f11cb47881131fdcceaafdf77f1a3628e085629d7da6974", func := "furlong/furlonglaw.AgreeOrder", spec := "agreeOrder", unfollowed := true, recurses := true, plainKeys := false, apart := false, narrowed := true }
def AgreeOrderUptoSaid : Prop := agreeOrderUptoRow.holds Tryz.pinned (OpenSpec.upto agreeOrderSpec)

/-- 'furlonglaw.AgreeGrows', WHERE WHAT IT READS IS OF BULK AT MOST 1048576: true; the input reads as it did. -/
def agreeGrowsUptoRow : OpenClaim := { program := "ytiiifecfdkjmbaagreat", sum := "64aaa6f82534cccf0f11cb47881131fdcceaafdf77f1a3628e085629d7da6974", func := "furlong/furlonglaw.AgreeGrows", spec := "agreeGrows", unfollowed := true, recurses := true, plainKeys := false, apart := false, narrowed := true }
def AgreeGrowsUptoSaid : Prop := agreeGrowsUptoRow.holds Tryz.pinned (OpenSpec.upto agreeGrowsSpec)

/-- 'furlonglaw.AgreeSafe', WHERE WHAT IT READS IS OF BULK AT MOST 1048576: true; the input reads as it did. -/
def agreeSafeUptoRow : OpenClaim := { program := "ytiiifecfdkjmbaagreat", sum := "64aaa6f82534cccf0f11cb47881131fdcceaafdf77f1a3628e085629d7da6974", func := "furlong/furlonglaw.AgreeSafe", spec := "agreeSafe", unfollowed := true, recurses := true, plainKeys := false, apart := false, narrowed := true }
def AgreeSafeUptoSaid : Prop := agreeSafeUptoRow.holds Tryz.pinned (OpenSpec.upto agreeSafeSpec)

/-- 'furlonglaw.LogDoes', WHERE WHAT IT READS IS OF BULK AT MOST 1048576: true; the input reads as it did. -/
def logDoesUptoRow : OpenClaim := { program := "ytiiifecfdkjmbaagreat", sum := "64aaa6f82534cccf0f11cb47881131fdcceaafdf77f1a3628e085629d7da6974", func := "furlong/furlonglaw.LogDoes", spec := "logDoes", unfollowed := true, recurses := true, plainKeys := false, apart := false, narrowed := true }
def LogDoesUptoSaid : Prop := logDoesUptoRow.holds Tryz.pinned (OpenSpec.upto logDoesSpec)

/-- 'furlonglaw.LogReplays', WHERE WHAT IT READS IS OF BULK AT MOST 1048576: true; the input reads as it did. -/
def logReplaysUptoRow : OpenClaim := { program := "ytiiifecfdkjmbaagreat", sum := "64aaa6f82534cccf0f11cb47881131fdcceaafdf77f1a3628e085629d7da6974", func := "furlong/furlonglaw.LogReplays", spec := "logReplays", unfollowed := true, recurses := true, plainKeys := false, apart := false, narrowed := true }
def LogReplaysUptoSaid : Prop := logReplaysUptoRow.holds Tryz.pinned (OpenSpec.upto logReplaysSpec)

/-- 'furlonglaw.LogRecovers', WHERE WHAT IT READS IS OF BULK AT MOST 1048576: true; the input reads as it did. -/
def logRecoversUptoRow : OpenClaim := { program := "ytiiifecfdkjmbaagreat", sum := "64aaa6f82534cccf0f11cb47881131fdcceaafdf77f1a3628e085629d7da6974", func := "furlong/furlonglaw.LogRecovers", spec := "logRecovers", unfollowed := true, recurses := true, plainKeys := false, apart := false, narrowed := true }
def LogRecoversUptoSaid : Prop := logRecoversUptoRow.holds Tryz.pinned (OpenSpec.upto logRecoversSpec)

/-- 'furlonglaw.LogKept', WHERE WHAT IT READS IS OF BULK AT MOST 1048576: true; the input reads as it did. -/
def logKeptUptoRow : OpenClaim := { program := "ytiiifecfdkjmbaagreat", sum := "64aaa6f82534cccf0f11cb47881131fdcceaafdf77f1a3628e085629d7da6974", func := "furlong/furlonglaw.LogKept", spec := "logKept", unfollowed := true, recurses := true, plainKeys := false, apart := false, narrowed := true }
def LogKeptUptoSaid : Prop := logKeptUptoRow.holds Tryz.pinned (OpenSpec.upto logKeptSpec)

/-- 'furlonglaw.LogMore', WHERE WHAT IT READS IS OF BULK AT MOST 1048576: true; the input reads as it did. -/
def logMoreUptoRow : OpenClaim := { program := "ytiiifecfdkjmbaagreat", sum := "64aaa6f82534cccf0f11cb47881131fdcceaafdf77f1a3628e085629d7da6974", func := "furlong/furlonglaw.LogMore", spec := "logMore", unfollowed := true, recurses := true, plainKeys := false, apart := false, narrowed := true }
def LogMoreUptoSaid : Prop := logMoreUptoRow.holds Tryz.pinned (OpenSpec.upto logMoreSpec)

/-- 'furlonglaw.LogRight', WHERE WHAT IT READS IS OF BULK AT MOST 1048576: true; the input reads as it did. -/
def logRightUptoRow : OpenClaim := { program := "ytiiifecfdkjmbaagreat", sum := "64aaa6f82534cccf0f11cb47881131fdcceaafdf77f1a3628e085629d7da6974", func := "furlong/furlonglaw.LogRight", spec := "logRight", unfollowed := true, recurses := true, plainKeys := false, apart := false, narrowed := true }
def LogRightUptoSaid : Prop := logRightUptoRow.holds Tryz.pinned (OpenSpec.upto logRightSpec)

/-- 'furlonglaw.CauseMarks', WHERE WHAT IT READS IS OF BULK AT MOST 1048576: true; the input reads as it did. -/
def causeMarksUptoRow : OpenClaim := { program := "ytiiifecfdkjmbaagreat", sum := "64aaa6f82534cccf0f11cb47881131fdcceaafdf77f1a3628e085629d7da6974", func := "furlong/furlonglaw.CauseMarks", spec := "causeMarks", inPlace := ["maps.clone"], unfollowed := true, recurses := true, plainKeys := false, apart := false, narrowed := true }
def CauseMarksUptoSaid : Prop := causeMarksUptoRow.holds Tryz.pinned (OpenSpec.upto causeMarksSpec)

/-- 'furlonglaw.CauseTold', WHERE WHAT IT READS IS OF BULK AT MOST 1048576: true; the input reads as it did. -/
def causeToldUptoRow : OpenClaim := { program := "ytiiifecfdkjmbaagreat", sum := "64aaa6f82534cccf0f11cb47881131fdcceaafdf77f1a3628e085629d7da6974", func := "furlong/furlonglaw.CauseTold", spec := "causeTold", inPlace := ["maps.clone"], unfollowed := true, recurses := true, plainKeys := false, apart := false, narrowed := true }
def CauseToldUptoSaid : Prop := causeToldUptoRow.holds Tryz.pinned (OpenSpec.upto causeToldSpec)

/-- 'furlonglaw.WireWrites', WHERE WHAT IT READS IS OF BULK AT MOST 1048576: true; the input reads as it did. -/
def wireWritesUptoRow : OpenClaim := { program := "ytiiifecfdkjmbaagreat", sum := "64aaa6f82534cccf0f11cb47881131fdcceaafdf77f1a3628e085629d7da6974", func := "furlong/furlonglaw.WireWrites", spec := "wireWrites", unfollowed := true, recurses := true, plainKeys := false, apart := false, narrowed := true }
def WireWritesUptoSaid : Prop := wireWritesUptoRow.holds Tryz.pinned (OpenSpec.upto wireWritesSpec)

/-- 'furlonglaw.RestWorlds', WHERE WHAT IT READS IS OF BULK AT MOST 1048576: true; the input reads as it did. -/
def restWorldsUptoRow : OpenClaim := { program := "ytiiifecfdkjmbaagreat", sum := "64aaa6f82534cccf0f11cb47881131fdcceaafdf77f1a3628e085629d7da6974", func := "furlong/furlonglaw.RestWorlds", spec := "restWorlds", unfollowed := true, recurses := true, plainKeys := false, apart := false, narrowed := true }
def RestWorldsUptoSaid : Prop := restWorldsUptoRow.holds Tryz.pinned (OpenSpec.upto restWorldsSpec)

end Rows
end Go.Proofs.YtiiifecfdkjmbaaGreat
