/-
  No cell of these rows narrows 'for every input' (looked for: loops, veiled, ifaces, maps, wideKeys, modest, calm, conditions, laid).
  DERIVED. THE GIVEN ROWS OF THIS SEAT. 16 by the template 'for every input the law returns true; each argument reads behind the call as it read before'; 0 by the template 'total and deterministic' (their statements: YtgmcpbhjcfiikaaTotals.lean).
  GIVEN WITH THE SEED: the statements are not yours to turn. If you find one false, say at which input.
  Laid BY PROGRAM, IN A SANDBOX (cutbox-rows.mjs): the forced cells as the released guide's own fill.sh prints them over the translation 6c3562fb39f99b1c… (all of the seat's roots in one cut). By AI agents, Wed Nov 11 2026. No macro, syntax, notation, axiom, sorry.
-/
import Derived.Test.YtgmcpbhjcfiikaaChecked
import GoSem.Claim
import GoSem.ClaimJoined
import GoSem.ClaimMapViews
import Derived.JoinedTies
import Derived.KernelRfl
namespace Go.Proofs.Ytgmcpbhjcfiikaa
/- THE CELL 'sum', in the pinned program and in every row, IS THE sha256 OF THE DUMP (.gsa) THAT YtgmcpbhjcfiikaaProg.lean LOADS. Nothing in Lean hashes anything: it is a label: what it is worth is what the hold of that sum in a sandbox is worth. -/
noncomputable def Try.pinned : Pinned := { name := "ytgmcpbhjcfiikaa", sum := "6c3562fb39f99b1c98c0eda3294950df867ee15c8d5870b457860f7eb498d0d3", checked := Try.checked }
namespace Rows
def none {H : Type} : Left H := { results := [], args := [] }

/-- 'laws.FnExactVapourAbove': WHATEVER THE INPUT: true; the input reads as it did. -/
def fnExactVapourAboveSpec : ChangeSpec := { name := "fnExactVapourAbove", fn := fun _ => fun
  | [d1, d2] => { results := [.lit (.bool true)], args := [d1, d2] }
  | _ => none }
def fnExactVapourAboveRow : OpenClaim := { program := "ytgmcpbhjcfiikaa", sum := "6c3562fb39f99b1c98c0eda3294950df867ee15c8d5870b457860f7eb498d0d3", func := "loop.example/g01224/laws.FnExactVapourAbove", spec := "fnExactVapourAbove", inPlace := ["math.Float32bits", "math.Float64bits", "math.Float64frombits"], unfollowed := true, recurses := true, plainKeys := false, apart := false }
def FnExactVapourAboveSaid : Prop := fnExactVapourAboveRow.holds Try.pinned (OpenSpec.ofChange fnExactVapourAboveSpec)

/-- ITS FALSE NEIGHBOUR: 'it returns false'. Refute it at one input. -/
def fnExactVapourAboveWrong : ChangeSpec := { name := "fnExactVapourAbove", fn := fun _ => fun
  | [d1, d2] => { results := [.lit (.bool false)], args := [d1, d2] }
  | _ => none }
def FnExactVapourAboveWrongFalsely : Prop := fnExactVapourAboveRow.holds Try.pinned (OpenSpec.ofChange fnExactVapourAboveWrong)

/-- 'laws.FnExactValidEchoMap': WHATEVER THE INPUT: true; the input reads as it did. -/
def fnExactValidEchoMapSpec : ChangeSpec := { name := "fnExactValidEchoMap", fn := fun _ => fun
  | [d] => { results := [.lit (.bool true)], args := [d] }
  | _ => none }
def fnExactValidEchoMapRow : OpenClaim := { program := "ytgmcpbhjcfiikaa", sum := "6c3562fb39f99b1c98c0eda3294950df867ee15c8d5870b457860f7eb498d0d3", func := "loop.example/g01224/laws.FnExactValidEchoMap", spec := "fnExactValidEchoMap", inPlace := ["math.Float32bits", "math.Float64bits", "math.Float64frombits"], plainKeys := false, apart := false }
def FnExactValidEchoMapSaid : Prop := fnExactValidEchoMapRow.holds Try.pinned (OpenSpec.ofChange fnExactValidEchoMapSpec)

/-- ITS FALSE NEIGHBOUR: 'it returns false'. Refute it at one input. -/
def fnExactValidEchoMapWrong : ChangeSpec := { name := "fnExactValidEchoMap", fn := fun _ => fun
  | [d] => { results := [.lit (.bool false)], args := [d] }
  | _ => none }
def FnExactValidEchoMapWrongFalsely : Prop := fnExactValidEchoMapRow.holds Try.pinned (OpenSpec.ofChange fnExactValidEchoMapWrong)

/-- 'laws.FnExactRiseIn': WHATEVER THE INPUT: true; the input reads as it did. -/
def fnExactRiseInSpec : ChangeSpec := { name := "fnExactRiseIn", fn := fun _ => fun
  | [d1, d2, d3, d4, d5] => { results := [.lit (.bool true)], args := [d1, d2, d3, d4, d5] }
  | _ => none }
def fnExactRiseInRow : OpenClaim := { program := "ytgmcpbhjcfiikaa", sum := "6c3562fb39f99b1c98c0eda3294950df867ee15c8d5870b457860f7eb498d0d3", func := "loop.example/g01224/laws.FnExactRiseIn", spec := "fnExactRiseIn", inPlace := ["math.Float32bits", "math.archFloor", "math.Float64bits", "math.Float64frombits", "math.archTrunc"], unfollowed := true, recurses := true, plainKeys := false, apart := false }
def FnExactRiseInSaid : Prop := fnExactRiseInRow.holds Try.pinned (OpenSpec.ofChange fnExactRiseInSpec)

/-- ITS FALSE NEIGHBOUR: 'it returns false'. Refute it at one input. -/
def fnExactRiseInWrong : ChangeSpec := { name := "fnExactRiseIn", fn := fun _ => fun
  | [d1, d2, d3, d4, d5] => { results := [.lit (.bool false)], args := [d1, d2, d3, d4, d5] }
  | _ => none }
def FnExactRiseInWrongFalsely : Prop := fnExactRiseInRow.holds Try.pinned (OpenSpec.ofChange fnExactRiseInWrong)

/-- 'laws.FnExactSteadySounding': WHATEVER THE INPUT: true; the input reads as it did. -/
def fnExactSteadySoundingSpec : ChangeSpec := { name := "fnExactSteadySounding", fn := fun _ => fun
  | [d] => { results := [.lit (.bool true)], args := [d] }
  | _ => none }
def fnExactSteadySoundingRow : OpenClaim := { program := "ytgmcpbhjcfiikaa", sum := "6c3562fb39f99b1c98c0eda3294950df867ee15c8d5870b457860f7eb498d0d3", func := "loop.example/g01224/laws.FnExactSteadySounding", spec := "fnExactSteadySounding", inPlace := ["math.Float32bits", "math.Float64bits", "math.Float64frombits"], unfollowed := true, recurses := true, plainKeys := false, apart := false }
def FnExactSteadySoundingSaid : Prop := fnExactSteadySoundingRow.holds Try.pinned (OpenSpec.ofChange fnExactSteadySoundingSpec)

/-- ITS FALSE NEIGHBOUR: 'it returns false'. Refute it at one input. -/
def fnExactSteadySoundingWrong : ChangeSpec := { name := "fnExactSteadySounding", fn := fun _ => fun
  | [d] => { results := [.lit (.bool false)], args := [d] }
  | _ => none }
def FnExactSteadySoundingWrongFalsely : Prop := fnExactSteadySoundingRow.holds Try.pinned (OpenSpec.ofChange fnExactSteadySoundingWrong)

/-- 'laws.FnExactEventsOf': WHATEVER THE INPUT: true; the input reads as it did. -/
def fnExactEventsOfSpec : ChangeSpec := { name := "fnExactEventsOf", fn := fun _ => fun
  | [d1, d2, d3] => { results := [.lit (.bool true)], args := [d1, d2, d3] }
  | _ => none }
def fnExactEventsOfRow : OpenClaim := { program := "ytgmcpbhjcfiikaa", sum := "6c3562fb39f99b1c98c0eda3294950df867ee15c8d5870b457860f7eb498d0d3", func := "loop.example/g01224/laws.FnExactEventsOf", spec := "fnExactEventsOf", inPlace := ["math.Float32bits", "math.Float64bits", "math.Float64frombits"], unfollowed := true, recurses := true, plainKeys := false, apart := false }
def FnExactEventsOfSaid : Prop := fnExactEventsOfRow.holds Try.pinned (OpenSpec.ofChange fnExactEventsOfSpec)

/-- ITS FALSE NEIGHBOUR: 'it returns false'. Refute it at one input. -/
def fnExactEventsOfWrong : ChangeSpec := { name := "fnExactEventsOf", fn := fun _ => fun
  | [d1, d2, d3] => { results := [.lit (.bool false)], args := [d1, d2, d3] }
  | _ => none }
def FnExactEventsOfWrongFalsely : Prop := fnExactEventsOfRow.holds Try.pinned (OpenSpec.ofChange fnExactEventsOfWrong)

/-- 'laws.FnExactLossesOf': WHATEVER THE INPUT: true; the input reads as it did. -/
def fnExactLossesOfSpec : ChangeSpec := { name := "fnExactLossesOf", fn := fun _ => fun
  | [d1, d2, d3] => { results := [.lit (.bool true)], args := [d1, d2, d3] }
  | _ => none }
def fnExactLossesOfRow : OpenClaim := { program := "ytgmcpbhjcfiikaa", sum := "6c3562fb39f99b1c98c0eda3294950df867ee15c8d5870b457860f7eb498d0d3", func := "loop.example/g01224/laws.FnExactLossesOf", spec := "fnExactLossesOf", inPlace := ["math.Float32bits", "math.Float64bits", "math.Float64frombits"], unfollowed := true, recurses := true, plainKeys := false, apart := false }
def FnExactLossesOfSaid : Prop := fnExactLossesOfRow.holds Try.pinned (OpenSpec.ofChange fnExactLossesOfSpec)

/-- ITS FALSE NEIGHBOUR: 'it returns false'. Refute it at one input. -/
def fnExactLossesOfWrong : ChangeSpec := { name := "fnExactLossesOf", fn := fun _ => fun
  | [d1, d2, d3] => { results := [.lit (.bool false)], args := [d1, d2, d3] }
  | _ => none }
def FnExactLossesOfWrongFalsely : Prop := fnExactLossesOfRow.holds Try.pinned (OpenSpec.ofChange fnExactLossesOfWrong)

/-- 'laws.FnExactCollide': WHATEVER THE INPUT: true; the input reads as it did. -/
def fnExactCollideSpec : ChangeSpec := { name := "fnExactCollide", fn := fun _ => fun
  | [d1, d2, d3] => { results := [.lit (.bool true)], args := [d1, d2, d3] }
  | _ => none }
def fnExactCollideRow : OpenClaim := { program := "ytgmcpbhjcfiikaa", sum := "6c3562fb39f99b1c98c0eda3294950df867ee15c8d5870b457860f7eb498d0d3", func := "loop.example/g01224/laws.FnExactCollide", spec := "fnExactCollide", inPlace := ["math.Float32bits", "math.Float64bits", "math.Float64frombits"], unfollowed := true, recurses := true, plainKeys := false, apart := false }
def FnExactCollideSaid : Prop := fnExactCollideRow.holds Try.pinned (OpenSpec.ofChange fnExactCollideSpec)

/-- ITS FALSE NEIGHBOUR: 'it returns false'. Refute it at one input. -/
def fnExactCollideWrong : ChangeSpec := { name := "fnExactCollide", fn := fun _ => fun
  | [d1, d2, d3] => { results := [.lit (.bool false)], args := [d1, d2, d3] }
  | _ => none }
def FnExactCollideWrongFalsely : Prop := fnExactCollideRow.holds Try.pinned (OpenSpec.ofChange fnExactCollideWrong)

/-- 'laws.FnExactCollideSteps': WHATEVER THE INPUT: true; the input reads as it did. -/
def fnExactCollideStepsSpec : ChangeSpec := { name := "fnExactCollideSteps", fn := fun _ => fun
  | [d1, d2, d3, d4] => { results := [.lit (.bool true)], args := [d1, d2, d3, d4] }
  | _ => none }
def fnExactCollideStepsRow : OpenClaim := { program := "ytgmcpbhjcfiikaa", sum := "6c3562fb39f99b1c98c0eda3294950df867ee15c8d5870b457860f7eb498d0d3", func := "loop.example/g01224/laws.FnExactCollideSteps", spec := "fnExactCollideSteps", inPlace := ["math.Float32bits", "math.Float64bits", "math.Float64frombits"], unfollowed := true, recurses := true, plainKeys := false, apart := false }
def FnExactCollideStepsSaid : Prop := fnExactCollideStepsRow.holds Try.pinned (OpenSpec.ofChange fnExactCollideStepsSpec)

/-- ITS FALSE NEIGHBOUR: 'it returns false'. Refute it at one input. -/
def fnExactCollideStepsWrong : ChangeSpec := { name := "fnExactCollideSteps", fn := fun _ => fun
  | [d1, d2, d3, d4] => { results := [.lit (.bool false)], args := [d1, d2, d3, d4] }
  | _ => none }
def FnExactCollideStepsWrongFalsely : Prop := fnExactCollideStepsRow.holds Try.pinned (OpenSpec.ofChange fnExactCollideStepsWrong)

/-- 'laws.FnExactRainMade': WHATEVER THE INPUT: true; the input reads as it did. -/
def fnExactRainMadeSpec : ChangeSpec := { name := "fnExactRainMade", fn := fun _ => fun
  | [d1, d2, d3, d4] => { results := [.lit (.bool true)], args := [d1, d2, d3, d4] }
  | _ => none }
def fnExactRainMadeRow : OpenClaim := { program := "ytgmcpbhjcfiikaa", sum := "6c3562fb39f99b1c98c0eda3294950df867ee15c8d5870b457860f7eb498d0d3", func := "loop.example/g01224/laws.FnExactRainMade", spec := "fnExactRainMade", inPlace := ["math.Float32bits", "math.Float64bits", "math.Float64frombits"], unfollowed := true, recurses := true, plainKeys := false, apart := false }
def FnExactRainMadeSaid : Prop := fnExactRainMadeRow.holds Try.pinned (OpenSpec.ofChange fnExactRainMadeSpec)

/-- ITS FALSE NEIGHBOUR: 'it returns false'. Refute it at one input. -/
def fnExactRainMadeWrong : ChangeSpec := { name := "fnExactRainMade", fn := fun _ => fun
  | [d1, d2, d3, d4] => { results := [.lit (.bool false)], args := [d1, d2, d3, d4] }
  | _ => none }
def FnExactRainMadeWrongFalsely : Prop := fnExactRainMadeRow.holds Try.pinned (OpenSpec.ofChange fnExactRainMadeWrong)

/-- 'laws.FnExactGrowOnce': WHATEVER THE INPUT: true; the input reads as it did. -/
def fnExactGrowOnceSpec : ChangeSpec := { name := "fnExactGrowOnce", fn := fun _ => fun
  | [d1, d2, d3] => { results := [.lit (.bool true)], args := [d1, d2, d3] }
  | _ => none }
def fnExactGrowOnceRow : OpenClaim := { program := "ytgmcpbhjcfiikaa", sum := "6c3562fb39f99b1c98c0eda3294950df867ee15c8d5870b457860f7eb498d0d3", func := "loop.example/g01224/laws.FnExactGrowOnce", spec := "fnExactGrowOnce", inPlace := ["math.Float32bits", "math.archFloor", "math.Float64bits", "math.Float64frombits", "math.archTrunc"], unfollowed := true, recurses := true, plainKeys := false, apart := false }
def FnExactGrowOnceSaid : Prop := fnExactGrowOnceRow.holds Try.pinned (OpenSpec.ofChange fnExactGrowOnceSpec)

/-- ITS FALSE NEIGHBOUR: 'it returns false'. Refute it at one input. -/
def fnExactGrowOnceWrong : ChangeSpec := { name := "fnExactGrowOnce", fn := fun _ => fun
  | [d1, d2, d3] => { results := [.lit (.bool false)], args := [d1, d2, d3] }
  | _ => none }
def FnExactGrowOnceWrongFalsely : Prop := fnExactGrowOnceRow.holds Try.pinned (OpenSpec.ofChange fnExactGrowOnceWrong)

/-- 'laws.FnExactGrowSteps': WHATEVER THE INPUT: true; the input reads as it did. -/
def fnExactGrowStepsSpec : ChangeSpec := { name := "fnExactGrowSteps", fn := fun _ => fun
  | [d1, d2, d3, d4] => { results := [.lit (.bool true)], args := [d1, d2, d3, d4] }
  | _ => none }
def fnExactGrowStepsRow : OpenClaim := { program := "ytgmcpbhjcfiikaa", sum := "6c3562fb39f99b1c98c0eda3294950df867ee15c8d5870b457860f7eb498d0d3", func := "loop.example/g01224/laws.FnExactGrowSteps", spec := "fnExactGrowSteps", inPlace := ["math.Float32bits", "math.archFloor", "math.Float64bits", "math.Float64frombits", "math.archTrunc"], unfollowed := true, recurses := true, plainKeys := false, apart := false }
def FnExactGrowStepsSaid : Prop := fnExactGrowStepsRow.holds Try.pinned (OpenSpec.ofChange fnExactGrowStepsSpec)

/-- ITS FALSE NEIGHBOUR: 'it returns false'. Refute it at one input. -/
def fnExactGrowStepsWrong : ChangeSpec := { name := "fnExactGrowSteps", fn := fun _ => fun
  | [d1, d2, d3, d4] => { results := [.lit (.bool false)], args := [d1, d2, d3, d4] }
  | _ => none }
def FnExactGrowStepsWrongFalsely : Prop := fnExactGrowStepsRow.holds Try.pinned (OpenSpec.ofChange fnExactGrowStepsWrong)

/-- 'laws.FnExactStepsToDry': WHATEVER THE INPUT: true; the input reads as it did. -/
def fnExactStepsToDrySpec : ChangeSpec := { name := "fnExactStepsToDry", fn := fun _ => fun
  | [d1, d2, d3, d4] => { results := [.lit (.bool true)], args := [d1, d2, d3, d4] }
  | _ => none }
def fnExactStepsToDryRow : OpenClaim := { program := "ytgmcpbhjcfiikaa", sum := "6c3562fb39f99b1c98c0eda3294950df867ee15c8d5870b457860f7eb498d0d3", func := "loop.example/g01224/laws.FnExactStepsToDry", spec := "fnExactStepsToDry", inPlace := ["math.Float32bits", "math.archFloor", "math.Float64bits", "math.Float64frombits", "math.archTrunc"], unfollowed := true, recurses := true, plainKeys := false, apart := false }
def FnExactStepsToDrySaid : Prop := fnExactStepsToDryRow.holds Try.pinned (OpenSpec.ofChange fnExactStepsToDrySpec)

/-- ITS FALSE NEIGHBOUR: 'it returns false'. Refute it at one input. -/
def fnExactStepsToDryWrong : ChangeSpec := { name := "fnExactStepsToDry", fn := fun _ => fun
  | [d1, d2, d3, d4] => { results := [.lit (.bool false)], args := [d1, d2, d3, d4] }
  | _ => none }
def FnExactStepsToDryWrongFalsely : Prop := fnExactStepsToDryRow.holds Try.pinned (OpenSpec.ofChange fnExactStepsToDryWrong)

/-- 'laws.FnExactUnitAt': WHATEVER THE INPUT: true; the input reads as it did. -/
def fnExactUnitAtSpec : ChangeSpec := { name := "fnExactUnitAt", fn := fun _ => fun
  | [d] => { results := [.lit (.bool true)], args := [d] }
  | _ => none }
def fnExactUnitAtRow : OpenClaim := { program := "ytgmcpbhjcfiikaa", sum := "6c3562fb39f99b1c98c0eda3294950df867ee15c8d5870b457860f7eb498d0d3", func := "loop.example/g01224/laws.FnExactUnitAt", spec := "fnExactUnitAt", inPlace := ["math.Float64frombits", "math.RoundToEven", "math.Float64bits"], plainKeys := false, apart := false }
def FnExactUnitAtSaid : Prop := fnExactUnitAtRow.holds Try.pinned (OpenSpec.ofChange fnExactUnitAtSpec)

/-- ITS FALSE NEIGHBOUR: 'it returns false'. Refute it at one input. -/
def fnExactUnitAtWrong : ChangeSpec := { name := "fnExactUnitAt", fn := fun _ => fun
  | [d] => { results := [.lit (.bool false)], args := [d] }
  | _ => none }
def FnExactUnitAtWrongFalsely : Prop := fnExactUnitAtRow.holds Try.pinned (OpenSpec.ofChange fnExactUnitAtWrong)

/-- 'laws.FnExactThirdRoot': WHATEVER THE INPUT: true; the input reads as it did. -/
def fnExactThirdRootSpec : ChangeSpec := { name := "fnExactThirdRoot", fn := fun _ => fun
  | [d] => { results := [.lit (.bool true)], args := [d] }
  | _ => none }
def fnExactThirdRootRow : OpenClaim := { program := "ytgmcpbhjcfiikaa", sum := "6c3562fb39f99b1c98c0eda3294950df867ee15c8d5870b457860f7eb498d0d3", func := "loop.example/g01224/laws.FnExactThirdRoot", spec := "fnExactThirdRoot", inPlace := ["math.Float32bits", "math.Float64bits", "math.Float64frombits"], plainKeys := false, apart := false }
def FnExactThirdRootSaid : Prop := fnExactThirdRootRow.holds Try.pinned (OpenSpec.ofChange fnExactThirdRootSpec)

/-- ITS FALSE NEIGHBOUR: 'it returns false'. Refute it at one input. -/
def fnExactThirdRootWrong : ChangeSpec := { name := "fnExactThirdRoot", fn := fun _ => fun
  | [d] => { results := [.lit (.bool false)], args := [d] }
  | _ => none }
def FnExactThirdRootWrongFalsely : Prop := fnExactThirdRootRow.holds Try.pinned (OpenSpec.ofChange fnExactThirdRootWrong)

/-- 'laws.FnExactDrawPairs': WHATEVER THE INPUT: true; the input reads as it did. -/
def fnExactDrawPairsSpec : ChangeSpec := { name := "fnExactDrawPairs", fn := fun _ => fun
  | [d1, d2, d3] => { results := [.lit (.bool true)], args := [d1, d2, d3] }
  | _ => none }
def fnExactDrawPairsRow : OpenClaim := { program := "ytgmcpbhjcfiikaa", sum := "6c3562fb39f99b1c98c0eda3294950df867ee15c8d5870b457860f7eb498d0d3", func := "loop.example/g01224/laws.FnExactDrawPairs", spec := "fnExactDrawPairs", unfollowed := true, recurses := true, plainKeys := false, apart := false }
def FnExactDrawPairsSaid : Prop := fnExactDrawPairsRow.holds Try.pinned (OpenSpec.ofChange fnExactDrawPairsSpec)

/-- ITS FALSE NEIGHBOUR: 'it returns false'. Refute it at one input. -/
def fnExactDrawPairsWrong : ChangeSpec := { name := "fnExactDrawPairs", fn := fun _ => fun
  | [d1, d2, d3] => { results := [.lit (.bool false)], args := [d1, d2, d3] }
  | _ => none }
def FnExactDrawPairsWrongFalsely : Prop := fnExactDrawPairsRow.holds Try.pinned (OpenSpec.ofChange fnExactDrawPairsWrong)

/-- 'laws.FnExactCollidePairs': WHATEVER THE INPUT: true; the input reads as it did. -/
def fnExactCollidePairsSpec : ChangeSpec := { name := "fnExactCollidePairs", fn := fun _ => fun
  | [d1, d2] => { results := [.lit (.bool true)], args := [d1, d2] }
  | _ => none }
def fnExactCollidePairsRow : OpenClaim := { program := "ytgmcpbhjcfiikaa", sum := "6c3562fb39f99b1c98c0eda3294950df867ee15c8d5870b457860f7eb498d0d3", func := "loop.example/g01224/laws.FnExactCollidePairs", spec := "fnExactCollidePairs", inPlace := ["math.Float64bits", "math.Float64frombits"], plainKeys := false, apart := false }
def FnExactCollidePairsSaid : Prop := fnExactCollidePairsRow.holds Try.pinned (OpenSpec.ofChange fnExactCollidePairsSpec)

/-- ITS FALSE NEIGHBOUR: 'it returns false'. Refute it at one input. -/
def fnExactCollidePairsWrong : ChangeSpec := { name := "fnExactCollidePairs", fn := fun _ => fun
  | [d1, d2] => { results := [.lit (.bool false)], args := [d1, d2] }
  | _ => none }
def FnExactCollidePairsWrongFalsely : Prop := fnExactCollidePairsRow.holds Try.pinned (OpenSpec.ofChange fnExactCollidePairsWrong)

/- THE SECOND FORM. 'bulk': how many values and letters a reading holds, each counted each time it is reached (what is shared counts as often as it is met; a slice's spare places count too). A statement '..UptoSaid' is the law's where the arguments, and the package variables that the reading takes, are together of bulk at most 1048576: NARROWER than '..Said'. Prove '..Said' where nothing that the law and all that it calls make is longer than what came in: it says more and counts as full. Else prove '..UptoSaid'. A law counts once. -/
mutual
def uptoBulk {H : Type} : DataW H → Nat
  | .lit (.string bytes) => bytes.length + 1
  | .lit _ => 1
  | .nil => 1
  | .ptr d => uptoBulk d + 1
  | .slice elems spare => uptoBulkAll elems + uptoBulkAll spare + 1
  | .agg parts => uptoBulkAll parts + 1
  | .iface _ d => uptoBulk d + 1
  | .map entries => uptoBulkEntries entries + 1
  | .held _ => 1
def uptoBulkAll {H : Type} : List (DataW H) → Nat
  | [] => 0
  | d :: r => uptoBulk d + uptoBulkAll r
def uptoBulkEntries {H : Type} : List (Lit × DataW H) → Nat
  | [] => 0
  | x :: r => uptoBulkEntry x + uptoBulkEntries r
def uptoBulkEntry {H : Type} : Lit × DataW H → Nat
  | (.string bytes, d) => bytes.length + uptoBulk d + 1
  | (_, d) => uptoBulk d + 1
 end
def uptoSmall : (H : Type) → List (DataW H) → Bool := fun _ ds => decide (uptoBulkAll ds ≤ 1048576)
def OpenSpec.upto (s : _root_.Go.ChangeSpec) : _root_.Go.OpenSpec := { _root_.Go.OpenSpec.ofChange s with cond := some uptoSmall }

/-- 'laws.FnExactVapourAbove', WHERE WHAT IT READS IS OF BULK AT MOST 1048576: true; the input reads as it did. -/
def fnExactVapourAboveUptoRow : OpenClaim := { program := "ytgmcpbhjcfiikaa", sum := "6c3562fb39f99b1c98c0eda3294950df867ee15c8d5870b457860f7eb498d0d3", func := "loop.example/g01224/laws.FnExactVapourAbove", spec := "fnExactVapourAbove", inPlace := ["math.Float32bits", "math.Float64bits", "math.Float64frombits"], unfollowed := true, recurses := true, plainKeys := false, apart := false, narrowed := true }
def FnExactVapourAboveUptoSaid : Prop := fnExactVapourAboveUptoRow.holds Try.pinned (OpenSpec.upto fnExactVapourAboveSpec)

/-- 'laws.FnExactValidEchoMap', WHERE WHAT IT READS IS OF BULK AT MOST 1048576: true; the input reads as it did. -/
def fnExactValidEchoMapUptoRow : OpenClaim := { program := "ytgmcpbhjcfiikaa", sum := "6c3562fb39f99b1c98c0eda3294950df867ee15c8d5870b457860f7eb498d0d3", func := "loop.example/g01224/laws.FnExactValidEchoMap", spec := "fnExactValidEchoMap", inPlace := ["math.Float32bits", "math.Float64bits", "math.Float64frombits"], plainKeys := false, apart := false, narrowed := true }
def FnExactValidEchoMapUptoSaid : Prop := fnExactValidEchoMapUptoRow.holds Try.pinned (OpenSpec.upto fnExactValidEchoMapSpec)

/-- 'laws.FnExactRiseIn', WHERE WHAT IT READS IS OF BULK AT MOST 1048576: true; the input reads as it did. -/
def fnExactRiseInUptoRow : OpenClaim := { program := "ytgmcpbhjcfiikaa", sum := "6c3562fb39f99b1c98c0eda3294950df867ee15c8d5870b457860f7eb498d0d3", func := "loop.example/g01224/laws.FnExactRiseIn", spec := "fnExactRiseIn", inPlace := ["math.Float32bits", "math.archFloor", "math.Float64bits", "math.Float64frombits", "math.archTrunc"], unfollowed := true, recurses := true, plainKeys := false, apart := false, narrowed := true }
def FnExactRiseInUptoSaid : Prop := fnExactRiseInUptoRow.holds Try.pinned (OpenSpec.upto fnExactRiseInSpec)

/-- 'laws.FnExactSteadySounding', WHERE WHAT IT READS IS OF BULK AT MOST 1048576: true; the input reads as it did. -/
def fnExactSteadySoundingUptoRow : OpenClaim := { program := "ytgmcpbhjcfiikaa", sum := "6c3562fb39f99b1c98c0eda3294950df867ee15c8d5870b457860f7eb498d0d3", func := "loop.example/g01224/laws.FnExactSteadySounding", spec := "fnExactSteadySounding", inPlace := ["math.Float32bits", "math.Float64bits", "math.Float64frombits"], unfollowed := true, recurses := true, plainKeys := false, apart := false, narrowed := true }
def FnExactSteadySoundingUptoSaid : Prop := fnExactSteadySoundingUptoRow.holds Try.pinned (OpenSpec.upto fnExactSteadySoundingSpec)

/-- 'laws.FnExactEventsOf', WHERE WHAT IT READS IS OF BULK AT MOST 1048576: true; the input reads as it did. -/
def fnExactEventsOfUptoRow : OpenClaim := { program := "ytgmcpbhjcfiikaa", sum := "6c3562fb39f99b1c98c0eda3294950df867ee15c8d5870b457860f7eb498d0d3", func := "loop.example/g01224/laws.FnExactEventsOf", spec := "fnExactEventsOf", inPlace := ["math.Float32bits", "math.Float64bits", "math.Float64frombits"], unfollowed := true, recurses := true, plainKeys := false, apart := false, narrowed := true }
def FnExactEventsOfUptoSaid : Prop := fnExactEventsOfUptoRow.holds Try.pinned (OpenSpec.upto fnExactEventsOfSpec)

/-- 'laws.FnExactLossesOf', WHERE WHAT IT READS IS OF BULK AT MOST 1048576: true; the input reads as it did. -/
def fnExactLossesOfUptoRow : OpenClaim := { program := "ytgmcpbhjcfiikaa", sum := "6c3562fb39f99b1c98c0eda3294950df867ee15c8d5870b457860f7eb498d0d3", func := "loop.example/g01224/laws.FnExactLossesOf", spec := "fnExactLossesOf", inPlace := ["math.Float32bits", "math.Float64bits", "math.Float64frombits"], unfollowed := true, recurses := true, plainKeys := false, apart := false, narrowed := true }
def FnExactLossesOfUptoSaid : Prop := fnExactLossesOfUptoRow.holds Try.pinned (OpenSpec.upto fnExactLossesOfSpec)

/-- 'laws.FnExactCollide', WHERE WHAT IT READS IS OF BULK AT MOST 1048576: true; the input reads as it did. -/
def fnExactCollideUptoRow : OpenClaim := { program := "ytgmcpbhjcfiikaa", sum := "6c3562fb39f99b1c98c0eda3294950df867ee15c8d5870b457860f7eb498d0d3", func := "loop.example/g01224/laws.FnExactCollide", spec := "fnExactCollide", inPlace := ["math.Float32bits", "math.Float64bits", "math.Float64frombits"], unfollowed := true, recurses := true, plainKeys := false, apart := false, narrowed := true }
def FnExactCollideUptoSaid : Prop := fnExactCollideUptoRow.holds Try.pinned (OpenSpec.upto fnExactCollideSpec)

/-- 'laws.FnExactCollideSteps', WHERE WHAT IT READS IS OF BULK AT MOST 1048576: true; the input reads as it did. -/
def fnExactCollideStepsUptoRow : OpenClaim := { program := "ytgmcpbhjcfiikaa", sum := "6c3562fb39f99b1c98c0eda3294950df867ee15c8d5870b457860f7eb498d0d3", func := "loop.example/g01224/laws.FnExactCollideSteps", spec := "fnExactCollideSteps", inPlace := ["math.Float32bits", "math.Float64bits", "math.Float64frombits"], unfollowed := true, recurses := true, plainKeys := false, apart := false, narrowed := true }
def FnExactCollideStepsUptoSaid : Prop := fnExactCollideStepsUptoRow.holds Try.pinned (OpenSpec.upto fnExactCollideStepsSpec)

/-- 'laws.FnExactRainMade', WHERE WHAT IT READS IS OF BULK AT MOST 1048576: true; the input reads as it did. -/
def fnExactRainMadeUptoRow : OpenClaim := { program := "ytgmcpbhjcfiikaa", sum := "6c3562fb39f99b1c98c0eda3294950df867ee15c8d5870b457860f7eb498d0d3", func := "loop.example/g01224/laws.FnExactRainMade", spec := "fnExactRainMade", inPlace := ["math.Float32bits", "math.Float64bits", "math.Float64frombits"], unfollowed := true, recurses := true, plainKeys := false, apart := false, narrowed := true }
def FnExactRainMadeUptoSaid : Prop := fnExactRainMadeUptoRow.holds Try.pinned (OpenSpec.upto fnExactRainMadeSpec)

/-- 'laws.FnExactGrowOnce', WHERE WHAT IT READS IS OF BULK AT MOST 1048576: true; the input reads as it did. -/
def fnExactGrowOnceUptoRow : OpenClaim := { program := "ytgmcpbhjcfiikaa", sum := "6c3562fb39f99b1c98c0eda3294950df867ee15c8d5870b457860f7eb498d0d3", func := "loop.example/g01224/laws.FnExactGrowOnce", spec := "fnExactGrowOnce", inPlace := ["math.Float32bits", "math.archFloor", "math.Float64bits", "math.Float64frombits", "math.archTrunc"], unfollowed := true, recurses := true, plainKeys := false, apart := false, narrowed := true }
def FnExactGrowOnceUptoSaid : Prop := fnExactGrowOnceUptoRow.holds Try.pinned (OpenSpec.upto fnExactGrowOnceSpec)

/-- 'laws.FnExactGrowSteps', WHERE WHAT IT READS IS OF BULK AT MOST 1048576: true; the input reads as it did. -/
def fnExactGrowStepsUptoRow : OpenClaim := { program := "ytgmcpbhjcfiikaa", sum := "6c3562fb39f99b1c98c0eda3294950df867ee15c8d5870b457860f7eb498d0d3", func := "loop.example/g01224/laws.FnExactGrowSteps", spec := "fnExactGrowSteps", inPlace := ["math.Float32bits", "math.archFloor", "math.Float64bits", "math.Float64frombits", "math.archTrunc"], unfollowed := true, recurses := true, plainKeys := false, apart := false, narrowed := true }
def FnExactGrowStepsUptoSaid : Prop := fnExactGrowStepsUptoRow.holds Try.pinned (OpenSpec.upto fnExactGrowStepsSpec)

/-- 'laws.FnExactStepsToDry', WHERE WHAT IT READS IS OF BULK AT MOST 1048576: true; the input reads as it did. -/
def fnExactStepsToDryUptoRow : OpenClaim := { program := "ytgmcpbhjcfiikaa", sum := "6c3562fb39f99b1c98c0eda3294950df867ee15c8d5870b457860f7eb498d0d3", func := "loop.example/g01224/laws.FnExactStepsToDry", spec := "fnExactStepsToDry", inPlace := ["math.Float32bits", "math.archFloor", "math.Float64bits", "math.Float64frombits", "math.archTrunc"], unfollowed := true, recurses := true, plainKeys := false, apart := false, narrowed := true }
def FnExactStepsToDryUptoSaid : Prop := fnExactStepsToDryUptoRow.holds Try.pinned (OpenSpec.upto fnExactStepsToDrySpec)

/-- 'laws.FnExactUnitAt', WHERE WHAT IT READS IS OF BULK AT MOST 1048576: true; the input reads as it did. -/
def fnExactUnitAtUptoRow : OpenClaim := { program := "ytgmcpbhjcfiikaa", sum := "6c3562fb39f99b1c98c0eda3294950df867ee15c8d5870b457860f7eb498d0d3", func := "loop.example/g01224/laws.FnExactUnitAt", spec := "fnExactUnitAt", inPlace := ["math.Float64frombits", "math.RoundToEven", "math.Float64bits"], plainKeys := false, apart := false, narrowed := true }
def FnExactUnitAtUptoSaid : Prop := fnExactUnitAtUptoRow.holds Try.pinned (OpenSpec.upto fnExactUnitAtSpec)

/-- 'laws.FnExactThirdRoot', WHERE WHAT IT READS IS OF BULK AT MOST 1048576: true; the input reads as it did. -/
def fnExactThirdRootUptoRow : OpenClaim := { program := "ytgmcpbhjcfiikaa", sum := "6c3562fb39f99b1c98c0eda3294950df867ee15c8d5870b457860f7eb498d0d3", func := "loop.example/g01224/laws.FnExactThirdRoot", spec := "fnExactThirdRoot", inPlace := ["math.Float32bits", "math.Float64bits", "math.Float64frombits"], plainKeys := false, apart := false, narrowed := true }
def FnExactThirdRootUptoSaid : Prop := fnExactThirdRootUptoRow.holds Try.pinned (OpenSpec.upto fnExactThirdRootSpec)

/-- 'laws.FnExactDrawPairs', WHERE WHAT IT READS IS OF BULK AT MOST 1048576: true; the input reads as it did. -/
def fnExactDrawPairsUptoRow : OpenClaim := { program := "ytgmcpbhjcfiikaa", sum := "6c3562fb39f99b1c98c0eda3294950df867ee15c8d5870b457860f7eb498d0d3", func := "loop.example/g01224/laws.FnExactDrawPairs", spec := "fnExactDrawPairs", unfollowed := true, recurses := true, plainKeys := false, apart := false, narrowed := true }
def FnExactDrawPairsUptoSaid : Prop := fnExactDrawPairsUptoRow.holds Try.pinned (OpenSpec.upto fnExactDrawPairsSpec)

/-- 'laws.FnExactCollidePairs', WHERE WHAT IT READS IS OF BULK AT MOST 1048576: true; the input reads as it did. -/
def fnExactCollidePairsUptoRow : OpenClaim := { program := "ytgmcpbhjcfiikaa", sum := "6c3562fb39f99b1c98c0eda3294950df867ee15c8d5870b457860f7eb498d0d3", func := "loop.example/g01224/laws.FnExactCollidePairs", spec := "fnExactCollidePairs", inPlace := ["math.Float64bits", "math.Float64frombits"], plainKeys := false, apart := false, narrowed := true }
def FnExactCollidePairsUptoSaid : Prop := fnExactCollidePairsUptoRow.holds Try.pinned (OpenSpec.upto fnExactCollidePairsSpec)

end Rows
end Go.Proofs.Ytgmcpbhjcfiikaa
