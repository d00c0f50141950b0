/-
  No cell of these rows narrows 'for every input' (looked for: loops, veiled, ifaces, maps, wideKeys, modest, calm, conditions, laid).
  DERIVED. THE GIVEN ROWS OF THIS SEAT. 30 by the template 'for every input the law returns true; each argument reads behind the call as it read before'; 0 by the template 'total and deterministic' (their statements: YtlccmhkjfnmdiaaTotals.lean).
  GIVEN WITH THE SEED: the statements are not yours to turn. If you find one false, say at which input.
  Laid BY PROGRAM, IN A SANDBOX (cutbox-rows.mjs): the forced cells as the released guide's own fill.sh prints them over the translation d87e98b327a6817e… (all of the seat's roots in one cut). By AI agents, Wed Nov 11 2026. No macro, syntax, notation, axiom, sorry.
-/
import Derived.Test.YtlccmhkjfnmdiaaChecked
import GoSem.Claim
import GoSem.ClaimJoined
import GoSem.ClaimMapViews
import Derived.JoinedTies
import Derived.KernelRfl
namespace Go.Proofs.Ytlccmhkjfnmdiaa
/- THE CELL 'sum', in the pinned program and in every row, IS THE sha256 OF THE DUMP (.gsa) THAT YtlccmhkjfnmdiaaProg.lean LOADS. Nothing in Lean hashes anything: it is a label: what it is worth is what the hold of that sum in a sandbox is worth. -/
noncomputable def Try.pinned : Pinned := { name := "ytlccmhkjfnmdiaa", sum := "d87e98b327a6817e1933828d346a90afd684e681f1ac03709b072b8bb30306b8", checked := Try.checked }
namespace Rows
def none {H : Type} : Left H := { results := [], args := [] }

/-- 'laws.FnExactThirdRoot': WHATEVER THE INPUT: true; the input reads as it did. -/
def fnExactThirdRootSpec : ChangeSpec := { name := "fnExactThirdRoot", fn := fun _ => fun
  | [d] => { results := [.lit (.bool true)], args := [d] }
  | _ => none }
def fnExactThirdRootRow : OpenClaim := { program := "ytlccmhkjfnmdiaa", sum := "d87e98b327a6817e1933828d346a90afd684e681f1ac03709b072b8bb30306b8", func := "loop.example/g01224/laws.FnExactThirdRoot", spec := "fnExactThirdRoot", inPlace := ["math.Float32bits", "math.Float64bits", "math.Float64frombits"], plainKeys := false, apart := false }
def FnExactThirdRootSaid : Prop := fnExactThirdRootRow.holds Try.pinned (OpenSpec.ofChange fnExactThirdRootSpec)

/-- ITS FALSE NEIGHBOUR: 'it returns false'. Refute it at one input. -/
def fnExactThirdRootWrong : ChangeSpec := { name := "fnExactThirdRoot", fn := fun _ => fun
  | [d] => { results := [.lit (.bool false)], args := [d] }
  | _ => none }
def FnExactThirdRootWrongFalsely : Prop := fnExactThirdRootRow.holds Try.pinned (OpenSpec.ofChange fnExactThirdRootWrong)

/-- 'laws.FnExactShiftMasses': WHATEVER THE INPUT: true; the input reads as it did. -/
def fnExactShiftMassesSpec : ChangeSpec := { name := "fnExactShiftMasses", fn := fun _ => fun
  | [d1, d2] => { results := [.lit (.bool true)], args := [d1, d2] }
  | _ => none }
def fnExactShiftMassesRow : OpenClaim := { program := "ytlccmhkjfnmdiaa", sum := "d87e98b327a6817e1933828d346a90afd684e681f1ac03709b072b8bb30306b8", func := "loop.example/g01224/laws.FnExactShiftMasses", spec := "fnExactShiftMasses", inPlace := ["math.Float32bits", "math.Float64bits", "math.Float64frombits"], unfollowed := true, recurses := true, plainKeys := false, apart := false }
def FnExactShiftMassesSaid : Prop := fnExactShiftMassesRow.holds Try.pinned (OpenSpec.ofChange fnExactShiftMassesSpec)

/-- ITS FALSE NEIGHBOUR: 'it returns false'. Refute it at one input. -/
def fnExactShiftMassesWrong : ChangeSpec := { name := "fnExactShiftMasses", fn := fun _ => fun
  | [d1, d2] => { results := [.lit (.bool false)], args := [d1, d2] }
  | _ => none }
def FnExactShiftMassesWrongFalsely : Prop := fnExactShiftMassesRow.holds Try.pinned (OpenSpec.ofChange fnExactShiftMassesWrong)

/-- 'laws.FnExactGrowOnce': WHATEVER THE INPUT: true; the input reads as it did. -/
def fnExactGrowOnceSpec : ChangeSpec := { name := "fnExactGrowOnce", fn := fun _ => fun
  | [d1, d2, d3] => { results := [.lit (.bool true)], args := [d1, d2, d3] }
  | _ => none }
def fnExactGrowOnceRow : OpenClaim := { program := "ytlccmhkjfnmdiaa", sum := "d87e98b327a6817e1933828d346a90afd684e681f1ac03709b072b8bb30306b8", func := "loop.example/g01224/laws.FnExactGrowOnce", spec := "fnExactGrowOnce", inPlace := ["math.Float32bits", "math.archFloor", "math.Float64bits", "math.Float64frombits", "math.archTrunc"], unfollowed := true, recurses := true, plainKeys := false, apart := false }
def FnExactGrowOnceSaid : Prop := fnExactGrowOnceRow.holds Try.pinned (OpenSpec.ofChange fnExactGrowOnceSpec)

/-- ITS FALSE NEIGHBOUR: 'it returns false'. Refute it at one input. -/
def fnExactGrowOnceWrong : ChangeSpec := { name := "fnExactGrowOnce", fn := fun _ => fun
  | [d1, d2, d3] => { results := [.lit (.bool false)], args := [d1, d2, d3] }
  | _ => none }
def FnExactGrowOnceWrongFalsely : Prop := fnExactGrowOnceRow.holds Try.pinned (OpenSpec.ofChange fnExactGrowOnceWrong)

/-- 'laws.FnExactGrowSteps': WHATEVER THE INPUT: true; the input reads as it did. -/
def fnExactGrowStepsSpec : ChangeSpec := { name := "fnExactGrowSteps", fn := fun _ => fun
  | [d1, d2, d3, d4] => { results := [.lit (.bool true)], args := [d1, d2, d3, d4] }
  | _ => none }
def fnExactGrowStepsRow : OpenClaim := { program := "ytlccmhkjfnmdiaa", sum := "d87e98b327a6817e1933828d346a90afd684e681f1ac03709b072b8bb30306b8", func := "loop.example/g01224/laws.FnExactGrowSteps", spec := "fnExactGrowSteps", inPlace := ["math.Float32bits", "math.archFloor", "math.Float64bits", "math.Float64frombits", "math.archTrunc"], unfollowed := true, recurses := true, plainKeys := false, apart := false }
def FnExactGrowStepsSaid : Prop := fnExactGrowStepsRow.holds Try.pinned (OpenSpec.ofChange fnExactGrowStepsSpec)

/-- ITS FALSE NEIGHBOUR: 'it returns false'. Refute it at one input. -/
def fnExactGrowStepsWrong : ChangeSpec := { name := "fnExactGrowSteps", fn := fun _ => fun
  | [d1, d2, d3, d4] => { results := [.lit (.bool false)], args := [d1, d2, d3, d4] }
  | _ => none }
def FnExactGrowStepsWrongFalsely : Prop := fnExactGrowStepsRow.holds Try.pinned (OpenSpec.ofChange fnExactGrowStepsWrong)

/-- 'laws.FnExactStepsToDry': WHATEVER THE INPUT: true; the input reads as it did. -/
def fnExactStepsToDrySpec : ChangeSpec := { name := "fnExactStepsToDry", fn := fun _ => fun
  | [d1, d2, d3, d4] => { results := [.lit (.bool true)], args := [d1, d2, d3, d4] }
  | _ => none }
def fnExactStepsToDryRow : OpenClaim := { program := "ytlccmhkjfnmdiaa", sum := "d87e98b327a6817e1933828d346a90afd684e681f1ac03709b072b8bb30306b8", func := "loop.example/g01224/laws.FnExactStepsToDry", spec := "fnExactStepsToDry", inPlace := ["math.Float32bits", "math.archFloor", "math.Float64bits", "math.Float64frombits", "math.archTrunc"], unfollowed := true, recurses := true, plainKeys := false, apart := false }
def FnExactStepsToDrySaid : Prop := fnExactStepsToDryRow.holds Try.pinned (OpenSpec.ofChange fnExactStepsToDrySpec)

/-- ITS FALSE NEIGHBOUR: 'it returns false'. Refute it at one input. -/
def fnExactStepsToDryWrong : ChangeSpec := { name := "fnExactStepsToDry", fn := fun _ => fun
  | [d1, d2, d3, d4] => { results := [.lit (.bool false)], args := [d1, d2, d3, d4] }
  | _ => none }
def FnExactStepsToDryWrongFalsely : Prop := fnExactStepsToDryRow.holds Try.pinned (OpenSpec.ofChange fnExactStepsToDryWrong)

/-- 'laws.FnExactEventsOf': WHATEVER THE INPUT: true; the input reads as it did. -/
def fnExactEventsOfSpec : ChangeSpec := { name := "fnExactEventsOf", fn := fun _ => fun
  | [d1, d2, d3] => { results := [.lit (.bool true)], args := [d1, d2, d3] }
  | _ => none }
def fnExactEventsOfRow : OpenClaim := { program := "ytlccmhkjfnmdiaa", sum := "d87e98b327a6817e1933828d346a90afd684e681f1ac03709b072b8bb30306b8", func := "loop.example/g01224/laws.FnExactEventsOf", spec := "fnExactEventsOf", inPlace := ["math.Float32bits", "math.Float64bits", "math.Float64frombits"], unfollowed := true, recurses := true, plainKeys := false, apart := false }
def FnExactEventsOfSaid : Prop := fnExactEventsOfRow.holds Try.pinned (OpenSpec.ofChange fnExactEventsOfSpec)

/-- ITS FALSE NEIGHBOUR: 'it returns false'. Refute it at one input. -/
def fnExactEventsOfWrong : ChangeSpec := { name := "fnExactEventsOf", fn := fun _ => fun
  | [d1, d2, d3] => { results := [.lit (.bool false)], args := [d1, d2, d3] }
  | _ => none }
def FnExactEventsOfWrongFalsely : Prop := fnExactEventsOfRow.holds Try.pinned (OpenSpec.ofChange fnExactEventsOfWrong)

/-- 'laws.FnExactLossesOf': WHATEVER THE INPUT: true; the input reads as it did. -/
def fnExactLossesOfSpec : ChangeSpec := { name := "fnExactLossesOf", fn := fun _ => fun
  | [d1, d2, d3] => { results := [.lit (.bool true)], args := [d1, d2, d3] }
  | _ => none }
def fnExactLossesOfRow : OpenClaim := { program := "ytlccmhkjfnmdiaa", sum := "d87e98b327a6817e1933828d346a90afd684e681f1ac03709b072b8bb30306b8", func := "loop.example/g01224/laws.FnExactLossesOf", spec := "fnExactLossesOf", inPlace := ["math.Float32bits", "math.Float64bits", "math.Float64frombits"], unfollowed := true, recurses := true, plainKeys := false, apart := false }
def FnExactLossesOfSaid : Prop := fnExactLossesOfRow.holds Try.pinned (OpenSpec.ofChange fnExactLossesOfSpec)

/-- ITS FALSE NEIGHBOUR: 'it returns false'. Refute it at one input. -/
def fnExactLossesOfWrong : ChangeSpec := { name := "fnExactLossesOf", fn := fun _ => fun
  | [d1, d2, d3] => { results := [.lit (.bool false)], args := [d1, d2, d3] }
  | _ => none }
def FnExactLossesOfWrongFalsely : Prop := fnExactLossesOfRow.holds Try.pinned (OpenSpec.ofChange fnExactLossesOfWrong)

/-- 'laws.FnExactCollide': WHATEVER THE INPUT: true; the input reads as it did. -/
def fnExactCollideSpec : ChangeSpec := { name := "fnExactCollide", fn := fun _ => fun
  | [d1, d2, d3] => { results := [.lit (.bool true)], args := [d1, d2, d3] }
  | _ => none }
def fnExactCollideRow : OpenClaim := { program := "ytlccmhkjfnmdiaa", sum := "d87e98b327a6817e1933828d346a90afd684e681f1ac03709b072b8bb30306b8", func := "loop.example/g01224/laws.FnExactCollide", spec := "fnExactCollide", inPlace := ["math.Float32bits", "math.Float64bits", "math.Float64frombits"], unfollowed := true, recurses := true, plainKeys := false, apart := false }
def FnExactCollideSaid : Prop := fnExactCollideRow.holds Try.pinned (OpenSpec.ofChange fnExactCollideSpec)

/-- ITS FALSE NEIGHBOUR: 'it returns false'. Refute it at one input. -/
def fnExactCollideWrong : ChangeSpec := { name := "fnExactCollide", fn := fun _ => fun
  | [d1, d2, d3] => { results := [.lit (.bool false)], args := [d1, d2, d3] }
  | _ => none }
def FnExactCollideWrongFalsely : Prop := fnExactCollideRow.holds Try.pinned (OpenSpec.ofChange fnExactCollideWrong)

/-- 'laws.FnExactCollideSteps': WHATEVER THE INPUT: true; the input reads as it did. -/
def fnExactCollideStepsSpec : ChangeSpec := { name := "fnExactCollideSteps", fn := fun _ => fun
  | [d1, d2, d3, d4] => { results := [.lit (.bool true)], args := [d1, d2, d3, d4] }
  | _ => none }
def fnExactCollideStepsRow : OpenClaim := { program := "ytlccmhkjfnmdiaa", sum := "d87e98b327a6817e1933828d346a90afd684e681f1ac03709b072b8bb30306b8", func := "loop.example/g01224/laws.FnExactCollideSteps", spec := "fnExactCollideSteps", inPlace := ["math.Float32bits", "math.Float64bits", "math.Float64frombits"], unfollowed := true, recurses := true, plainKeys := false, apart := false }
def FnExactCollideStepsSaid : Prop := fnExactCollideStepsRow.holds Try.pinned (OpenSpec.ofChange fnExactCollideStepsSpec)

/-- ITS FALSE NEIGHBOUR: 'it returns false'. Refute it at one input. -/
def fnExactCollideStepsWrong : ChangeSpec := { name := "fnExactCollideSteps", fn := fun _ => fun
  | [d1, d2, d3, d4] => { results := [.lit (.bool false)], args := [d1, d2, d3, d4] }
  | _ => none }
def FnExactCollideStepsWrongFalsely : Prop := fnExactCollideStepsRow.holds Try.pinned (OpenSpec.ofChange fnExactCollideStepsWrong)

/-- 'laws.FnExactRainMade': WHATEVER THE INPUT: true; the input reads as it did. -/
def fnExactRainMadeSpec : ChangeSpec := { name := "fnExactRainMade", fn := fun _ => fun
  | [d1, d2, d3, d4] => { results := [.lit (.bool true)], args := [d1, d2, d3, d4] }
  | _ => none }
def fnExactRainMadeRow : OpenClaim := { program := "ytlccmhkjfnmdiaa", sum := "d87e98b327a6817e1933828d346a90afd684e681f1ac03709b072b8bb30306b8", func := "loop.example/g01224/laws.FnExactRainMade", spec := "fnExactRainMade", inPlace := ["math.Float32bits", "math.Float64bits", "math.Float64frombits"], unfollowed := true, recurses := true, plainKeys := false, apart := false }
def FnExactRainMadeSaid : Prop := fnExactRainMadeRow.holds Try.pinned (OpenSpec.ofChange fnExactRainMadeSpec)

/-- ITS FALSE NEIGHBOUR: 'it returns false'. Refute it at one input. -/
def fnExactRainMadeWrong : ChangeSpec := { name := "fnExactRainMade", fn := fun _ => fun
  | [d1, d2, d3, d4] => { results := [.lit (.bool false)], args := [d1, d2, d3, d4] }
  | _ => none }
def FnExactRainMadeWrongFalsely : Prop := fnExactRainMadeRow.holds Try.pinned (OpenSpec.ofChange fnExactRainMadeWrong)

/-- 'laws.FnExactCollidePairs': WHATEVER THE INPUT: true; the input reads as it did. -/
def fnExactCollidePairsSpec : ChangeSpec := { name := "fnExactCollidePairs", fn := fun _ => fun
  | [d1, d2] => { results := [.lit (.bool true)], args := [d1, d2] }
  | _ => none }
def fnExactCollidePairsRow : OpenClaim := { program := "ytlccmhkjfnmdiaa", sum := "d87e98b327a6817e1933828d346a90afd684e681f1ac03709b072b8bb30306b8", func := "loop.example/g01224/laws.FnExactCollidePairs", spec := "fnExactCollidePairs", inPlace := ["math.Float64bits", "math.Float64frombits"], plainKeys := false, apart := false }
def FnExactCollidePairsSaid : Prop := fnExactCollidePairsRow.holds Try.pinned (OpenSpec.ofChange fnExactCollidePairsSpec)

/-- ITS FALSE NEIGHBOUR: 'it returns false'. Refute it at one input. -/
def fnExactCollidePairsWrong : ChangeSpec := { name := "fnExactCollidePairs", fn := fun _ => fun
  | [d1, d2] => { results := [.lit (.bool false)], args := [d1, d2] }
  | _ => none }
def FnExactCollidePairsWrongFalsely : Prop := fnExactCollidePairsRow.holds Try.pinned (OpenSpec.ofChange fnExactCollidePairsWrong)

/-- 'laws.FnExactDrawPairs': WHATEVER THE INPUT: true; the input reads as it did. -/
def fnExactDrawPairsSpec : ChangeSpec := { name := "fnExactDrawPairs", fn := fun _ => fun
  | [d1, d2, d3] => { results := [.lit (.bool true)], args := [d1, d2, d3] }
  | _ => none }
def fnExactDrawPairsRow : OpenClaim := { program := "ytlccmhkjfnmdiaa", sum := "d87e98b327a6817e1933828d346a90afd684e681f1ac03709b072b8bb30306b8", func := "loop.example/g01224/laws.FnExactDrawPairs", spec := "fnExactDrawPairs", unfollowed := true, recurses := true, plainKeys := false, apart := false }
def FnExactDrawPairsSaid : Prop := fnExactDrawPairsRow.holds Try.pinned (OpenSpec.ofChange fnExactDrawPairsSpec)

/-- ITS FALSE NEIGHBOUR: 'it returns false'. Refute it at one input. -/
def fnExactDrawPairsWrong : ChangeSpec := { name := "fnExactDrawPairs", fn := fun _ => fun
  | [d1, d2, d3] => { results := [.lit (.bool false)], args := [d1, d2, d3] }
  | _ => none }
def FnExactDrawPairsWrongFalsely : Prop := fnExactDrawPairsRow.holds Try.pinned (OpenSpec.ofChange fnExactDrawPairsWrong)

/-- 'laws.FnExactValidParcel': WHATEVER THE INPUT: true; the input reads as it did. -/
def fnExactValidParcelSpec : ChangeSpec := { name := "fnExactValidParcel", fn := fun _ => fun
  | [d] => { results := [.lit (.bool true)], args := [d] }
  | _ => none }
def fnExactValidParcelRow : OpenClaim := { program := "ytlccmhkjfnmdiaa", sum := "d87e98b327a6817e1933828d346a90afd684e681f1ac03709b072b8bb30306b8", func := "loop.example/g01224/laws.FnExactValidParcel", spec := "fnExactValidParcel", inPlace := ["math.Float32bits", "math.Float64bits", "math.Float64frombits"], plainKeys := false, apart := false }
def FnExactValidParcelSaid : Prop := fnExactValidParcelRow.holds Try.pinned (OpenSpec.ofChange fnExactValidParcelSpec)

/-- ITS FALSE NEIGHBOUR: 'it returns false'. Refute it at one input. -/
def fnExactValidParcelWrong : ChangeSpec := { name := "fnExactValidParcel", fn := fun _ => fun
  | [d] => { results := [.lit (.bool false)], args := [d] }
  | _ => none }
def FnExactValidParcelWrongFalsely : Prop := fnExactValidParcelRow.holds Try.pinned (OpenSpec.ofChange fnExactValidParcelWrong)

/-- 'laws.FnExactSameParcel': WHATEVER THE INPUT: true; the input reads as it did. -/
def fnExactSameParcelSpec : ChangeSpec := { name := "fnExactSameParcel", fn := fun _ => fun
  | [d1, d2] => { results := [.lit (.bool true)], args := [d1, d2] }
  | _ => none }
def fnExactSameParcelRow : OpenClaim := { program := "ytlccmhkjfnmdiaa", sum := "d87e98b327a6817e1933828d346a90afd684e681f1ac03709b072b8bb30306b8", func := "loop.example/g01224/laws.FnExactSameParcel", spec := "fnExactSameParcel", inPlace := ["math.Float32bits"], plainKeys := false, apart := false }
def FnExactSameParcelSaid : Prop := fnExactSameParcelRow.holds Try.pinned (OpenSpec.ofChange fnExactSameParcelSpec)

/-- ITS FALSE NEIGHBOUR: 'it returns false'. Refute it at one input. -/
def fnExactSameParcelWrong : ChangeSpec := { name := "fnExactSameParcel", fn := fun _ => fun
  | [d1, d2] => { results := [.lit (.bool false)], args := [d1, d2] }
  | _ => none }
def FnExactSameParcelWrongFalsely : Prop := fnExactSameParcelRow.holds Try.pinned (OpenSpec.ofChange fnExactSameParcelWrong)

/-- 'laws.FnExactSettleAir': WHATEVER THE INPUT: true; the input reads as it did. -/
def fnExactSettleAirSpec : ChangeSpec := { name := "fnExactSettleAir", fn := fun _ => fun
  | [d] => { results := [.lit (.bool true)], args := [d] }
  | _ => none }
def fnExactSettleAirRow : OpenClaim := { program := "ytlccmhkjfnmdiaa", sum := "d87e98b327a6817e1933828d346a90afd684e681f1ac03709b072b8bb30306b8", func := "loop.example/g01224/laws.FnExactSettleAir", spec := "fnExactSettleAir", inPlace := ["math.Float32bits", "math.archFloor", "math.Float64bits", "math.Float64frombits", "math.archTrunc"], plainKeys := false, apart := false }
def FnExactSettleAirSaid : Prop := fnExactSettleAirRow.holds Try.pinned (OpenSpec.ofChange fnExactSettleAirSpec)

/-- ITS FALSE NEIGHBOUR: 'it returns false'. Refute it at one input. -/
def fnExactSettleAirWrong : ChangeSpec := { name := "fnExactSettleAir", fn := fun _ => fun
  | [d] => { results := [.lit (.bool false)], args := [d] }
  | _ => none }
def FnExactSettleAirWrongFalsely : Prop := fnExactSettleAirRow.holds Try.pinned (OpenSpec.ofChange fnExactSettleAirWrong)

/-- 'laws.FnExactRaiseDry': WHATEVER THE INPUT: true; the input reads as it did. -/
def fnExactRaiseDrySpec : ChangeSpec := { name := "fnExactRaiseDry", fn := fun _ => fun
  | [d1, d2] => { results := [.lit (.bool true)], args := [d1, d2] }
  | _ => none }
def fnExactRaiseDryRow : OpenClaim := { program := "ytlccmhkjfnmdiaa", sum := "d87e98b327a6817e1933828d346a90afd684e681f1ac03709b072b8bb30306b8", func := "loop.example/g01224/laws.FnExactRaiseDry", spec := "fnExactRaiseDry", inPlace := ["math.Float32bits", "math.Float64bits", "math.Float64frombits", "math.archFloor", "math.archTrunc"], unfollowed := true, recurses := true, plainKeys := false, apart := false }
def FnExactRaiseDrySaid : Prop := fnExactRaiseDryRow.holds Try.pinned (OpenSpec.ofChange fnExactRaiseDrySpec)

/-- ITS FALSE NEIGHBOUR: 'it returns false'. Refute it at one input. -/
def fnExactRaiseDryWrong : ChangeSpec := { name := "fnExactRaiseDry", fn := fun _ => fun
  | [d1, d2] => { results := [.lit (.bool false)], args := [d1, d2] }
  | _ => none }
def FnExactRaiseDryWrongFalsely : Prop := fnExactRaiseDryRow.holds Try.pinned (OpenSpec.ofChange fnExactRaiseDryWrong)

/-- 'laws.FnExactRaiseMoist': WHATEVER THE INPUT: true; the input reads as it did. -/
def fnExactRaiseMoistSpec : ChangeSpec := { name := "fnExactRaiseMoist", fn := fun _ => fun
  | [d1, d2, d3] => { results := [.lit (.bool true)], args := [d1, d2, d3] }
  | _ => none }
def fnExactRaiseMoistRow : OpenClaim := { program := "ytlccmhkjfnmdiaa", sum := "d87e98b327a6817e1933828d346a90afd684e681f1ac03709b072b8bb30306b8", func := "loop.example/g01224/laws.FnExactRaiseMoist", spec := "fnExactRaiseMoist", inPlace := ["math.Float32bits", "math.archFloor", "math.Float64bits", "math.Float64frombits", "math.archTrunc"], unfollowed := true, recurses := true, plainKeys := false, apart := false }
def FnExactRaiseMoistSaid : Prop := fnExactRaiseMoistRow.holds Try.pinned (OpenSpec.ofChange fnExactRaiseMoistSpec)

/-- ITS FALSE NEIGHBOUR: 'it returns false'. Refute it at one input. -/
def fnExactRaiseMoistWrong : ChangeSpec := { name := "fnExactRaiseMoist", fn := fun _ => fun
  | [d1, d2, d3] => { results := [.lit (.bool false)], args := [d1, d2, d3] }
  | _ => none }
def FnExactRaiseMoistWrongFalsely : Prop := fnExactRaiseMoistRow.holds Try.pinned (OpenSpec.ofChange fnExactRaiseMoistWrong)

/-- 'laws.FnExactBaseOf': WHATEVER THE INPUT: true; the input reads as it did. -/
def fnExactBaseOfSpec : ChangeSpec := { name := "fnExactBaseOf", fn := fun _ => fun
  | [d] => { results := [.lit (.bool true)], args := [d] }
  | _ => none }
def fnExactBaseOfRow : OpenClaim := { program := "ytlccmhkjfnmdiaa", sum := "d87e98b327a6817e1933828d346a90afd684e681f1ac03709b072b8bb30306b8", func := "loop.example/g01224/laws.FnExactBaseOf", spec := "fnExactBaseOf", inPlace := ["math.Float32bits", "math.archFloor", "math.Float64bits", "math.Float64frombits", "math.archTrunc"], plainKeys := false, apart := false }
def FnExactBaseOfSaid : Prop := fnExactBaseOfRow.holds Try.pinned (OpenSpec.ofChange fnExactBaseOfSpec)

/-- ITS FALSE NEIGHBOUR: 'it returns false'. Refute it at one input. -/
def fnExactBaseOfWrong : ChangeSpec := { name := "fnExactBaseOf", fn := fun _ => fun
  | [d] => { results := [.lit (.bool false)], args := [d] }
  | _ => none }
def FnExactBaseOfWrongFalsely : Prop := fnExactBaseOfRow.holds Try.pinned (OpenSpec.ofChange fnExactBaseOfWrong)

/-- 'laws.FnExactMixParcels': WHATEVER THE INPUT: true; the input reads as it did. -/
def fnExactMixParcelsSpec : ChangeSpec := { name := "fnExactMixParcels", fn := fun _ => fun
  | [d1, d2, d3] => { results := [.lit (.bool true)], args := [d1, d2, d3] }
  | _ => none }
def fnExactMixParcelsRow : OpenClaim := { program := "ytlccmhkjfnmdiaa", sum := "d87e98b327a6817e1933828d346a90afd684e681f1ac03709b072b8bb30306b8", func := "loop.example/g01224/laws.FnExactMixParcels", spec := "fnExactMixParcels", inPlace := ["math.Float32bits", "math.Float64bits", "math.Float64frombits"], plainKeys := false, apart := false }
def FnExactMixParcelsSaid : Prop := fnExactMixParcelsRow.holds Try.pinned (OpenSpec.ofChange fnExactMixParcelsSpec)

/-- ITS FALSE NEIGHBOUR: 'it returns false'. Refute it at one input. -/
def fnExactMixParcelsWrong : ChangeSpec := { name := "fnExactMixParcels", fn := fun _ => fun
  | [d1, d2, d3] => { results := [.lit (.bool false)], args := [d1, d2, d3] }
  | _ => none }
def FnExactMixParcelsWrongFalsely : Prop := fnExactMixParcelsRow.holds Try.pinned (OpenSpec.ofChange fnExactMixParcelsWrong)

/-- 'laws.FnExactValidSounding': WHATEVER THE INPUT: true; the input reads as it did. -/
def fnExactValidSoundingSpec : ChangeSpec := { name := "fnExactValidSounding", fn := fun _ => fun
  | [d] => { results := [.lit (.bool true)], args := [d] }
  | _ => none }
def fnExactValidSoundingRow : OpenClaim := { program := "ytlccmhkjfnmdiaa", sum := "d87e98b327a6817e1933828d346a90afd684e681f1ac03709b072b8bb30306b8", func := "loop.example/g01224/laws.FnExactValidSounding", spec := "fnExactValidSounding", inPlace := ["math.Float32bits", "math.Float64bits", "math.Float64frombits"], unfollowed := true, recurses := true, plainKeys := false, apart := false }
def FnExactValidSoundingSaid : Prop := fnExactValidSoundingRow.holds Try.pinned (OpenSpec.ofChange fnExactValidSoundingSpec)

/-- ITS FALSE NEIGHBOUR: 'it returns false'. Refute it at one input. -/
def fnExactValidSoundingWrong : ChangeSpec := { name := "fnExactValidSounding", fn := fun _ => fun
  | [d] => { results := [.lit (.bool false)], args := [d] }
  | _ => none }
def FnExactValidSoundingWrongFalsely : Prop := fnExactValidSoundingRow.holds Try.pinned (OpenSpec.ofChange fnExactValidSoundingWrong)

/-- 'laws.FnExactSameSounding': WHATEVER THE INPUT: true; the input reads as it did. -/
def fnExactSameSoundingSpec : ChangeSpec := { name := "fnExactSameSounding", fn := fun _ => fun
  | [d1, d2] => { results := [.lit (.bool true)], args := [d1, d2] }
  | _ => none }
def fnExactSameSoundingRow : OpenClaim := { program := "ytlccmhkjfnmdiaa", sum := "d87e98b327a6817e1933828d346a90afd684e681f1ac03709b072b8bb30306b8", func := "loop.example/g01224/laws.FnExactSameSounding", spec := "fnExactSameSounding", inPlace := ["math.Float32bits"], unfollowed := true, recurses := true, plainKeys := false, apart := false }
def FnExactSameSoundingSaid : Prop := fnExactSameSoundingRow.holds Try.pinned (OpenSpec.ofChange fnExactSameSoundingSpec)

/-- ITS FALSE NEIGHBOUR: 'it returns false'. Refute it at one input. -/
def fnExactSameSoundingWrong : ChangeSpec := { name := "fnExactSameSounding", fn := fun _ => fun
  | [d1, d2] => { results := [.lit (.bool false)], args := [d1, d2] }
  | _ => none }
def FnExactSameSoundingWrongFalsely : Prop := fnExactSameSoundingRow.holds Try.pinned (OpenSpec.ofChange fnExactSameSoundingWrong)

/-- 'laws.FnExactEvenSounding': WHATEVER THE INPUT: true; the input reads as it did. -/
def fnExactEvenSoundingSpec : ChangeSpec := { name := "fnExactEvenSounding", fn := fun _ => fun
  | [d1, d2, d3, d4] => { results := [.lit (.bool true)], args := [d1, d2, d3, d4] }
  | _ => none }
def fnExactEvenSoundingRow : OpenClaim := { program := "ytlccmhkjfnmdiaa", sum := "d87e98b327a6817e1933828d346a90afd684e681f1ac03709b072b8bb30306b8", func := "loop.example/g01224/laws.FnExactEvenSounding", spec := "fnExactEvenSounding", inPlace := ["math.Float32bits", "math.Float64bits", "math.Float64frombits"], unfollowed := true, recurses := true, plainKeys := false, apart := false }
def FnExactEvenSoundingSaid : Prop := fnExactEvenSoundingRow.holds Try.pinned (OpenSpec.ofChange fnExactEvenSoundingSpec)

/-- ITS FALSE NEIGHBOUR: 'it returns false'. Refute it at one input. -/
def fnExactEvenSoundingWrong : ChangeSpec := { name := "fnExactEvenSounding", fn := fun _ => fun
  | [d1, d2, d3, d4] => { results := [.lit (.bool false)], args := [d1, d2, d3, d4] }
  | _ => none }
def FnExactEvenSoundingWrongFalsely : Prop := fnExactEvenSoundingRow.holds Try.pinned (OpenSpec.ofChange fnExactEvenSoundingWrong)

/-- 'laws.FnExactAirAt': WHATEVER THE INPUT: true; the input reads as it did. -/
def fnExactAirAtSpec : ChangeSpec := { name := "fnExactAirAt", fn := fun _ => fun
  | [d1, d2] => { results := [.lit (.bool true)], args := [d1, d2] }
  | _ => none }
def fnExactAirAtRow : OpenClaim := { program := "ytlccmhkjfnmdiaa", sum := "d87e98b327a6817e1933828d346a90afd684e681f1ac03709b072b8bb30306b8", func := "loop.example/g01224/laws.FnExactAirAt", spec := "fnExactAirAt", inPlace := ["math.Float32bits", "math.Float64bits", "math.Float64frombits"], unfollowed := true, recurses := true, plainKeys := false, apart := false }
def FnExactAirAtSaid : Prop := fnExactAirAtRow.holds Try.pinned (OpenSpec.ofChange fnExactAirAtSpec)

/-- ITS FALSE NEIGHBOUR: 'it returns false'. Refute it at one input. -/
def fnExactAirAtWrong : ChangeSpec := { name := "fnExactAirAt", fn := fun _ => fun
  | [d1, d2] => { results := [.lit (.bool false)], args := [d1, d2] }
  | _ => none }
def FnExactAirAtWrongFalsely : Prop := fnExactAirAtRow.holds Try.pinned (OpenSpec.ofChange fnExactAirAtWrong)

/-- 'laws.FnExactLiftOf': WHATEVER THE INPUT: true; the input reads as it did. -/
def fnExactLiftOfSpec : ChangeSpec := { name := "fnExactLiftOf", fn := fun _ => fun
  | [d1, d2] => { results := [.lit (.bool true)], args := [d1, d2] }
  | _ => none }
def fnExactLiftOfRow : OpenClaim := { program := "ytlccmhkjfnmdiaa", sum := "d87e98b327a6817e1933828d346a90afd684e681f1ac03709b072b8bb30306b8", func := "loop.example/g01224/laws.FnExactLiftOf", spec := "fnExactLiftOf", inPlace := ["math.Float32bits", "math.Float64bits", "math.Float64frombits"], unfollowed := true, recurses := true, plainKeys := false, apart := false }
def FnExactLiftOfSaid : Prop := fnExactLiftOfRow.holds Try.pinned (OpenSpec.ofChange fnExactLiftOfSpec)

/-- ITS FALSE NEIGHBOUR: 'it returns false'. Refute it at one input. -/
def fnExactLiftOfWrong : ChangeSpec := { name := "fnExactLiftOf", fn := fun _ => fun
  | [d1, d2] => { results := [.lit (.bool false)], args := [d1, d2] }
  | _ => none }
def FnExactLiftOfWrongFalsely : Prop := fnExactLiftOfRow.holds Try.pinned (OpenSpec.ofChange fnExactLiftOfWrong)

/-- 'laws.FnExactRiseIn': WHATEVER THE INPUT: true; the input reads as it did. -/
def fnExactRiseInSpec : ChangeSpec := { name := "fnExactRiseIn", fn := fun _ => fun
  | [d1, d2, d3, d4, d5] => { results := [.lit (.bool true)], args := [d1, d2, d3, d4, d5] }
  | _ => none }
def fnExactRiseInRow : OpenClaim := { program := "ytlccmhkjfnmdiaa", sum := "d87e98b327a6817e1933828d346a90afd684e681f1ac03709b072b8bb30306b8", func := "loop.example/g01224/laws.FnExactRiseIn", spec := "fnExactRiseIn", inPlace := ["math.Float32bits", "math.archFloor", "math.Float64bits", "math.Float64frombits", "math.archTrunc"], unfollowed := true, recurses := true, plainKeys := false, apart := false }
def FnExactRiseInSaid : Prop := fnExactRiseInRow.holds Try.pinned (OpenSpec.ofChange fnExactRiseInSpec)

/-- ITS FALSE NEIGHBOUR: 'it returns false'. Refute it at one input. -/
def fnExactRiseInWrong : ChangeSpec := { name := "fnExactRiseIn", fn := fun _ => fun
  | [d1, d2, d3, d4, d5] => { results := [.lit (.bool false)], args := [d1, d2, d3, d4, d5] }
  | _ => none }
def FnExactRiseInWrongFalsely : Prop := fnExactRiseInRow.holds Try.pinned (OpenSpec.ofChange fnExactRiseInWrong)

/-- 'laws.FnExactFirstUnsteady': WHATEVER THE INPUT: true; the input reads as it did. -/
def fnExactFirstUnsteadySpec : ChangeSpec := { name := "fnExactFirstUnsteady", fn := fun _ => fun
  | [d] => { results := [.lit (.bool true)], args := [d] }
  | _ => none }
def fnExactFirstUnsteadyRow : OpenClaim := { program := "ytlccmhkjfnmdiaa", sum := "d87e98b327a6817e1933828d346a90afd684e681f1ac03709b072b8bb30306b8", func := "loop.example/g01224/laws.FnExactFirstUnsteady", spec := "fnExactFirstUnsteady", inPlace := ["math.Float32bits", "math.Float64bits", "math.Float64frombits"], unfollowed := true, recurses := true, plainKeys := false, apart := false }
def FnExactFirstUnsteadySaid : Prop := fnExactFirstUnsteadyRow.holds Try.pinned (OpenSpec.ofChange fnExactFirstUnsteadySpec)

/-- ITS FALSE NEIGHBOUR: 'it returns false'. Refute it at one input. -/
def fnExactFirstUnsteadyWrong : ChangeSpec := { name := "fnExactFirstUnsteady", fn := fun _ => fun
  | [d] => { results := [.lit (.bool false)], args := [d] }
  | _ => none }
def FnExactFirstUnsteadyWrongFalsely : Prop := fnExactFirstUnsteadyRow.holds Try.pinned (OpenSpec.ofChange fnExactFirstUnsteadyWrong)

/-- 'laws.FnExactSteadySounding': WHATEVER THE INPUT: true; the input reads as it did. -/
def fnExactSteadySoundingSpec : ChangeSpec := { name := "fnExactSteadySounding", fn := fun _ => fun
  | [d] => { results := [.lit (.bool true)], args := [d] }
  | _ => none }
def fnExactSteadySoundingRow : OpenClaim := { program := "ytlccmhkjfnmdiaa", sum := "d87e98b327a6817e1933828d346a90afd684e681f1ac03709b072b8bb30306b8", func := "loop.example/g01224/laws.FnExactSteadySounding", spec := "fnExactSteadySounding", inPlace := ["math.Float32bits", "math.Float64bits", "math.Float64frombits"], unfollowed := true, recurses := true, plainKeys := false, apart := false }
def FnExactSteadySoundingSaid : Prop := fnExactSteadySoundingRow.holds Try.pinned (OpenSpec.ofChange fnExactSteadySoundingSpec)

/-- ITS FALSE NEIGHBOUR: 'it returns false'. Refute it at one input. -/
def fnExactSteadySoundingWrong : ChangeSpec := { name := "fnExactSteadySounding", fn := fun _ => fun
  | [d] => { results := [.lit (.bool false)], args := [d] }
  | _ => none }
def FnExactSteadySoundingWrongFalsely : Prop := fnExactSteadySoundingRow.holds Try.pinned (OpenSpec.ofChange fnExactSteadySoundingWrong)

/-- 'laws.FnExactWarmLowest': WHATEVER THE INPUT: true; the input reads as it did. -/
def fnExactWarmLowestSpec : ChangeSpec := { name := "fnExactWarmLowest", fn := fun _ => fun
  | [d1, d2] => { results := [.lit (.bool true)], args := [d1, d2] }
  | _ => none }
def fnExactWarmLowestRow : OpenClaim := { program := "ytlccmhkjfnmdiaa", sum := "d87e98b327a6817e1933828d346a90afd684e681f1ac03709b072b8bb30306b8", func := "loop.example/g01224/laws.FnExactWarmLowest", spec := "fnExactWarmLowest", inPlace := ["math.Float32bits", "math.Float64bits", "math.Float64frombits"], unfollowed := true, recurses := true, plainKeys := false, apart := false }
def FnExactWarmLowestSaid : Prop := fnExactWarmLowestRow.holds Try.pinned (OpenSpec.ofChange fnExactWarmLowestSpec)

/-- ITS FALSE NEIGHBOUR: 'it returns false'. Refute it at one input. -/
def fnExactWarmLowestWrong : ChangeSpec := { name := "fnExactWarmLowest", fn := fun _ => fun
  | [d1, d2] => { results := [.lit (.bool false)], args := [d1, d2] }
  | _ => none }
def FnExactWarmLowestWrongFalsely : Prop := fnExactWarmLowestRow.holds Try.pinned (OpenSpec.ofChange fnExactWarmLowestWrong)

/-- 'laws.FnExactVapourAbove': WHATEVER THE INPUT: true; the input reads as it did. -/
def fnExactVapourAboveSpec : ChangeSpec := { name := "fnExactVapourAbove", fn := fun _ => fun
  | [d1, d2] => { results := [.lit (.bool true)], args := [d1, d2] }
  | _ => none }
def fnExactVapourAboveRow : OpenClaim := { program := "ytlccmhkjfnmdiaa", sum := "d87e98b327a6817e1933828d346a90afd684e681f1ac03709b072b8bb30306b8", func := "loop.example/g01224/laws.FnExactVapourAbove", spec := "fnExactVapourAbove", inPlace := ["math.Float32bits", "math.Float64bits", "math.Float64frombits"], unfollowed := true, recurses := true, plainKeys := false, apart := false }
def FnExactVapourAboveSaid : Prop := fnExactVapourAboveRow.holds Try.pinned (OpenSpec.ofChange fnExactVapourAboveSpec)

/-- ITS FALSE NEIGHBOUR: 'it returns false'. Refute it at one input. -/
def fnExactVapourAboveWrong : ChangeSpec := { name := "fnExactVapourAbove", fn := fun _ => fun
  | [d1, d2] => { results := [.lit (.bool false)], args := [d1, d2] }
  | _ => none }
def FnExactVapourAboveWrongFalsely : Prop := fnExactVapourAboveRow.holds Try.pinned (OpenSpec.ofChange fnExactVapourAboveWrong)

/-- 'laws.FnExactHeightOfHeat': WHATEVER THE INPUT: true; the input reads as it did. -/
def fnExactHeightOfHeatSpec : ChangeSpec := { name := "fnExactHeightOfHeat", fn := fun _ => fun
  | [d1, d2] => { results := [.lit (.bool true)], args := [d1, d2] }
  | _ => none }
def fnExactHeightOfHeatRow : OpenClaim := { program := "ytlccmhkjfnmdiaa", sum := "d87e98b327a6817e1933828d346a90afd684e681f1ac03709b072b8bb30306b8", func := "loop.example/g01224/laws.FnExactHeightOfHeat", spec := "fnExactHeightOfHeat", inPlace := ["math.Float32bits", "math.Float64bits", "math.Float64frombits"], unfollowed := true, recurses := true, plainKeys := false, apart := false }
def FnExactHeightOfHeatSaid : Prop := fnExactHeightOfHeatRow.holds Try.pinned (OpenSpec.ofChange fnExactHeightOfHeatSpec)

/-- ITS FALSE NEIGHBOUR: 'it returns false'. Refute it at one input. -/
def fnExactHeightOfHeatWrong : ChangeSpec := { name := "fnExactHeightOfHeat", fn := fun _ => fun
  | [d1, d2] => { results := [.lit (.bool false)], args := [d1, d2] }
  | _ => none }
def FnExactHeightOfHeatWrongFalsely : Prop := fnExactHeightOfHeatRow.holds Try.pinned (OpenSpec.ofChange fnExactHeightOfHeatWrong)

/- THE SECOND FORM. 'bulk': how many values and letters a reading holds, each counted each time it is reached (what is shared counts as often as it is met; a slice's spare places count too). A statement '..UptoSaid' is the law's where the arguments, and the package variables that the reading takes, are together of bulk at most 1048576: NARROWER than '..Said'. Prove '..Said' where nothing that the law and all that it calls make is longer than what came in: it says more and counts as full. Else prove '..UptoSaid'. A law counts once. -/
mutual
def uptoBulk {H : Type} : DataW H → Nat
  | .lit (.string bytes) => bytes.length + 1
  | .lit _ => 1
  | .nil => 1
  | .ptr d => uptoBulk d + 1
  | .slice elems spare => uptoBulkAll elems + uptoBulkAll spare + 1
  | .agg parts => uptoBulkAll parts + 1
  | .iface _ d => uptoBulk d + 1
  | .map entries => uptoBulkEntries entries + 1
  | .held _ => 1
def uptoBulkAll {H : Type} : List (DataW H) → Nat
  | [] => 0
  | d :: r => uptoBulk d + uptoBulkAll r
def uptoBulkEntries {H : Type} : List (Lit × DataW H) → Nat
  | [] => 0
  | x :: r => uptoBulkEntry x + uptoBulkEntries r
def uptoBulkEntry {H : Type} : Lit × DataW H → Nat
  | (.string bytes, d) => bytes.length + uptoBulk d + 1
  | (_, d) => uptoBulk d + 1
 end
def uptoSmall : (H : Type) → List (DataW H) → Bool := fun _ ds => decide (uptoBulkAll ds ≤ 1048576)
def OpenSpec.upto (s : _root_.Go.ChangeSpec) : _root_.Go.OpenSpec := { _root_.Go.OpenSpec.ofChange s with cond := some uptoSmall }

/-- 'laws.FnExactThirdRoot', WHERE WHAT IT READS IS OF BULK AT MOST 1048576: true; the input reads as it did. -/
def fnExactThirdRootUptoRow : OpenClaim := { program := "ytlccmhkjfnmdiaa", sum := "d87e98b327a6817e1933828d346a90afd684e681f1ac03709b072b8bb30306b8", func := "loop.example/g01224/laws.FnExactThirdRoot", spec := "fnExactThirdRoot", inPlace := ["math.Float32bits", "math.Float64bits", "math.Float64frombits"], plainKeys := false, apart := false, narrowed := true }
def FnExactThirdRootUptoSaid : Prop := fnExactThirdRootUptoRow.holds Try.pinned (OpenSpec.upto fnExactThirdRootSpec)

/-- 'laws.FnExactShiftMasses', WHERE WHAT IT READS IS OF BULK AT MOST 1048576: true; the input reads as it did. -/
def fnExactShiftMassesUptoRow : OpenClaim := { program := "ytlccmhkjfnmdiaa", sum := "d87e98b327a6817e1933828d346a90afd684e681f1ac03709b072b8bb30306b8", func := "loop.example/g01224/laws.FnExactShiftMasses", spec := "fnExactShiftMasses", inPlace := ["math.Float32bits", "math.Float64bits", "math.Float64frombits"], unfollowed := true, recurses := true, plainKeys := false, apart := false, narrowed := true }
def FnExactShiftMassesUptoSaid : Prop := fnExactShiftMassesUptoRow.holds Try.pinned (OpenSpec.upto fnExactShiftMassesSpec)

/-- 'laws.FnExactGrowOnce', WHERE WHAT IT READS IS OF BULK AT MOST 1048576: true; the input reads as it did. -/
def fnExactGrowOnceUptoRow : OpenClaim := { program := "ytlccmhkjfnmdiaa", sum := "d87e98b327a6817e1933828d346a90afd684e681f1ac03709b072b8bb30306b8", func := "loop.example/g01224/laws.FnExactGrowOnce", spec := "fnExactGrowOnce", inPlace := ["math.Float32bits", "math.archFloor", "math.Float64bits", "math.Float64frombits", "math.archTrunc"], unfollowed := true, recurses := true, plainKeys := false, apart := false, narrowed := true }
def FnExactGrowOnceUptoSaid : Prop := fnExactGrowOnceUptoRow.holds Try.pinned (OpenSpec.upto fnExactGrowOnceSpec)

/-- 'laws.FnExactGrowSteps', WHERE WHAT IT READS IS OF BULK AT MOST 1048576: true; the input reads as it did. -/
def fnExactGrowStepsUptoRow : OpenClaim := { program := "ytlccmhkjfnmdiaa", sum := "d87e98b327a6817e1933828d346a90afd684e681f1ac03709b072b8bb30306b8", func := "loop.example/g01224/laws.FnExactGrowSteps", spec := "fnExactGrowSteps", inPlace := ["math.Float32bits", "math.archFloor", "math.Float64bits", "math.Float64frombits", "math.archTrunc"], unfollowed := true, recurses := true, plainKeys := false, apart := false, narrowed := true }
def FnExactGrowStepsUptoSaid : Prop := fnExactGrowStepsUptoRow.holds Try.pinned (OpenSpec.upto fnExactGrowStepsSpec)

/-- 'laws.FnExactStepsToDry', WHERE WHAT IT READS IS OF BULK AT MOST 1048576: true; the input reads as it did. -/
def fnExactStepsToDryUptoRow : OpenClaim := { program := "ytlccmhkjfnmdiaa", sum := "d87e98b327a6817e1933828d346a90afd684e681f1ac03709b072b8bb30306b8", func := "loop.example/g01224/laws.FnExactStepsToDry", spec := "fnExactStepsToDry", inPlace := ["math.Float32bits", "math.archFloor", "math.Float64bits", "math.Float64frombits", "math.archTrunc"], unfollowed := true, recurses := true, plainKeys := false, apart := false, narrowed := true }
def FnExactStepsToDryUptoSaid : Prop := fnExactStepsToDryUptoRow.holds Try.pinned (OpenSpec.upto fnExactStepsToDrySpec)

/-- 'laws.FnExactEventsOf', WHERE WHAT IT READS IS OF BULK AT MOST 1048576: true; the input reads as it did. -/
def fnExactEventsOfUptoRow : OpenClaim := { program := "ytlccmhkjfnmdiaa", sum := "d87e98b327a6817e1933828d346a90afd684e681f1ac03709b072b8bb30306b8", func := "loop.example/g01224/laws.FnExactEventsOf", spec := "fnExactEventsOf", inPlace := ["math.Float32bits", "math.Float64bits", "math.Float64frombits"], unfollowed := true, recurses := true, plainKeys := false, apart := false, narrowed := true }
def FnExactEventsOfUptoSaid : Prop := fnExactEventsOfUptoRow.holds Try.pinned (OpenSpec.upto fnExactEventsOfSpec)

/-- 'laws.FnExactLossesOf', WHERE WHAT IT READS IS OF BULK AT MOST 1048576: true; the input reads as it did. -/
def fnExactLossesOfUptoRow : OpenClaim := { program := "ytlccmhkjfnmdiaa", sum := "d87e98b327a6817e1933828d346a90afd684e681f1ac03709b072b8bb30306b8", func := "loop.example/g01224/laws.FnExactLossesOf", spec := "fnExactLossesOf", inPlace := ["math.Float32bits", "math.Float64bits", "math.Float64frombits"], unfollowed := true, recurses := true, plainKeys := false, apart := false, narrowed := true }
def FnExactLossesOfUptoSaid : Prop := fnExactLossesOfUptoRow.holds Try.pinned (OpenSpec.upto fnExactLossesOfSpec)

/-- 'laws.FnExactCollide', WHERE WHAT IT READS IS OF BULK AT MOST 1048576: true; the input reads as it did. -/
def fnExactCollideUptoRow : OpenClaim := { program := "ytlccmhkjfnmdiaa", sum := "d87e98b327a6817e1933828d346a90afd684e681f1ac03709b072b8bb30306b8", func := "loop.example/g01224/laws.FnExactCollide", spec := "fnExactCollide", inPlace := ["math.Float32bits", "math.Float64bits", "math.Float64frombits"], unfollowed := true, recurses := true, plainKeys := false, apart := false, narrowed := true }
def FnExactCollideUptoSaid : Prop := fnExactCollideUptoRow.holds Try.pinned (OpenSpec.upto fnExactCollideSpec)

/-- 'laws.FnExactCollideSteps', WHERE WHAT IT READS IS OF BULK AT MOST 1048576: true; the input reads as it did. -/
def fnExactCollideStepsUptoRow : OpenClaim := { program := "ytlccmhkjfnmdiaa", sum := "d87e98b327a6817e1933828d346a90afd684e681f1ac03709b072b8bb30306b8", func := "loop.example/g01224/laws.FnExactCollideSteps", spec := "fnExactCollideSteps", inPlace := ["math.Float32bits", "math.Float64bits", "math.Float64frombits"], unfollowed := true, recurses := true, plainKeys := false, apart := false, narrowed := true }
def FnExactCollideStepsUptoSaid : Prop := fnExactCollideStepsUptoRow.holds Try.pinned (OpenSpec.upto fnExactCollideStepsSpec)

/-- 'laws.FnExactRainMade', WHERE WHAT IT READS IS OF BULK AT MOST 1048576: true; the input reads as it did. -/
def fnExactRainMadeUptoRow : OpenClaim := { program := "ytlccmhkjfnmdiaa", sum := "d87e98b327a6817e1933828d346a90afd684e681f1ac03709b072b8bb30306b8", func := "loop.example/g01224/laws.FnExactRainMade", spec := "fnExactRainMade", inPlace := ["math.Float32bits", "math.Float64bits", "math.Float64frombits"], unfollowed := true, recurses := true, plainKeys := false, apart := false, narrowed := true }
def FnExactRainMadeUptoSaid : Prop := fnExactRainMadeUptoRow.holds Try.pinned (OpenSpec.upto fnExactRainMadeSpec)

/-- 'laws.FnExactCollidePairs', WHERE WHAT IT READS IS OF BULK AT MOST 1048576: true; the input reads as it did. -/
def fnExactCollidePairsUptoRow : OpenClaim := { program := "ytlccmhkjfnmdiaa", sum := "d87e98b327a6817e1933828d346a90afd684e681f1ac03709b072b8bb30306b8", func := "loop.example/g01224/laws.FnExactCollidePairs", spec := "fnExactCollidePairs", inPlace := ["math.Float64bits", "math.Float64frombits"], plainKeys := false, apart := false, narrowed := true }
def FnExactCollidePairsUptoSaid : Prop := fnExactCollidePairsUptoRow.holds Try.pinned (OpenSpec.upto fnExactCollidePairsSpec)

/-- 'laws.FnExactDrawPairs', WHERE WHAT IT READS IS OF BULK AT MOST 1048576: true; the input reads as it did. -/
def fnExactDrawPairsUptoRow : OpenClaim := { program := "ytlccmhkjfnmdiaa", sum := "d87e98b327a6817e1933828d346a90afd684e681f1ac03709b072b8bb30306b8", func := "loop.example/g01224/laws.FnExactDrawPairs", spec := "fnExactDrawPairs", unfollowed := true, recurses := true, plainKeys := false, apart := false, narrowed := true }
def FnExactDrawPairsUptoSaid : Prop := fnExactDrawPairsUptoRow.holds Try.pinned (OpenSpec.upto fnExactDrawPairsSpec)

/-- 'laws.FnExactValidParcel', WHERE WHAT IT READS IS OF BULK AT MOST 1048576: true; the input reads as it did. -/
def fnExactValidParcelUptoRow : OpenClaim := { program := "ytlccmhkjfnmdiaa", sum := "d87e98b327a6817e1933828d346a90afd684e681f1ac03709b072b8bb30306b8", func := "loop.example/g01224/laws.FnExactValidParcel", spec := "fnExactValidParcel", inPlace := ["math.Float32bits", "math.Float64bits", "math.Float64frombits"], plainKeys := false, apart := false, narrowed := true }
def FnExactValidParcelUptoSaid : Prop := fnExactValidParcelUptoRow.holds Try.pinned (OpenSpec.upto fnExactValidParcelSpec)

/-- 'laws.FnExactSameParcel', WHERE WHAT IT READS IS OF BULK AT MOST 1048576: true; the input reads as it did. -/
def fnExactSameParcelUptoRow : OpenClaim := { program := "ytlccmhkjfnmdiaa", sum := "d87e98b327a6817e1933828d346a90afd684e681f1ac03709b072b8bb30306b8", func := "loop.example/g01224/laws.FnExactSameParcel", spec := "fnExactSameParcel", inPlace := ["math.Float32bits"], plainKeys := false, apart := false, narrowed := true }
def FnExactSameParcelUptoSaid : Prop := fnExactSameParcelUptoRow.holds Try.pinned (OpenSpec.upto fnExactSameParcelSpec)

/-- 'laws.FnExactSettleAir', WHERE WHAT IT READS IS OF BULK AT MOST 1048576: true; the input reads as it did. -/
def fnExactSettleAirUptoRow : OpenClaim := { program := "ytlccmhkjfnmdiaa", sum := "d87e98b327a6817e1933828d346a90afd684e681f1ac03709b072b8bb30306b8", func := "loop.example/g01224/laws.FnExactSettleAir", spec := "fnExactSettleAir", inPlace := ["math.Float32bits", "math.archFloor", "math.Float64bits", "math.Float64frombits", "math.archTrunc"], plainKeys := false, apart := false, narrowed := true }
def FnExactSettleAirUptoSaid : Prop := fnExactSettleAirUptoRow.holds Try.pinned (OpenSpec.upto fnExactSettleAirSpec)

/-- 'laws.FnExactRaiseDry', WHERE WHAT IT READS IS OF BULK AT MOST 1048576: true; the input reads as it did. -/
def fnExactRaiseDryUptoRow : OpenClaim := { program := "ytlccmhkjfnmdiaa", sum := "d87e98b327a6817e1933828d346a90afd684e681f1ac03709b072b8bb30306b8", func := "loop.example/g01224/laws.FnExactRaiseDry", spec := "fnExactRaiseDry", inPlace := ["math.Float32bits", "math.Float64bits", "math.Float64frombits", "math.archFloor", "math.archTrunc"], unfollowed := true, recurses := true, plainKeys := false, apart := false, narrowed := true }
def FnExactRaiseDryUptoSaid : Prop := fnExactRaiseDryUptoRow.holds Try.pinned (OpenSpec.upto fnExactRaiseDrySpec)

/-- 'laws.FnExactRaiseMoist', WHERE WHAT IT READS IS OF BULK AT MOST 1048576: true; the input reads as it did. -/
def fnExactRaiseMoistUptoRow : OpenClaim := { program := "ytlccmhkjfnmdiaa", sum := "d87e98b327a6817e1933828d346a90afd684e681f1ac03709b072b8bb30306b8", func := "loop.example/g01224/laws.FnExactRaiseMoist", spec := "fnExactRaiseMoist", inPlace := ["math.Float32bits", "math.archFloor", "math.Float64bits", "math.Float64frombits", "math.archTrunc"], unfollowed := true, recurses := true, plainKeys := false, apart := false, narrowed := true }
def FnExactRaiseMoistUptoSaid : Prop := fnExactRaiseMoistUptoRow.holds Try.pinned (OpenSpec.upto fnExactRaiseMoistSpec)

/-- 'laws.FnExactBaseOf', WHERE WHAT IT READS IS OF BULK AT MOST 1048576: true; the input reads as it did. -/
def fnExactBaseOfUptoRow : OpenClaim := { program := "ytlccmhkjfnmdiaa", sum := "d87e98b327a6817e1933828d346a90afd684e681f1ac03709b072b8bb30306b8", func := "loop.example/g01224/laws.FnExactBaseOf", spec := "fnExactBaseOf", inPlace := ["math.Float32bits", "math.archFloor", "math.Float64bits", "math.Float64frombits", "math.archTrunc"], plainKeys := false, apart := false, narrowed := true }
def FnExactBaseOfUptoSaid : Prop := fnExactBaseOfUptoRow.holds Try.pinned (OpenSpec.upto fnExactBaseOfSpec)

/-- 'laws.FnExactMixParcels', WHERE WHAT IT READS IS OF BULK AT MOST 1048576: true; the input reads as it did. -/
def fnExactMixParcelsUptoRow : OpenClaim := { program := "ytlccmhkjfnmdiaa", sum := "d87e98b327a6817e1933828d346a90afd684e681f1ac03709b072b8bb30306b8", func := "loop.example/g01224/laws.FnExactMixParcels", spec := "fnExactMixParcels", inPlace := ["math.Float32bits", "math.Float64bits", "math.Float64frombits"], plainKeys := false, apart := false, narrowed := true }
def FnExactMixParcelsUptoSaid : Prop := fnExactMixParcelsUptoRow.holds Try.pinned (OpenSpec.upto fnExactMixParcelsSpec)

/-- 'laws.FnExactValidSounding', WHERE WHAT IT READS IS OF BULK AT MOST 1048576: true; the input reads as it did. -/
def fnExactValidSoundingUptoRow : OpenClaim := { program := "ytlccmhkjfnmdiaa", sum := "d87e98b327a6817e1933828d346a90afd684e681f1ac03709b072b8bb30306b8", func := "loop.example/g01224/laws.FnExactValidSounding", spec := "fnExactValidSounding", inPlace := ["math.Float32bits", "math.Float64bits", "math.Float64frombits"], unfollowed := true, recurses := true, plainKeys := false, apart := false, narrowed := true }
def FnExactValidSoundingUptoSaid : Prop := fnExactValidSoundingUptoRow.holds Try.pinned (OpenSpec.upto fnExactValidSoundingSpec)

/-- 'laws.FnExactSameSounding', WHERE WHAT IT READS IS OF BULK AT MOST 1048576: true; the input reads as it did. -/
def fnExactSameSoundingUptoRow : OpenClaim := { program := "ytlccmhkjfnmdiaa", sum := "d87e98b327a6817e1933828d346a90afd684e681f1ac03709b072b8bb30306b8", func := "loop.example/g01224/laws.FnExactSameSounding", spec := "fnExactSameSounding", inPlace := ["math.Float32bits"], unfollowed := true, recurses := true, plainKeys := false, apart := false, narrowed := true }
def FnExactSameSoundingUptoSaid : Prop := fnExactSameSoundingUptoRow.holds Try.pinned (OpenSpec.upto fnExactSameSoundingSpec)

/-- 'laws.FnExactEvenSounding', WHERE WHAT IT READS IS OF BULK AT MOST 1048576: true; the input reads as it did. -/
def fnExactEvenSoundingUptoRow : OpenClaim := { program := "ytlccmhkjfnmdiaa", sum := "d87e98b327a6817e1933828d346a90afd684e681f1ac03709b072b8bb30306b8", func := "loop.example/g01224/laws.FnExactEvenSounding", spec := "fnExactEvenSounding", inPlace := ["math.Float32bits", "math.Float64bits", "math.Float64frombits"], unfollowed := true, recurses := true, plainKeys := false, apart := false, narrowed := true }
def FnExactEvenSoundingUptoSaid : Prop := fnExactEvenSoundingUptoRow.holds Try.pinned (OpenSpec.upto fnExactEvenSoundingSpec)

/-- 'laws.FnExactAirAt', WHERE WHAT IT READS IS OF BULK AT MOST 1048576: true; the input reads as it did. -/
def fnExactAirAtUptoRow : OpenClaim := { program := "ytlccmhkjfnmdiaa", sum := "d87e98b327a6817e1933828d346a90afd684e681f1ac03709b072b8bb30306b8", func := "loop.example/g01224/laws.FnExactAirAt", spec := "fnExactAirAt", inPlace := ["math.Float32bits", "math.Float64bits", "math.Float64frombits"], unfollowed := true, recurses := true, plainKeys := false, apart := false, narrowed := true }
def FnExactAirAtUptoSaid : Prop := fnExactAirAtUptoRow.holds Try.pinned (OpenSpec.upto fnExactAirAtSpec)

/-- 'laws.FnExactLiftOf', WHERE WHAT IT READS IS OF BULK AT MOST 1048576: true; the input reads as it did. -/
def fnExactLiftOfUptoRow : OpenClaim := { program := "ytlccmhkjfnmdiaa", sum := "d87e98b327a6817e1933828d346a90afd684e681f1ac03709b072b8bb30306b8", func := "loop.example/g01224/laws.FnExactLiftOf", spec := "fnExactLiftOf", inPlace := ["math.Float32bits", "math.Float64bits", "math.Float64frombits"], unfollowed := true, recurses := true, plainKeys := false, apart := false, narrowed := true }
def FnExactLiftOfUptoSaid : Prop := fnExactLiftOfUptoRow.holds Try.pinned (OpenSpec.upto fnExactLiftOfSpec)

/-- 'laws.FnExactRiseIn', WHERE WHAT IT READS IS OF BULK AT MOST 1048576: true; the input reads as it did. -/
def fnExactRiseInUptoRow : OpenClaim := { program := "ytlccmhkjfnmdiaa", sum := "d87e98b327a6817e1933828d346a90afd684e681f1ac03709b072b8bb30306b8", func := "loop.example/g01224/laws.FnExactRiseIn", spec := "fnExactRiseIn", inPlace := ["math.Float32bits", "math.archFloor", "math.Float64bits", "math.Float64frombits", "math.archTrunc"], unfollowed := true, recurses := true, plainKeys := false, apart := false, narrowed := true }
def FnExactRiseInUptoSaid : Prop := fnExactRiseInUptoRow.holds Try.pinned (OpenSpec.upto fnExactRiseInSpec)

/-- 'laws.FnExactFirstUnsteady', WHERE WHAT IT READS IS OF BULK AT MOST 1048576: true; the input reads as it did. -/
def fnExactFirstUnsteadyUptoRow : OpenClaim := { program := "ytlccmhkjfnmdiaa", sum := "d87e98b327a6817e1933828d346a90afd684e681f1ac03709b072b8bb30306b8", func := "loop.example/g01224/laws.FnExactFirstUnsteady", spec := "fnExactFirstUnsteady", inPlace := ["math.Float32bits", "math.Float64bits", "math.Float64frombits"], unfollowed := true, recurses := true, plainKeys := false, apart := false, narrowed := true }
def FnExactFirstUnsteadyUptoSaid : Prop := fnExactFirstUnsteadyUptoRow.holds Try.pinned (OpenSpec.upto fnExactFirstUnsteadySpec)

/-- 'laws.FnExactSteadySounding', WHERE WHAT IT READS IS OF BULK AT MOST 1048576: true; the input reads as it did. -/
def fnExactSteadySoundingUptoRow : OpenClaim := { program := "ytlccmhkjfnmdiaa", sum := "d87e98b327a6817e1933828d346a90afd684e681f1ac03709b072b8bb30306b8", func := "loop.example/g01224/laws.FnExactSteadySounding", spec := "fnExactSteadySounding", inPlace := ["math.Float32bits", "math.Float64bits", "math.Float64frombits"], unfollowed := true, recurses := true, plainKeys := false, apart := false, narrowed := true }
def FnExactSteadySoundingUptoSaid : Prop := fnExactSteadySoundingUptoRow.holds Try.pinned (OpenSpec.upto fnExactSteadySoundingSpec)

/-- 'laws.FnExactWarmLowest', WHERE WHAT IT READS IS OF BULK AT MOST 1048576: true; the input reads as it did. -/
def fnExactWarmLowestUptoRow : OpenClaim := { program := "ytlccmhkjfnmdiaa", sum := "d87e98b327a6817e1933828d346a90afd684e681f1ac03709b072b8bb30306b8", func := "loop.example/g01224/laws.FnExactWarmLowest", spec := "fnExactWarmLowest", inPlace := ["math.Float32bits", "math.Float64bits", "math.Float64frombits"], unfollowed := true, recurses := true, plainKeys := false, apart := false, narrowed := true }
def FnExactWarmLowestUptoSaid : Prop := fnExactWarmLowestUptoRow.holds Try.pinned (OpenSpec.upto fnExactWarmLowestSpec)

/-- 'laws.FnExactVapourAbove', WHERE WHAT IT READS IS OF BULK AT MOST 1048576: true; the input reads as it did. -/
def fnExactVapourAboveUptoRow : OpenClaim := { program := "ytlccmhkjfnmdiaa", sum := "d87e98b327a6817e1933828d346a90afd684e681f1ac03709b072b8bb30306b8", func := "loop.example/g01224/laws.FnExactVapourAbove", spec := "fnExactVapourAbove", inPlace := ["math.Float32bits", "math.Float64bits", "math.Float64frombits"], unfollowed := true, recurses := true, plainKeys := false, apart := false, narrowed := true }
def FnExactVapourAboveUptoSaid : Prop := fnExactVapourAboveUptoRow.holds Try.pinned (OpenSpec.upto fnExactVapourAboveSpec)

/-- 'laws.FnExactHeightOfHeat', WHERE WHAT IT READS IS OF BULK AT MOST 1048576: true; the input reads as it did. -/
def fnExactHeightOfHeatUptoRow : OpenClaim := { program := "ytlccmhkjfnmdiaa", sum := "d87e98b327a6817e1933828d346a90afd684e681f1ac03709b072b8bb30306b8", func := "loop.example/g01224/laws.FnExactHeightOfHeat", spec := "fnExactHeightOfHeat", inPlace := ["math.Float32bits", "math.Float64bits", "math.Float64frombits"], unfollowed := true, recurses := true, plainKeys := false, apart := false, narrowed := true }
def FnExactHeightOfHeatUptoSaid : Prop := fnExactHeightOfHeatUptoRow.holds Try.pinned (OpenSpec.upto fnExactHeightOfHeatSpec)

end Rows
end Go.Proofs.Ytlccmhkjfnmdiaa
