/-
  No cell of these rows narrows 'for every input' (looked for: loops, veiled, ifaces, maps, wideKeys, modest, calm, conditions, laid).
  DERIVED. THE GIVEN ROWS OF THIS SEAT. 28 by the template 'for every input the law returns true; each argument reads behind the call as it read before'; 0 by the template 'total and deterministic' (their statements: YtnnhoololemaaaaTotals.lean).
  GIVEN WITH THE SEED: the statements are not yours to turn. If you find one false, say at which input.
  Laid BY PROGRAM, IN A SANDBOX (cutbox-rows.mjs): the forced cells as the released guide's own fill.sh prints them over the translation fd0a91de696996ff… (all of the seat's roots in one cut). By AI agents, Wed Nov 11 2026. No macro, syntax, notation, axiom, sorry.
-/
import Derived.Test.YtnnhoololemaaaaChecked
import GoSem.Claim
import GoSem.ClaimJoined
import GoSem.ClaimMapViews
import Derived.JoinedTies
import Derived.KernelRfl
namespace Go.Proofs.Ytnnhoololemaaaa
/- THE CELL 'sum', in the pinned program and in every row, IS THE sha256 OF THE DUMP (.gsa) THAT YtnnhoololemaaaaProg.lean LOADS. Nothing in Lean hashes anything: it is a label: what it is worth is what the hold of that sum in a sandbox is worth. -/
noncomputable def Try.pinned : Pinned := { name := "ytnnhoololemaaaa", sum := "fd0a91de696996ff34ea807a31085bd8ddc58e9dfe5cd0b3d30d24505e91e512", checked := Try.checked }
namespace Rows
def none {H : Type} : Left H := { results := [], args := [] }

/-- 'laws.FnExactThirdRoot': WHATEVER THE INPUT: true; the input reads as it did. -/
def fnExactThirdRootSpec : ChangeSpec := { name := "fnExactThirdRoot", fn := fun _ => fun
  | [d] => { results := [.lit (.bool true)], args := [d] }
  | _ => none }
def fnExactThirdRootRow : OpenClaim := { program := "ytnnhoololemaaaa", sum := "fd0a91de696996ff34ea807a31085bd8ddc58e9dfe5cd0b3d30d24505e91e512", func := "loop.example/g01224/laws.FnExactThirdRoot", spec := "fnExactThirdRoot", inPlace := ["math.Float32bits", "math.Float64bits", "math.Float64frombits"], plainKeys := false, apart := false }
def FnExactThirdRootSaid : Prop := fnExactThirdRootRow.holds Try.pinned (OpenSpec.ofChange fnExactThirdRootSpec)

/-- ITS FALSE NEIGHBOUR: 'it returns false'. Refute it at one input. -/
def fnExactThirdRootWrong : ChangeSpec := { name := "fnExactThirdRoot", fn := fun _ => fun
  | [d] => { results := [.lit (.bool false)], args := [d] }
  | _ => none }
def FnExactThirdRootWrongFalsely : Prop := fnExactThirdRootRow.holds Try.pinned (OpenSpec.ofChange fnExactThirdRootWrong)

/-- 'laws.FnExactShiftMasses': WHATEVER THE INPUT: true; the input reads as it did. -/
def fnExactShiftMassesSpec : ChangeSpec := { name := "fnExactShiftMasses", fn := fun _ => fun
  | [d1, d2] => { results := [.lit (.bool true)], args := [d1, d2] }
  | _ => none }
def fnExactShiftMassesRow : OpenClaim := { program := "ytnnhoololemaaaa", sum := "fd0a91de696996ff34ea807a31085bd8ddc58e9dfe5cd0b3d30d24505e91e512", func := "loop.example/g01224/laws.FnExactShiftMasses", spec := "fnExactShiftMasses", inPlace := ["math.Float32bits", "math.Float64bits", "math.Float64frombits"], unfollowed := true, recurses := true, plainKeys := false, apart := false }
def FnExactShiftMassesSaid : Prop := fnExactShiftMassesRow.holds Try.pinned (OpenSpec.ofChange fnExactShiftMassesSpec)

/-- ITS FALSE NEIGHBOUR: 'it returns false'. Refute it at one input. -/
def fnExactShiftMassesWrong : ChangeSpec := { name := "fnExactShiftMasses", fn := fun _ => fun
  | [d1, d2] => { results := [.lit (.bool false)], args := [d1, d2] }
  | _ => none }
def FnExactShiftMassesWrongFalsely : Prop := fnExactShiftMassesRow.holds Try.pinned (OpenSpec.ofChange fnExactShiftMassesWrong)

/-- 'laws.FnExactGainsAt': WHATEVER THE INPUT: true; the input reads as it did. -/
def fnExactGainsAtSpec : ChangeSpec := { name := "fnExactGainsAt", fn := fun _ => fun
  | [d1, d2] => { results := [.lit (.bool true)], args := [d1, d2] }
  | _ => none }
def fnExactGainsAtRow : OpenClaim := { program := "ytnnhoololemaaaa", sum := "fd0a91de696996ff34ea807a31085bd8ddc58e9dfe5cd0b3d30d24505e91e512", func := "loop.example/g01224/laws.FnExactGainsAt", spec := "fnExactGainsAt", inPlace := ["math.Float32bits", "math.Float64bits", "math.Float64frombits"], plainKeys := false, apart := false }
def FnExactGainsAtSaid : Prop := fnExactGainsAtRow.holds Try.pinned (OpenSpec.ofChange fnExactGainsAtSpec)

/-- ITS FALSE NEIGHBOUR: 'it returns false'. Refute it at one input. -/
def fnExactGainsAtWrong : ChangeSpec := { name := "fnExactGainsAt", fn := fun _ => fun
  | [d1, d2] => { results := [.lit (.bool false)], args := [d1, d2] }
  | _ => none }
def FnExactGainsAtWrongFalsely : Prop := fnExactGainsAtRow.holds Try.pinned (OpenSpec.ofChange fnExactGainsAtWrong)

/-- 'laws.FnExactGrowOnce': WHATEVER THE INPUT: true; the input reads as it did. -/
def fnExactGrowOnceSpec : ChangeSpec := { name := "fnExactGrowOnce", fn := fun _ => fun
  | [d1, d2, d3] => { results := [.lit (.bool true)], args := [d1, d2, d3] }
  | _ => none }
def fnExactGrowOnceRow : OpenClaim := { program := "ytnnhoololemaaaa", sum := "fd0a91de696996ff34ea807a31085bd8ddc58e9dfe5cd0b3d30d24505e91e512", func := "loop.example/g01224/laws.FnExactGrowOnce", spec := "fnExactGrowOnce", inPlace := ["math.Float32bits", "math.archFloor", "math.Float64bits", "math.Float64frombits", "math.archTrunc"], unfollowed := true, recurses := true, plainKeys := false, apart := false }
def FnExactGrowOnceSaid : Prop := fnExactGrowOnceRow.holds Try.pinned (OpenSpec.ofChange fnExactGrowOnceSpec)

/-- ITS FALSE NEIGHBOUR: 'it returns false'. Refute it at one input. -/
def fnExactGrowOnceWrong : ChangeSpec := { name := "fnExactGrowOnce", fn := fun _ => fun
  | [d1, d2, d3] => { results := [.lit (.bool false)], args := [d1, d2, d3] }
  | _ => none }
def FnExactGrowOnceWrongFalsely : Prop := fnExactGrowOnceRow.holds Try.pinned (OpenSpec.ofChange fnExactGrowOnceWrong)

/-- 'laws.FnExactGrowSteps': WHATEVER THE INPUT: true; the input reads as it did. -/
def fnExactGrowStepsSpec : ChangeSpec := { name := "fnExactGrowSteps", fn := fun _ => fun
  | [d1, d2, d3, d4] => { results := [.lit (.bool true)], args := [d1, d2, d3, d4] }
  | _ => none }
def fnExactGrowStepsRow : OpenClaim := { program := "ytnnhoololemaaaa", sum := "fd0a91de696996ff34ea807a31085bd8ddc58e9dfe5cd0b3d30d24505e91e512", func := "loop.example/g01224/laws.FnExactGrowSteps", spec := "fnExactGrowSteps", inPlace := ["math.Float32bits", "math.archFloor", "math.Float64bits", "math.Float64frombits", "math.archTrunc"], unfollowed := true, recurses := true, plainKeys := false, apart := false }
def FnExactGrowStepsSaid : Prop := fnExactGrowStepsRow.holds Try.pinned (OpenSpec.ofChange fnExactGrowStepsSpec)

/-- ITS FALSE NEIGHBOUR: 'it returns false'. Refute it at one input. -/
def fnExactGrowStepsWrong : ChangeSpec := { name := "fnExactGrowSteps", fn := fun _ => fun
  | [d1, d2, d3, d4] => { results := [.lit (.bool false)], args := [d1, d2, d3, d4] }
  | _ => none }
def FnExactGrowStepsWrongFalsely : Prop := fnExactGrowStepsRow.holds Try.pinned (OpenSpec.ofChange fnExactGrowStepsWrong)

/-- 'laws.FnExactStepsToDry': WHATEVER THE INPUT: true; the input reads as it did. -/
def fnExactStepsToDrySpec : ChangeSpec := { name := "fnExactStepsToDry", fn := fun _ => fun
  | [d1, d2, d3, d4] => { results := [.lit (.bool true)], args := [d1, d2, d3, d4] }
  | _ => none }
def fnExactStepsToDryRow : OpenClaim := { program := "ytnnhoololemaaaa", sum := "fd0a91de696996ff34ea807a31085bd8ddc58e9dfe5cd0b3d30d24505e91e512", func := "loop.example/g01224/laws.FnExactStepsToDry", spec := "fnExactStepsToDry", inPlace := ["math.Float32bits", "math.archFloor", "math.Float64bits", "math.Float64frombits", "math.archTrunc"], unfollowed := true, recurses := true, plainKeys := false, apart := false }
def FnExactStepsToDrySaid : Prop := fnExactStepsToDryRow.holds Try.pinned (OpenSpec.ofChange fnExactStepsToDrySpec)

/-- ITS FALSE NEIGHBOUR: 'it returns false'. Refute it at one input. -/
def fnExactStepsToDryWrong : ChangeSpec := { name := "fnExactStepsToDry", fn := fun _ => fun
  | [d1, d2, d3, d4] => { results := [.lit (.bool false)], args := [d1, d2, d3, d4] }
  | _ => none }
def FnExactStepsToDryWrongFalsely : Prop := fnExactStepsToDryRow.holds Try.pinned (OpenSpec.ofChange fnExactStepsToDryWrong)

/-- 'laws.FnExactValidKernel': WHATEVER THE INPUT: true; the input reads as it did. -/
def fnExactValidKernelSpec : ChangeSpec := { name := "fnExactValidKernel", fn := fun _ => fun
  | [d] => { results := [.lit (.bool true)], args := [d] }
  | _ => none }
def fnExactValidKernelRow : OpenClaim := { program := "ytnnhoololemaaaa", sum := "fd0a91de696996ff34ea807a31085bd8ddc58e9dfe5cd0b3d30d24505e91e512", func := "loop.example/g01224/laws.FnExactValidKernel", spec := "fnExactValidKernel", inPlace := ["math.Float32bits", "math.Float64bits", "math.Float64frombits"], plainKeys := false, apart := false }
def FnExactValidKernelSaid : Prop := fnExactValidKernelRow.holds Try.pinned (OpenSpec.ofChange fnExactValidKernelSpec)

/-- ITS FALSE NEIGHBOUR: 'it returns false'. Refute it at one input. -/
def fnExactValidKernelWrong : ChangeSpec := { name := "fnExactValidKernel", fn := fun _ => fun
  | [d] => { results := [.lit (.bool false)], args := [d] }
  | _ => none }
def FnExactValidKernelWrongFalsely : Prop := fnExactValidKernelRow.holds Try.pinned (OpenSpec.ofChange fnExactValidKernelWrong)

/-- 'laws.FnExactSameKernel': WHATEVER THE INPUT: true; the input reads as it did. -/
def fnExactSameKernelSpec : ChangeSpec := { name := "fnExactSameKernel", fn := fun _ => fun
  | [d1, d2] => { results := [.lit (.bool true)], args := [d1, d2] }
  | _ => none }
def fnExactSameKernelRow : OpenClaim := { program := "ytnnhoololemaaaa", sum := "fd0a91de696996ff34ea807a31085bd8ddc58e9dfe5cd0b3d30d24505e91e512", func := "loop.example/g01224/laws.FnExactSameKernel", spec := "fnExactSameKernel", inPlace := ["math.Float32bits"], plainKeys := false, apart := false }
def FnExactSameKernelSaid : Prop := fnExactSameKernelRow.holds Try.pinned (OpenSpec.ofChange fnExactSameKernelSpec)

/-- ITS FALSE NEIGHBOUR: 'it returns false'. Refute it at one input. -/
def fnExactSameKernelWrong : ChangeSpec := { name := "fnExactSameKernel", fn := fun _ => fun
  | [d1, d2] => { results := [.lit (.bool false)], args := [d1, d2] }
  | _ => none }
def FnExactSameKernelWrongFalsely : Prop := fnExactSameKernelRow.holds Try.pinned (OpenSpec.ofChange fnExactSameKernelWrong)

/-- 'laws.FnExactFallOf': WHATEVER THE INPUT: true; the input reads as it did. -/
def fnExactFallOfSpec : ChangeSpec := { name := "fnExactFallOf", fn := fun _ => fun
  | [d] => { results := [.lit (.bool true)], args := [d] }
  | _ => none }
def fnExactFallOfRow : OpenClaim := { program := "ytnnhoololemaaaa", sum := "fd0a91de696996ff34ea807a31085bd8ddc58e9dfe5cd0b3d30d24505e91e512", func := "loop.example/g01224/laws.FnExactFallOf", spec := "fnExactFallOf", inPlace := ["math.Float64bits", "math.Float64frombits"], plainKeys := false, apart := false }
def FnExactFallOfSaid : Prop := fnExactFallOfRow.holds Try.pinned (OpenSpec.ofChange fnExactFallOfSpec)

/-- ITS FALSE NEIGHBOUR: 'it returns false'. Refute it at one input. -/
def fnExactFallOfWrong : ChangeSpec := { name := "fnExactFallOf", fn := fun _ => fun
  | [d] => { results := [.lit (.bool false)], args := [d] }
  | _ => none }
def FnExactFallOfWrongFalsely : Prop := fnExactFallOfRow.holds Try.pinned (OpenSpec.ofChange fnExactFallOfWrong)

/-- 'laws.FnExactFlatKernel': WHATEVER THE INPUT: true; the input reads as it did. -/
def fnExactFlatKernelSpec : ChangeSpec := { name := "fnExactFlatKernel", fn := fun _ => fun
  | [d] => { results := [.lit (.bool true)], args := [d] }
  | _ => none }
def fnExactFlatKernelRow : OpenClaim := { program := "ytnnhoololemaaaa", sum := "fd0a91de696996ff34ea807a31085bd8ddc58e9dfe5cd0b3d30d24505e91e512", func := "loop.example/g01224/laws.FnExactFlatKernel", spec := "fnExactFlatKernel", inPlace := ["math.Float32bits", "math.Float64bits", "math.Float64frombits"], unfollowed := true, recurses := true, plainKeys := false, apart := false }
def FnExactFlatKernelSaid : Prop := fnExactFlatKernelRow.holds Try.pinned (OpenSpec.ofChange fnExactFlatKernelSpec)

/-- ITS FALSE NEIGHBOUR: 'it returns false'. Refute it at one input. -/
def fnExactFlatKernelWrong : ChangeSpec := { name := "fnExactFlatKernel", fn := fun _ => fun
  | [d] => { results := [.lit (.bool false)], args := [d] }
  | _ => none }
def FnExactFlatKernelWrongFalsely : Prop := fnExactFlatKernelRow.holds Try.pinned (OpenSpec.ofChange fnExactFlatKernelWrong)

/-- 'laws.FnExactSumKernel': WHATEVER THE INPUT: true; the input reads as it did. -/
def fnExactSumKernelSpec : ChangeSpec := { name := "fnExactSumKernel", fn := fun _ => fun
  | [d] => { results := [.lit (.bool true)], args := [d] }
  | _ => none }
def fnExactSumKernelRow : OpenClaim := { program := "ytnnhoololemaaaa", sum := "fd0a91de696996ff34ea807a31085bd8ddc58e9dfe5cd0b3d30d24505e91e512", func := "loop.example/g01224/laws.FnExactSumKernel", spec := "fnExactSumKernel", inPlace := ["math.Float32bits", "math.Float64bits", "math.Float64frombits"], unfollowed := true, recurses := true, plainKeys := false, apart := false }
def FnExactSumKernelSaid : Prop := fnExactSumKernelRow.holds Try.pinned (OpenSpec.ofChange fnExactSumKernelSpec)

/-- ITS FALSE NEIGHBOUR: 'it returns false'. Refute it at one input. -/
def fnExactSumKernelWrong : ChangeSpec := { name := "fnExactSumKernel", fn := fun _ => fun
  | [d] => { results := [.lit (.bool false)], args := [d] }
  | _ => none }
def FnExactSumKernelWrongFalsely : Prop := fnExactSumKernelRow.holds Try.pinned (OpenSpec.ofChange fnExactSumKernelWrong)

/-- 'laws.FnExactFallKernel': WHATEVER THE INPUT: true; the input reads as it did. -/
def fnExactFallKernelSpec : ChangeSpec := { name := "fnExactFallKernel", fn := fun _ => fun
  | [d] => { results := [.lit (.bool true)], args := [d] }
  | _ => none }
def fnExactFallKernelRow : OpenClaim := { program := "ytnnhoololemaaaa", sum := "fd0a91de696996ff34ea807a31085bd8ddc58e9dfe5cd0b3d30d24505e91e512", func := "loop.example/g01224/laws.FnExactFallKernel", spec := "fnExactFallKernel", inPlace := ["math.Float32bits", "math.Float32frombits", "math.Float64bits", "math.Float64frombits"], unfollowed := true, recurses := true, plainKeys := false, apart := false }
def FnExactFallKernelSaid : Prop := fnExactFallKernelRow.holds Try.pinned (OpenSpec.ofChange fnExactFallKernelSpec)

/-- ITS FALSE NEIGHBOUR: 'it returns false'. Refute it at one input. -/
def fnExactFallKernelWrong : ChangeSpec := { name := "fnExactFallKernel", fn := fun _ => fun
  | [d] => { results := [.lit (.bool false)], args := [d] }
  | _ => none }
def FnExactFallKernelWrongFalsely : Prop := fnExactFallKernelRow.holds Try.pinned (OpenSpec.ofChange fnExactFallKernelWrong)

/-- 'laws.FnExactAddKernels': WHATEVER THE INPUT: true; the input reads as it did. -/
def fnExactAddKernelsSpec : ChangeSpec := { name := "fnExactAddKernels", fn := fun _ => fun
  | [d1, d2] => { results := [.lit (.bool true)], args := [d1, d2] }
  | _ => none }
def fnExactAddKernelsRow : OpenClaim := { program := "ytnnhoololemaaaa", sum := "fd0a91de696996ff34ea807a31085bd8ddc58e9dfe5cd0b3d30d24505e91e512", func := "loop.example/g01224/laws.FnExactAddKernels", spec := "fnExactAddKernels", inPlace := ["math.Float32bits", "math.Float64bits", "math.Float64frombits"], unfollowed := true, recurses := true, plainKeys := false, apart := false }
def FnExactAddKernelsSaid : Prop := fnExactAddKernelsRow.holds Try.pinned (OpenSpec.ofChange fnExactAddKernelsSpec)

/-- ITS FALSE NEIGHBOUR: 'it returns false'. Refute it at one input. -/
def fnExactAddKernelsWrong : ChangeSpec := { name := "fnExactAddKernels", fn := fun _ => fun
  | [d1, d2] => { results := [.lit (.bool false)], args := [d1, d2] }
  | _ => none }
def FnExactAddKernelsWrongFalsely : Prop := fnExactAddKernelsRow.holds Try.pinned (OpenSpec.ofChange fnExactAddKernelsWrong)

/-- 'laws.FnExactScaleKernel': WHATEVER THE INPUT: true; the input reads as it did. -/
def fnExactScaleKernelSpec : ChangeSpec := { name := "fnExactScaleKernel", fn := fun _ => fun
  | [d1, d2] => { results := [.lit (.bool true)], args := [d1, d2] }
  | _ => none }
def fnExactScaleKernelRow : OpenClaim := { program := "ytnnhoololemaaaa", sum := "fd0a91de696996ff34ea807a31085bd8ddc58e9dfe5cd0b3d30d24505e91e512", func := "loop.example/g01224/laws.FnExactScaleKernel", spec := "fnExactScaleKernel", inPlace := ["math.Float32bits", "math.Float64bits", "math.Float64frombits"], unfollowed := true, recurses := true, plainKeys := false, apart := false }
def FnExactScaleKernelSaid : Prop := fnExactScaleKernelRow.holds Try.pinned (OpenSpec.ofChange fnExactScaleKernelSpec)

/-- ITS FALSE NEIGHBOUR: 'it returns false'. Refute it at one input. -/
def fnExactScaleKernelWrong : ChangeSpec := { name := "fnExactScaleKernel", fn := fun _ => fun
  | [d1, d2] => { results := [.lit (.bool false)], args := [d1, d2] }
  | _ => none }
def FnExactScaleKernelWrongFalsely : Prop := fnExactScaleKernelRow.holds Try.pinned (OpenSpec.ofChange fnExactScaleKernelWrong)

/-- 'laws.FnExactEventsOf': WHATEVER THE INPUT: true; the input reads as it did. -/
def fnExactEventsOfSpec : ChangeSpec := { name := "fnExactEventsOf", fn := fun _ => fun
  | [d1, d2, d3] => { results := [.lit (.bool true)], args := [d1, d2, d3] }
  | _ => none }
def fnExactEventsOfRow : OpenClaim := { program := "ytnnhoololemaaaa", sum := "fd0a91de696996ff34ea807a31085bd8ddc58e9dfe5cd0b3d30d24505e91e512", func := "loop.example/g01224/laws.FnExactEventsOf", spec := "fnExactEventsOf", inPlace := ["math.Float32bits", "math.Float64bits", "math.Float64frombits"], unfollowed := true, recurses := true, plainKeys := false, apart := false }
def FnExactEventsOfSaid : Prop := fnExactEventsOfRow.holds Try.pinned (OpenSpec.ofChange fnExactEventsOfSpec)

/-- ITS FALSE NEIGHBOUR: 'it returns false'. Refute it at one input. -/
def fnExactEventsOfWrong : ChangeSpec := { name := "fnExactEventsOf", fn := fun _ => fun
  | [d1, d2, d3] => { results := [.lit (.bool false)], args := [d1, d2, d3] }
  | _ => none }
def FnExactEventsOfWrongFalsely : Prop := fnExactEventsOfRow.holds Try.pinned (OpenSpec.ofChange fnExactEventsOfWrong)

/-- 'laws.FnExactLossesOf': WHATEVER THE INPUT: true; the input reads as it did. -/
def fnExactLossesOfSpec : ChangeSpec := { name := "fnExactLossesOf", fn := fun _ => fun
  | [d1, d2, d3] => { results := [.lit (.bool true)], args := [d1, d2, d3] }
  | _ => none }
def fnExactLossesOfRow : OpenClaim := { program := "ytnnhoololemaaaa", sum := "fd0a91de696996ff34ea807a31085bd8ddc58e9dfe5cd0b3d30d24505e91e512", func := "loop.example/g01224/laws.FnExactLossesOf", spec := "fnExactLossesOf", inPlace := ["math.Float32bits", "math.Float64bits", "math.Float64frombits"], unfollowed := true, recurses := true, plainKeys := false, apart := false }
def FnExactLossesOfSaid : Prop := fnExactLossesOfRow.holds Try.pinned (OpenSpec.ofChange fnExactLossesOfSpec)

/-- ITS FALSE NEIGHBOUR: 'it returns false'. Refute it at one input. -/
def fnExactLossesOfWrong : ChangeSpec := { name := "fnExactLossesOf", fn := fun _ => fun
  | [d1, d2, d3] => { results := [.lit (.bool false)], args := [d1, d2, d3] }
  | _ => none }
def FnExactLossesOfWrongFalsely : Prop := fnExactLossesOfRow.holds Try.pinned (OpenSpec.ofChange fnExactLossesOfWrong)

/-- 'laws.FnExactCollide': WHATEVER THE INPUT: true; the input reads as it did. -/
def fnExactCollideSpec : ChangeSpec := { name := "fnExactCollide", fn := fun _ => fun
  | [d1, d2, d3] => { results := [.lit (.bool true)], args := [d1, d2, d3] }
  | _ => none }
def fnExactCollideRow : OpenClaim := { program := "ytnnhoololemaaaa", sum := "fd0a91de696996ff34ea807a31085bd8ddc58e9dfe5cd0b3d30d24505e91e512", func := "loop.example/g01224/laws.FnExactCollide", spec := "fnExactCollide", inPlace := ["math.Float32bits", "math.Float64bits", "math.Float64frombits"], unfollowed := true, recurses := true, plainKeys := false, apart := false }
def FnExactCollideSaid : Prop := fnExactCollideRow.holds Try.pinned (OpenSpec.ofChange fnExactCollideSpec)

/-- ITS FALSE NEIGHBOUR: 'it returns false'. Refute it at one input. -/
def fnExactCollideWrong : ChangeSpec := { name := "fnExactCollide", fn := fun _ => fun
  | [d1, d2, d3] => { results := [.lit (.bool false)], args := [d1, d2, d3] }
  | _ => none }
def FnExactCollideWrongFalsely : Prop := fnExactCollideRow.holds Try.pinned (OpenSpec.ofChange fnExactCollideWrong)

/-- 'laws.FnExactCollideSteps': WHATEVER THE INPUT: true; the input reads as it did. -/
def fnExactCollideStepsSpec : ChangeSpec := { name := "fnExactCollideSteps", fn := fun _ => fun
  | [d1, d2, d3, d4] => { results := [.lit (.bool true)], args := [d1, d2, d3, d4] }
  | _ => none }
def fnExactCollideStepsRow : OpenClaim := { program := "ytnnhoololemaaaa", sum := "fd0a91de696996ff34ea807a31085bd8ddc58e9dfe5cd0b3d30d24505e91e512", func := "loop.example/g01224/laws.FnExactCollideSteps", spec := "fnExactCollideSteps", inPlace := ["math.Float32bits", "math.Float64bits", "math.Float64frombits"], unfollowed := true, recurses := true, plainKeys := false, apart := false }
def FnExactCollideStepsSaid : Prop := fnExactCollideStepsRow.holds Try.pinned (OpenSpec.ofChange fnExactCollideStepsSpec)

/-- ITS FALSE NEIGHBOUR: 'it returns false'. Refute it at one input. -/
def fnExactCollideStepsWrong : ChangeSpec := { name := "fnExactCollideSteps", fn := fun _ => fun
  | [d1, d2, d3, d4] => { results := [.lit (.bool false)], args := [d1, d2, d3, d4] }
  | _ => none }
def FnExactCollideStepsWrongFalsely : Prop := fnExactCollideStepsRow.holds Try.pinned (OpenSpec.ofChange fnExactCollideStepsWrong)

/-- 'laws.FnExactRainMade': WHATEVER THE INPUT: true; the input reads as it did. -/
def fnExactRainMadeSpec : ChangeSpec := { name := "fnExactRainMade", fn := fun _ => fun
  | [d1, d2, d3, d4] => { results := [.lit (.bool true)], args := [d1, d2, d3, d4] }
  | _ => none }
def fnExactRainMadeRow : OpenClaim := { program := "ytnnhoololemaaaa", sum := "fd0a91de696996ff34ea807a31085bd8ddc58e9dfe5cd0b3d30d24505e91e512", func := "loop.example/g01224/laws.FnExactRainMade", spec := "fnExactRainMade", inPlace := ["math.Float32bits", "math.Float64bits", "math.Float64frombits"], unfollowed := true, recurses := true, plainKeys := false, apart := false }
def FnExactRainMadeSaid : Prop := fnExactRainMadeRow.holds Try.pinned (OpenSpec.ofChange fnExactRainMadeSpec)

/-- ITS FALSE NEIGHBOUR: 'it returns false'. Refute it at one input. -/
def fnExactRainMadeWrong : ChangeSpec := { name := "fnExactRainMade", fn := fun _ => fun
  | [d1, d2, d3, d4] => { results := [.lit (.bool false)], args := [d1, d2, d3, d4] }
  | _ => none }
def FnExactRainMadeWrongFalsely : Prop := fnExactRainMadeRow.holds Try.pinned (OpenSpec.ofChange fnExactRainMadeWrong)

/-- 'laws.FnExactBreakClass': WHATEVER THE INPUT: true; the input reads as it did. -/
def fnExactBreakClassSpec : ChangeSpec := { name := "fnExactBreakClass", fn := fun _ => fun
  | [d1, d2, d3] => { results := [.lit (.bool true)], args := [d1, d2, d3] }
  | _ => none }
def fnExactBreakClassRow : OpenClaim := { program := "ytnnhoololemaaaa", sum := "fd0a91de696996ff34ea807a31085bd8ddc58e9dfe5cd0b3d30d24505e91e512", func := "loop.example/g01224/laws.FnExactBreakClass", spec := "fnExactBreakClass", inPlace := ["math.Float32bits", "math.Float64bits", "math.Float64frombits"], plainKeys := false, apart := false }
def FnExactBreakClassSaid : Prop := fnExactBreakClassRow.holds Try.pinned (OpenSpec.ofChange fnExactBreakClassSpec)

/-- ITS FALSE NEIGHBOUR: 'it returns false'. Refute it at one input. -/
def fnExactBreakClassWrong : ChangeSpec := { name := "fnExactBreakClass", fn := fun _ => fun
  | [d1, d2, d3] => { results := [.lit (.bool false)], args := [d1, d2, d3] }
  | _ => none }
def FnExactBreakClassWrongFalsely : Prop := fnExactBreakClassRow.holds Try.pinned (OpenSpec.ofChange fnExactBreakClassWrong)

/-- 'laws.FnExactBreakLarge': WHATEVER THE INPUT: true; the input reads as it did. -/
def fnExactBreakLargeSpec : ChangeSpec := { name := "fnExactBreakLarge", fn := fun _ => fun
  | [d1, d2, d3] => { results := [.lit (.bool true)], args := [d1, d2, d3] }
  | _ => none }
def fnExactBreakLargeRow : OpenClaim := { program := "ytnnhoololemaaaa", sum := "fd0a91de696996ff34ea807a31085bd8ddc58e9dfe5cd0b3d30d24505e91e512", func := "loop.example/g01224/laws.FnExactBreakLarge", spec := "fnExactBreakLarge", inPlace := ["math.Float32bits", "math.Float64bits", "math.Float64frombits"], plainKeys := false, apart := false }
def FnExactBreakLargeSaid : Prop := fnExactBreakLargeRow.holds Try.pinned (OpenSpec.ofChange fnExactBreakLargeSpec)

/-- ITS FALSE NEIGHBOUR: 'it returns false'. Refute it at one input. -/
def fnExactBreakLargeWrong : ChangeSpec := { name := "fnExactBreakLarge", fn := fun _ => fun
  | [d1, d2, d3] => { results := [.lit (.bool false)], args := [d1, d2, d3] }
  | _ => none }
def FnExactBreakLargeWrongFalsely : Prop := fnExactBreakLargeRow.holds Try.pinned (OpenSpec.ofChange fnExactBreakLargeWrong)

/-- 'laws.FnExactValidBox': WHATEVER THE INPUT: true; the input reads as it did. -/
def fnExactValidBoxSpec : ChangeSpec := { name := "fnExactValidBox", fn := fun _ => fun
  | [d] => { results := [.lit (.bool true)], args := [d] }
  | _ => none }
def fnExactValidBoxRow : OpenClaim := { program := "ytnnhoololemaaaa", sum := "fd0a91de696996ff34ea807a31085bd8ddc58e9dfe5cd0b3d30d24505e91e512", func := "loop.example/g01224/laws.FnExactValidBox", spec := "fnExactValidBox", plainKeys := false, apart := false }
def FnExactValidBoxSaid : Prop := fnExactValidBoxRow.holds Try.pinned (OpenSpec.ofChange fnExactValidBoxSpec)

/-- ITS FALSE NEIGHBOUR: 'it returns false'. Refute it at one input. -/
def fnExactValidBoxWrong : ChangeSpec := { name := "fnExactValidBox", fn := fun _ => fun
  | [d] => { results := [.lit (.bool false)], args := [d] }
  | _ => none }
def FnExactValidBoxWrongFalsely : Prop := fnExactValidBoxRow.holds Try.pinned (OpenSpec.ofChange fnExactValidBoxWrong)

/-- 'laws.FnExactMassOfBox': WHATEVER THE INPUT: true; the input reads as it did. -/
def fnExactMassOfBoxSpec : ChangeSpec := { name := "fnExactMassOfBox", fn := fun _ => fun
  | [d] => { results := [.lit (.bool true)], args := [d] }
  | _ => none }
def fnExactMassOfBoxRow : OpenClaim := { program := "ytnnhoololemaaaa", sum := "fd0a91de696996ff34ea807a31085bd8ddc58e9dfe5cd0b3d30d24505e91e512", func := "loop.example/g01224/laws.FnExactMassOfBox", spec := "fnExactMassOfBox", plainKeys := false, apart := false }
def FnExactMassOfBoxSaid : Prop := fnExactMassOfBoxRow.holds Try.pinned (OpenSpec.ofChange fnExactMassOfBoxSpec)

/-- ITS FALSE NEIGHBOUR: 'it returns false'. Refute it at one input. -/
def fnExactMassOfBoxWrong : ChangeSpec := { name := "fnExactMassOfBox", fn := fun _ => fun
  | [d] => { results := [.lit (.bool false)], args := [d] }
  | _ => none }
def FnExactMassOfBoxWrongFalsely : Prop := fnExactMassOfBoxRow.holds Try.pinned (OpenSpec.ofChange fnExactMassOfBoxWrong)

/-- 'laws.FnExactSizesOfBox': WHATEVER THE INPUT: true; the input reads as it did. -/
def fnExactSizesOfBoxSpec : ChangeSpec := { name := "fnExactSizesOfBox", fn := fun _ => fun
  | [d] => { results := [.lit (.bool true)], args := [d] }
  | _ => none }
def fnExactSizesOfBoxRow : OpenClaim := { program := "ytnnhoololemaaaa", sum := "fd0a91de696996ff34ea807a31085bd8ddc58e9dfe5cd0b3d30d24505e91e512", func := "loop.example/g01224/laws.FnExactSizesOfBox", spec := "fnExactSizesOfBox", plainKeys := false, apart := false }
def FnExactSizesOfBoxSaid : Prop := fnExactSizesOfBoxRow.holds Try.pinned (OpenSpec.ofChange fnExactSizesOfBoxSpec)

/-- ITS FALSE NEIGHBOUR: 'it returns false'. Refute it at one input. -/
def fnExactSizesOfBoxWrong : ChangeSpec := { name := "fnExactSizesOfBox", fn := fun _ => fun
  | [d] => { results := [.lit (.bool false)], args := [d] }
  | _ => none }
def FnExactSizesOfBoxWrongFalsely : Prop := fnExactSizesOfBoxRow.holds Try.pinned (OpenSpec.ofChange fnExactSizesOfBoxWrong)

/-- 'laws.FnExactCollidePair': WHATEVER THE INPUT: true; the input reads as it did. -/
def fnExactCollidePairSpec : ChangeSpec := { name := "fnExactCollidePair", fn := fun _ => fun
  | [d1, d2] => { results := [.lit (.bool true)], args := [d1, d2] }
  | _ => none }
def fnExactCollidePairRow : OpenClaim := { program := "ytnnhoololemaaaa", sum := "fd0a91de696996ff34ea807a31085bd8ddc58e9dfe5cd0b3d30d24505e91e512", func := "loop.example/g01224/laws.FnExactCollidePair", spec := "fnExactCollidePair", inPlace := ["math.Float64bits", "math.Float64frombits"], plainKeys := false, apart := false }
def FnExactCollidePairSaid : Prop := fnExactCollidePairRow.holds Try.pinned (OpenSpec.ofChange fnExactCollidePairSpec)

/-- ITS FALSE NEIGHBOUR: 'it returns false'. Refute it at one input. -/
def fnExactCollidePairWrong : ChangeSpec := { name := "fnExactCollidePair", fn := fun _ => fun
  | [d1, d2] => { results := [.lit (.bool false)], args := [d1, d2] }
  | _ => none }
def FnExactCollidePairWrongFalsely : Prop := fnExactCollidePairRow.holds Try.pinned (OpenSpec.ofChange fnExactCollidePairWrong)

/-- 'laws.FnExactCollidePairs': WHATEVER THE INPUT: true; the input reads as it did. -/
def fnExactCollidePairsSpec : ChangeSpec := { name := "fnExactCollidePairs", fn := fun _ => fun
  | [d1, d2] => { results := [.lit (.bool true)], args := [d1, d2] }
  | _ => none }
def fnExactCollidePairsRow : OpenClaim := { program := "ytnnhoololemaaaa", sum := "fd0a91de696996ff34ea807a31085bd8ddc58e9dfe5cd0b3d30d24505e91e512", func := "loop.example/g01224/laws.FnExactCollidePairs", spec := "fnExactCollidePairs", inPlace := ["math.Float64bits", "math.Float64frombits"], plainKeys := false, apart := false }
def FnExactCollidePairsSaid : Prop := fnExactCollidePairsRow.holds Try.pinned (OpenSpec.ofChange fnExactCollidePairsSpec)

/-- ITS FALSE NEIGHBOUR: 'it returns false'. Refute it at one input. -/
def fnExactCollidePairsWrong : ChangeSpec := { name := "fnExactCollidePairs", fn := fun _ => fun
  | [d1, d2] => { results := [.lit (.bool false)], args := [d1, d2] }
  | _ => none }
def FnExactCollidePairsWrongFalsely : Prop := fnExactCollidePairsRow.holds Try.pinned (OpenSpec.ofChange fnExactCollidePairsWrong)

/-- 'laws.FnExactDrawPairs': WHATEVER THE INPUT: true; the input reads as it did. -/
def fnExactDrawPairsSpec : ChangeSpec := { name := "fnExactDrawPairs", fn := fun _ => fun
  | [d1, d2, d3] => { results := [.lit (.bool true)], args := [d1, d2, d3] }
  | _ => none }
def fnExactDrawPairsRow : OpenClaim := { program := "ytnnhoololemaaaa", sum := "fd0a91de696996ff34ea807a31085bd8ddc58e9dfe5cd0b3d30d24505e91e512", func := "loop.example/g01224/laws.FnExactDrawPairs", spec := "fnExactDrawPairs", unfollowed := true, recurses := true, plainKeys := false, apart := false }
def FnExactDrawPairsSaid : Prop := fnExactDrawPairsRow.holds Try.pinned (OpenSpec.ofChange fnExactDrawPairsSpec)

/-- ITS FALSE NEIGHBOUR: 'it returns false'. Refute it at one input. -/
def fnExactDrawPairsWrong : ChangeSpec := { name := "fnExactDrawPairs", fn := fun _ => fun
  | [d1, d2, d3] => { results := [.lit (.bool false)], args := [d1, d2, d3] }
  | _ => none }
def FnExactDrawPairsWrongFalsely : Prop := fnExactDrawPairsRow.holds Try.pinned (OpenSpec.ofChange fnExactDrawPairsWrong)

/-- 'laws.FnExactGatherDust': WHATEVER THE INPUT: true; the input reads as it did. -/
def fnExactGatherDustSpec : ChangeSpec := { name := "fnExactGatherDust", fn := fun _ => fun
  | [d] => { results := [.lit (.bool true)], args := [d] }
  | _ => none }
def fnExactGatherDustRow : OpenClaim := { program := "ytnnhoololemaaaa", sum := "fd0a91de696996ff34ea807a31085bd8ddc58e9dfe5cd0b3d30d24505e91e512", func := "loop.example/g01224/laws.FnExactGatherDust", spec := "fnExactGatherDust", plainKeys := false, apart := false }
def FnExactGatherDustSaid : Prop := fnExactGatherDustRow.holds Try.pinned (OpenSpec.ofChange fnExactGatherDustSpec)

/-- ITS FALSE NEIGHBOUR: 'it returns false'. Refute it at one input. -/
def fnExactGatherDustWrong : ChangeSpec := { name := "fnExactGatherDust", fn := fun _ => fun
  | [d] => { results := [.lit (.bool false)], args := [d] }
  | _ => none }
def FnExactGatherDustWrongFalsely : Prop := fnExactGatherDustRow.holds Try.pinned (OpenSpec.ofChange fnExactGatherDustWrong)

/- THE SECOND FORM. 'bulk': how many values and letters a reading holds, each counted each time it is reached (what is shared counts as often as it is met; a slice's spare places count too). A statement '..UptoSaid' is the law's where the arguments, and the package variables that the reading takes, are together of bulk at most 1048576: NARROWER than '..Said'. Prove '..Said' where nothing that the law and all that it calls make is longer than what came in: it says more and counts as full. Else prove '..UptoSaid'. A law counts once. -/
mutual
def uptoBulk {H : Type} : DataW H → Nat
  | .lit (.string bytes) => bytes.length + 1
  | .lit _ => 1
  | .nil => 1
  | .ptr d => uptoBulk d + 1
  | .slice elems spare => uptoBulkAll elems + uptoBulkAll spare + 1
  | .agg parts => uptoBulkAll parts + 1
  | .iface _ d => uptoBulk d + 1
  | .map entries => uptoBulkEntries entries + 1
  | .held _ => 1
def uptoBulkAll {H : Type} : List (DataW H) → Nat
  | [] => 0
  | d :: r => uptoBulk d + uptoBulkAll r
def uptoBulkEntries {H : Type} : List (Lit × DataW H) → Nat
  | [] => 0
  | x :: r => uptoBulkEntry x + uptoBulkEntries r
def uptoBulkEntry {H : Type} : Lit × DataW H → Nat
  | (.string bytes, d) => bytes.length + uptoBulk d + 1
  | (_, d) => uptoBulk d + 1
 end
def uptoSmall : (H : Type) → List (DataW H) → Bool := fun _ ds => decide (uptoBulkAll ds ≤ 1048576)
def OpenSpec.upto (s : _root_.Go.ChangeSpec) : _root_.Go.OpenSpec := { _root_.Go.OpenSpec.ofChange s with cond := some uptoSmall }

/-- 'laws.FnExactThirdRoot', WHERE WHAT IT READS IS OF BULK AT MOST 1048576: true; the input reads as it did. -/
def fnExactThirdRootUptoRow : OpenClaim := { program := "ytnnhoololemaaaa", sum := "fd0a91de696996ff34ea807a31085bd8ddc58e9dfe5cd0b3d30d24505e91e512", func := "loop.example/g01224/laws.FnExactThirdRoot", spec := "fnExactThirdRoot", inPlace := ["math.Float32bits", "math.Float64bits", "math.Float64frombits"], plainKeys := false, apart := false, narrowed := true }
def FnExactThirdRootUptoSaid : Prop := fnExactThirdRootUptoRow.holds Try.pinned (OpenSpec.upto fnExactThirdRootSpec)

/-- 'laws.FnExactShiftMasses', WHERE WHAT IT READS IS OF BULK AT MOST 1048576: true; the input reads as it did. -/
def fnExactShiftMassesUptoRow : OpenClaim := { program := "ytnnhoololemaaaa", sum := "fd0a91de696996ff34ea807a31085bd8ddc58e9dfe5cd0b3d30d24505e91e512", func := "loop.example/g01224/laws.FnExactShiftMasses", spec := "fnExactShiftMasses", inPlace := ["math.Float32bits", "math.Float64bits", "math.Float64frombits"], unfollowed := true, recurses := true, plainKeys := false, apart := false, narrowed := true }
def FnExactShiftMassesUptoSaid : Prop := fnExactShiftMassesUptoRow.holds Try.pinned (OpenSpec.upto fnExactShiftMassesSpec)

/-- 'laws.FnExactGainsAt', WHERE WHAT IT READS IS OF BULK AT MOST 1048576: true; the input reads as it did. -/
def fnExactGainsAtUptoRow : OpenClaim := { program := "ytnnhoololemaaaa", sum := "fd0a91de696996ff34ea807a31085bd8ddc58e9dfe5cd0b3d30d24505e91e512", func := "loop.example/g01224/laws.FnExactGainsAt", spec := "fnExactGainsAt", inPlace := ["math.Float32bits", "math.Float64bits", "math.Float64frombits"], plainKeys := false, apart := false, narrowed := true }
def FnExactGainsAtUptoSaid : Prop := fnExactGainsAtUptoRow.holds Try.pinned (OpenSpec.upto fnExactGainsAtSpec)

/-- 'laws.FnExactGrowOnce', WHERE WHAT IT READS IS OF BULK AT MOST 1048576: true; the input reads as it did. -/
def fnExactGrowOnceUptoRow : OpenClaim := { program := "ytnnhoololemaaaa", sum := "fd0a91de696996ff34ea807a31085bd8ddc58e9dfe5cd0b3d30d24505e91e512", func := "loop.example/g01224/laws.FnExactGrowOnce", spec := "fnExactGrowOnce", inPlace := ["math.Float32bits", "math.archFloor", "math.Float64bits", "math.Float64frombits", "math.archTrunc"], unfollowed := true, recurses := true, plainKeys := false, apart := false, narrowed := true }
def FnExactGrowOnceUptoSaid : Prop := fnExactGrowOnceUptoRow.holds Try.pinned (OpenSpec.upto fnExactGrowOnceSpec)

/-- 'laws.FnExactGrowSteps', WHERE WHAT IT READS IS OF BULK AT MOST 1048576: true; the input reads as it did. -/
def fnExactGrowStepsUptoRow : OpenClaim := { program := "ytnnhoololemaaaa", sum := "fd0a91de696996ff34ea807a31085bd8ddc58e9dfe5cd0b3d30d24505e91e512", func := "loop.example/g01224/laws.FnExactGrowSteps", spec := "fnExactGrowSteps", inPlace := ["math.Float32bits", "math.archFloor", "math.Float64bits", "math.Float64frombits", "math.archTrunc"], unfollowed := true, recurses := true, plainKeys := false, apart := false, narrowed := true }
def FnExactGrowStepsUptoSaid : Prop := fnExactGrowStepsUptoRow.holds Try.pinned (OpenSpec.upto fnExactGrowStepsSpec)

/-- 'laws.FnExactStepsToDry', WHERE WHAT IT READS IS OF BULK AT MOST 1048576: true; the input reads as it did. -/
def fnExactStepsToDryUptoRow : OpenClaim := { program := "ytnnhoololemaaaa", sum := "fd0a91de696996ff34ea807a31085bd8ddc58e9dfe5cd0b3d30d24505e91e512", func := "loop.example/g01224/laws.FnExactStepsToDry", spec := "fnExactStepsToDry", inPlace := ["math.Float32bits", "math.archFloor", "math.Float64bits", "math.Float64frombits", "math.archTrunc"], unfollowed := true, recurses := true, plainKeys := false, apart := false, narrowed := true }
def FnExactStepsToDryUptoSaid : Prop := fnExactStepsToDryUptoRow.holds Try.pinned (OpenSpec.upto fnExactStepsToDrySpec)

/-- 'laws.FnExactValidKernel', WHERE WHAT IT READS IS OF BULK AT MOST 1048576: true; the input reads as it did. -/
def fnExactValidKernelUptoRow : OpenClaim := { program := "ytnnhoololemaaaa", sum := "fd0a91de696996ff34ea807a31085bd8ddc58e9dfe5cd0b3d30d24505e91e512", func := "loop.example/g01224/laws.FnExactValidKernel", spec := "fnExactValidKernel", inPlace := ["math.Float32bits", "math.Float64bits", "math.Float64frombits"], plainKeys := false, apart := false, narrowed := true }
def FnExactValidKernelUptoSaid : Prop := fnExactValidKernelUptoRow.holds Try.pinned (OpenSpec.upto fnExactValidKernelSpec)

/-- 'laws.FnExactSameKernel', WHERE WHAT IT READS IS OF BULK AT MOST 1048576: true; the input reads as it did. -/
def fnExactSameKernelUptoRow : OpenClaim := { program := "ytnnhoololemaaaa", sum := "fd0a91de696996ff34ea807a31085bd8ddc58e9dfe5cd0b3d30d24505e91e512", func := "loop.example/g01224/laws.FnExactSameKernel", spec := "fnExactSameKernel", inPlace := ["math.Float32bits"], plainKeys := false, apart := false, narrowed := true }
def FnExactSameKernelUptoSaid : Prop := fnExactSameKernelUptoRow.holds Try.pinned (OpenSpec.upto fnExactSameKernelSpec)

/-- 'laws.FnExactFallOf', WHERE WHAT IT READS IS OF BULK AT MOST 1048576: true; the input reads as it did. -/
def fnExactFallOfUptoRow : OpenClaim := { program := "ytnnhoololemaaaa", sum := "fd0a91de696996ff34ea807a31085bd8ddc58e9dfe5cd0b3d30d24505e91e512", func := "loop.example/g01224/laws.FnExactFallOf", spec := "fnExactFallOf", inPlace := ["math.Float64bits", "math.Float64frombits"], plainKeys := false, apart := false, narrowed := true }
def FnExactFallOfUptoSaid : Prop := fnExactFallOfUptoRow.holds Try.pinned (OpenSpec.upto fnExactFallOfSpec)

/-- 'laws.FnExactFlatKernel', WHERE WHAT IT READS IS OF BULK AT MOST 1048576: true; the input reads as it did. -/
def fnExactFlatKernelUptoRow : OpenClaim := { program := "ytnnhoololemaaaa", sum := "fd0a91de696996ff34ea807a31085bd8ddc58e9dfe5cd0b3d30d24505e91e512", func := "loop.example/g01224/laws.FnExactFlatKernel", spec := "fnExactFlatKernel", inPlace := ["math.Float32bits", "math.Float64bits", "math.Float64frombits"], unfollowed := true, recurses := true, plainKeys := false, apart := false, narrowed := true }
def FnExactFlatKernelUptoSaid : Prop := fnExactFlatKernelUptoRow.holds Try.pinned (OpenSpec.upto fnExactFlatKernelSpec)

/-- 'laws.FnExactSumKernel', WHERE WHAT IT READS IS OF BULK AT MOST 1048576: true; the input reads as it did. -/
def fnExactSumKernelUptoRow : OpenClaim := { program := "ytnnhoololemaaaa", sum := "fd0a91de696996ff34ea807a31085bd8ddc58e9dfe5cd0b3d30d24505e91e512", func := "loop.example/g01224/laws.FnExactSumKernel", spec := "fnExactSumKernel", inPlace := ["math.Float32bits", "math.Float64bits", "math.Float64frombits"], unfollowed := true, recurses := true, plainKeys := false, apart := false, narrowed := true }
def FnExactSumKernelUptoSaid : Prop := fnExactSumKernelUptoRow.holds Try.pinned (OpenSpec.upto fnExactSumKernelSpec)

/-- 'laws.FnExactFallKernel', WHERE WHAT IT READS IS OF BULK AT MOST 1048576: true; the input reads as it did. -/
def fnExactFallKernelUptoRow : OpenClaim := { program := "ytnnhoololemaaaa", sum := "fd0a91de696996ff34ea807a31085bd8ddc58e9dfe5cd0b3d30d24505e91e512", func := "loop.example/g01224/laws.FnExactFallKernel", spec := "fnExactFallKernel", inPlace := ["math.Float32bits", "math.Float32frombits", "math.Float64bits", "math.Float64frombits"], unfollowed := true, recurses := true, plainKeys := false, apart := false, narrowed := true }
def FnExactFallKernelUptoSaid : Prop := fnExactFallKernelUptoRow.holds Try.pinned (OpenSpec.upto fnExactFallKernelSpec)

/-- 'laws.FnExactAddKernels', WHERE WHAT IT READS IS OF BULK AT MOST 1048576: true; the input reads as it did. -/
def fnExactAddKernelsUptoRow : OpenClaim := { program := "ytnnhoololemaaaa", sum := "fd0a91de696996ff34ea807a31085bd8ddc58e9dfe5cd0b3d30d24505e91e512", func := "loop.example/g01224/laws.FnExactAddKernels", spec := "fnExactAddKernels", inPlace := ["math.Float32bits", "math.Float64bits", "math.Float64frombits"], unfollowed := true, recurses := true, plainKeys := false, apart := false, narrowed := true }
def FnExactAddKernelsUptoSaid : Prop := fnExactAddKernelsUptoRow.holds Try.pinned (OpenSpec.upto fnExactAddKernelsSpec)

/-- 'laws.FnExactScaleKernel', WHERE WHAT IT READS IS OF BULK AT MOST 1048576: true; the input reads as it did. -/
def fnExactScaleKernelUptoRow : OpenClaim := { program := "ytnnhoololemaaaa", sum := "fd0a91de696996ff34ea807a31085bd8ddc58e9dfe5cd0b3d30d24505e91e512", func := "loop.example/g01224/laws.FnExactScaleKernel", spec := "fnExactScaleKernel", inPlace := ["math.Float32bits", "math.Float64bits", "math.Float64frombits"], unfollowed := true, recurses := true, plainKeys := false, apart := false, narrowed := true }
def FnExactScaleKernelUptoSaid : Prop := fnExactScaleKernelUptoRow.holds Try.pinned (OpenSpec.upto fnExactScaleKernelSpec)

/-- 'laws.FnExactEventsOf', WHERE WHAT IT READS IS OF BULK AT MOST 1048576: true; the input reads as it did. -/
def fnExactEventsOfUptoRow : OpenClaim := { program := "ytnnhoololemaaaa", sum := "fd0a91de696996ff34ea807a31085bd8ddc58e9dfe5cd0b3d30d24505e91e512", func := "loop.example/g01224/laws.FnExactEventsOf", spec := "fnExactEventsOf", inPlace := ["math.Float32bits", "math.Float64bits", "math.Float64frombits"], unfollowed := true, recurses := true, plainKeys := false, apart := false, narrowed := true }
def FnExactEventsOfUptoSaid : Prop := fnExactEventsOfUptoRow.holds Try.pinned (OpenSpec.upto fnExactEventsOfSpec)

/-- 'laws.FnExactLossesOf', WHERE WHAT IT READS IS OF BULK AT MOST 1048576: true; the input reads as it did. -/
def fnExactLossesOfUptoRow : OpenClaim := { program := "ytnnhoololemaaaa", sum := "fd0a91de696996ff34ea807a31085bd8ddc58e9dfe5cd0b3d30d24505e91e512", func := "loop.example/g01224/laws.FnExactLossesOf", spec := "fnExactLossesOf", inPlace := ["math.Float32bits", "math.Float64bits", "math.Float64frombits"], unfollowed := true, recurses := true, plainKeys := false, apart := false, narrowed := true }
def FnExactLossesOfUptoSaid : Prop := fnExactLossesOfUptoRow.holds Try.pinned (OpenSpec.upto fnExactLossesOfSpec)

/-- 'laws.FnExactCollide', WHERE WHAT IT READS IS OF BULK AT MOST 1048576: true; the input reads as it did. -/
def fnExactCollideUptoRow : OpenClaim := { program := "ytnnhoololemaaaa", sum := "fd0a91de696996ff34ea807a31085bd8ddc58e9dfe5cd0b3d30d24505e91e512", func := "loop.example/g01224/laws.FnExactCollide", spec := "fnExactCollide", inPlace := ["math.Float32bits", "math.Float64bits", "math.Float64frombits"], unfollowed := true, recurses := true, plainKeys := false, apart := false, narrowed := true }
def FnExactCollideUptoSaid : Prop := fnExactCollideUptoRow.holds Try.pinned (OpenSpec.upto fnExactCollideSpec)

/-- 'laws.FnExactCollideSteps', WHERE WHAT IT READS IS OF BULK AT MOST 1048576: true; the input reads as it did. -/
def fnExactCollideStepsUptoRow : OpenClaim := { program := "ytnnhoololemaaaa", sum := "fd0a91de696996ff34ea807a31085bd8ddc58e9dfe5cd0b3d30d24505e91e512", func := "loop.example/g01224/laws.FnExactCollideSteps", spec := "fnExactCollideSteps", inPlace := ["math.Float32bits", "math.Float64bits", "math.Float64frombits"], unfollowed := true, recurses := true, plainKeys := false, apart := false, narrowed := true }
def FnExactCollideStepsUptoSaid : Prop := fnExactCollideStepsUptoRow.holds Try.pinned (OpenSpec.upto fnExactCollideStepsSpec)

/-- 'laws.FnExactRainMade', WHERE WHAT IT READS IS OF BULK AT MOST 1048576: true; the input reads as it did. -/
def fnExactRainMadeUptoRow : OpenClaim := { program := "ytnnhoololemaaaa", sum := "fd0a91de696996ff34ea807a31085bd8ddc58e9dfe5cd0b3d30d24505e91e512", func := "loop.example/g01224/laws.FnExactRainMade", spec := "fnExactRainMade", inPlace := ["math.Float32bits", "math.Float64bits", "math.Float64frombits"], unfollowed := true, recurses := true, plainKeys := false, apart := false, narrowed := true }
def FnExactRainMadeUptoSaid : Prop := fnExactRainMadeUptoRow.holds Try.pinned (OpenSpec.upto fnExactRainMadeSpec)

/-- 'laws.FnExactBreakClass', WHERE WHAT IT READS IS OF BULK AT MOST 1048576: true; the input reads as it did. -/
def fnExactBreakClassUptoRow : OpenClaim := { program := "ytnnhoololemaaaa", sum := "fd0a91de696996ff34ea807a31085bd8ddc58e9dfe5cd0b3d30d24505e91e512", func := "loop.example/g01224/laws.FnExactBreakClass", spec := "fnExactBreakClass", inPlace := ["math.Float32bits", "math.Float64bits", "math.Float64frombits"], plainKeys := false, apart := false, narrowed := true }
def FnExactBreakClassUptoSaid : Prop := fnExactBreakClassUptoRow.holds Try.pinned (OpenSpec.upto fnExactBreakClassSpec)

/-- 'laws.FnExactBreakLarge', WHERE WHAT IT READS IS OF BULK AT MOST 1048576: true; the input reads as it did. -/
def fnExactBreakLargeUptoRow : OpenClaim := { program := "ytnnhoololemaaaa", sum := "fd0a91de696996ff34ea807a31085bd8ddc58e9dfe5cd0b3d30d24505e91e512", func := "loop.example/g01224/laws.FnExactBreakLarge", spec := "fnExactBreakLarge", inPlace := ["math.Float32bits", "math.Float64bits", "math.Float64frombits"], plainKeys := false, apart := false, narrowed := true }
def FnExactBreakLargeUptoSaid : Prop := fnExactBreakLargeUptoRow.holds Try.pinned (OpenSpec.upto fnExactBreakLargeSpec)

/-- 'laws.FnExactValidBox', WHERE WHAT IT READS IS OF BULK AT MOST 1048576: true; the input reads as it did. -/
def fnExactValidBoxUptoRow : OpenClaim := { program := "ytnnhoololemaaaa", sum := "fd0a91de696996ff34ea807a31085bd8ddc58e9dfe5cd0b3d30d24505e91e512", func := "loop.example/g01224/laws.FnExactValidBox", spec := "fnExactValidBox", plainKeys := false, apart := false, narrowed := true }
def FnExactValidBoxUptoSaid : Prop := fnExactValidBoxUptoRow.holds Try.pinned (OpenSpec.upto fnExactValidBoxSpec)

/-- 'laws.FnExactMassOfBox', WHERE WHAT IT READS IS OF BULK AT MOST 1048576: true; the input reads as it did. -/
def fnExactMassOfBoxUptoRow : OpenClaim := { program := "ytnnhoololemaaaa", sum := "fd0a91de696996ff34ea807a31085bd8ddc58e9dfe5cd0b3d30d24505e91e512", func := "loop.example/g01224/laws.FnExactMassOfBox", spec := "fnExactMassOfBox", plainKeys := false, apart := false, narrowed := true }
def FnExactMassOfBoxUptoSaid : Prop := fnExactMassOfBoxUptoRow.holds Try.pinned (OpenSpec.upto fnExactMassOfBoxSpec)

/-- 'laws.FnExactSizesOfBox', WHERE WHAT IT READS IS OF BULK AT MOST 1048576: true; the input reads as it did. -/
def fnExactSizesOfBoxUptoRow : OpenClaim := { program := "ytnnhoololemaaaa", sum := "fd0a91de696996ff34ea807a31085bd8ddc58e9dfe5cd0b3d30d24505e91e512", func := "loop.example/g01224/laws.FnExactSizesOfBox", spec := "fnExactSizesOfBox", plainKeys := false, apart := false, narrowed := true }
def FnExactSizesOfBoxUptoSaid : Prop := fnExactSizesOfBoxUptoRow.holds Try.pinned (OpenSpec.upto fnExactSizesOfBoxSpec)

/-- 'laws.FnExactCollidePair', WHERE WHAT IT READS IS OF BULK AT MOST 1048576: true; the input reads as it did. -/
def fnExactCollidePairUptoRow : OpenClaim := { program := "ytnnhoololemaaaa", sum := "fd0a91de696996ff34ea807a31085bd8ddc58e9dfe5cd0b3d30d24505e91e512", func := "loop.example/g01224/laws.FnExactCollidePair", spec := "fnExactCollidePair", inPlace := ["math.Float64bits", "math.Float64frombits"], plainKeys := false, apart := false, narrowed := true }
def FnExactCollidePairUptoSaid : Prop := fnExactCollidePairUptoRow.holds Try.pinned (OpenSpec.upto fnExactCollidePairSpec)

/-- 'laws.FnExactCollidePairs', WHERE WHAT IT READS IS OF BULK AT MOST 1048576: true; the input reads as it did. -/
def fnExactCollidePairsUptoRow : OpenClaim := { program := "ytnnhoololemaaaa", sum := "fd0a91de696996ff34ea807a31085bd8ddc58e9dfe5cd0b3d30d24505e91e512", func := "loop.example/g01224/laws.FnExactCollidePairs", spec := "fnExactCollidePairs", inPlace := ["math.Float64bits", "math.Float64frombits"], plainKeys := false, apart := false, narrowed := true }
def FnExactCollidePairsUptoSaid : Prop := fnExactCollidePairsUptoRow.holds Try.pinned (OpenSpec.upto fnExactCollidePairsSpec)

/-- 'laws.FnExactDrawPairs', WHERE WHAT IT READS IS OF BULK AT MOST 1048576: true; the input reads as it did. -/
def fnExactDrawPairsUptoRow : OpenClaim := { program := "ytnnhoololemaaaa", sum := "fd0a91de696996ff34ea807a31085bd8ddc58e9dfe5cd0b3d30d24505e91e512", func := "loop.example/g01224/laws.FnExactDrawPairs", spec := "fnExactDrawPairs", unfollowed := true, recurses := true, plainKeys := false, apart := false, narrowed := true }
def FnExactDrawPairsUptoSaid : Prop := fnExactDrawPairsUptoRow.holds Try.pinned (OpenSpec.upto fnExactDrawPairsSpec)

/-- 'laws.FnExactGatherDust', WHERE WHAT IT READS IS OF BULK AT MOST 1048576: true; the input reads as it did. -/
def fnExactGatherDustUptoRow : OpenClaim := { program := "ytnnhoololemaaaa", sum := "fd0a91de696996ff34ea807a31085bd8ddc58e9dfe5cd0b3d30d24505e91e512", func := "loop.example/g01224/laws.FnExactGatherDust", spec := "fnExactGatherDust", plainKeys := false, apart := false, narrowed := true }
def FnExactGatherDustUptoSaid : Prop := fnExactGatherDustUptoRow.holds Try.pinned (OpenSpec.upto fnExactGatherDustSpec)

end Rows
end Go.Proofs.Ytnnhoololemaaaa
