/-
  No cell of these rows narrows 'for every input' (looked for: loops, veiled, ifaces, maps, wideKeys, modest, calm, conditions, laid).
  DERIVED. THE GIVEN ROWS OF THIS SEAT. 26 by the template 'for every input the law returns true; each argument reads behind the call as it read before'; 0 by the template 'total and deterministic' (their statements: YtgocemjopmgnaaaTotals.lean).
  GIVEN WITH THE SEED: the statements are not yours to turn. If you find one false, say at which input.
  Laid BY PROGRAM, IN A SANDBOX (cutbox-rows.mjs): the forced cells as the released guide's own fill.sh prints them over the translation 5b5d23c20828f6be… (all of the seat's roots in one cut). By AI agents, Wed Nov 11 2026. No macro, syntax, notation, axiom, sorry.
-/
import Derived.Test.YtgocemjopmgnaaaChecked
import GoSem.Claim
import GoSem.ClaimJoined
import GoSem.ClaimMapViews
import Derived.JoinedTies
import Derived.KernelRfl
namespace Go.Proofs.Ytgocemjopmgnaaa
/- THE CELL 'sum', in the pinned program and in every row, IS THE sha256 OF THE DUMP (.gsa) THAT YtgocemjopmgnaaaProg.lean LOADS. Nothing in Lean hashes anything: it is a label: what it is worth is what the hold of that sum in a sandbox is worth. -/
noncomputable def Try.pinned : Pinned := { name := "ytgocemjopmgnaaa", sum := "5b5d23c20828f6beef8d57b9605c874584d71cb7872b6cb10fe9c8d011e3cc81", checked := Try.checked }
namespace Rows
def none {H : Type} : Left H := { results := [], args := [] }

/-- 'laws.FnSums': WHATEVER THE INPUT: true; the input reads as it did. -/
def fnSumsSpec : ChangeSpec := { name := "fnSums", fn := fun _ => fun
  | [d1, d2] => { results := [.lit (.bool true)], args := [d1, d2] }
  | _ => none }
def fnSumsRow : OpenClaim := { program := "ytgocemjopmgnaaa", sum := "5b5d23c20828f6beef8d57b9605c874584d71cb7872b6cb10fe9c8d011e3cc81", func := "loop.example/g01224/laws.FnSums", spec := "fnSums", inPlace := ["math.Float64bits", "math.Float64frombits"], apart := false }
def FnSumsSaid : Prop := fnSumsRow.holds Try.pinned (OpenSpec.ofChange fnSumsSpec)

/-- ITS FALSE NEIGHBOUR: 'it returns false'. Refute it at one input. -/
def fnSumsWrong : ChangeSpec := { name := "fnSums", fn := fun _ => fun
  | [d1, d2] => { results := [.lit (.bool false)], args := [d1, d2] }
  | _ => none }
def FnSumsWrongFalsely : Prop := fnSumsRow.holds Try.pinned (OpenSpec.ofChange fnSumsWrong)

/-- 'laws.FnShifted': WHATEVER THE INPUT: true; the input reads as it did. -/
def fnShiftedSpec : ChangeSpec := { name := "fnShifted", fn := fun _ => fun
  | [d1, d2] => { results := [.lit (.bool true)], args := [d1, d2] }
  | _ => none }
def fnShiftedRow : OpenClaim := { program := "ytgocemjopmgnaaa", sum := "5b5d23c20828f6beef8d57b9605c874584d71cb7872b6cb10fe9c8d011e3cc81", func := "loop.example/g01224/laws.FnShifted", spec := "fnShifted", inPlace := ["math.Float64bits", "math.Float64frombits", "math.Float32bits"], unfollowed := true, recurses := true, apart := false }
def FnShiftedSaid : Prop := fnShiftedRow.holds Try.pinned (OpenSpec.ofChange fnShiftedSpec)

/-- ITS FALSE NEIGHBOUR: 'it returns false'. Refute it at one input. -/
def fnShiftedWrong : ChangeSpec := { name := "fnShifted", fn := fun _ => fun
  | [d1, d2] => { results := [.lit (.bool false)], args := [d1, d2] }
  | _ => none }
def FnShiftedWrongFalsely : Prop := fnShiftedRow.holds Try.pinned (OpenSpec.ofChange fnShiftedWrong)

/-- 'laws.FnGrown': WHATEVER THE INPUT: true; the input reads as it did. -/
def fnGrownSpec : ChangeSpec := { name := "fnGrown", fn := fun _ => fun
  | [d1, d2] => { results := [.lit (.bool true)], args := [d1, d2] }
  | _ => none }
def fnGrownRow : OpenClaim := { program := "ytgocemjopmgnaaa", sum := "5b5d23c20828f6beef8d57b9605c874584d71cb7872b6cb10fe9c8d011e3cc81", func := "loop.example/g01224/laws.FnGrown", spec := "fnGrown", inPlace := ["math.archFloor", "math.Float64bits", "math.Float64frombits", "math.archTrunc", "math.Float32bits"], unfollowed := true, recurses := true, apart := false }
def FnGrownSaid : Prop := fnGrownRow.holds Try.pinned (OpenSpec.ofChange fnGrownSpec)

/-- ITS FALSE NEIGHBOUR: 'it returns false'. Refute it at one input. -/
def fnGrownWrong : ChangeSpec := { name := "fnGrown", fn := fun _ => fun
  | [d1, d2] => { results := [.lit (.bool false)], args := [d1, d2] }
  | _ => none }
def FnGrownWrongFalsely : Prop := fnGrownRow.holds Try.pinned (OpenSpec.ofChange fnGrownWrong)

/-- 'laws.FnNuclei': WHATEVER THE INPUT: true; the input reads as it did. -/
def fnNucleiSpec : ChangeSpec := { name := "fnNuclei", fn := fun _ => fun
  | [d1, d2] => { results := [.lit (.bool true)], args := [d1, d2] }
  | _ => none }
def fnNucleiRow : OpenClaim := { program := "ytgocemjopmgnaaa", sum := "5b5d23c20828f6beef8d57b9605c874584d71cb7872b6cb10fe9c8d011e3cc81", func := "loop.example/g01224/laws.FnNuclei", spec := "fnNuclei", inPlace := ["math.archFloor", "math.Float64bits", "math.Float64frombits", "math.archTrunc", "math.Float32bits"], apart := false }
def FnNucleiSaid : Prop := fnNucleiRow.holds Try.pinned (OpenSpec.ofChange fnNucleiSpec)

/-- ITS FALSE NEIGHBOUR: 'it returns false'. Refute it at one input. -/
def fnNucleiWrong : ChangeSpec := { name := "fnNuclei", fn := fun _ => fun
  | [d1, d2] => { results := [.lit (.bool false)], args := [d1, d2] }
  | _ => none }
def FnNucleiWrongFalsely : Prop := fnNucleiRow.holds Try.pinned (OpenSpec.ofChange fnNucleiWrong)

/-- 'laws.FnExactSameSizes': WHATEVER THE INPUT: true; the input reads as it did. -/
def fnExactSameSizesSpec : ChangeSpec := { name := "fnExactSameSizes", fn := fun _ => fun
  | [d1, d2] => { results := [.lit (.bool true)], args := [d1, d2] }
  | _ => none }
def fnExactSameSizesRow : OpenClaim := { program := "ytgocemjopmgnaaa", sum := "5b5d23c20828f6beef8d57b9605c874584d71cb7872b6cb10fe9c8d011e3cc81", func := "loop.example/g01224/laws.FnExactSameSizes", spec := "fnExactSameSizes", inPlace := ["math.Float32bits"], apart := false }
def FnExactSameSizesSaid : Prop := fnExactSameSizesRow.holds Try.pinned (OpenSpec.ofChange fnExactSameSizesSpec)

/-- ITS FALSE NEIGHBOUR: 'it returns false'. Refute it at one input. -/
def fnExactSameSizesWrong : ChangeSpec := { name := "fnExactSameSizes", fn := fun _ => fun
  | [d1, d2] => { results := [.lit (.bool false)], args := [d1, d2] }
  | _ => none }
def FnExactSameSizesWrongFalsely : Prop := fnExactSameSizesRow.holds Try.pinned (OpenSpec.ofChange fnExactSameSizesWrong)

/-- 'laws.FnExactThirdRoot': WHATEVER THE INPUT: true; the input reads as it did. -/
def fnExactThirdRootSpec : ChangeSpec := { name := "fnExactThirdRoot", fn := fun _ => fun
  | [d] => { results := [.lit (.bool true)], args := [d] }
  | _ => none }
def fnExactThirdRootRow : OpenClaim := { program := "ytgocemjopmgnaaa", sum := "5b5d23c20828f6beef8d57b9605c874584d71cb7872b6cb10fe9c8d011e3cc81", func := "loop.example/g01224/laws.FnExactThirdRoot", spec := "fnExactThirdRoot", inPlace := ["math.Float32bits", "math.Float64bits", "math.Float64frombits"], apart := false }
def FnExactThirdRootSaid : Prop := fnExactThirdRootRow.holds Try.pinned (OpenSpec.ofChange fnExactThirdRootSpec)

/-- ITS FALSE NEIGHBOUR: 'it returns false'. Refute it at one input. -/
def fnExactThirdRootWrong : ChangeSpec := { name := "fnExactThirdRoot", fn := fun _ => fun
  | [d] => { results := [.lit (.bool false)], args := [d] }
  | _ => none }
def FnExactThirdRootWrongFalsely : Prop := fnExactThirdRootRow.holds Try.pinned (OpenSpec.ofChange fnExactThirdRootWrong)

/-- 'laws.FnExactRadiusOf': WHATEVER THE INPUT: true; the input reads as it did. -/
def fnExactRadiusOfSpec : ChangeSpec := { name := "fnExactRadiusOf", fn := fun _ => fun
  | [d] => { results := [.lit (.bool true)], args := [d] }
  | _ => none }
def fnExactRadiusOfRow : OpenClaim := { program := "ytgocemjopmgnaaa", sum := "5b5d23c20828f6beef8d57b9605c874584d71cb7872b6cb10fe9c8d011e3cc81", func := "loop.example/g01224/laws.FnExactRadiusOf", spec := "fnExactRadiusOf", inPlace := ["math.Float64bits", "math.Float64frombits"], apart := false }
def FnExactRadiusOfSaid : Prop := fnExactRadiusOfRow.holds Try.pinned (OpenSpec.ofChange fnExactRadiusOfSpec)

/-- ITS FALSE NEIGHBOUR: 'it returns false'. Refute it at one input. -/
def fnExactRadiusOfWrong : ChangeSpec := { name := "fnExactRadiusOf", fn := fun _ => fun
  | [d] => { results := [.lit (.bool false)], args := [d] }
  | _ => none }
def FnExactRadiusOfWrongFalsely : Prop := fnExactRadiusOfRow.holds Try.pinned (OpenSpec.ofChange fnExactRadiusOfWrong)

/-- 'laws.FnExactMomentOf': WHATEVER THE INPUT: true; the input reads as it did. -/
def fnExactMomentOfSpec : ChangeSpec := { name := "fnExactMomentOf", fn := fun _ => fun
  | [d1, d2] => { results := [.lit (.bool true)], args := [d1, d2] }
  | _ => none }
def fnExactMomentOfRow : OpenClaim := { program := "ytgocemjopmgnaaa", sum := "5b5d23c20828f6beef8d57b9605c874584d71cb7872b6cb10fe9c8d011e3cc81", func := "loop.example/g01224/laws.FnExactMomentOf", spec := "fnExactMomentOf", inPlace := ["math.Float32bits", "math.Float64bits", "math.Float64frombits"], apart := false }
def FnExactMomentOfSaid : Prop := fnExactMomentOfRow.holds Try.pinned (OpenSpec.ofChange fnExactMomentOfSpec)

/-- ITS FALSE NEIGHBOUR: 'it returns false'. Refute it at one input. -/
def fnExactMomentOfWrong : ChangeSpec := { name := "fnExactMomentOf", fn := fun _ => fun
  | [d1, d2] => { results := [.lit (.bool false)], args := [d1, d2] }
  | _ => none }
def FnExactMomentOfWrongFalsely : Prop := fnExactMomentOfRow.holds Try.pinned (OpenSpec.ofChange fnExactMomentOfWrong)

/-- 'laws.FnExactPutDroplets': WHATEVER THE INPUT: true; the input reads as it did. -/
def fnExactPutDropletsSpec : ChangeSpec := { name := "fnExactPutDroplets", fn := fun _ => fun
  | [d1, d2, d3] => { results := [.lit (.bool true)], args := [d1, d2, d3] }
  | _ => none }
def fnExactPutDropletsRow : OpenClaim := { program := "ytgocemjopmgnaaa", sum := "5b5d23c20828f6beef8d57b9605c874584d71cb7872b6cb10fe9c8d011e3cc81", func := "loop.example/g01224/laws.FnExactPutDroplets", spec := "fnExactPutDroplets", inPlace := ["math.Float32bits", "math.Float64bits", "math.Float64frombits"], unfollowed := true, recurses := true, apart := false }
def FnExactPutDropletsSaid : Prop := fnExactPutDropletsRow.holds Try.pinned (OpenSpec.ofChange fnExactPutDropletsSpec)

/-- ITS FALSE NEIGHBOUR: 'it returns false'. Refute it at one input. -/
def fnExactPutDropletsWrong : ChangeSpec := { name := "fnExactPutDroplets", fn := fun _ => fun
  | [d1, d2, d3] => { results := [.lit (.bool false)], args := [d1, d2, d3] }
  | _ => none }
def FnExactPutDropletsWrongFalsely : Prop := fnExactPutDropletsRow.holds Try.pinned (OpenSpec.ofChange fnExactPutDropletsWrong)

/-- 'laws.FnExactAddSizes': WHATEVER THE INPUT: true; the input reads as it did. -/
def fnExactAddSizesSpec : ChangeSpec := { name := "fnExactAddSizes", fn := fun _ => fun
  | [d1, d2] => { results := [.lit (.bool true)], args := [d1, d2] }
  | _ => none }
def fnExactAddSizesRow : OpenClaim := { program := "ytgocemjopmgnaaa", sum := "5b5d23c20828f6beef8d57b9605c874584d71cb7872b6cb10fe9c8d011e3cc81", func := "loop.example/g01224/laws.FnExactAddSizes", spec := "fnExactAddSizes", inPlace := ["math.Float32bits", "math.Float64bits", "math.Float64frombits"], apart := false }
def FnExactAddSizesSaid : Prop := fnExactAddSizesRow.holds Try.pinned (OpenSpec.ofChange fnExactAddSizesSpec)

/-- ITS FALSE NEIGHBOUR: 'it returns false'. Refute it at one input. -/
def fnExactAddSizesWrong : ChangeSpec := { name := "fnExactAddSizes", fn := fun _ => fun
  | [d1, d2] => { results := [.lit (.bool false)], args := [d1, d2] }
  | _ => none }
def FnExactAddSizesWrongFalsely : Prop := fnExactAddSizesRow.holds Try.pinned (OpenSpec.ofChange fnExactAddSizesWrong)

/-- 'laws.FnExactMixSizes': WHATEVER THE INPUT: true; the input reads as it did. -/
def fnExactMixSizesSpec : ChangeSpec := { name := "fnExactMixSizes", fn := fun _ => fun
  | [d1, d2, d3] => { results := [.lit (.bool true)], args := [d1, d2, d3] }
  | _ => none }
def fnExactMixSizesRow : OpenClaim := { program := "ytgocemjopmgnaaa", sum := "5b5d23c20828f6beef8d57b9605c874584d71cb7872b6cb10fe9c8d011e3cc81", func := "loop.example/g01224/laws.FnExactMixSizes", spec := "fnExactMixSizes", inPlace := ["math.Float32bits", "math.Float64bits", "math.Float64frombits"], apart := false }
def FnExactMixSizesSaid : Prop := fnExactMixSizesRow.holds Try.pinned (OpenSpec.ofChange fnExactMixSizesSpec)

/-- ITS FALSE NEIGHBOUR: 'it returns false'. Refute it at one input. -/
def fnExactMixSizesWrong : ChangeSpec := { name := "fnExactMixSizes", fn := fun _ => fun
  | [d1, d2, d3] => { results := [.lit (.bool false)], args := [d1, d2, d3] }
  | _ => none }
def FnExactMixSizesWrongFalsely : Prop := fnExactMixSizesRow.holds Try.pinned (OpenSpec.ofChange fnExactMixSizesWrong)

/-- 'laws.FnExactShiftMasses': WHATEVER THE INPUT: true; the input reads as it did. -/
def fnExactShiftMassesSpec : ChangeSpec := { name := "fnExactShiftMasses", fn := fun _ => fun
  | [d1, d2] => { results := [.lit (.bool true)], args := [d1, d2] }
  | _ => none }
def fnExactShiftMassesRow : OpenClaim := { program := "ytgocemjopmgnaaa", sum := "5b5d23c20828f6beef8d57b9605c874584d71cb7872b6cb10fe9c8d011e3cc81", func := "loop.example/g01224/laws.FnExactShiftMasses", spec := "fnExactShiftMasses", inPlace := ["math.Float32bits", "math.Float64bits", "math.Float64frombits"], unfollowed := true, recurses := true, apart := false }
def FnExactShiftMassesSaid : Prop := fnExactShiftMassesRow.holds Try.pinned (OpenSpec.ofChange fnExactShiftMassesSpec)

/-- ITS FALSE NEIGHBOUR: 'it returns false'. Refute it at one input. -/
def fnExactShiftMassesWrong : ChangeSpec := { name := "fnExactShiftMasses", fn := fun _ => fun
  | [d1, d2] => { results := [.lit (.bool false)], args := [d1, d2] }
  | _ => none }
def FnExactShiftMassesWrongFalsely : Prop := fnExactShiftMassesRow.holds Try.pinned (OpenSpec.ofChange fnExactShiftMassesWrong)

/-- 'laws.FnExactTwoTo': WHATEVER THE INPUT: true; the input reads as it did. -/
def fnExactTwoToSpec : ChangeSpec := { name := "fnExactTwoTo", fn := fun _ => fun
  | [d] => { results := [.lit (.bool true)], args := [d] }
  | _ => none }
def fnExactTwoToRow : OpenClaim := { program := "ytgocemjopmgnaaa", sum := "5b5d23c20828f6beef8d57b9605c874584d71cb7872b6cb10fe9c8d011e3cc81", func := "loop.example/g01224/laws.FnExactTwoTo", spec := "fnExactTwoTo", inPlace := ["math.archFloor", "math.Float64bits", "math.Float64frombits", "math.archTrunc"], apart := false }
def FnExactTwoToSaid : Prop := fnExactTwoToRow.holds Try.pinned (OpenSpec.ofChange fnExactTwoToSpec)

/-- ITS FALSE NEIGHBOUR: 'it returns false'. Refute it at one input. -/
def fnExactTwoToWrong : ChangeSpec := { name := "fnExactTwoTo", fn := fun _ => fun
  | [d] => { results := [.lit (.bool false)], args := [d] }
  | _ => none }
def FnExactTwoToWrongFalsely : Prop := fnExactTwoToRow.holds Try.pinned (OpenSpec.ofChange fnExactTwoToWrong)

/-- 'laws.FnExactValidAir': WHATEVER THE INPUT: true; the input reads as it did. -/
def fnExactValidAirSpec : ChangeSpec := { name := "fnExactValidAir", fn := fun _ => fun
  | [d] => { results := [.lit (.bool true)], args := [d] }
  | _ => none }
def fnExactValidAirRow : OpenClaim := { program := "ytgocemjopmgnaaa", sum := "5b5d23c20828f6beef8d57b9605c874584d71cb7872b6cb10fe9c8d011e3cc81", func := "loop.example/g01224/laws.FnExactValidAir", spec := "fnExactValidAir", inPlace := ["math.Float32bits", "math.Float64bits", "math.Float64frombits"], apart := false }
def FnExactValidAirSaid : Prop := fnExactValidAirRow.holds Try.pinned (OpenSpec.ofChange fnExactValidAirSpec)

/-- ITS FALSE NEIGHBOUR: 'it returns false'. Refute it at one input. -/
def fnExactValidAirWrong : ChangeSpec := { name := "fnExactValidAir", fn := fun _ => fun
  | [d] => { results := [.lit (.bool false)], args := [d] }
  | _ => none }
def FnExactValidAirWrongFalsely : Prop := fnExactValidAirRow.holds Try.pinned (OpenSpec.ofChange fnExactValidAirWrong)

/-- 'laws.FnExactSameAir': WHATEVER THE INPUT: true; the input reads as it did. -/
def fnExactSameAirSpec : ChangeSpec := { name := "fnExactSameAir", fn := fun _ => fun
  | [d1, d2] => { results := [.lit (.bool true)], args := [d1, d2] }
  | _ => none }
def fnExactSameAirRow : OpenClaim := { program := "ytgocemjopmgnaaa", sum := "5b5d23c20828f6beef8d57b9605c874584d71cb7872b6cb10fe9c8d011e3cc81", func := "loop.example/g01224/laws.FnExactSameAir", spec := "fnExactSameAir", inPlace := ["math.Float32bits"], apart := false }
def FnExactSameAirSaid : Prop := fnExactSameAirRow.holds Try.pinned (OpenSpec.ofChange fnExactSameAirSpec)

/-- ITS FALSE NEIGHBOUR: 'it returns false'. Refute it at one input. -/
def fnExactSameAirWrong : ChangeSpec := { name := "fnExactSameAir", fn := fun _ => fun
  | [d1, d2] => { results := [.lit (.bool false)], args := [d1, d2] }
  | _ => none }
def FnExactSameAirWrongFalsely : Prop := fnExactSameAirRow.holds Try.pinned (OpenSpec.ofChange fnExactSameAirWrong)

/-- 'laws.FnExactSaturationAt': WHATEVER THE INPUT: true; the input reads as it did. -/
def fnExactSaturationAtSpec : ChangeSpec := { name := "fnExactSaturationAt", fn := fun _ => fun
  | [d] => { results := [.lit (.bool true)], args := [d] }
  | _ => none }
def fnExactSaturationAtRow : OpenClaim := { program := "ytgocemjopmgnaaa", sum := "5b5d23c20828f6beef8d57b9605c874584d71cb7872b6cb10fe9c8d011e3cc81", func := "loop.example/g01224/laws.FnExactSaturationAt", spec := "fnExactSaturationAt", inPlace := ["math.archFloor", "math.Float64bits", "math.Float64frombits", "math.archTrunc"], apart := false }
def FnExactSaturationAtSaid : Prop := fnExactSaturationAtRow.holds Try.pinned (OpenSpec.ofChange fnExactSaturationAtSpec)

/-- ITS FALSE NEIGHBOUR: 'it returns false'. Refute it at one input. -/
def fnExactSaturationAtWrong : ChangeSpec := { name := "fnExactSaturationAt", fn := fun _ => fun
  | [d] => { results := [.lit (.bool false)], args := [d] }
  | _ => none }
def FnExactSaturationAtWrongFalsely : Prop := fnExactSaturationAtRow.holds Try.pinned (OpenSpec.ofChange fnExactSaturationAtWrong)

/-- 'laws.FnExactExcessOf': WHATEVER THE INPUT: true; the input reads as it did. -/
def fnExactExcessOfSpec : ChangeSpec := { name := "fnExactExcessOf", fn := fun _ => fun
  | [d] => { results := [.lit (.bool true)], args := [d] }
  | _ => none }
def fnExactExcessOfRow : OpenClaim := { program := "ytgocemjopmgnaaa", sum := "5b5d23c20828f6beef8d57b9605c874584d71cb7872b6cb10fe9c8d011e3cc81", func := "loop.example/g01224/laws.FnExactExcessOf", spec := "fnExactExcessOf", inPlace := ["math.Float32bits", "math.archFloor", "math.Float64bits", "math.Float64frombits", "math.archTrunc"], apart := false }
def FnExactExcessOfSaid : Prop := fnExactExcessOfRow.holds Try.pinned (OpenSpec.ofChange fnExactExcessOfSpec)

/-- ITS FALSE NEIGHBOUR: 'it returns false'. Refute it at one input. -/
def fnExactExcessOfWrong : ChangeSpec := { name := "fnExactExcessOf", fn := fun _ => fun
  | [d] => { results := [.lit (.bool false)], args := [d] }
  | _ => none }
def FnExactExcessOfWrongFalsely : Prop := fnExactExcessOfRow.holds Try.pinned (OpenSpec.ofChange fnExactExcessOfWrong)

/-- 'laws.FnExactHumidityOf': WHATEVER THE INPUT: true; the input reads as it did. -/
def fnExactHumidityOfSpec : ChangeSpec := { name := "fnExactHumidityOf", fn := fun _ => fun
  | [d] => { results := [.lit (.bool true)], args := [d] }
  | _ => none }
def fnExactHumidityOfRow : OpenClaim := { program := "ytgocemjopmgnaaa", sum := "5b5d23c20828f6beef8d57b9605c874584d71cb7872b6cb10fe9c8d011e3cc81", func := "loop.example/g01224/laws.FnExactHumidityOf", spec := "fnExactHumidityOf", inPlace := ["math.Float32bits", "math.archFloor", "math.Float64bits", "math.Float64frombits", "math.archTrunc"], apart := false }
def FnExactHumidityOfSaid : Prop := fnExactHumidityOfRow.holds Try.pinned (OpenSpec.ofChange fnExactHumidityOfSpec)

/-- ITS FALSE NEIGHBOUR: 'it returns false'. Refute it at one input. -/
def fnExactHumidityOfWrong : ChangeSpec := { name := "fnExactHumidityOf", fn := fun _ => fun
  | [d] => { results := [.lit (.bool false)], args := [d] }
  | _ => none }
def FnExactHumidityOfWrongFalsely : Prop := fnExactHumidityOfRow.holds Try.pinned (OpenSpec.ofChange fnExactHumidityOfWrong)

/-- 'laws.FnExactGainsAt': WHATEVER THE INPUT: true; the input reads as it did. -/
def fnExactGainsAtSpec : ChangeSpec := { name := "fnExactGainsAt", fn := fun _ => fun
  | [d1, d2] => { results := [.lit (.bool true)], args := [d1, d2] }
  | _ => none }
def fnExactGainsAtRow : OpenClaim := { program := "ytgocemjopmgnaaa", sum := "5b5d23c20828f6beef8d57b9605c874584d71cb7872b6cb10fe9c8d011e3cc81", func := "loop.example/g01224/laws.FnExactGainsAt", spec := "fnExactGainsAt", inPlace := ["math.Float32bits", "math.Float64bits", "math.Float64frombits"], apart := false }
def FnExactGainsAtSaid : Prop := fnExactGainsAtRow.holds Try.pinned (OpenSpec.ofChange fnExactGainsAtSpec)

/-- ITS FALSE NEIGHBOUR: 'it returns false'. Refute it at one input. -/
def fnExactGainsAtWrong : ChangeSpec := { name := "fnExactGainsAt", fn := fun _ => fun
  | [d1, d2] => { results := [.lit (.bool false)], args := [d1, d2] }
  | _ => none }
def FnExactGainsAtWrongFalsely : Prop := fnExactGainsAtRow.holds Try.pinned (OpenSpec.ofChange fnExactGainsAtWrong)

/-- 'laws.FnExactGrowOnce': WHATEVER THE INPUT: true; the input reads as it did. -/
def fnExactGrowOnceSpec : ChangeSpec := { name := "fnExactGrowOnce", fn := fun _ => fun
  | [d1, d2, d3] => { results := [.lit (.bool true)], args := [d1, d2, d3] }
  | _ => none }
def fnExactGrowOnceRow : OpenClaim := { program := "ytgocemjopmgnaaa", sum := "5b5d23c20828f6beef8d57b9605c874584d71cb7872b6cb10fe9c8d011e3cc81", func := "loop.example/g01224/laws.FnExactGrowOnce", spec := "fnExactGrowOnce", inPlace := ["math.Float32bits", "math.archFloor", "math.Float64bits", "math.Float64frombits", "math.archTrunc"], unfollowed := true, recurses := true, apart := false }
def FnExactGrowOnceSaid : Prop := fnExactGrowOnceRow.holds Try.pinned (OpenSpec.ofChange fnExactGrowOnceSpec)

/-- ITS FALSE NEIGHBOUR: 'it returns false'. Refute it at one input. -/
def fnExactGrowOnceWrong : ChangeSpec := { name := "fnExactGrowOnce", fn := fun _ => fun
  | [d1, d2, d3] => { results := [.lit (.bool false)], args := [d1, d2, d3] }
  | _ => none }
def FnExactGrowOnceWrongFalsely : Prop := fnExactGrowOnceRow.holds Try.pinned (OpenSpec.ofChange fnExactGrowOnceWrong)

/-- 'laws.FnExactGrowSteps': WHATEVER THE INPUT: true; the input reads as it did. -/
def fnExactGrowStepsSpec : ChangeSpec := { name := "fnExactGrowSteps", fn := fun _ => fun
  | [d1, d2, d3, d4] => { results := [.lit (.bool true)], args := [d1, d2, d3, d4] }
  | _ => none }
def fnExactGrowStepsRow : OpenClaim := { program := "ytgocemjopmgnaaa", sum := "5b5d23c20828f6beef8d57b9605c874584d71cb7872b6cb10fe9c8d011e3cc81", func := "loop.example/g01224/laws.FnExactGrowSteps", spec := "fnExactGrowSteps", inPlace := ["math.Float32bits", "math.archFloor", "math.Float64bits", "math.Float64frombits", "math.archTrunc"], unfollowed := true, recurses := true, apart := false }
def FnExactGrowStepsSaid : Prop := fnExactGrowStepsRow.holds Try.pinned (OpenSpec.ofChange fnExactGrowStepsSpec)

/-- ITS FALSE NEIGHBOUR: 'it returns false'. Refute it at one input. -/
def fnExactGrowStepsWrong : ChangeSpec := { name := "fnExactGrowSteps", fn := fun _ => fun
  | [d1, d2, d3, d4] => { results := [.lit (.bool false)], args := [d1, d2, d3, d4] }
  | _ => none }
def FnExactGrowStepsWrongFalsely : Prop := fnExactGrowStepsRow.holds Try.pinned (OpenSpec.ofChange fnExactGrowStepsWrong)

/-- 'laws.FnExactActivate': WHATEVER THE INPUT: true; the input reads as it did. -/
def fnExactActivateSpec : ChangeSpec := { name := "fnExactActivate", fn := fun _ => fun
  | [d1, d2, d3] => { results := [.lit (.bool true)], args := [d1, d2, d3] }
  | _ => none }
def fnExactActivateRow : OpenClaim := { program := "ytgocemjopmgnaaa", sum := "5b5d23c20828f6beef8d57b9605c874584d71cb7872b6cb10fe9c8d011e3cc81", func := "loop.example/g01224/laws.FnExactActivate", spec := "fnExactActivate", inPlace := ["math.Float32bits", "math.archFloor", "math.Float64bits", "math.Float64frombits", "math.archTrunc"], apart := false }
def FnExactActivateSaid : Prop := fnExactActivateRow.holds Try.pinned (OpenSpec.ofChange fnExactActivateSpec)

/-- ITS FALSE NEIGHBOUR: 'it returns false'. Refute it at one input. -/
def fnExactActivateWrong : ChangeSpec := { name := "fnExactActivate", fn := fun _ => fun
  | [d1, d2, d3] => { results := [.lit (.bool false)], args := [d1, d2, d3] }
  | _ => none }
def FnExactActivateWrongFalsely : Prop := fnExactActivateRow.holds Try.pinned (OpenSpec.ofChange fnExactActivateWrong)

/-- 'laws.FnExactWaterIn': WHATEVER THE INPUT: true; the input reads as it did. -/
def fnExactWaterInSpec : ChangeSpec := { name := "fnExactWaterIn", fn := fun _ => fun
  | [d1, d2] => { results := [.lit (.bool true)], args := [d1, d2] }
  | _ => none }
def fnExactWaterInRow : OpenClaim := { program := "ytgocemjopmgnaaa", sum := "5b5d23c20828f6beef8d57b9605c874584d71cb7872b6cb10fe9c8d011e3cc81", func := "loop.example/g01224/laws.FnExactWaterIn", spec := "fnExactWaterIn", inPlace := ["math.Float32bits", "math.Float64bits", "math.Float64frombits"], apart := false }
def FnExactWaterInSaid : Prop := fnExactWaterInRow.holds Try.pinned (OpenSpec.ofChange fnExactWaterInSpec)

/-- ITS FALSE NEIGHBOUR: 'it returns false'. Refute it at one input. -/
def fnExactWaterInWrong : ChangeSpec := { name := "fnExactWaterIn", fn := fun _ => fun
  | [d1, d2] => { results := [.lit (.bool false)], args := [d1, d2] }
  | _ => none }
def FnExactWaterInWrongFalsely : Prop := fnExactWaterInRow.holds Try.pinned (OpenSpec.ofChange fnExactWaterInWrong)

/-- 'laws.FnExactMixAir': WHATEVER THE INPUT: true; the input reads as it did. -/
def fnExactMixAirSpec : ChangeSpec := { name := "fnExactMixAir", fn := fun _ => fun
  | [d1, d2, d3] => { results := [.lit (.bool true)], args := [d1, d2, d3] }
  | _ => none }
def fnExactMixAirRow : OpenClaim := { program := "ytgocemjopmgnaaa", sum := "5b5d23c20828f6beef8d57b9605c874584d71cb7872b6cb10fe9c8d011e3cc81", func := "loop.example/g01224/laws.FnExactMixAir", spec := "fnExactMixAir", inPlace := ["math.Float32bits", "math.Float64bits", "math.Float64frombits"], apart := false }
def FnExactMixAirSaid : Prop := fnExactMixAirRow.holds Try.pinned (OpenSpec.ofChange fnExactMixAirSpec)

/-- ITS FALSE NEIGHBOUR: 'it returns false'. Refute it at one input. -/
def fnExactMixAirWrong : ChangeSpec := { name := "fnExactMixAir", fn := fun _ => fun
  | [d1, d2, d3] => { results := [.lit (.bool false)], args := [d1, d2, d3] }
  | _ => none }
def FnExactMixAirWrongFalsely : Prop := fnExactMixAirRow.holds Try.pinned (OpenSpec.ofChange fnExactMixAirWrong)

/-- 'laws.FnExactStepsToDry': WHATEVER THE INPUT: true; the input reads as it did. -/
def fnExactStepsToDrySpec : ChangeSpec := { name := "fnExactStepsToDry", fn := fun _ => fun
  | [d1, d2, d3, d4] => { results := [.lit (.bool true)], args := [d1, d2, d3, d4] }
  | _ => none }
def fnExactStepsToDryRow : OpenClaim := { program := "ytgocemjopmgnaaa", sum := "5b5d23c20828f6beef8d57b9605c874584d71cb7872b6cb10fe9c8d011e3cc81", func := "loop.example/g01224/laws.FnExactStepsToDry", spec := "fnExactStepsToDry", inPlace := ["math.Float32bits", "math.archFloor", "math.Float64bits", "math.Float64frombits", "math.archTrunc"], unfollowed := true, recurses := true, apart := false }
def FnExactStepsToDrySaid : Prop := fnExactStepsToDryRow.holds Try.pinned (OpenSpec.ofChange fnExactStepsToDrySpec)

/-- ITS FALSE NEIGHBOUR: 'it returns false'. Refute it at one input. -/
def fnExactStepsToDryWrong : ChangeSpec := { name := "fnExactStepsToDry", fn := fun _ => fun
  | [d1, d2, d3, d4] => { results := [.lit (.bool false)], args := [d1, d2, d3, d4] }
  | _ => none }
def FnExactStepsToDryWrongFalsely : Prop := fnExactStepsToDryRow.holds Try.pinned (OpenSpec.ofChange fnExactStepsToDryWrong)

/-- 'laws.FnExactDewHeat': WHATEVER THE INPUT: true; the input reads as it did. -/
def fnExactDewHeatSpec : ChangeSpec := { name := "fnExactDewHeat", fn := fun _ => fun
  | [d] => { results := [.lit (.bool true)], args := [d] }
  | _ => none }
def fnExactDewHeatRow : OpenClaim := { program := "ytgocemjopmgnaaa", sum := "5b5d23c20828f6beef8d57b9605c874584d71cb7872b6cb10fe9c8d011e3cc81", func := "loop.example/g01224/laws.FnExactDewHeat", spec := "fnExactDewHeat", inPlace := ["math.Float32bits", "math.archFloor", "math.Float64bits", "math.Float64frombits", "math.archTrunc"], apart := false }
def FnExactDewHeatSaid : Prop := fnExactDewHeatRow.holds Try.pinned (OpenSpec.ofChange fnExactDewHeatSpec)

/-- ITS FALSE NEIGHBOUR: 'it returns false'. Refute it at one input. -/
def fnExactDewHeatWrong : ChangeSpec := { name := "fnExactDewHeat", fn := fun _ => fun
  | [d] => { results := [.lit (.bool false)], args := [d] }
  | _ => none }
def FnExactDewHeatWrongFalsely : Prop := fnExactDewHeatRow.holds Try.pinned (OpenSpec.ofChange fnExactDewHeatWrong)

/- THE SECOND FORM. 'bulk': how many values and letters a reading holds, each counted each time it is reached (what is shared counts as often as it is met; a slice's spare places count too). A statement '..UptoSaid' is the law's where the arguments, and the package variables that the reading takes, are together of bulk at most 1048576: NARROWER than '..Said'. Prove '..Said' where nothing that the law and all that it calls make is longer than what came in: it says more and counts as full. Else prove '..UptoSaid'. A law counts once. -/
mutual
def uptoBulk {H : Type} : DataW H → Nat
  | .lit (.string bytes) => bytes.length + 1
  | .lit _ => 1
  | .nil => 1
  | .ptr d => uptoBulk d + 1
  | .slice elems spare => uptoBulkAll elems + uptoBulkAll spare + 1
  | .agg parts => uptoBulkAll parts + 1
  | .iface _ d => uptoBulk d + 1
  | .map entries => uptoBulkEntries entries + 1
  | .held _ => 1
def uptoBulkAll {H : Type} : List (DataW H) → Nat
  | [] => 0
  | d :: r => uptoBulk d + uptoBulkAll r
def uptoBulkEntries {H : Type} : List (Lit × DataW H) → Nat
  | [] => 0
  | x :: r => uptoBulkEntry x + uptoBulkEntries r
def uptoBulkEntry {H : Type} : Lit × DataW H → Nat
  | (.string bytes, d) => bytes.length + uptoBulk d + 1
  | (_, d) => uptoBulk d + 1
 end
def uptoSmall : (H : Type) → List (DataW H) → Bool := fun _ ds => decide (uptoBulkAll ds ≤ 1048576)
def OpenSpec.upto (s : _root_.Go.ChangeSpec) : _root_.Go.OpenSpec := { _root_.Go.OpenSpec.ofChange s with cond := some uptoSmall }

/-- 'laws.FnSums', WHERE WHAT IT READS IS OF BULK AT MOST 1048576: true; the input reads as it did. -/
def fnSumsUptoRow : OpenClaim := { program := "ytgocemjopmgnaaa", sum := "5b5d23c20828f6beef8d57b9605c874584d71cb7872b6cb10fe9c8d011e3cc81", func := "loop.example/g01224/laws.FnSums", spec := "fnSums", inPlace := ["math.Float64bits", "math.Float64frombits"], apart := false, narrowed := true }
def FnSumsUptoSaid : Prop := fnSumsUptoRow.holds Try.pinned (OpenSpec.upto fnSumsSpec)

/-- 'laws.FnShifted', WHERE WHAT IT READS IS OF BULK AT MOST 1048576: true; the input reads as it did. -/
def fnShiftedUptoRow : OpenClaim := { program := "ytgocemjopmgnaaa", sum := "5b5d23c20828f6beef8d57b9605c874584d71cb7872b6cb10fe9c8d011e3cc81", func := "loop.example/g01224/laws.FnShifted", spec := "fnShifted", inPlace := ["math.Float64bits", "math.Float64frombits", "math.Float32bits"], unfollowed := true, recurses := true, apart := false, narrowed := true }
def FnShiftedUptoSaid : Prop := fnShiftedUptoRow.holds Try.pinned (OpenSpec.upto fnShiftedSpec)

/-- 'laws.FnGrown', WHERE WHAT IT READS IS OF BULK AT MOST 1048576: true; the input reads as it did. -/
def fnGrownUptoRow : OpenClaim := { program := "ytgocemjopmgnaaa", sum := "5b5d23c20828f6beef8d57b9605c874584d71cb7872b6cb10fe9c8d011e3cc81", func := "loop.example/g01224/laws.FnGrown", spec := "fnGrown", inPlace := ["math.archFloor", "math.Float64bits", "math.Float64frombits", "math.archTrunc", "math.Float32bits"], unfollowed := true, recurses := true, apart := false, narrowed := true }
def FnGrownUptoSaid : Prop := fnGrownUptoRow.holds Try.pinned (OpenSpec.upto fnGrownSpec)

/-- 'laws.FnNuclei', WHERE WHAT IT READS IS OF BULK AT MOST 1048576: true; the input reads as it did. -/
def fnNucleiUptoRow : OpenClaim := { program := "ytgocemjopmgnaaa", sum := "5b5d23c20828f6beef8d57b9605c874584d71cb7872b6cb10fe9c8d011e3cc81", func := "loop.example/g01224/laws.FnNuclei", spec := "fnNuclei", inPlace := ["math.archFloor", "math.Float64bits", "math.Float64frombits", "math.archTrunc", "math.Float32bits"], apart := false, narrowed := true }
def FnNucleiUptoSaid : Prop := fnNucleiUptoRow.holds Try.pinned (OpenSpec.upto fnNucleiSpec)

/-- 'laws.FnExactSameSizes', WHERE WHAT IT READS IS OF BULK AT MOST 1048576: true; the input reads as it did. -/
def fnExactSameSizesUptoRow : OpenClaim := { program := "ytgocemjopmgnaaa", sum := "5b5d23c20828f6beef8d57b9605c874584d71cb7872b6cb10fe9c8d011e3cc81", func := "loop.example/g01224/laws.FnExactSameSizes", spec := "fnExactSameSizes", inPlace := ["math.Float32bits"], apart := false, narrowed := true }
def FnExactSameSizesUptoSaid : Prop := fnExactSameSizesUptoRow.holds Try.pinned (OpenSpec.upto fnExactSameSizesSpec)

/-- 'laws.FnExactThirdRoot', WHERE WHAT IT READS IS OF BULK AT MOST 1048576: true; the input reads as it did. -/
def fnExactThirdRootUptoRow : OpenClaim := { program := "ytgocemjopmgnaaa", sum := "5b5d23c20828f6beef8d57b9605c874584d71cb7872b6cb10fe9c8d011e3cc81", func := "loop.example/g01224/laws.FnExactThirdRoot", spec := "fnExactThirdRoot", inPlace := ["math.Float32bits", "math.Float64bits", "math.Float64frombits"], apart := false, narrowed := true }
def FnExactThirdRootUptoSaid : Prop := fnExactThirdRootUptoRow.holds Try.pinned (OpenSpec.upto fnExactThirdRootSpec)

/-- 'laws.FnExactRadiusOf', WHERE WHAT IT READS IS OF BULK AT MOST 1048576: true; the input reads as it did. -/
def fnExactRadiusOfUptoRow : OpenClaim := { program := "ytgocemjopmgnaaa", sum := "5b5d23c20828f6beef8d57b9605c874584d71cb7872b6cb10fe9c8d011e3cc81", func := "loop.example/g01224/laws.FnExactRadiusOf", spec := "fnExactRadiusOf", inPlace := ["math.Float64bits", "math.Float64frombits"], apart := false, narrowed := true }
def FnExactRadiusOfUptoSaid : Prop := fnExactRadiusOfUptoRow.holds Try.pinned (OpenSpec.upto fnExactRadiusOfSpec)

/-- 'laws.FnExactMomentOf', WHERE WHAT IT READS IS OF BULK AT MOST 1048576: true; the input reads as it did. -/
def fnExactMomentOfUptoRow : OpenClaim := { program := "ytgocemjopmgnaaa", sum := "5b5d23c20828f6beef8d57b9605c874584d71cb7872b6cb10fe9c8d011e3cc81", func := "loop.example/g01224/laws.FnExactMomentOf", spec := "fnExactMomentOf", inPlace := ["math.Float32bits", "math.Float64bits", "math.Float64frombits"], apart := false, narrowed := true }
def FnExactMomentOfUptoSaid : Prop := fnExactMomentOfUptoRow.holds Try.pinned (OpenSpec.upto fnExactMomentOfSpec)

/-- 'laws.FnExactPutDroplets', WHERE WHAT IT READS IS OF BULK AT MOST 1048576: true; the input reads as it did. -/
def fnExactPutDropletsUptoRow : OpenClaim := { program := "ytgocemjopmgnaaa", sum := "5b5d23c20828f6beef8d57b9605c874584d71cb7872b6cb10fe9c8d011e3cc81", func := "loop.example/g01224/laws.FnExactPutDroplets", spec := "fnExactPutDroplets", inPlace := ["math.Float32bits", "math.Float64bits", "math.Float64frombits"], unfollowed := true, recurses := true, apart := false, narrowed := true }
def FnExactPutDropletsUptoSaid : Prop := fnExactPutDropletsUptoRow.holds Try.pinned (OpenSpec.upto fnExactPutDropletsSpec)

/-- 'laws.FnExactAddSizes', WHERE WHAT IT READS IS OF BULK AT MOST 1048576: true; the input reads as it did. -/
def fnExactAddSizesUptoRow : OpenClaim := { program := "ytgocemjopmgnaaa", sum := "5b5d23c20828f6beef8d57b9605c874584d71cb7872b6cb10fe9c8d011e3cc81", func := "loop.example/g01224/laws.FnExactAddSizes", spec := "fnExactAddSizes", inPlace := ["math.Float32bits", "math.Float64bits", "math.Float64frombits"], apart := false, narrowed := true }
def FnExactAddSizesUptoSaid : Prop := fnExactAddSizesUptoRow.holds Try.pinned (OpenSpec.upto fnExactAddSizesSpec)

/-- 'laws.FnExactMixSizes', WHERE WHAT IT READS IS OF BULK AT MOST 1048576: true; the input reads as it did. -/
def fnExactMixSizesUptoRow : OpenClaim := { program := "ytgocemjopmgnaaa", sum := "5b5d23c20828f6beef8d57b9605c874584d71cb7872b6cb10fe9c8d011e3cc81", func := "loop.example/g01224/laws.FnExactMixSizes", spec := "fnExactMixSizes", inPlace := ["math.Float32bits", "math.Float64bits", "math.Float64frombits"], apart := false, narrowed := true }
def FnExactMixSizesUptoSaid : Prop := fnExactMixSizesUptoRow.holds Try.pinned (OpenSpec.upto fnExactMixSizesSpec)

/-- 'laws.FnExactShiftMasses', WHERE WHAT IT READS IS OF BULK AT MOST 1048576: true; the input reads as it did. -/
def fnExactShiftMassesUptoRow : OpenClaim := { program := "ytgocemjopmgnaaa", sum := "5b5d23c20828f6beef8d57b9605c874584d71cb7872b6cb10fe9c8d011e3cc81", func := "loop.example/g01224/laws.FnExactShiftMasses", spec := "fnExactShiftMasses", inPlace := ["math.Float32bits", "math.Float64bits", "math.Float64frombits"], unfollowed := true, recurses := true, apart := false, narrowed := true }
def FnExactShiftMassesUptoSaid : Prop := fnExactShiftMassesUptoRow.holds Try.pinned (OpenSpec.upto fnExactShiftMassesSpec)

/-- 'laws.FnExactTwoTo', WHERE WHAT IT READS IS OF BULK AT MOST 1048576: true; the input reads as it did. -/
def fnExactTwoToUptoRow : OpenClaim := { program := "ytgocemjopmgnaaa", sum := "5b5d23c20828f6beef8d57b9605c874584d71cb7872b6cb10fe9c8d011e3cc81", func := "loop.example/g01224/laws.FnExactTwoTo", spec := "fnExactTwoTo", inPlace := ["math.archFloor", "math.Float64bits", "math.Float64frombits", "math.archTrunc"], apart := false, narrowed := true }
def FnExactTwoToUptoSaid : Prop := fnExactTwoToUptoRow.holds Try.pinned (OpenSpec.upto fnExactTwoToSpec)

/-- 'laws.FnExactValidAir', WHERE WHAT IT READS IS OF BULK AT MOST 1048576: true; the input reads as it did. -/
def fnExactValidAirUptoRow : OpenClaim := { program := "ytgocemjopmgnaaa", sum := "5b5d23c20828f6beef8d57b9605c874584d71cb7872b6cb10fe9c8d011e3cc81", func := "loop.example/g01224/laws.FnExactValidAir", spec := "fnExactValidAir", inPlace := ["math.Float32bits", "math.Float64bits", "math.Float64frombits"], apart := false, narrowed := true }
def FnExactValidAirUptoSaid : Prop := fnExactValidAirUptoRow.holds Try.pinned (OpenSpec.upto fnExactValidAirSpec)

/-- 'laws.FnExactSameAir', WHERE WHAT IT READS IS OF BULK AT MOST 1048576: true; the input reads as it did. -/
def fnExactSameAirUptoRow : OpenClaim := { program := "ytgocemjopmgnaaa", sum := "5b5d23c20828f6beef8d57b9605c874584d71cb7872b6cb10fe9c8d011e3cc81", func := "loop.example/g01224/laws.FnExactSameAir", spec := "fnExactSameAir", inPlace := ["math.Float32bits"], apart := false, narrowed := true }
def FnExactSameAirUptoSaid : Prop := fnExactSameAirUptoRow.holds Try.pinned (OpenSpec.upto fnExactSameAirSpec)

/-- 'laws.FnExactSaturationAt', WHERE WHAT IT READS IS OF BULK AT MOST 1048576: true; the input reads as it did. -/
def fnExactSaturationAtUptoRow : OpenClaim := { program := "ytgocemjopmgnaaa", sum := "5b5d23c20828f6beef8d57b9605c874584d71cb7872b6cb10fe9c8d011e3cc81", func := "loop.example/g01224/laws.FnExactSaturationAt", spec := "fnExactSaturationAt", inPlace := ["math.archFloor", "math.Float64bits", "math.Float64frombits", "math.archTrunc"], apart := false, narrowed := true }
def FnExactSaturationAtUptoSaid : Prop := fnExactSaturationAtUptoRow.holds Try.pinned (OpenSpec.upto fnExactSaturationAtSpec)

/-- 'laws.FnExactExcessOf', WHERE WHAT IT READS IS OF BULK AT MOST 1048576: true; the input reads as it did. -/
def fnExactExcessOfUptoRow : OpenClaim := { program := "ytgocemjopmgnaaa", sum := "5b5d23c20828f6beef8d57b9605c874584d71cb7872b6cb10fe9c8d011e3cc81", func := "loop.example/g01224/laws.FnExactExcessOf", spec := "fnExactExcessOf", inPlace := ["math.Float32bits", "math.archFloor", "math.Float64bits", "math.Float64frombits", "math.archTrunc"], apart := false, narrowed := true }
def FnExactExcessOfUptoSaid : Prop := fnExactExcessOfUptoRow.holds Try.pinned (OpenSpec.upto fnExactExcessOfSpec)

/-- 'laws.FnExactHumidityOf', WHERE WHAT IT READS IS OF BULK AT MOST 1048576: true; the input reads as it did. -/
def fnExactHumidityOfUptoRow : OpenClaim := { program := "ytgocemjopmgnaaa", sum := "5b5d23c20828f6beef8d57b9605c874584d71cb7872b6cb10fe9c8d011e3cc81", func := "loop.example/g01224/laws.FnExactHumidityOf", spec := "fnExactHumidityOf", inPlace := ["math.Float32bits", "math.archFloor", "math.Float64bits", "math.Float64frombits", "math.archTrunc"], apart := false, narrowed := true }
def FnExactHumidityOfUptoSaid : Prop := fnExactHumidityOfUptoRow.holds Try.pinned (OpenSpec.upto fnExactHumidityOfSpec)

/-- 'laws.FnExactGainsAt', WHERE WHAT IT READS IS OF BULK AT MOST 1048576: true; the input reads as it did. -/
def fnExactGainsAtUptoRow : OpenClaim := { program := "ytgocemjopmgnaaa", sum := "5b5d23c20828f6beef8d57b9605c874584d71cb7872b6cb10fe9c8d011e3cc81", func := "loop.example/g01224/laws.FnExactGainsAt", spec := "fnExactGainsAt", inPlace := ["math.Float32bits", "math.Float64bits", "math.Float64frombits"], apart := false, narrowed := true }
def FnExactGainsAtUptoSaid : Prop := fnExactGainsAtUptoRow.holds Try.pinned (OpenSpec.upto fnExactGainsAtSpec)

/-- 'laws.FnExactGrowOnce', WHERE WHAT IT READS IS OF BULK AT MOST 1048576: true; the input reads as it did. -/
def fnExactGrowOnceUptoRow : OpenClaim := { program := "ytgocemjopmgnaaa", sum := "5b5d23c20828f6beef8d57b9605c874584d71cb7872b6cb10fe9c8d011e3cc81", func := "loop.example/g01224/laws.FnExactGrowOnce", spec := "fnExactGrowOnce", inPlace := ["math.Float32bits", "math.archFloor", "math.Float64bits", "math.Float64frombits", "math.archTrunc"], unfollowed := true, recurses := true, apart := false, narrowed := true }
def FnExactGrowOnceUptoSaid : Prop := fnExactGrowOnceUptoRow.holds Try.pinned (OpenSpec.upto fnExactGrowOnceSpec)

/-- 'laws.FnExactGrowSteps', WHERE WHAT IT READS IS OF BULK AT MOST 1048576: true; the input reads as it did. -/
def fnExactGrowStepsUptoRow : OpenClaim := { program := "ytgocemjopmgnaaa", sum := "5b5d23c20828f6beef8d57b9605c874584d71cb7872b6cb10fe9c8d011e3cc81", func := "loop.example/g01224/laws.FnExactGrowSteps", spec := "fnExactGrowSteps", inPlace := ["math.Float32bits", "math.archFloor", "math.Float64bits", "math.Float64frombits", "math.archTrunc"], unfollowed := true, recurses := true, apart := false, narrowed := true }
def FnExactGrowStepsUptoSaid : Prop := fnExactGrowStepsUptoRow.holds Try.pinned (OpenSpec.upto fnExactGrowStepsSpec)

/-- 'laws.FnExactActivate', WHERE WHAT IT READS IS OF BULK AT MOST 1048576: true; the input reads as it did. -/
def fnExactActivateUptoRow : OpenClaim := { program := "ytgocemjopmgnaaa", sum := "5b5d23c20828f6beef8d57b9605c874584d71cb7872b6cb10fe9c8d011e3cc81", func := "loop.example/g01224/laws.FnExactActivate", spec := "fnExactActivate", inPlace := ["math.Float32bits", "math.archFloor", "math.Float64bits", "math.Float64frombits", "math.archTrunc"], apart := false, narrowed := true }
def FnExactActivateUptoSaid : Prop := fnExactActivateUptoRow.holds Try.pinned (OpenSpec.upto fnExactActivateSpec)

/-- 'laws.FnExactWaterIn', WHERE WHAT IT READS IS OF BULK AT MOST 1048576: true; the input reads as it did. -/
def fnExactWaterInUptoRow : OpenClaim := { program := "ytgocemjopmgnaaa", sum := "5b5d23c20828f6beef8d57b9605c874584d71cb7872b6cb10fe9c8d011e3cc81", func := "loop.example/g01224/laws.FnExactWaterIn", spec := "fnExactWaterIn", inPlace := ["math.Float32bits", "math.Float64bits", "math.Float64frombits"], apart := false, narrowed := true }
def FnExactWaterInUptoSaid : Prop := fnExactWaterInUptoRow.holds Try.pinned (OpenSpec.upto fnExactWaterInSpec)

/-- 'laws.FnExactMixAir', WHERE WHAT IT READS IS OF BULK AT MOST 1048576: true; the input reads as it did. -/
def fnExactMixAirUptoRow : OpenClaim := { program := "ytgocemjopmgnaaa", sum := "5b5d23c20828f6beef8d57b9605c874584d71cb7872b6cb10fe9c8d011e3cc81", func := "loop.example/g01224/laws.FnExactMixAir", spec := "fnExactMixAir", inPlace := ["math.Float32bits", "math.Float64bits", "math.Float64frombits"], apart := false, narrowed := true }
def FnExactMixAirUptoSaid : Prop := fnExactMixAirUptoRow.holds Try.pinned (OpenSpec.upto fnExactMixAirSpec)

/-- 'laws.FnExactStepsToDry', WHERE WHAT IT READS IS OF BULK AT MOST 1048576: true; the input reads as it did. -/
def fnExactStepsToDryUptoRow : OpenClaim := { program := "ytgocemjopmgnaaa", sum := "5b5d23c20828f6beef8d57b9605c874584d71cb7872b6cb10fe9c8d011e3cc81", func := "loop.example/g01224/laws.FnExactStepsToDry", spec := "fnExactStepsToDry", inPlace := ["math.Float32bits", "math.archFloor", "math.Float64bits", "math.Float64frombits", "math.archTrunc"], unfollowed := true, recurses := true, apart := false, narrowed := true }
def FnExactStepsToDryUptoSaid : Prop := fnExactStepsToDryUptoRow.holds Try.pinned (OpenSpec.upto fnExactStepsToDrySpec)

/-- 'laws.FnExactDewHeat', WHERE WHAT IT READS IS OF BULK AT MOST 1048576: true; the input reads as it did. -/
def fnExactDewHeatUptoRow : OpenClaim := { program := "ytgocemjopmgnaaa", sum := "5b5d23c20828f6beef8d57b9605c874584d71cb7872b6cb10fe9c8d011e3cc81", func := "loop.example/g01224/laws.FnExactDewHeat", spec := "fnExactDewHeat", inPlace := ["math.Float32bits", "math.archFloor", "math.Float64bits", "math.Float64frombits", "math.archTrunc"], apart := false, narrowed := true }
def FnExactDewHeatUptoSaid : Prop := fnExactDewHeatUptoRow.holds Try.pinned (OpenSpec.upto fnExactDewHeatSpec)

end Rows
end Go.Proofs.Ytgocemjopmgnaaa
