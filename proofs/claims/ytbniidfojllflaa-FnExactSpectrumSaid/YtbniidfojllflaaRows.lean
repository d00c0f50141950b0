/-
  No cell of these rows narrows 'for every input' (looked for: loops, veiled, ifaces, maps, wideKeys, modest, calm, conditions, laid).
  DERIVED. THE GIVEN ROWS OF THIS SEAT. 24 by the template 'for every input the law returns true; each argument reads behind the call as it read before'; 0 by the template 'total and deterministic' (their statements: YtbniidfojllflaaTotals.lean).
  GIVEN WITH THE SEED: the statements are not yours to turn. If you find one false, say at which input.
  Laid BY PROGRAM, IN A SANDBOX (cutbox-rows.mjs): the forced cells as the released guide's own fill.sh prints them over the translation adbd14319ace126b… (all of the seat's roots in one cut). By AI agents, Wed Nov 11 2026. No macro, syntax, notation, axiom, sorry.
-/
import Derived.Test.YtbniidfojllflaaChecked
import GoSem.Claim
import GoSem.ClaimJoined
import GoSem.ClaimMapViews
import Derived.JoinedTies
import Derived.KernelRfl
namespace Go.Proofs.Ytbniidfojllflaa
/- THE CELL 'sum', in the pinned program and in every row, IS THE sha256 OF THE DUMP (.gsa) THAT YtbniidfojllflaaProg.lean LOADS. Nothing in Lean hashes anything: it is a label: what it is worth is what the hold of that sum in a sandbox is worth. -/
noncomputable def Try.pinned : Pinned := { name := "ytbniidfojllflaa", sum := "adbd14319ace126b598a21f5f2ad6c8cc13b012da223dce963e044845f80a8e7", checked := Try.checked }
namespace Rows
def none {H : Type} : Left H := { results := [], args := [] }

/-- 'laws.FnSums': WHATEVER THE INPUT: true; the input reads as it did. -/
def fnSumsSpec : ChangeSpec := { name := "fnSums", fn := fun _ => fun
  | [d1, d2] => { results := [.lit (.bool true)], args := [d1, d2] }
  | _ => none }
def fnSumsRow : OpenClaim := { program := "ytbniidfojllflaa", sum := "adbd14319ace126b598a21f5f2ad6c8cc13b012da223dce963e044845f80a8e7", func := "loop.example/g01224/laws.FnSums", spec := "fnSums", inPlace := ["math.Float64bits", "math.Float64frombits"], apart := false }
def FnSumsSaid : Prop := fnSumsRow.holds Try.pinned (OpenSpec.ofChange fnSumsSpec)

/-- ITS FALSE NEIGHBOUR: 'it returns false'. Refute it at one input. -/
def fnSumsWrong : ChangeSpec := { name := "fnSums", fn := fun _ => fun
  | [d1, d2] => { results := [.lit (.bool false)], args := [d1, d2] }
  | _ => none }
def FnSumsWrongFalsely : Prop := fnSumsRow.holds Try.pinned (OpenSpec.ofChange fnSumsWrong)

/-- 'laws.FnShifted': WHATEVER THE INPUT: true; the input reads as it did. -/
def fnShiftedSpec : ChangeSpec := { name := "fnShifted", fn := fun _ => fun
  | [d1, d2] => { results := [.lit (.bool true)], args := [d1, d2] }
  | _ => none }
def fnShiftedRow : OpenClaim := { program := "ytbniidfojllflaa", sum := "adbd14319ace126b598a21f5f2ad6c8cc13b012da223dce963e044845f80a8e7", func := "loop.example/g01224/laws.FnShifted", spec := "fnShifted", inPlace := ["math.Float64bits", "math.Float64frombits", "math.Float32bits"], unfollowed := true, recurses := true, apart := false }
def FnShiftedSaid : Prop := fnShiftedRow.holds Try.pinned (OpenSpec.ofChange fnShiftedSpec)

/-- ITS FALSE NEIGHBOUR: 'it returns false'. Refute it at one input. -/
def fnShiftedWrong : ChangeSpec := { name := "fnShifted", fn := fun _ => fun
  | [d1, d2] => { results := [.lit (.bool false)], args := [d1, d2] }
  | _ => none }
def FnShiftedWrongFalsely : Prop := fnShiftedRow.holds Try.pinned (OpenSpec.ofChange fnShiftedWrong)

/-- 'laws.FnExactCodeName': WHATEVER THE INPUT: true; the input reads as it did. -/
def fnExactCodeNameSpec : ChangeSpec := { name := "fnExactCodeName", fn := fun _ => fun
  | [d] => { results := [.lit (.bool true)], args := [d] }
  | _ => none }
def fnExactCodeNameRow : OpenClaim := { program := "ytbniidfojllflaa", sum := "adbd14319ace126b598a21f5f2ad6c8cc13b012da223dce963e044845f80a8e7", func := "loop.example/g01224/laws.FnExactCodeName", spec := "fnExactCodeName", apart := false }
def FnExactCodeNameSaid : Prop := fnExactCodeNameRow.holds Try.pinned (OpenSpec.ofChange fnExactCodeNameSpec)

/-- ITS FALSE NEIGHBOUR: 'it returns false'. Refute it at one input. -/
def fnExactCodeNameWrong : ChangeSpec := { name := "fnExactCodeName", fn := fun _ => fun
  | [d] => { results := [.lit (.bool false)], args := [d] }
  | _ => none }
def FnExactCodeNameWrongFalsely : Prop := fnExactCodeNameRow.holds Try.pinned (OpenSpec.ofChange fnExactCodeNameWrong)

/-- 'laws.FnExactSameNumber': WHATEVER THE INPUT: true; the input reads as it did. -/
def fnExactSameNumberSpec : ChangeSpec := { name := "fnExactSameNumber", fn := fun _ => fun
  | [d1, d2] => { results := [.lit (.bool true)], args := [d1, d2] }
  | _ => none }
def fnExactSameNumberRow : OpenClaim := { program := "ytbniidfojllflaa", sum := "adbd14319ace126b598a21f5f2ad6c8cc13b012da223dce963e044845f80a8e7", func := "loop.example/g01224/laws.FnExactSameNumber", spec := "fnExactSameNumber", inPlace := ["math.Float32bits"], apart := false }
def FnExactSameNumberSaid : Prop := fnExactSameNumberRow.holds Try.pinned (OpenSpec.ofChange fnExactSameNumberSpec)

/-- ITS FALSE NEIGHBOUR: 'it returns false'. Refute it at one input. -/
def fnExactSameNumberWrong : ChangeSpec := { name := "fnExactSameNumber", fn := fun _ => fun
  | [d1, d2] => { results := [.lit (.bool false)], args := [d1, d2] }
  | _ => none }
def FnExactSameNumberWrongFalsely : Prop := fnExactSameNumberRow.holds Try.pinned (OpenSpec.ofChange fnExactSameNumberWrong)

/-- 'laws.FnExactValidSizes': WHATEVER THE INPUT: true; the input reads as it did. -/
def fnExactValidSizesSpec : ChangeSpec := { name := "fnExactValidSizes", fn := fun _ => fun
  | [d] => { results := [.lit (.bool true)], args := [d] }
  | _ => none }
def fnExactValidSizesRow : OpenClaim := { program := "ytbniidfojllflaa", sum := "adbd14319ace126b598a21f5f2ad6c8cc13b012da223dce963e044845f80a8e7", func := "loop.example/g01224/laws.FnExactValidSizes", spec := "fnExactValidSizes", inPlace := ["math.Float32bits", "math.Float64bits", "math.Float64frombits"], apart := false }
def FnExactValidSizesSaid : Prop := fnExactValidSizesRow.holds Try.pinned (OpenSpec.ofChange fnExactValidSizesSpec)

/-- ITS FALSE NEIGHBOUR: 'it returns false'. Refute it at one input. -/
def fnExactValidSizesWrong : ChangeSpec := { name := "fnExactValidSizes", fn := fun _ => fun
  | [d] => { results := [.lit (.bool false)], args := [d] }
  | _ => none }
def FnExactValidSizesWrongFalsely : Prop := fnExactValidSizesRow.holds Try.pinned (OpenSpec.ofChange fnExactValidSizesWrong)

/-- 'laws.FnExactSameSizes': WHATEVER THE INPUT: true; the input reads as it did. -/
def fnExactSameSizesSpec : ChangeSpec := { name := "fnExactSameSizes", fn := fun _ => fun
  | [d1, d2] => { results := [.lit (.bool true)], args := [d1, d2] }
  | _ => none }
def fnExactSameSizesRow : OpenClaim := { program := "ytbniidfojllflaa", sum := "adbd14319ace126b598a21f5f2ad6c8cc13b012da223dce963e044845f80a8e7", func := "loop.example/g01224/laws.FnExactSameSizes", spec := "fnExactSameSizes", inPlace := ["math.Float32bits"], apart := false }
def FnExactSameSizesSaid : Prop := fnExactSameSizesRow.holds Try.pinned (OpenSpec.ofChange fnExactSameSizesSpec)

/-- ITS FALSE NEIGHBOUR: 'it returns false'. Refute it at one input. -/
def fnExactSameSizesWrong : ChangeSpec := { name := "fnExactSameSizes", fn := fun _ => fun
  | [d1, d2] => { results := [.lit (.bool false)], args := [d1, d2] }
  | _ => none }
def FnExactSameSizesWrongFalsely : Prop := fnExactSameSizesRow.holds Try.pinned (OpenSpec.ofChange fnExactSameSizesWrong)

/-- 'laws.FnExactMassOf': WHATEVER THE INPUT: true; the input reads as it did. -/
def fnExactMassOfSpec : ChangeSpec := { name := "fnExactMassOf", fn := fun _ => fun
  | [d] => { results := [.lit (.bool true)], args := [d] }
  | _ => none }
def fnExactMassOfRow : OpenClaim := { program := "ytbniidfojllflaa", sum := "adbd14319ace126b598a21f5f2ad6c8cc13b012da223dce963e044845f80a8e7", func := "loop.example/g01224/laws.FnExactMassOf", spec := "fnExactMassOf", apart := false }
def FnExactMassOfSaid : Prop := fnExactMassOfRow.holds Try.pinned (OpenSpec.ofChange fnExactMassOfSpec)

/-- ITS FALSE NEIGHBOUR: 'it returns false'. Refute it at one input. -/
def fnExactMassOfWrong : ChangeSpec := { name := "fnExactMassOf", fn := fun _ => fun
  | [d] => { results := [.lit (.bool false)], args := [d] }
  | _ => none }
def FnExactMassOfWrongFalsely : Prop := fnExactMassOfRow.holds Try.pinned (OpenSpec.ofChange fnExactMassOfWrong)

/-- 'laws.FnExactEdgeOf': WHATEVER THE INPUT: true; the input reads as it did. -/
def fnExactEdgeOfSpec : ChangeSpec := { name := "fnExactEdgeOf", fn := fun _ => fun
  | [d] => { results := [.lit (.bool true)], args := [d] }
  | _ => none }
def fnExactEdgeOfRow : OpenClaim := { program := "ytbniidfojllflaa", sum := "adbd14319ace126b598a21f5f2ad6c8cc13b012da223dce963e044845f80a8e7", func := "loop.example/g01224/laws.FnExactEdgeOf", spec := "fnExactEdgeOf", apart := false }
def FnExactEdgeOfSaid : Prop := fnExactEdgeOfRow.holds Try.pinned (OpenSpec.ofChange fnExactEdgeOfSpec)

/-- ITS FALSE NEIGHBOUR: 'it returns false'. Refute it at one input. -/
def fnExactEdgeOfWrong : ChangeSpec := { name := "fnExactEdgeOf", fn := fun _ => fun
  | [d] => { results := [.lit (.bool false)], args := [d] }
  | _ => none }
def FnExactEdgeOfWrongFalsely : Prop := fnExactEdgeOfRow.holds Try.pinned (OpenSpec.ofChange fnExactEdgeOfWrong)

/-- 'laws.FnExactThirdRoot': WHATEVER THE INPUT: true; the input reads as it did. -/
def fnExactThirdRootSpec : ChangeSpec := { name := "fnExactThirdRoot", fn := fun _ => fun
  | [d] => { results := [.lit (.bool true)], args := [d] }
  | _ => none }
def fnExactThirdRootRow : OpenClaim := { program := "ytbniidfojllflaa", sum := "adbd14319ace126b598a21f5f2ad6c8cc13b012da223dce963e044845f80a8e7", func := "loop.example/g01224/laws.FnExactThirdRoot", spec := "fnExactThirdRoot", inPlace := ["math.Float32bits", "math.Float64bits", "math.Float64frombits"], apart := false }
def FnExactThirdRootSaid : Prop := fnExactThirdRootRow.holds Try.pinned (OpenSpec.ofChange fnExactThirdRootSpec)

/-- ITS FALSE NEIGHBOUR: 'it returns false'. Refute it at one input. -/
def fnExactThirdRootWrong : ChangeSpec := { name := "fnExactThirdRoot", fn := fun _ => fun
  | [d] => { results := [.lit (.bool false)], args := [d] }
  | _ => none }
def FnExactThirdRootWrongFalsely : Prop := fnExactThirdRootRow.holds Try.pinned (OpenSpec.ofChange fnExactThirdRootWrong)

/-- 'laws.FnExactRadiusOf': WHATEVER THE INPUT: true; the input reads as it did. -/
def fnExactRadiusOfSpec : ChangeSpec := { name := "fnExactRadiusOf", fn := fun _ => fun
  | [d] => { results := [.lit (.bool true)], args := [d] }
  | _ => none }
def fnExactRadiusOfRow : OpenClaim := { program := "ytbniidfojllflaa", sum := "adbd14319ace126b598a21f5f2ad6c8cc13b012da223dce963e044845f80a8e7", func := "loop.example/g01224/laws.FnExactRadiusOf", spec := "fnExactRadiusOf", inPlace := ["math.Float64bits", "math.Float64frombits"], apart := false }
def FnExactRadiusOfSaid : Prop := fnExactRadiusOfRow.holds Try.pinned (OpenSpec.ofChange fnExactRadiusOfSpec)

/-- ITS FALSE NEIGHBOUR: 'it returns false'. Refute it at one input. -/
def fnExactRadiusOfWrong : ChangeSpec := { name := "fnExactRadiusOf", fn := fun _ => fun
  | [d] => { results := [.lit (.bool false)], args := [d] }
  | _ => none }
def FnExactRadiusOfWrongFalsely : Prop := fnExactRadiusOfRow.holds Try.pinned (OpenSpec.ofChange fnExactRadiusOfWrong)

/-- 'laws.FnExactCountOf': WHATEVER THE INPUT: true; the input reads as it did. -/
def fnExactCountOfSpec : ChangeSpec := { name := "fnExactCountOf", fn := fun _ => fun
  | [d] => { results := [.lit (.bool true)], args := [d] }
  | _ => none }
def fnExactCountOfRow : OpenClaim := { program := "ytbniidfojllflaa", sum := "adbd14319ace126b598a21f5f2ad6c8cc13b012da223dce963e044845f80a8e7", func := "loop.example/g01224/laws.FnExactCountOf", spec := "fnExactCountOf", inPlace := ["math.Float32bits", "math.Float64bits", "math.Float64frombits"], apart := false }
def FnExactCountOfSaid : Prop := fnExactCountOfRow.holds Try.pinned (OpenSpec.ofChange fnExactCountOfSpec)

/-- ITS FALSE NEIGHBOUR: 'it returns false'. Refute it at one input. -/
def fnExactCountOfWrong : ChangeSpec := { name := "fnExactCountOf", fn := fun _ => fun
  | [d] => { results := [.lit (.bool false)], args := [d] }
  | _ => none }
def FnExactCountOfWrongFalsely : Prop := fnExactCountOfRow.holds Try.pinned (OpenSpec.ofChange fnExactCountOfWrong)

/-- 'laws.FnExactWaterOf': WHATEVER THE INPUT: true; the input reads as it did. -/
def fnExactWaterOfSpec : ChangeSpec := { name := "fnExactWaterOf", fn := fun _ => fun
  | [d] => { results := [.lit (.bool true)], args := [d] }
  | _ => none }
def fnExactWaterOfRow : OpenClaim := { program := "ytbniidfojllflaa", sum := "adbd14319ace126b598a21f5f2ad6c8cc13b012da223dce963e044845f80a8e7", func := "loop.example/g01224/laws.FnExactWaterOf", spec := "fnExactWaterOf", inPlace := ["math.Float32bits", "math.Float64bits", "math.Float64frombits"], apart := false }
def FnExactWaterOfSaid : Prop := fnExactWaterOfRow.holds Try.pinned (OpenSpec.ofChange fnExactWaterOfSpec)

/-- ITS FALSE NEIGHBOUR: 'it returns false'. Refute it at one input. -/
def fnExactWaterOfWrong : ChangeSpec := { name := "fnExactWaterOf", fn := fun _ => fun
  | [d] => { results := [.lit (.bool false)], args := [d] }
  | _ => none }
def FnExactWaterOfWrongFalsely : Prop := fnExactWaterOfRow.holds Try.pinned (OpenSpec.ofChange fnExactWaterOfWrong)

/-- 'laws.FnExactMomentOf': WHATEVER THE INPUT: true; the input reads as it did. -/
def fnExactMomentOfSpec : ChangeSpec := { name := "fnExactMomentOf", fn := fun _ => fun
  | [d1, d2] => { results := [.lit (.bool true)], args := [d1, d2] }
  | _ => none }
def fnExactMomentOfRow : OpenClaim := { program := "ytbniidfojllflaa", sum := "adbd14319ace126b598a21f5f2ad6c8cc13b012da223dce963e044845f80a8e7", func := "loop.example/g01224/laws.FnExactMomentOf", spec := "fnExactMomentOf", inPlace := ["math.Float32bits", "math.Float64bits", "math.Float64frombits"], apart := false }
def FnExactMomentOfSaid : Prop := fnExactMomentOfRow.holds Try.pinned (OpenSpec.ofChange fnExactMomentOfSpec)

/-- ITS FALSE NEIGHBOUR: 'it returns false'. Refute it at one input. -/
def fnExactMomentOfWrong : ChangeSpec := { name := "fnExactMomentOf", fn := fun _ => fun
  | [d1, d2] => { results := [.lit (.bool false)], args := [d1, d2] }
  | _ => none }
def FnExactMomentOfWrongFalsely : Prop := fnExactMomentOfRow.holds Try.pinned (OpenSpec.ofChange fnExactMomentOfWrong)

/-- 'laws.FnExactMeanMass': WHATEVER THE INPUT: true; the input reads as it did. -/
def fnExactMeanMassSpec : ChangeSpec := { name := "fnExactMeanMass", fn := fun _ => fun
  | [d] => { results := [.lit (.bool true)], args := [d] }
  | _ => none }
def fnExactMeanMassRow : OpenClaim := { program := "ytbniidfojllflaa", sum := "adbd14319ace126b598a21f5f2ad6c8cc13b012da223dce963e044845f80a8e7", func := "loop.example/g01224/laws.FnExactMeanMass", spec := "fnExactMeanMass", inPlace := ["math.Float32bits", "math.Float64bits", "math.Float64frombits"], apart := false }
def FnExactMeanMassSaid : Prop := fnExactMeanMassRow.holds Try.pinned (OpenSpec.ofChange fnExactMeanMassSpec)

/-- ITS FALSE NEIGHBOUR: 'it returns false'. Refute it at one input. -/
def fnExactMeanMassWrong : ChangeSpec := { name := "fnExactMeanMass", fn := fun _ => fun
  | [d] => { results := [.lit (.bool false)], args := [d] }
  | _ => none }
def FnExactMeanMassWrongFalsely : Prop := fnExactMeanMassRow.holds Try.pinned (OpenSpec.ofChange fnExactMeanMassWrong)

/-- 'laws.FnExactClassFor': WHATEVER THE INPUT: true; the input reads as it did. -/
def fnExactClassForSpec : ChangeSpec := { name := "fnExactClassFor", fn := fun _ => fun
  | [d] => { results := [.lit (.bool true)], args := [d] }
  | _ => none }
def fnExactClassForRow : OpenClaim := { program := "ytbniidfojllflaa", sum := "adbd14319ace126b598a21f5f2ad6c8cc13b012da223dce963e044845f80a8e7", func := "loop.example/g01224/laws.FnExactClassFor", spec := "fnExactClassFor", inPlace := ["math.Float64bits", "math.Float64frombits"], apart := false }
def FnExactClassForSaid : Prop := fnExactClassForRow.holds Try.pinned (OpenSpec.ofChange fnExactClassForSpec)

/-- ITS FALSE NEIGHBOUR: 'it returns false'. Refute it at one input. -/
def fnExactClassForWrong : ChangeSpec := { name := "fnExactClassFor", fn := fun _ => fun
  | [d] => { results := [.lit (.bool false)], args := [d] }
  | _ => none }
def FnExactClassForWrongFalsely : Prop := fnExactClassForRow.holds Try.pinned (OpenSpec.ofChange fnExactClassForWrong)

/-- 'laws.FnExactPutDroplets': WHATEVER THE INPUT: true; the input reads as it did. -/
def fnExactPutDropletsSpec : ChangeSpec := { name := "fnExactPutDroplets", fn := fun _ => fun
  | [d1, d2, d3] => { results := [.lit (.bool true)], args := [d1, d2, d3] }
  | _ => none }
def fnExactPutDropletsRow : OpenClaim := { program := "ytbniidfojllflaa", sum := "adbd14319ace126b598a21f5f2ad6c8cc13b012da223dce963e044845f80a8e7", func := "loop.example/g01224/laws.FnExactPutDroplets", spec := "fnExactPutDroplets", inPlace := ["math.Float32bits", "math.Float64bits", "math.Float64frombits"], unfollowed := true, recurses := true, apart := false }
def FnExactPutDropletsSaid : Prop := fnExactPutDropletsRow.holds Try.pinned (OpenSpec.ofChange fnExactPutDropletsSpec)

/-- ITS FALSE NEIGHBOUR: 'it returns false'. Refute it at one input. -/
def fnExactPutDropletsWrong : ChangeSpec := { name := "fnExactPutDroplets", fn := fun _ => fun
  | [d1, d2, d3] => { results := [.lit (.bool false)], args := [d1, d2, d3] }
  | _ => none }
def FnExactPutDropletsWrongFalsely : Prop := fnExactPutDropletsRow.holds Try.pinned (OpenSpec.ofChange fnExactPutDropletsWrong)

/-- 'laws.FnExactTakeShare': WHATEVER THE INPUT: true; the input reads as it did. -/
def fnExactTakeShareSpec : ChangeSpec := { name := "fnExactTakeShare", fn := fun _ => fun
  | [d1, d2, d3] => { results := [.lit (.bool true)], args := [d1, d2, d3] }
  | _ => none }
def fnExactTakeShareRow : OpenClaim := { program := "ytbniidfojllflaa", sum := "adbd14319ace126b598a21f5f2ad6c8cc13b012da223dce963e044845f80a8e7", func := "loop.example/g01224/laws.FnExactTakeShare", spec := "fnExactTakeShare", inPlace := ["math.Float32bits", "math.Float64bits", "math.Float64frombits"], apart := false }
def FnExactTakeShareSaid : Prop := fnExactTakeShareRow.holds Try.pinned (OpenSpec.ofChange fnExactTakeShareSpec)

/-- ITS FALSE NEIGHBOUR: 'it returns false'. Refute it at one input. -/
def fnExactTakeShareWrong : ChangeSpec := { name := "fnExactTakeShare", fn := fun _ => fun
  | [d1, d2, d3] => { results := [.lit (.bool false)], args := [d1, d2, d3] }
  | _ => none }
def FnExactTakeShareWrongFalsely : Prop := fnExactTakeShareRow.holds Try.pinned (OpenSpec.ofChange fnExactTakeShareWrong)

/-- 'laws.FnExactAddSizes': WHATEVER THE INPUT: true; the input reads as it did. -/
def fnExactAddSizesSpec : ChangeSpec := { name := "fnExactAddSizes", fn := fun _ => fun
  | [d1, d2] => { results := [.lit (.bool true)], args := [d1, d2] }
  | _ => none }
def fnExactAddSizesRow : OpenClaim := { program := "ytbniidfojllflaa", sum := "adbd14319ace126b598a21f5f2ad6c8cc13b012da223dce963e044845f80a8e7", func := "loop.example/g01224/laws.FnExactAddSizes", spec := "fnExactAddSizes", inPlace := ["math.Float32bits", "math.Float64bits", "math.Float64frombits"], apart := false }
def FnExactAddSizesSaid : Prop := fnExactAddSizesRow.holds Try.pinned (OpenSpec.ofChange fnExactAddSizesSpec)

/-- ITS FALSE NEIGHBOUR: 'it returns false'. Refute it at one input. -/
def fnExactAddSizesWrong : ChangeSpec := { name := "fnExactAddSizes", fn := fun _ => fun
  | [d1, d2] => { results := [.lit (.bool false)], args := [d1, d2] }
  | _ => none }
def FnExactAddSizesWrongFalsely : Prop := fnExactAddSizesRow.holds Try.pinned (OpenSpec.ofChange fnExactAddSizesWrong)

/-- 'laws.FnExactScaleSizes': WHATEVER THE INPUT: true; the input reads as it did. -/
def fnExactScaleSizesSpec : ChangeSpec := { name := "fnExactScaleSizes", fn := fun _ => fun
  | [d1, d2] => { results := [.lit (.bool true)], args := [d1, d2] }
  | _ => none }
def fnExactScaleSizesRow : OpenClaim := { program := "ytbniidfojllflaa", sum := "adbd14319ace126b598a21f5f2ad6c8cc13b012da223dce963e044845f80a8e7", func := "loop.example/g01224/laws.FnExactScaleSizes", spec := "fnExactScaleSizes", inPlace := ["math.Float32bits", "math.Float64bits", "math.Float64frombits"], apart := false }
def FnExactScaleSizesSaid : Prop := fnExactScaleSizesRow.holds Try.pinned (OpenSpec.ofChange fnExactScaleSizesSpec)

/-- ITS FALSE NEIGHBOUR: 'it returns false'. Refute it at one input. -/
def fnExactScaleSizesWrong : ChangeSpec := { name := "fnExactScaleSizes", fn := fun _ => fun
  | [d1, d2] => { results := [.lit (.bool false)], args := [d1, d2] }
  | _ => none }
def FnExactScaleSizesWrongFalsely : Prop := fnExactScaleSizesRow.holds Try.pinned (OpenSpec.ofChange fnExactScaleSizesWrong)

/-- 'laws.FnExactMixSizes': WHATEVER THE INPUT: true; the input reads as it did. -/
def fnExactMixSizesSpec : ChangeSpec := { name := "fnExactMixSizes", fn := fun _ => fun
  | [d1, d2, d3] => { results := [.lit (.bool true)], args := [d1, d2, d3] }
  | _ => none }
def fnExactMixSizesRow : OpenClaim := { program := "ytbniidfojllflaa", sum := "adbd14319ace126b598a21f5f2ad6c8cc13b012da223dce963e044845f80a8e7", func := "loop.example/g01224/laws.FnExactMixSizes", spec := "fnExactMixSizes", inPlace := ["math.Float32bits", "math.Float64bits", "math.Float64frombits"], apart := false }
def FnExactMixSizesSaid : Prop := fnExactMixSizesRow.holds Try.pinned (OpenSpec.ofChange fnExactMixSizesSpec)

/-- ITS FALSE NEIGHBOUR: 'it returns false'. Refute it at one input. -/
def fnExactMixSizesWrong : ChangeSpec := { name := "fnExactMixSizes", fn := fun _ => fun
  | [d1, d2, d3] => { results := [.lit (.bool false)], args := [d1, d2, d3] }
  | _ => none }
def FnExactMixSizesWrongFalsely : Prop := fnExactMixSizesRow.holds Try.pinned (OpenSpec.ofChange fnExactMixSizesWrong)

/-- 'laws.FnExactShiftMasses': WHATEVER THE INPUT: true; the input reads as it did. -/
def fnExactShiftMassesSpec : ChangeSpec := { name := "fnExactShiftMasses", fn := fun _ => fun
  | [d1, d2] => { results := [.lit (.bool true)], args := [d1, d2] }
  | _ => none }
def fnExactShiftMassesRow : OpenClaim := { program := "ytbniidfojllflaa", sum := "adbd14319ace126b598a21f5f2ad6c8cc13b012da223dce963e044845f80a8e7", func := "loop.example/g01224/laws.FnExactShiftMasses", spec := "fnExactShiftMasses", inPlace := ["math.Float32bits", "math.Float64bits", "math.Float64frombits"], unfollowed := true, recurses := true, apart := false }
def FnExactShiftMassesSaid : Prop := fnExactShiftMassesRow.holds Try.pinned (OpenSpec.ofChange fnExactShiftMassesSpec)

/-- ITS FALSE NEIGHBOUR: 'it returns false'. Refute it at one input. -/
def fnExactShiftMassesWrong : ChangeSpec := { name := "fnExactShiftMasses", fn := fun _ => fun
  | [d1, d2] => { results := [.lit (.bool false)], args := [d1, d2] }
  | _ => none }
def FnExactShiftMassesWrongFalsely : Prop := fnExactShiftMassesRow.holds Try.pinned (OpenSpec.ofChange fnExactShiftMassesWrong)

/-- 'laws.FnExactSpectrum': WHATEVER THE INPUT: true; the input reads as it did. -/
def fnExactSpectrumSpec : ChangeSpec := { name := "fnExactSpectrum", fn := fun _ => fun
  | [d1, d2] => { results := [.lit (.bool true)], args := [d1, d2] }
  | _ => none }
def fnExactSpectrumRow : OpenClaim := { program := "ytbniidfojllflaa", sum := "adbd14319ace126b598a21f5f2ad6c8cc13b012da223dce963e044845f80a8e7", func := "loop.example/g01224/laws.FnExactSpectrum", spec := "fnExactSpectrum", inPlace := ["math.Float32bits", "math.Float64bits", "math.Float64frombits"], apart := false }
def FnExactSpectrumSaid : Prop := fnExactSpectrumRow.holds Try.pinned (OpenSpec.ofChange fnExactSpectrumSpec)

/-- ITS FALSE NEIGHBOUR: 'it returns false'. Refute it at one input. -/
def fnExactSpectrumWrong : ChangeSpec := { name := "fnExactSpectrum", fn := fun _ => fun
  | [d1, d2] => { results := [.lit (.bool false)], args := [d1, d2] }
  | _ => none }
def FnExactSpectrumWrongFalsely : Prop := fnExactSpectrumRow.holds Try.pinned (OpenSpec.ofChange fnExactSpectrumWrong)

/-- 'laws.FnExactAtLeast': WHATEVER THE INPUT: true; the input reads as it did. -/
def fnExactAtLeastSpec : ChangeSpec := { name := "fnExactAtLeast", fn := fun _ => fun
  | [d1, d2] => { results := [.lit (.bool true)], args := [d1, d2] }
  | _ => none }
def fnExactAtLeastRow : OpenClaim := { program := "ytbniidfojllflaa", sum := "adbd14319ace126b598a21f5f2ad6c8cc13b012da223dce963e044845f80a8e7", func := "loop.example/g01224/laws.FnExactAtLeast", spec := "fnExactAtLeast", inPlace := ["math.Float32bits", "math.Float64bits", "math.Float64frombits"], apart := false }
def FnExactAtLeastSaid : Prop := fnExactAtLeastRow.holds Try.pinned (OpenSpec.ofChange fnExactAtLeastSpec)

/-- ITS FALSE NEIGHBOUR: 'it returns false'. Refute it at one input. -/
def fnExactAtLeastWrong : ChangeSpec := { name := "fnExactAtLeast", fn := fun _ => fun
  | [d1, d2] => { results := [.lit (.bool false)], args := [d1, d2] }
  | _ => none }
def FnExactAtLeastWrongFalsely : Prop := fnExactAtLeastRow.holds Try.pinned (OpenSpec.ofChange fnExactAtLeastWrong)

/-- 'laws.FnExactMiddleClass': WHATEVER THE INPUT: true; the input reads as it did. -/
def fnExactMiddleClassSpec : ChangeSpec := { name := "fnExactMiddleClass", fn := fun _ => fun
  | [d] => { results := [.lit (.bool true)], args := [d] }
  | _ => none }
def fnExactMiddleClassRow : OpenClaim := { program := "ytbniidfojllflaa", sum := "adbd14319ace126b598a21f5f2ad6c8cc13b012da223dce963e044845f80a8e7", func := "loop.example/g01224/laws.FnExactMiddleClass", spec := "fnExactMiddleClass", inPlace := ["math.Float32bits", "math.Float64bits", "math.Float64frombits"], apart := false }
def FnExactMiddleClassSaid : Prop := fnExactMiddleClassRow.holds Try.pinned (OpenSpec.ofChange fnExactMiddleClassSpec)

/-- ITS FALSE NEIGHBOUR: 'it returns false'. Refute it at one input. -/
def fnExactMiddleClassWrong : ChangeSpec := { name := "fnExactMiddleClass", fn := fun _ => fun
  | [d] => { results := [.lit (.bool false)], args := [d] }
  | _ => none }
def FnExactMiddleClassWrongFalsely : Prop := fnExactMiddleClassRow.holds Try.pinned (OpenSpec.ofChange fnExactMiddleClassWrong)

/- THE SECOND FORM. 'bulk': how many values and letters a reading holds, each counted each time it is reached (what is shared counts as often as it is met; a slice's spare places count too). A statement '..UptoSaid' is the law's where the arguments, and the package variables that the reading takes, are together of bulk at most 1048576: NARROWER than '..Said'. Prove '..Said' where nothing that the law and all that it calls make is longer than what came in: it says more and counts as full. Else prove '..UptoSaid'. A law counts once. -/
mutual
def uptoBulk {H : Type} : DataW H → Nat
  | .lit (.string bytes) => bytes.length + 1
  | .lit _ => 1
  | .nil => 1
  | .ptr d => uptoBulk d + 1
  | .slice elems spare => uptoBulkAll elems + uptoBulkAll spare + 1
  | .agg parts => uptoBulkAll parts + 1
  | .iface _ d => uptoBulk d + 1
  | .map entries => uptoBulkEntries entries + 1
  | .held _ => 1
def uptoBulkAll {H : Type} : List (DataW H) → Nat
  | [] => 0
  | d :: r => uptoBulk d + uptoBulkAll r
def uptoBulkEntries {H : Type} : List (Lit × DataW H) → Nat
  | [] => 0
  | x :: r => uptoBulkEntry x + uptoBulkEntries r
def uptoBulkEntry {H : Type} : Lit × DataW H → Nat
  | (.string bytes, d) => bytes.length + uptoBulk d + 1
  | (_, d) => uptoBulk d + 1
 end
def uptoSmall : (H : Type) → List (DataW H) → Bool := fun _ ds => decide (uptoBulkAll ds ≤ 1048576)
def OpenSpec.upto (s : _root_.Go.ChangeSpec) : _root_.Go.OpenSpec := { _root_.Go.OpenSpec.ofChange s with cond := some uptoSmall }

/-- 'laws.FnSums', WHERE WHAT IT READS IS OF BULK AT MOST 1048576: true; the input reads as it did. -/
def fnSumsUptoRow : OpenClaim := { program := "ytbniidfojllflaa", sum := "adbd14319ace126b598a21f5f2ad6c8cc13b012da223dce963e044845f80a8e7", func := "loop.example/g01224/laws.FnSums", spec := "fnSums", inPlace := ["math.Float64bits", "math.Float64frombits"], apart := false, narrowed := true }
def FnSumsUptoSaid : Prop := fnSumsUptoRow.holds Try.pinned (OpenSpec.upto fnSumsSpec)

/-- 'laws.FnShifted', WHERE WHAT IT READS IS OF BULK AT MOST 1048576: true; the input reads as it did. -/
def fnShiftedUptoRow : OpenClaim := { program := "ytbniidfojllflaa", sum := "adbd14319ace126b598a21f5f2ad6c8cc13b012da223dce963e044845f80a8e7", func := "loop.example/g01224/laws.FnShifted", spec := "fnShifted", inPlace := ["math.Float64bits", "math.Float64frombits", "math.Float32bits"], unfollowed := true, recurses := true, apart := false, narrowed := true }
def FnShiftedUptoSaid : Prop := fnShiftedUptoRow.holds Try.pinned (OpenSpec.upto fnShiftedSpec)

/-- 'laws.FnExactCodeName', WHERE WHAT IT READS IS OF BULK AT MOST 1048576: true; the input reads as it did. -/
def fnExactCodeNameUptoRow : OpenClaim := { program := "ytbniidfojllflaa", sum := "adbd14319ace126b598a21f5f2ad6c8cc13b012da223dce963e044845f80a8e7", func := "loop.example/g01224/laws.FnExactCodeName", spec := "fnExactCodeName", apart := false, narrowed := true }
def FnExactCodeNameUptoSaid : Prop := fnExactCodeNameUptoRow.holds Try.pinned (OpenSpec.upto fnExactCodeNameSpec)

/-- 'laws.FnExactSameNumber', WHERE WHAT IT READS IS OF BULK AT MOST 1048576: true; the input reads as it did. -/
def fnExactSameNumberUptoRow : OpenClaim := { program := "ytbniidfojllflaa", sum := "adbd14319ace126b598a21f5f2ad6c8cc13b012da223dce963e044845f80a8e7", func := "loop.example/g01224/laws.FnExactSameNumber", spec := "fnExactSameNumber", inPlace := ["math.Float32bits"], apart := false, narrowed := true }
def FnExactSameNumberUptoSaid : Prop := fnExactSameNumberUptoRow.holds Try.pinned (OpenSpec.upto fnExactSameNumberSpec)

/-- 'laws.FnExactValidSizes', WHERE WHAT IT READS IS OF BULK AT MOST 1048576: true; the input reads as it did. -/
def fnExactValidSizesUptoRow : OpenClaim := { program := "ytbniidfojllflaa", sum := "adbd14319ace126b598a21f5f2ad6c8cc13b012da223dce963e044845f80a8e7", func := "loop.example/g01224/laws.FnExactValidSizes", spec := "fnExactValidSizes", inPlace := ["math.Float32bits", "math.Float64bits", "math.Float64frombits"], apart := false, narrowed := true }
def FnExactValidSizesUptoSaid : Prop := fnExactValidSizesUptoRow.holds Try.pinned (OpenSpec.upto fnExactValidSizesSpec)

/-- 'laws.FnExactSameSizes', WHERE WHAT IT READS IS OF BULK AT MOST 1048576: true; the input reads as it did. -/
def fnExactSameSizesUptoRow : OpenClaim := { program := "ytbniidfojllflaa", sum := "adbd14319ace126b598a21f5f2ad6c8cc13b012da223dce963e044845f80a8e7", func := "loop.example/g01224/laws.FnExactSameSizes", spec := "fnExactSameSizes", inPlace := ["math.Float32bits"], apart := false, narrowed := true }
def FnExactSameSizesUptoSaid : Prop := fnExactSameSizesUptoRow.holds Try.pinned (OpenSpec.upto fnExactSameSizesSpec)

/-- 'laws.FnExactMassOf', WHERE WHAT IT READS IS OF BULK AT MOST 1048576: true; the input reads as it did. -/
def fnExactMassOfUptoRow : OpenClaim := { program := "ytbniidfojllflaa", sum := "adbd14319ace126b598a21f5f2ad6c8cc13b012da223dce963e044845f80a8e7", func := "loop.example/g01224/laws.FnExactMassOf", spec := "fnExactMassOf", apart := false, narrowed := true }
def FnExactMassOfUptoSaid : Prop := fnExactMassOfUptoRow.holds Try.pinned (OpenSpec.upto fnExactMassOfSpec)

/-- 'laws.FnExactEdgeOf', WHERE WHAT IT READS IS OF BULK AT MOST 1048576: true; the input reads as it did. -/
def fnExactEdgeOfUptoRow : OpenClaim := { program := "ytbniidfojllflaa", sum := "adbd14319ace126b598a21f5f2ad6c8cc13b012da223dce963e044845f80a8e7", func := "loop.example/g01224/laws.FnExactEdgeOf", spec := "fnExactEdgeOf", apart := false, narrowed := true }
def FnExactEdgeOfUptoSaid : Prop := fnExactEdgeOfUptoRow.holds Try.pinned (OpenSpec.upto fnExactEdgeOfSpec)

/-- 'laws.FnExactThirdRoot', WHERE WHAT IT READS IS OF BULK AT MOST 1048576: true; the input reads as it did. -/
def fnExactThirdRootUptoRow : OpenClaim := { program := "ytbniidfojllflaa", sum := "adbd14319ace126b598a21f5f2ad6c8cc13b012da223dce963e044845f80a8e7", func := "loop.example/g01224/laws.FnExactThirdRoot", spec := "fnExactThirdRoot", inPlace := ["math.Float32bits", "math.Float64bits", "math.Float64frombits"], apart := false, narrowed := true }
def FnExactThirdRootUptoSaid : Prop := fnExactThirdRootUptoRow.holds Try.pinned (OpenSpec.upto fnExactThirdRootSpec)

/-- 'laws.FnExactRadiusOf', WHERE WHAT IT READS IS OF BULK AT MOST 1048576: true; the input reads as it did. -/
def fnExactRadiusOfUptoRow : OpenClaim := { program := "ytbniidfojllflaa", sum := "adbd14319ace126b598a21f5f2ad6c8cc13b012da223dce963e044845f80a8e7", func := "loop.example/g01224/laws.FnExactRadiusOf", spec := "fnExactRadiusOf", inPlace := ["math.Float64bits", "math.Float64frombits"], apart := false, narrowed := true }
def FnExactRadiusOfUptoSaid : Prop := fnExactRadiusOfUptoRow.holds Try.pinned (OpenSpec.upto fnExactRadiusOfSpec)

/-- 'laws.FnExactCountOf', WHERE WHAT IT READS IS OF BULK AT MOST 1048576: true; the input reads as it did. -/
def fnExactCountOfUptoRow : OpenClaim := { program := "ytbniidfojllflaa", sum := "adbd14319ace126b598a21f5f2ad6c8cc13b012da223dce963e044845f80a8e7", func := "loop.example/g01224/laws.FnExactCountOf", spec := "fnExactCountOf", inPlace := ["math.Float32bits", "math.Float64bits", "math.Float64frombits"], apart := false, narrowed := true }
def FnExactCountOfUptoSaid : Prop := fnExactCountOfUptoRow.holds Try.pinned (OpenSpec.upto fnExactCountOfSpec)

/-- 'laws.FnExactWaterOf', WHERE WHAT IT READS IS OF BULK AT MOST 1048576: true; the input reads as it did. -/
def fnExactWaterOfUptoRow : OpenClaim := { program := "ytbniidfojllflaa", sum := "adbd14319ace126b598a21f5f2ad6c8cc13b012da223dce963e044845f80a8e7", func := "loop.example/g01224/laws.FnExactWaterOf", spec := "fnExactWaterOf", inPlace := ["math.Float32bits", "math.Float64bits", "math.Float64frombits"], apart := false, narrowed := true }
def FnExactWaterOfUptoSaid : Prop := fnExactWaterOfUptoRow.holds Try.pinned (OpenSpec.upto fnExactWaterOfSpec)

/-- 'laws.FnExactMomentOf', WHERE WHAT IT READS IS OF BULK AT MOST 1048576: true; the input reads as it did. -/
def fnExactMomentOfUptoRow : OpenClaim := { program := "ytbniidfojllflaa", sum := "adbd14319ace126b598a21f5f2ad6c8cc13b012da223dce963e044845f80a8e7", func := "loop.example/g01224/laws.FnExactMomentOf", spec := "fnExactMomentOf", inPlace := ["math.Float32bits", "math.Float64bits", "math.Float64frombits"], apart := false, narrowed := true }
def FnExactMomentOfUptoSaid : Prop := fnExactMomentOfUptoRow.holds Try.pinned (OpenSpec.upto fnExactMomentOfSpec)

/-- 'laws.FnExactMeanMass', WHERE WHAT IT READS IS OF BULK AT MOST 1048576: true; the input reads as it did. -/
def fnExactMeanMassUptoRow : OpenClaim := { program := "ytbniidfojllflaa", sum := "adbd14319ace126b598a21f5f2ad6c8cc13b012da223dce963e044845f80a8e7", func := "loop.example/g01224/laws.FnExactMeanMass", spec := "fnExactMeanMass", inPlace := ["math.Float32bits", "math.Float64bits", "math.Float64frombits"], apart := false, narrowed := true }
def FnExactMeanMassUptoSaid : Prop := fnExactMeanMassUptoRow.holds Try.pinned (OpenSpec.upto fnExactMeanMassSpec)

/-- 'laws.FnExactClassFor', WHERE WHAT IT READS IS OF BULK AT MOST 1048576: true; the input reads as it did. -/
def fnExactClassForUptoRow : OpenClaim := { program := "ytbniidfojllflaa", sum := "adbd14319ace126b598a21f5f2ad6c8cc13b012da223dce963e044845f80a8e7", func := "loop.example/g01224/laws.FnExactClassFor", spec := "fnExactClassFor", inPlace := ["math.Float64bits", "math.Float64frombits"], apart := false, narrowed := true }
def FnExactClassForUptoSaid : Prop := fnExactClassForUptoRow.holds Try.pinned (OpenSpec.upto fnExactClassForSpec)

/-- 'laws.FnExactPutDroplets', WHERE WHAT IT READS IS OF BULK AT MOST 1048576: true; the input reads as it did. -/
def fnExactPutDropletsUptoRow : OpenClaim := { program := "ytbniidfojllflaa", sum := "adbd14319ace126b598a21f5f2ad6c8cc13b012da223dce963e044845f80a8e7", func := "loop.example/g01224/laws.FnExactPutDroplets", spec := "fnExactPutDroplets", inPlace := ["math.Float32bits", "math.Float64bits", "math.Float64frombits"], unfollowed := true, recurses := true, apart := false, narrowed := true }
def FnExactPutDropletsUptoSaid : Prop := fnExactPutDropletsUptoRow.holds Try.pinned (OpenSpec.upto fnExactPutDropletsSpec)

/-- 'laws.FnExactTakeShare', WHERE WHAT IT READS IS OF BULK AT MOST 1048576: true; the input reads as it did. -/
def fnExactTakeShareUptoRow : OpenClaim := { program := "ytbniidfojllflaa", sum := "adbd14319ace126b598a21f5f2ad6c8cc13b012da223dce963e044845f80a8e7", func := "loop.example/g01224/laws.FnExactTakeShare", spec := "fnExactTakeShare", inPlace := ["math.Float32bits", "math.Float64bits", "math.Float64frombits"], apart := false, narrowed := true }
def FnExactTakeShareUptoSaid : Prop := fnExactTakeShareUptoRow.holds Try.pinned (OpenSpec.upto fnExactTakeShareSpec)

/-- 'laws.FnExactAddSizes', WHERE WHAT IT READS IS OF BULK AT MOST 1048576: true; the input reads as it did. -/
def fnExactAddSizesUptoRow : OpenClaim := { program := "ytbniidfojllflaa", sum := "adbd14319ace126b598a21f5f2ad6c8cc13b012da223dce963e044845f80a8e7", func := "loop.example/g01224/laws.FnExactAddSizes", spec := "fnExactAddSizes", inPlace := ["math.Float32bits", "math.Float64bits", "math.Float64frombits"], apart := false, narrowed := true }
def FnExactAddSizesUptoSaid : Prop := fnExactAddSizesUptoRow.holds Try.pinned (OpenSpec.upto fnExactAddSizesSpec)

/-- 'laws.FnExactScaleSizes', WHERE WHAT IT READS IS OF BULK AT MOST 1048576: true; the input reads as it did. -/
def fnExactScaleSizesUptoRow : OpenClaim := { program := "ytbniidfojllflaa", sum := "adbd14319ace126b598a21f5f2ad6c8cc13b012da223dce963e044845f80a8e7", func := "loop.example/g01224/laws.FnExactScaleSizes", spec := "fnExactScaleSizes", inPlace := ["math.Float32bits", "math.Float64bits", "math.Float64frombits"], apart := false, narrowed := true }
def FnExactScaleSizesUptoSaid : Prop := fnExactScaleSizesUptoRow.holds Try.pinned (OpenSpec.upto fnExactScaleSizesSpec)

/-- 'laws.FnExactMixSizes', WHERE WHAT IT READS IS OF BULK AT MOST 1048576: true; the input reads as it did. -/
def fnExactMixSizesUptoRow : OpenClaim := { program := "ytbniidfojllflaa", sum := "adbd14319ace126b598a21f5f2ad6c8cc13b012da223dce963e044845f80a8e7", func := "loop.example/g01224/laws.FnExactMixSizes", spec := "fnExactMixSizes", inPlace := ["math.Float32bits", "math.Float64bits", "math.Float64frombits"], apart := false, narrowed := true }
def FnExactMixSizesUptoSaid : Prop := fnExactMixSizesUptoRow.holds Try.pinned (OpenSpec.upto fnExactMixSizesSpec)

/-- 'laws.FnExactShiftMasses', WHERE WHAT IT READS IS OF BULK AT MOST 1048576: true; the input reads as it did. -/
def fnExactShiftMassesUptoRow : OpenClaim := { program := "ytbniidfojllflaa", sum := "adbd14319ace126b598a21f5f2ad6c8cc13b012da223dce963e044845f80a8e7", func := "loop.example/g01224/laws.FnExactShiftMasses", spec := "fnExactShiftMasses", inPlace := ["math.Float32bits", "math.Float64bits", "math.Float64frombits"], unfollowed := true, recurses := true, apart := false, narrowed := true }
def FnExactShiftMassesUptoSaid : Prop := fnExactShiftMassesUptoRow.holds Try.pinned (OpenSpec.upto fnExactShiftMassesSpec)

/-- 'laws.FnExactSpectrum', WHERE WHAT IT READS IS OF BULK AT MOST 1048576: true; the input reads as it did. -/
def fnExactSpectrumUptoRow : OpenClaim := { program := "ytbniidfojllflaa", sum := "adbd14319ace126b598a21f5f2ad6c8cc13b012da223dce963e044845f80a8e7", func := "loop.example/g01224/laws.FnExactSpectrum", spec := "fnExactSpectrum", inPlace := ["math.Float32bits", "math.Float64bits", "math.Float64frombits"], apart := false, narrowed := true }
def FnExactSpectrumUptoSaid : Prop := fnExactSpectrumUptoRow.holds Try.pinned (OpenSpec.upto fnExactSpectrumSpec)

/-- 'laws.FnExactAtLeast', WHERE WHAT IT READS IS OF BULK AT MOST 1048576: true; the input reads as it did. -/
def fnExactAtLeastUptoRow : OpenClaim := { program := "ytbniidfojllflaa", sum := "adbd14319ace126b598a21f5f2ad6c8cc13b012da223dce963e044845f80a8e7", func := "loop.example/g01224/laws.FnExactAtLeast", spec := "fnExactAtLeast", inPlace := ["math.Float32bits", "math.Float64bits", "math.Float64frombits"], apart := false, narrowed := true }
def FnExactAtLeastUptoSaid : Prop := fnExactAtLeastUptoRow.holds Try.pinned (OpenSpec.upto fnExactAtLeastSpec)

/-- 'laws.FnExactMiddleClass', WHERE WHAT IT READS IS OF BULK AT MOST 1048576: true; the input reads as it did. -/
def fnExactMiddleClassUptoRow : OpenClaim := { program := "ytbniidfojllflaa", sum := "adbd14319ace126b598a21f5f2ad6c8cc13b012da223dce963e044845f80a8e7", func := "loop.example/g01224/laws.FnExactMiddleClass", spec := "fnExactMiddleClass", inPlace := ["math.Float32bits", "math.Float64bits", "math.Float64frombits"], apart := false, narrowed := true }
def FnExactMiddleClassUptoSaid : Prop := fnExactMiddleClassUptoRow.holds Try.pinned (OpenSpec.upto fnExactMiddleClassSpec)

end Rows
end Go.Proofs.Ytbniidfojllflaa
