/-
  No cell of these rows narrows 'for every input' (looked for: loops, veiled, ifaces, maps, wideKeys, modest, calm, conditions, laid).
  DERIVED. THE GIVEN ROWS OF THIS SEAT. 11 by the template 'for every input the law returns true; each argument reads behind the call as it read before'; 0 by the template 'total and deterministic' (their statements: YtdmnlbfmcibohaaTotals.lean).
  GIVEN WITH THE SEED: the statements are not yours to turn. If you find one false, say at which input.
  Laid BY PROGRAM, IN A SANDBOX (cutbox-rows.mjs): the forced cells as the released guide's own fill.sh prints them over the translation df00efd6dbb44c4e… (all of the seat's roots in one cut). By AI agents, Wed Nov 11 2026. No macro, syntax, notation, axiom, sorry.
-/
import Derived.Test.YtdmnlbfmcibohaaChecked
import GoSem.Claim
import GoSem.ClaimJoined
import GoSem.ClaimMapViews
import Derived.JoinedTies
import Derived.KernelRfl
namespace Go.Proofs.Ytdmnlbfmcibohaa
/- THE CELL 'sum', in the pinned program and in every row, IS THE sha256 OF THE DUMP (.gsa) THAT YtdmnlbfmcibohaaProg.lean LOADS. Nothing in Lean hashes anything: it is a label: what it is worth is what the hold of that sum in a sandbox is worth. -/
noncomputable def Try.pinned : Pinned := { name := "ytdmnlbfmcibohaa", sum := "df00efd6dbb44c4e7c516657c23327fc136245a5b2997fce4ca1b1e290eda20c", checked := Try.checked }
namespace Rows
def none {H : Type} : Left H := { results := [], args := [] }

/-- 'laws.FnExactEchoOf': WHATEVER THE INPUT: true; the input reads as it did. -/
def fnExactEchoOfSpec : ChangeSpec := { name := "fnExactEchoOf", fn := fun _ => fun
  | [d] => { results := [.lit (.bool true)], args := [d] }
  | _ => none }
def fnExactEchoOfRow : OpenClaim := { program := "ytdmnlbfmcibohaa", sum := "df00efd6dbb44c4e7c516657c23327fc136245a5b2997fce4ca1b1e290eda20c", func := "loop.example/g01224/laws.FnExactEchoOf", spec := "fnExactEchoOf", inPlace := ["math.Float32bits", "math.sqrt", "math.Float64bits", "math.Float64frombits"], apart := false }
def FnExactEchoOfSaid : Prop := fnExactEchoOfRow.holds Try.pinned (OpenSpec.ofChange fnExactEchoOfSpec)

/-- ITS FALSE NEIGHBOUR: 'it returns false'. Refute it at one input. -/
def fnExactEchoOfWrong : ChangeSpec := { name := "fnExactEchoOf", fn := fun _ => fun
  | [d] => { results := [.lit (.bool false)], args := [d] }
  | _ => none }
def FnExactEchoOfWrongFalsely : Prop := fnExactEchoOfRow.holds Try.pinned (OpenSpec.ofChange fnExactEchoOfWrong)

/-- 'laws.FnExactValidEchoMap': WHATEVER THE INPUT: true; the input reads as it did. -/
def fnExactValidEchoMapSpec : ChangeSpec := { name := "fnExactValidEchoMap", fn := fun _ => fun
  | [d] => { results := [.lit (.bool true)], args := [d] }
  | _ => none }
def fnExactValidEchoMapRow : OpenClaim := { program := "ytdmnlbfmcibohaa", sum := "df00efd6dbb44c4e7c516657c23327fc136245a5b2997fce4ca1b1e290eda20c", func := "loop.example/g01224/laws.FnExactValidEchoMap", spec := "fnExactValidEchoMap", inPlace := ["math.Float32bits", "math.Float64bits", "math.Float64frombits"], apart := false }
def FnExactValidEchoMapSaid : Prop := fnExactValidEchoMapRow.holds Try.pinned (OpenSpec.ofChange fnExactValidEchoMapSpec)

/-- ITS FALSE NEIGHBOUR: 'it returns false'. Refute it at one input. -/
def fnExactValidEchoMapWrong : ChangeSpec := { name := "fnExactValidEchoMap", fn := fun _ => fun
  | [d] => { results := [.lit (.bool false)], args := [d] }
  | _ => none }
def FnExactValidEchoMapWrongFalsely : Prop := fnExactValidEchoMapRow.holds Try.pinned (OpenSpec.ofChange fnExactValidEchoMapWrong)

/-- 'laws.FnExactLiftOf': WHATEVER THE INPUT: true; the input reads as it did. -/
def fnExactLiftOfSpec : ChangeSpec := { name := "fnExactLiftOf", fn := fun _ => fun
  | [d1, d2] => { results := [.lit (.bool true)], args := [d1, d2] }
  | _ => none }
def fnExactLiftOfRow : OpenClaim := { program := "ytdmnlbfmcibohaa", sum := "df00efd6dbb44c4e7c516657c23327fc136245a5b2997fce4ca1b1e290eda20c", func := "loop.example/g01224/laws.FnExactLiftOf", spec := "fnExactLiftOf", inPlace := ["math.Float32bits", "math.Float64bits", "math.Float64frombits"], unfollowed := true, recurses := true, apart := false }
def FnExactLiftOfSaid : Prop := fnExactLiftOfRow.holds Try.pinned (OpenSpec.ofChange fnExactLiftOfSpec)

/-- ITS FALSE NEIGHBOUR: 'it returns false'. Refute it at one input. -/
def fnExactLiftOfWrong : ChangeSpec := { name := "fnExactLiftOf", fn := fun _ => fun
  | [d1, d2] => { results := [.lit (.bool false)], args := [d1, d2] }
  | _ => none }
def FnExactLiftOfWrongFalsely : Prop := fnExactLiftOfRow.holds Try.pinned (OpenSpec.ofChange fnExactLiftOfWrong)

/-- 'laws.FnExactVapourAbove': WHATEVER THE INPUT: true; the input reads as it did. -/
def fnExactVapourAboveSpec : ChangeSpec := { name := "fnExactVapourAbove", fn := fun _ => fun
  | [d1, d2] => { results := [.lit (.bool true)], args := [d1, d2] }
  | _ => none }
def fnExactVapourAboveRow : OpenClaim := { program := "ytdmnlbfmcibohaa", sum := "df00efd6dbb44c4e7c516657c23327fc136245a5b2997fce4ca1b1e290eda20c", func := "loop.example/g01224/laws.FnExactVapourAbove", spec := "fnExactVapourAbove", inPlace := ["math.Float32bits", "math.Float64bits", "math.Float64frombits"], unfollowed := true, recurses := true, apart := false }
def FnExactVapourAboveSaid : Prop := fnExactVapourAboveRow.holds Try.pinned (OpenSpec.ofChange fnExactVapourAboveSpec)

/-- ITS FALSE NEIGHBOUR: 'it returns false'. Refute it at one input. -/
def fnExactVapourAboveWrong : ChangeSpec := { name := "fnExactVapourAbove", fn := fun _ => fun
  | [d1, d2] => { results := [.lit (.bool false)], args := [d1, d2] }
  | _ => none }
def FnExactVapourAboveWrongFalsely : Prop := fnExactVapourAboveRow.holds Try.pinned (OpenSpec.ofChange fnExactVapourAboveWrong)

/-- 'laws.FnExactEvenSounding': WHATEVER THE INPUT: true; the input reads as it did. -/
def fnExactEvenSoundingSpec : ChangeSpec := { name := "fnExactEvenSounding", fn := fun _ => fun
  | [d1, d2, d3, d4] => { results := [.lit (.bool true)], args := [d1, d2, d3, d4] }
  | _ => none }
def fnExactEvenSoundingRow : OpenClaim := { program := "ytdmnlbfmcibohaa", sum := "df00efd6dbb44c4e7c516657c23327fc136245a5b2997fce4ca1b1e290eda20c", func := "loop.example/g01224/laws.FnExactEvenSounding", spec := "fnExactEvenSounding", inPlace := ["math.Float32bits", "math.Float64bits", "math.Float64frombits"], unfollowed := true, recurses := true, apart := false }
def FnExactEvenSoundingSaid : Prop := fnExactEvenSoundingRow.holds Try.pinned (OpenSpec.ofChange fnExactEvenSoundingSpec)

/-- ITS FALSE NEIGHBOUR: 'it returns false'. Refute it at one input. -/
def fnExactEvenSoundingWrong : ChangeSpec := { name := "fnExactEvenSounding", fn := fun _ => fun
  | [d1, d2, d3, d4] => { results := [.lit (.bool false)], args := [d1, d2, d3, d4] }
  | _ => none }
def FnExactEvenSoundingWrongFalsely : Prop := fnExactEvenSoundingRow.holds Try.pinned (OpenSpec.ofChange fnExactEvenSoundingWrong)

/-- 'laws.FnExactRiseIn': WHATEVER THE INPUT: true; the input reads as it did. -/
def fnExactRiseInSpec : ChangeSpec := { name := "fnExactRiseIn", fn := fun _ => fun
  | [d1, d2, d3, d4, d5] => { results := [.lit (.bool true)], args := [d1, d2, d3, d4, d5] }
  | _ => none }
def fnExactRiseInRow : OpenClaim := { program := "ytdmnlbfmcibohaa", sum := "df00efd6dbb44c4e7c516657c23327fc136245a5b2997fce4ca1b1e290eda20c", func := "loop.example/g01224/laws.FnExactRiseIn", spec := "fnExactRiseIn", inPlace := ["math.Float32bits", "math.archFloor", "math.Float64bits", "math.Float64frombits", "math.archTrunc"], unfollowed := true, recurses := true, apart := false }
def FnExactRiseInSaid : Prop := fnExactRiseInRow.holds Try.pinned (OpenSpec.ofChange fnExactRiseInSpec)

/-- ITS FALSE NEIGHBOUR: 'it returns false'. Refute it at one input. -/
def fnExactRiseInWrong : ChangeSpec := { name := "fnExactRiseIn", fn := fun _ => fun
  | [d1, d2, d3, d4, d5] => { results := [.lit (.bool false)], args := [d1, d2, d3, d4, d5] }
  | _ => none }
def FnExactRiseInWrongFalsely : Prop := fnExactRiseInRow.holds Try.pinned (OpenSpec.ofChange fnExactRiseInWrong)

/-- 'laws.FnExactEventsOf': WHATEVER THE INPUT: true; the input reads as it did. -/
def fnExactEventsOfSpec : ChangeSpec := { name := "fnExactEventsOf", fn := fun _ => fun
  | [d1, d2, d3] => { results := [.lit (.bool true)], args := [d1, d2, d3] }
  | _ => none }
def fnExactEventsOfRow : OpenClaim := { program := "ytdmnlbfmcibohaa", sum := "df00efd6dbb44c4e7c516657c23327fc136245a5b2997fce4ca1b1e290eda20c", func := "loop.example/g01224/laws.FnExactEventsOf", spec := "fnExactEventsOf", inPlace := ["math.Float32bits", "math.Float64bits", "math.Float64frombits"], unfollowed := true, recurses := true, apart := false }
def FnExactEventsOfSaid : Prop := fnExactEventsOfRow.holds Try.pinned (OpenSpec.ofChange fnExactEventsOfSpec)

/-- ITS FALSE NEIGHBOUR: 'it returns false'. Refute it at one input. -/
def fnExactEventsOfWrong : ChangeSpec := { name := "fnExactEventsOf", fn := fun _ => fun
  | [d1, d2, d3] => { results := [.lit (.bool false)], args := [d1, d2, d3] }
  | _ => none }
def FnExactEventsOfWrongFalsely : Prop := fnExactEventsOfRow.holds Try.pinned (OpenSpec.ofChange fnExactEventsOfWrong)

/-- 'laws.FnExactLossesOf': WHATEVER THE INPUT: true; the input reads as it did. -/
def fnExactLossesOfSpec : ChangeSpec := { name := "fnExactLossesOf", fn := fun _ => fun
  | [d1, d2, d3] => { results := [.lit (.bool true)], args := [d1, d2, d3] }
  | _ => none }
def fnExactLossesOfRow : OpenClaim := { program := "ytdmnlbfmcibohaa", sum := "df00efd6dbb44c4e7c516657c23327fc136245a5b2997fce4ca1b1e290eda20c", func := "loop.example/g01224/laws.FnExactLossesOf", spec := "fnExactLossesOf", inPlace := ["math.Float32bits", "math.Float64bits", "math.Float64frombits"], unfollowed := true, recurses := true, apart := false }
def FnExactLossesOfSaid : Prop := fnExactLossesOfRow.holds Try.pinned (OpenSpec.ofChange fnExactLossesOfSpec)

/-- ITS FALSE NEIGHBOUR: 'it returns false'. Refute it at one input. -/
def fnExactLossesOfWrong : ChangeSpec := { name := "fnExactLossesOf", fn := fun _ => fun
  | [d1, d2, d3] => { results := [.lit (.bool false)], args := [d1, d2, d3] }
  | _ => none }
def FnExactLossesOfWrongFalsely : Prop := fnExactLossesOfRow.holds Try.pinned (OpenSpec.ofChange fnExactLossesOfWrong)

/-- 'laws.FnExactShiftMasses': WHATEVER THE INPUT: true; the input reads as it did. -/
def fnExactShiftMassesSpec : ChangeSpec := { name := "fnExactShiftMasses", fn := fun _ => fun
  | [d1, d2] => { results := [.lit (.bool true)], args := [d1, d2] }
  | _ => none }
def fnExactShiftMassesRow : OpenClaim := { program := "ytdmnlbfmcibohaa", sum := "df00efd6dbb44c4e7c516657c23327fc136245a5b2997fce4ca1b1e290eda20c", func := "loop.example/g01224/laws.FnExactShiftMasses", spec := "fnExactShiftMasses", inPlace := ["math.Float32bits", "math.Float64bits", "math.Float64frombits"], unfollowed := true, recurses := true, apart := false }
def FnExactShiftMassesSaid : Prop := fnExactShiftMassesRow.holds Try.pinned (OpenSpec.ofChange fnExactShiftMassesSpec)

/-- ITS FALSE NEIGHBOUR: 'it returns false'. Refute it at one input. -/
def fnExactShiftMassesWrong : ChangeSpec := { name := "fnExactShiftMasses", fn := fun _ => fun
  | [d1, d2] => { results := [.lit (.bool false)], args := [d1, d2] }
  | _ => none }
def FnExactShiftMassesWrongFalsely : Prop := fnExactShiftMassesRow.holds Try.pinned (OpenSpec.ofChange fnExactShiftMassesWrong)

/-- 'laws.FnExactRaiseDry': WHATEVER THE INPUT: true; the input reads as it did. -/
def fnExactRaiseDrySpec : ChangeSpec := { name := "fnExactRaiseDry", fn := fun _ => fun
  | [d1, d2] => { results := [.lit (.bool true)], args := [d1, d2] }
  | _ => none }
def fnExactRaiseDryRow : OpenClaim := { program := "ytdmnlbfmcibohaa", sum := "df00efd6dbb44c4e7c516657c23327fc136245a5b2997fce4ca1b1e290eda20c", func := "loop.example/g01224/laws.FnExactRaiseDry", spec := "fnExactRaiseDry", inPlace := ["math.Float32bits", "math.Float64bits", "math.Float64frombits", "math.archFloor", "math.archTrunc"], unfollowed := true, recurses := true, apart := false }
def FnExactRaiseDrySaid : Prop := fnExactRaiseDryRow.holds Try.pinned (OpenSpec.ofChange fnExactRaiseDrySpec)

/-- ITS FALSE NEIGHBOUR: 'it returns false'. Refute it at one input. -/
def fnExactRaiseDryWrong : ChangeSpec := { name := "fnExactRaiseDry", fn := fun _ => fun
  | [d1, d2] => { results := [.lit (.bool false)], args := [d1, d2] }
  | _ => none }
def FnExactRaiseDryWrongFalsely : Prop := fnExactRaiseDryRow.holds Try.pinned (OpenSpec.ofChange fnExactRaiseDryWrong)

/-- 'laws.FnExactRaiseMoist': WHATEVER THE INPUT: true; the input reads as it did. -/
def fnExactRaiseMoistSpec : ChangeSpec := { name := "fnExactRaiseMoist", fn := fun _ => fun
  | [d1, d2, d3] => { results := [.lit (.bool true)], args := [d1, d2, d3] }
  | _ => none }
def fnExactRaiseMoistRow : OpenClaim := { program := "ytdmnlbfmcibohaa", sum := "df00efd6dbb44c4e7c516657c23327fc136245a5b2997fce4ca1b1e290eda20c", func := "loop.example/g01224/laws.FnExactRaiseMoist", spec := "fnExactRaiseMoist", inPlace := ["math.Float32bits", "math.archFloor", "math.Float64bits", "math.Float64frombits", "math.archTrunc"], unfollowed := true, recurses := true, apart := false }
def FnExactRaiseMoistSaid : Prop := fnExactRaiseMoistRow.holds Try.pinned (OpenSpec.ofChange fnExactRaiseMoistSpec)

/-- ITS FALSE NEIGHBOUR: 'it returns false'. Refute it at one input. -/
def fnExactRaiseMoistWrong : ChangeSpec := { name := "fnExactRaiseMoist", fn := fun _ => fun
  | [d1, d2, d3] => { results := [.lit (.bool false)], args := [d1, d2, d3] }
  | _ => none }
def FnExactRaiseMoistWrongFalsely : Prop := fnExactRaiseMoistRow.holds Try.pinned (OpenSpec.ofChange fnExactRaiseMoistWrong)

/- THE SECOND FORM. 'bulk': how many values and letters a reading holds, each counted each time it is reached (what is shared counts as often as it is met; a slice's spare places count too). A statement '..UptoSaid' is the law's where the arguments, and the package variables that the reading takes, are together of bulk at most 1048576: NARROWER than '..Said'. Prove '..Said' where nothing that the law and all that it calls make is longer than what came in: it says more and counts as full. Else prove '..UptoSaid'. A law counts once. -/
mutual
def uptoBulk {H : Type} : DataW H → Nat
  | .lit (.string bytes) => bytes.length + 1
  | .lit _ => 1
  | .nil => 1
  | .ptr d => uptoBulk d + 1
  | .slice elems spare => uptoBulkAll elems + uptoBulkAll spare + 1
  | .agg parts => uptoBulkAll parts + 1
  | .iface _ d => uptoBulk d + 1
  | .map entries => uptoBulkEntries entries + 1
  | .held _ => 1
def uptoBulkAll {H : Type} : List (DataW H) → Nat
  | [] => 0
  | d :: r => uptoBulk d + uptoBulkAll r
def uptoBulkEntries {H : Type} : List (Lit × DataW H) → Nat
  | [] => 0
  | x :: r => uptoBulkEntry x + uptoBulkEntries r
def uptoBulkEntry {H : Type} : Lit × DataW H → Nat
  | (.string bytes, d) => bytes.length + uptoBulk d + 1
  | (_, d) => uptoBulk d + 1
 end
def uptoSmall : (H : Type) → List (DataW H) → Bool := fun _ ds => decide (uptoBulkAll ds ≤ 1048576)
def OpenSpec.upto (s : _root_.Go.ChangeSpec) : _root_.Go.OpenSpec := { _root_.Go.OpenSpec.ofChange s with cond := some uptoSmall }

/-- 'laws.FnExactEchoOf', WHERE WHAT IT READS IS OF BULK AT MOST 1048576: true; the input reads as it did. -/
def fnExactEchoOfUptoRow : OpenClaim := { program := "ytdmnlbfmcibohaa", sum := "df00efd6dbb44c4e7c516657c23327fc136245a5b2997fce4ca1b1e290eda20c", func := "loop.example/g01224/laws.FnExactEchoOf", spec := "fnExactEchoOf", inPlace := ["math.Float32bits", "math.sqrt", "math.Float64bits", "math.Float64frombits"], apart := false, narrowed := true }
def FnExactEchoOfUptoSaid : Prop := fnExactEchoOfUptoRow.holds Try.pinned (OpenSpec.upto fnExactEchoOfSpec)

/-- 'laws.FnExactValidEchoMap', WHERE WHAT IT READS IS OF BULK AT MOST 1048576: true; the input reads as it did. -/
def fnExactValidEchoMapUptoRow : OpenClaim := { program := "ytdmnlbfmcibohaa", sum := "df00efd6dbb44c4e7c516657c23327fc136245a5b2997fce4ca1b1e290eda20c", func := "loop.example/g01224/laws.FnExactValidEchoMap", spec := "fnExactValidEchoMap", inPlace := ["math.Float32bits", "math.Float64bits", "math.Float64frombits"], apart := false, narrowed := true }
def FnExactValidEchoMapUptoSaid : Prop := fnExactValidEchoMapUptoRow.holds Try.pinned (OpenSpec.upto fnExactValidEchoMapSpec)

/-- 'laws.FnExactLiftOf', WHERE WHAT IT READS IS OF BULK AT MOST 1048576: true; the input reads as it did. -/
def fnExactLiftOfUptoRow : OpenClaim := { program := "ytdmnlbfmcibohaa", sum := "df00efd6dbb44c4e7c516657c23327fc136245a5b2997fce4ca1b1e290eda20c", func := "loop.example/g01224/laws.FnExactLiftOf", spec := "fnExactLiftOf", inPlace := ["math.Float32bits", "math.Float64bits", "math.Float64frombits"], unfollowed := true, recurses := true, apart := false, narrowed := true }
def FnExactLiftOfUptoSaid : Prop := fnExactLiftOfUptoRow.holds Try.pinned (OpenSpec.upto fnExactLiftOfSpec)

/-- 'laws.FnExactVapourAbove', WHERE WHAT IT READS IS OF BULK AT MOST 1048576: true; the input reads as it did. -/
def fnExactVapourAboveUptoRow : OpenClaim := { program := "ytdmnlbfmcibohaa", sum := "df00efd6dbb44c4e7c516657c23327fc136245a5b2997fce4ca1b1e290eda20c", func := "loop.example/g01224/laws.FnExactVapourAbove", spec := "fnExactVapourAbove", inPlace := ["math.Float32bits", "math.Float64bits", "math.Float64frombits"], unfollowed := true, recurses := true, apart := false, narrowed := true }
def FnExactVapourAboveUptoSaid : Prop := fnExactVapourAboveUptoRow.holds Try.pinned (OpenSpec.upto fnExactVapourAboveSpec)

/-- 'laws.FnExactEvenSounding', WHERE WHAT IT READS IS OF BULK AT MOST 1048576: true; the input reads as it did. -/
def fnExactEvenSoundingUptoRow : OpenClaim := { program := "ytdmnlbfmcibohaa", sum := "df00efd6dbb44c4e7c516657c23327fc136245a5b2997fce4ca1b1e290eda20c", func := "loop.example/g01224/laws.FnExactEvenSounding", spec := "fnExactEvenSounding", inPlace := ["math.Float32bits", "math.Float64bits", "math.Float64frombits"], unfollowed := true, recurses := true, apart := false, narrowed := true }
def FnExactEvenSoundingUptoSaid : Prop := fnExactEvenSoundingUptoRow.holds Try.pinned (OpenSpec.upto fnExactEvenSoundingSpec)

/-- 'laws.FnExactRiseIn', WHERE WHAT IT READS IS OF BULK AT MOST 1048576: true; the input reads as it did. -/
def fnExactRiseInUptoRow : OpenClaim := { program := "ytdmnlbfmcibohaa", sum := "df00efd6dbb44c4e7c516657c23327fc136245a5b2997fce4ca1b1e290eda20c", func := "loop.example/g01224/laws.FnExactRiseIn", spec := "fnExactRiseIn", inPlace := ["math.Float32bits", "math.archFloor", "math.Float64bits", "math.Float64frombits", "math.archTrunc"], unfollowed := true, recurses := true, apart := false, narrowed := true }
def FnExactRiseInUptoSaid : Prop := fnExactRiseInUptoRow.holds Try.pinned (OpenSpec.upto fnExactRiseInSpec)

/-- 'laws.FnExactEventsOf', WHERE WHAT IT READS IS OF BULK AT MOST 1048576: true; the input reads as it did. -/
def fnExactEventsOfUptoRow : OpenClaim := { program := "ytdmnlbfmcibohaa", sum := "df00efd6dbb44c4e7c516657c23327fc136245a5b2997fce4ca1b1e290eda20c", func := "loop.example/g01224/laws.FnExactEventsOf", spec := "fnExactEventsOf", inPlace := ["math.Float32bits", "math.Float64bits", "math.Float64frombits"], unfollowed := true, recurses := true, apart := false, narrowed := true }
def FnExactEventsOfUptoSaid : Prop := fnExactEventsOfUptoRow.holds Try.pinned (OpenSpec.upto fnExactEventsOfSpec)

/-- 'laws.FnExactLossesOf', WHERE WHAT IT READS IS OF BULK AT MOST 1048576: true; the input reads as it did. -/
def fnExactLossesOfUptoRow : OpenClaim := { program := "ytdmnlbfmcibohaa", sum := "df00efd6dbb44c4e7c516657c23327fc136245a5b2997fce4ca1b1e290eda20c", func := "loop.example/g01224/laws.FnExactLossesOf", spec := "fnExactLossesOf", inPlace := ["math.Float32bits", "math.Float64bits", "math.Float64frombits"], unfollowed := true, recurses := true, apart := false, narrowed := true }
def FnExactLossesOfUptoSaid : Prop := fnExactLossesOfUptoRow.holds Try.pinned (OpenSpec.upto fnExactLossesOfSpec)

/-- 'laws.FnExactShiftMasses', WHERE WHAT IT READS IS OF BULK AT MOST 1048576: true; the input reads as it did. -/
def fnExactShiftMassesUptoRow : OpenClaim := { program := "ytdmnlbfmcibohaa", sum := "df00efd6dbb44c4e7c516657c23327fc136245a5b2997fce4ca1b1e290eda20c", func := "loop.example/g01224/laws.FnExactShiftMasses", spec := "fnExactShiftMasses", inPlace := ["math.Float32bits", "math.Float64bits", "math.Float64frombits"], unfollowed := true, recurses := true, apart := false, narrowed := true }
def FnExactShiftMassesUptoSaid : Prop := fnExactShiftMassesUptoRow.holds Try.pinned (OpenSpec.upto fnExactShiftMassesSpec)

/-- 'laws.FnExactRaiseDry', WHERE WHAT IT READS IS OF BULK AT MOST 1048576: true; the input reads as it did. -/
def fnExactRaiseDryUptoRow : OpenClaim := { program := "ytdmnlbfmcibohaa", sum := "df00efd6dbb44c4e7c516657c23327fc136245a5b2997fce4ca1b1e290eda20c", func := "loop.example/g01224/laws.FnExactRaiseDry", spec := "fnExactRaiseDry", inPlace := ["math.Float32bits", "math.Float64bits", "math.Float64frombits", "math.archFloor", "math.archTrunc"], unfollowed := true, recurses := true, apart := false, narrowed := true }
def FnExactRaiseDryUptoSaid : Prop := fnExactRaiseDryUptoRow.holds Try.pinned (OpenSpec.upto fnExactRaiseDrySpec)

/-- 'laws.FnExactRaiseMoist', WHERE WHAT IT READS IS OF BULK AT MOST 1048576: true; the input reads as it did. -/
def fnExactRaiseMoistUptoRow : OpenClaim := { program := "ytdmnlbfmcibohaa", sum := "df00efd6dbb44c4e7c516657c23327fc136245a5b2997fce4ca1b1e290eda20c", func := "loop.example/g01224/laws.FnExactRaiseMoist", spec := "fnExactRaiseMoist", inPlace := ["math.Float32bits", "math.archFloor", "math.Float64bits", "math.Float64frombits", "math.archTrunc"], unfollowed := true, recurses := true, apart := false, narrowed := true }
def FnExactRaiseMoistUptoSaid : Prop := fnExactRaiseMoistUptoRow.holds Try.pinned (OpenSpec.upto fnExactRaiseMoistSpec)

end Rows
end Go.Proofs.Ytdmnlbfmcibohaa
