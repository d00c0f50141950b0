/-
  No cell of these rows narrows 'for every input' (looked for: loops, veiled, ifaces, maps, wideKeys, modest, calm, conditions, laid).
  DERIVED. THE GIVEN ROWS OF THIS SEAT. 10 by the template 'for every input the law returns true; each argument reads behind the call as it read before'; 0 by the template 'total and deterministic' (their statements: YthpimindkmmkjaaTotals.lean).
  GIVEN WITH THE SEED: the statements are not yours to turn. If you find one false, say at which input.
  Laid BY PROGRAM, IN A SANDBOX (cutbox-rows.mjs): the forced cells as the released guide's own fill.sh prints them over the translation b9d5173c89f08687… (all of the seat's roots in one cut). By AI agents, Wed Nov 11 2026. No macro, syntax, notation, axiom, sorry.
-/
import Derived.Test.YthpimindkmmkjaaChecked
import GoSem.Claim
import GoSem.ClaimJoined
import GoSem.ClaimMapViews
import Derived.JoinedTies
import Derived.KernelRfl
namespace Go.Proofs.Ythpimindkmmkjaa
/- THE CELL 'sum', in the pinned program and in every row, IS THE sha256 OF THE DUMP (.gsa) THAT YthpimindkmmkjaaProg.lean LOADS. Nothing in Lean hashes anything: it is a label: what it is worth is what the hold of that sum in a sandbox is worth. -/
noncomputable def Try.pinned : Pinned := { name := "ythpimindkmmkjaa", sum := "b9d5173c89f08687deb03305e39a6712b935cdcfc162467e890a6699868ee5a9", checked := Try.checked }
namespace Rows
def none {H : Type} : Left H := { results := [], args := [] }

/-- 'laws.FnExactStirColumn': WHATEVER THE INPUT: true; the input reads as it did. -/
def fnExactStirColumnSpec : ChangeSpec := { name := "fnExactStirColumn", fn := fun _ => fun
  | [d1, d2] => { results := [.lit (.bool true)], args := [d1, d2] }
  | _ => none }
def fnExactStirColumnRow : OpenClaim := { program := "ythpimindkmmkjaa", sum := "b9d5173c89f08687deb03305e39a6712b935cdcfc162467e890a6699868ee5a9", func := "loop.example/g01224/laws.FnExactStirColumn", spec := "fnExactStirColumn", inPlace := ["math.Float32bits", "math.Float64bits", "math.Float64frombits"], unfollowed := true, recurses := true, plainKeys := false, apart := false }
def FnExactStirColumnSaid : Prop := fnExactStirColumnRow.holds Try.pinned (OpenSpec.ofChange fnExactStirColumnSpec)

/-- ITS FALSE NEIGHBOUR: 'it returns false'. Refute it at one input. -/
def fnExactStirColumnWrong : ChangeSpec := { name := "fnExactStirColumn", fn := fun _ => fun
  | [d1, d2] => { results := [.lit (.bool false)], args := [d1, d2] }
  | _ => none }
def FnExactStirColumnWrongFalsely : Prop := fnExactStirColumnRow.holds Try.pinned (OpenSpec.ofChange fnExactStirColumnWrong)

/-- 'laws.FnExactGrowOnce': WHATEVER THE INPUT: true; the input reads as it did. -/
def fnExactGrowOnceSpec : ChangeSpec := { name := "fnExactGrowOnce", fn := fun _ => fun
  | [d1, d2, d3] => { results := [.lit (.bool true)], args := [d1, d2, d3] }
  | _ => none }
def fnExactGrowOnceRow : OpenClaim := { program := "ythpimindkmmkjaa", sum := "b9d5173c89f08687deb03305e39a6712b935cdcfc162467e890a6699868ee5a9", func := "loop.example/g01224/laws.FnExactGrowOnce", spec := "fnExactGrowOnce", inPlace := ["math.Float32bits", "math.archFloor", "math.Float64bits", "math.Float64frombits", "math.archTrunc"], unfollowed := true, recurses := true, plainKeys := false, apart := false }
def FnExactGrowOnceSaid : Prop := fnExactGrowOnceRow.holds Try.pinned (OpenSpec.ofChange fnExactGrowOnceSpec)

/-- ITS FALSE NEIGHBOUR: 'it returns false'. Refute it at one input. -/
def fnExactGrowOnceWrong : ChangeSpec := { name := "fnExactGrowOnce", fn := fun _ => fun
  | [d1, d2, d3] => { results := [.lit (.bool false)], args := [d1, d2, d3] }
  | _ => none }
def FnExactGrowOnceWrongFalsely : Prop := fnExactGrowOnceRow.holds Try.pinned (OpenSpec.ofChange fnExactGrowOnceWrong)

/-- 'laws.FnExactGrowSteps': WHATEVER THE INPUT: true; the input reads as it did. -/
def fnExactGrowStepsSpec : ChangeSpec := { name := "fnExactGrowSteps", fn := fun _ => fun
  | [d1, d2, d3, d4] => { results := [.lit (.bool true)], args := [d1, d2, d3, d4] }
  | _ => none }
def fnExactGrowStepsRow : OpenClaim := { program := "ythpimindkmmkjaa", sum := "b9d5173c89f08687deb03305e39a6712b935cdcfc162467e890a6699868ee5a9", func := "loop.example/g01224/laws.FnExactGrowSteps", spec := "fnExactGrowSteps", inPlace := ["math.Float32bits", "math.archFloor", "math.Float64bits", "math.Float64frombits", "math.archTrunc"], unfollowed := true, recurses := true, plainKeys := false, apart := false }
def FnExactGrowStepsSaid : Prop := fnExactGrowStepsRow.holds Try.pinned (OpenSpec.ofChange fnExactGrowStepsSpec)

/-- ITS FALSE NEIGHBOUR: 'it returns false'. Refute it at one input. -/
def fnExactGrowStepsWrong : ChangeSpec := { name := "fnExactGrowSteps", fn := fun _ => fun
  | [d1, d2, d3, d4] => { results := [.lit (.bool false)], args := [d1, d2, d3, d4] }
  | _ => none }
def FnExactGrowStepsWrongFalsely : Prop := fnExactGrowStepsRow.holds Try.pinned (OpenSpec.ofChange fnExactGrowStepsWrong)

/-- 'laws.FnExactStepsToDry': WHATEVER THE INPUT: true; the input reads as it did. -/
def fnExactStepsToDrySpec : ChangeSpec := { name := "fnExactStepsToDry", fn := fun _ => fun
  | [d1, d2, d3, d4] => { results := [.lit (.bool true)], args := [d1, d2, d3, d4] }
  | _ => none }
def fnExactStepsToDryRow : OpenClaim := { program := "ythpimindkmmkjaa", sum := "b9d5173c89f08687deb03305e39a6712b935cdcfc162467e890a6699868ee5a9", func := "loop.example/g01224/laws.FnExactStepsToDry", spec := "fnExactStepsToDry", inPlace := ["math.Float32bits", "math.archFloor", "math.Float64bits", "math.Float64frombits", "math.archTrunc"], unfollowed := true, recurses := true, plainKeys := false, apart := false }
def FnExactStepsToDrySaid : Prop := fnExactStepsToDryRow.holds Try.pinned (OpenSpec.ofChange fnExactStepsToDrySpec)

/-- ITS FALSE NEIGHBOUR: 'it returns false'. Refute it at one input. -/
def fnExactStepsToDryWrong : ChangeSpec := { name := "fnExactStepsToDry", fn := fun _ => fun
  | [d1, d2, d3, d4] => { results := [.lit (.bool false)], args := [d1, d2, d3, d4] }
  | _ => none }
def FnExactStepsToDryWrongFalsely : Prop := fnExactStepsToDryRow.holds Try.pinned (OpenSpec.ofChange fnExactStepsToDryWrong)

/-- 'laws.FnExactGrowColumn': WHATEVER THE INPUT: true; the input reads as it did. -/
def fnExactGrowColumnSpec : ChangeSpec := { name := "fnExactGrowColumn", fn := fun _ => fun
  | [d] => { results := [.lit (.bool true)], args := [d] }
  | _ => none }
def fnExactGrowColumnRow : OpenClaim := { program := "ythpimindkmmkjaa", sum := "b9d5173c89f08687deb03305e39a6712b935cdcfc162467e890a6699868ee5a9", func := "loop.example/g01224/laws.FnExactGrowColumn", spec := "fnExactGrowColumn", inPlace := ["math.Float32bits", "math.archFloor", "math.Float64bits", "math.Float64frombits", "math.archTrunc"], unfollowed := true, recurses := true, plainKeys := false, apart := false }
def FnExactGrowColumnSaid : Prop := fnExactGrowColumnRow.holds Try.pinned (OpenSpec.ofChange fnExactGrowColumnSpec)

/-- ITS FALSE NEIGHBOUR: 'it returns false'. Refute it at one input. -/
def fnExactGrowColumnWrong : ChangeSpec := { name := "fnExactGrowColumn", fn := fun _ => fun
  | [d] => { results := [.lit (.bool false)], args := [d] }
  | _ => none }
def FnExactGrowColumnWrongFalsely : Prop := fnExactGrowColumnRow.holds Try.pinned (OpenSpec.ofChange fnExactGrowColumnWrong)

/-- 'laws.FnExactValidDeed': WHATEVER THE INPUT: true; the input reads as it did. -/
def fnExactValidDeedSpec : ChangeSpec := { name := "fnExactValidDeed", fn := fun _ => fun
  | [d] => { results := [.lit (.bool true)], args := [d] }
  | _ => none }
def fnExactValidDeedRow : OpenClaim := { program := "ythpimindkmmkjaa", sum := "b9d5173c89f08687deb03305e39a6712b935cdcfc162467e890a6699868ee5a9", func := "loop.example/g01224/laws.FnExactValidDeed", spec := "fnExactValidDeed", plainKeys := false, apart := false }
def FnExactValidDeedSaid : Prop := fnExactValidDeedRow.holds Try.pinned (OpenSpec.ofChange fnExactValidDeedSpec)

/-- ITS FALSE NEIGHBOUR: 'it returns false'. Refute it at one input. -/
def fnExactValidDeedWrong : ChangeSpec := { name := "fnExactValidDeed", fn := fun _ => fun
  | [d] => { results := [.lit (.bool false)], args := [d] }
  | _ => none }
def FnExactValidDeedWrongFalsely : Prop := fnExactValidDeedRow.holds Try.pinned (OpenSpec.ofChange fnExactValidDeedWrong)

/-- 'laws.FnExactCollidePairs': WHATEVER THE INPUT: true; the input reads as it did. -/
def fnExactCollidePairsSpec : ChangeSpec := { name := "fnExactCollidePairs", fn := fun _ => fun
  | [d1, d2] => { results := [.lit (.bool true)], args := [d1, d2] }
  | _ => none }
def fnExactCollidePairsRow : OpenClaim := { program := "ythpimindkmmkjaa", sum := "b9d5173c89f08687deb03305e39a6712b935cdcfc162467e890a6699868ee5a9", func := "loop.example/g01224/laws.FnExactCollidePairs", spec := "fnExactCollidePairs", inPlace := ["math.Float64bits", "math.Float64frombits"], plainKeys := false, apart := false }
def FnExactCollidePairsSaid : Prop := fnExactCollidePairsRow.holds Try.pinned (OpenSpec.ofChange fnExactCollidePairsSpec)

/-- ITS FALSE NEIGHBOUR: 'it returns false'. Refute it at one input. -/
def fnExactCollidePairsWrong : ChangeSpec := { name := "fnExactCollidePairs", fn := fun _ => fun
  | [d1, d2] => { results := [.lit (.bool false)], args := [d1, d2] }
  | _ => none }
def FnExactCollidePairsWrongFalsely : Prop := fnExactCollidePairsRow.holds Try.pinned (OpenSpec.ofChange fnExactCollidePairsWrong)

/-- 'laws.FnExactSteadySounding': WHATEVER THE INPUT: true; the input reads as it did. -/
def fnExactSteadySoundingSpec : ChangeSpec := { name := "fnExactSteadySounding", fn := fun _ => fun
  | [d] => { results := [.lit (.bool true)], args := [d] }
  | _ => none }
def fnExactSteadySoundingRow : OpenClaim := { program := "ythpimindkmmkjaa", sum := "b9d5173c89f08687deb03305e39a6712b935cdcfc162467e890a6699868ee5a9", func := "loop.example/g01224/laws.FnExactSteadySounding", spec := "fnExactSteadySounding", inPlace := ["math.Float32bits", "math.Float64bits", "math.Float64frombits"], unfollowed := true, recurses := true, plainKeys := false, apart := false }
def FnExactSteadySoundingSaid : Prop := fnExactSteadySoundingRow.holds Try.pinned (OpenSpec.ofChange fnExactSteadySoundingSpec)

/-- ITS FALSE NEIGHBOUR: 'it returns false'. Refute it at one input. -/
def fnExactSteadySoundingWrong : ChangeSpec := { name := "fnExactSteadySounding", fn := fun _ => fun
  | [d] => { results := [.lit (.bool false)], args := [d] }
  | _ => none }
def FnExactSteadySoundingWrongFalsely : Prop := fnExactSteadySoundingRow.holds Try.pinned (OpenSpec.ofChange fnExactSteadySoundingWrong)

/-- 'laws.FnExactRiseIn': WHATEVER THE INPUT: true; the input reads as it did. -/
def fnExactRiseInSpec : ChangeSpec := { name := "fnExactRiseIn", fn := fun _ => fun
  | [d1, d2, d3, d4, d5] => { results := [.lit (.bool true)], args := [d1, d2, d3, d4, d5] }
  | _ => none }
def fnExactRiseInRow : OpenClaim := { program := "ythpimindkmmkjaa", sum := "b9d5173c89f08687deb03305e39a6712b935cdcfc162467e890a6699868ee5a9", func := "loop.example/g01224/laws.FnExactRiseIn", spec := "fnExactRiseIn", inPlace := ["math.Float32bits", "math.archFloor", "math.Float64bits", "math.Float64frombits", "math.archTrunc"], unfollowed := true, recurses := true, plainKeys := false, apart := false }
def FnExactRiseInSaid : Prop := fnExactRiseInRow.holds Try.pinned (OpenSpec.ofChange fnExactRiseInSpec)

/-- ITS FALSE NEIGHBOUR: 'it returns false'. Refute it at one input. -/
def fnExactRiseInWrong : ChangeSpec := { name := "fnExactRiseIn", fn := fun _ => fun
  | [d1, d2, d3, d4, d5] => { results := [.lit (.bool false)], args := [d1, d2, d3, d4, d5] }
  | _ => none }
def FnExactRiseInWrongFalsely : Prop := fnExactRiseInRow.holds Try.pinned (OpenSpec.ofChange fnExactRiseInWrong)

/-- 'laws.FnExactThirdRoot': WHATEVER THE INPUT: true; the input reads as it did. -/
def fnExactThirdRootSpec : ChangeSpec := { name := "fnExactThirdRoot", fn := fun _ => fun
  | [d] => { results := [.lit (.bool true)], args := [d] }
  | _ => none }
def fnExactThirdRootRow : OpenClaim := { program := "ythpimindkmmkjaa", sum := "b9d5173c89f08687deb03305e39a6712b935cdcfc162467e890a6699868ee5a9", func := "loop.example/g01224/laws.FnExactThirdRoot", spec := "fnExactThirdRoot", inPlace := ["math.Float32bits", "math.Float64bits", "math.Float64frombits"], plainKeys := false, apart := false }
def FnExactThirdRootSaid : Prop := fnExactThirdRootRow.holds Try.pinned (OpenSpec.ofChange fnExactThirdRootSpec)

/-- ITS FALSE NEIGHBOUR: 'it returns false'. Refute it at one input. -/
def fnExactThirdRootWrong : ChangeSpec := { name := "fnExactThirdRoot", fn := fun _ => fun
  | [d] => { results := [.lit (.bool false)], args := [d] }
  | _ => none }
def FnExactThirdRootWrongFalsely : Prop := fnExactThirdRootRow.holds Try.pinned (OpenSpec.ofChange fnExactThirdRootWrong)

/- THE SECOND FORM. 'bulk': how many values and letters a reading holds, each counted each time it is reached (what is shared counts as often as it is met; a slice's spare places count too). A statement '..UptoSaid' is the law's where the arguments, and the package variables that the reading takes, are together of bulk at most 1048576: NARROWER than '..Said'. Prove '..Said' where nothing that the law and all that it calls make is longer than what came in: it says more and counts as full. Else prove '..UptoSaid'. A law counts once. -/
mutual
def uptoBulk {H : Type} : DataW H → Nat
  | .lit (.string bytes) => bytes.length + 1
  | .lit _ => 1
  | .nil => 1
  | .ptr d => uptoBulk d + 1
  | .slice elems spare => uptoBulkAll elems + uptoBulkAll spare + 1
  | .agg parts => uptoBulkAll parts + 1
  | .iface _ d => uptoBulk d + 1
  | .map entries => uptoBulkEntries entries + 1
  | .held _ => 1
def uptoBulkAll {H : Type} : List (DataW H) → Nat
  | [] => 0
  | d :: r => uptoBulk d + uptoBulkAll r
def uptoBulkEntries {H : Type} : List (Lit × DataW H) → Nat
  | [] => 0
  | x :: r => uptoBulkEntry x + uptoBulkEntries r
def uptoBulkEntry {H : Type} : Lit × DataW H → Nat
  | (.string bytes, d) => bytes.length + uptoBulk d + 1
  | (_, d) => uptoBulk d + 1
 end
def uptoSmall : (H : Type) → List (DataW H) → Bool := fun _ ds => decide (uptoBulkAll ds ≤ 1048576)
def OpenSpec.upto (s : _root_.Go.ChangeSpec) : _root_.Go.OpenSpec := { _root_.Go.OpenSpec.ofChange s with cond := some uptoSmall }

/-- 'laws.FnExactStirColumn', WHERE WHAT IT READS IS OF BULK AT MOST 1048576: true; the input reads as it did. -/
def fnExactStirColumnUptoRow : OpenClaim := { program := "ythpimindkmmkjaa", sum := "b9d5173c89f08687deb03305e39a6712b935cdcfc162467e890a6699868ee5a9", func := "loop.example/g01224/laws.FnExactStirColumn", spec := "fnExactStirColumn", inPlace := ["math.Float32bits", "math.Float64bits", "math.Float64frombits"], unfollowed := true, recurses := true, plainKeys := false, apart := false, narrowed := true }
def FnExactStirColumnUptoSaid : Prop := fnExactStirColumnUptoRow.holds Try.pinned (OpenSpec.upto fnExactStirColumnSpec)

/-- 'laws.FnExactGrowOnce', WHERE WHAT IT READS IS OF BULK AT MOST 1048576: true; the input reads as it did. -/
def fnExactGrowOnceUptoRow : OpenClaim := { program := "ythpimindkmmkjaa", sum := "b9d5173c89f08687deb03305e39a6712b935cdcfc162467e890a6699868ee5a9", func := "loop.example/g01224/laws.FnExactGrowOnce", spec := "fnExactGrowOnce", inPlace := ["math.Float32bits", "math.archFloor", "math.Float64bits", "math.Float64frombits", "math.archTrunc"], unfollowed := true, recurses := true, plainKeys := false, apart := false, narrowed := true }
def FnExactGrowOnceUptoSaid : Prop := fnExactGrowOnceUptoRow.holds Try.pinned (OpenSpec.upto fnExactGrowOnceSpec)

/-- 'laws.FnExactGrowSteps', WHERE WHAT IT READS IS OF BULK AT MOST 1048576: true; the input reads as it did. -/
def fnExactGrowStepsUptoRow : OpenClaim := { program := "ythpimindkmmkjaa", sum := "b9d5173c89f08687deb03305e39a6712b935cdcfc162467e890a6699868ee5a9", func := "loop.example/g01224/laws.FnExactGrowSteps", spec := "fnExactGrowSteps", inPlace := ["math.Float32bits", "math.archFloor", "math.Float64bits", "math.Float64frombits", "math.archTrunc"], unfollowed := true, recurses := true, plainKeys := false, apart := false, narrowed := true }
def FnExactGrowStepsUptoSaid : Prop := fnExactGrowStepsUptoRow.holds Try.pinned (OpenSpec.upto fnExactGrowStepsSpec)

/-- 'laws.FnExactStepsToDry', WHERE WHAT IT READS IS OF BULK AT MOST 1048576: true; the input reads as it did. -/
def fnExactStepsToDryUptoRow : OpenClaim := { program := "ythpimindkmmkjaa", sum := "b9d5173c89f08687deb03305e39a6712b935cdcfc162467e890a6699868ee5a9", func := "loop.example/g01224/laws.FnExactStepsToDry", spec := "fnExactStepsToDry", inPlace := ["math.Float32bits", "math.archFloor", "math.Float64bits", "math.Float64frombits", "math.archTrunc"], unfollowed := true, recurses := true, plainKeys := false, apart := false, narrowed := true }
def FnExactStepsToDryUptoSaid : Prop := fnExactStepsToDryUptoRow.holds Try.pinned (OpenSpec.upto fnExactStepsToDrySpec)

/-- 'laws.FnExactGrowColumn', WHERE WHAT IT READS IS OF BULK AT MOST 1048576: true; the input reads as it did. -/
def fnExactGrowColumnUptoRow : OpenClaim := { program := "ythpimindkmmkjaa", sum := "b9d5173c89f08687deb03305e39a6712b935cdcfc162467e890a6699868ee5a9", func := "loop.example/g01224/laws.FnExactGrowColumn", spec := "fnExactGrowColumn", inPlace := ["math.Float32bits", "math.archFloor", "math.Float64bits", "math.Float64frombits", "math.archTrunc"], unfollowed := true, recurses := true, plainKeys := false, apart := false, narrowed := true }
def FnExactGrowColumnUptoSaid : Prop := fnExactGrowColumnUptoRow.holds Try.pinned (OpenSpec.upto fnExactGrowColumnSpec)

/-- 'laws.FnExactValidDeed', WHERE WHAT IT READS IS OF BULK AT MOST 1048576: true; the input reads as it did. -/
def fnExactValidDeedUptoRow : OpenClaim := { program := "ythpimindkmmkjaa", sum := "b9d5173c89f08687deb03305e39a6712b935cdcfc162467e890a6699868ee5a9", func := "loop.example/g01224/laws.FnExactValidDeed", spec := "fnExactValidDeed", plainKeys := false, apart := false, narrowed := true }
def FnExactValidDeedUptoSaid : Prop := fnExactValidDeedUptoRow.holds Try.pinned (OpenSpec.upto fnExactValidDeedSpec)

/-- 'laws.FnExactCollidePairs', WHERE WHAT IT READS IS OF BULK AT MOST 1048576: true; the input reads as it did. -/
def fnExactCollidePairsUptoRow : OpenClaim := { program := "ythpimindkmmkjaa", sum := "b9d5173c89f08687deb03305e39a6712b935cdcfc162467e890a6699868ee5a9", func := "loop.example/g01224/laws.FnExactCollidePairs", spec := "fnExactCollidePairs", inPlace := ["math.Float64bits", "math.Float64frombits"], plainKeys := false, apart := false, narrowed := true }
def FnExactCollidePairsUptoSaid : Prop := fnExactCollidePairsUptoRow.holds Try.pinned (OpenSpec.upto fnExactCollidePairsSpec)

/-- 'laws.FnExactSteadySounding', WHERE WHAT IT READS IS OF BULK AT MOST 1048576: true; the input reads as it did. -/
def fnExactSteadySoundingUptoRow : OpenClaim := { program := "ythpimindkmmkjaa", sum := "b9d5173c89f08687deb03305e39a6712b935cdcfc162467e890a6699868ee5a9", func := "loop.example/g01224/laws.FnExactSteadySounding", spec := "fnExactSteadySounding", inPlace := ["math.Float32bits", "math.Float64bits", "math.Float64frombits"], unfollowed := true, recurses := true, plainKeys := false, apart := false, narrowed := true }
def FnExactSteadySoundingUptoSaid : Prop := fnExactSteadySoundingUptoRow.holds Try.pinned (OpenSpec.upto fnExactSteadySoundingSpec)

/-- 'laws.FnExactRiseIn', WHERE WHAT IT READS IS OF BULK AT MOST 1048576: true; the input reads as it did. -/
def fnExactRiseInUptoRow : OpenClaim := { program := "ythpimindkmmkjaa", sum := "b9d5173c89f08687deb03305e39a6712b935cdcfc162467e890a6699868ee5a9", func := "loop.example/g01224/laws.FnExactRiseIn", spec := "fnExactRiseIn", inPlace := ["math.Float32bits", "math.archFloor", "math.Float64bits", "math.Float64frombits", "math.archTrunc"], unfollowed := true, recurses := true, plainKeys := false, apart := false, narrowed := true }
def FnExactRiseInUptoSaid : Prop := fnExactRiseInUptoRow.holds Try.pinned (OpenSpec.upto fnExactRiseInSpec)

/-- 'laws.FnExactThirdRoot', WHERE WHAT IT READS IS OF BULK AT MOST 1048576: true; the input reads as it did. -/
def fnExactThirdRootUptoRow : OpenClaim := { program := "ythpimindkmmkjaa", sum := "b9d5173c89f08687deb03305e39a6712b935cdcfc162467e890a6699868ee5a9", func := "loop.example/g01224/laws.FnExactThirdRoot", spec := "fnExactThirdRoot", inPlace := ["math.Float32bits", "math.Float64bits", "math.Float64frombits"], plainKeys := false, apart := false, narrowed := true }
def FnExactThirdRootUptoSaid : Prop := fnExactThirdRootUptoRow.holds Try.pinned (OpenSpec.upto fnExactThirdRootSpec)

end Rows
end Go.Proofs.Ythpimindkmmkjaa
