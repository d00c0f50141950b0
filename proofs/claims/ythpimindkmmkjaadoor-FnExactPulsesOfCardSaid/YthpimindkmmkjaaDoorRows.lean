/-
  NARROWER THAN 'FOR EVERY INPUT', by the rows' own cells (each row's printed sentence says how): FnExactSpotOf: ifaces, laid · FnExactUnfoldSpeeds: ifaces, laid · FnExactNoisePulses: ifaces, laid · FnExactPulsesOf: ifaces, laid · FnExactAddBeam: ifaces, laid · FnExactDeedText: laid · FnExactReadDeed: laid · FnExactActText: laid · FnExactNumberText: laid · FnExactReadNumber: laid · FnExactSizesText: laid · FnExactReadSizes: laid.
  DERIVED. THE GIVEN ROWS OF THIS SEAT. 12 by the template 'for every input the law returns true; each argument reads behind the call as it read before'; 0 by the template 'total and deterministic' (their statements: YthpimindkmmkjaaDoorTotals.lean).
  GIVEN WITH THE SEED: the statements are not yours to turn. If you find one false, say at which input.
  Laid BY PROGRAM, IN A SANDBOX (cutbox-rows.mjs): the forced cells as the released guide's own fill.sh prints them over the translation aa85fd47bc17d2c6… (all of the seat's roots in one cut). By AI agents, Wed Nov 11 2026. No macro, syntax, notation, axiom, sorry.
-/
import Derived.Test.YthpimindkmmkjaaDoorChecked
import GoSem.PinnedTables
import GoSem.Claim
import GoSem.ClaimJoined
import GoSem.ClaimMapViews
import Derived.JoinedTies
import Derived.KernelRfl
namespace Go.Proofs.YthpimindkmmkjaaDoor
/- THE CELL 'sum', in the pinned program and in every row, IS THE sha256 OF THE DUMP (.gsa) THAT YthpimindkmmkjaaDoorProg.lean LOADS. Nothing in Lean hashes anything: it is a label: what it is worth is what the hold of that sum in a sandbox is worth. -/
noncomputable def Tryd.pinned : Pinned := { name := "ythpimindkmmkjaadoor", sum := "aa85fd47bc17d2c67958c3718a7bdfc1e78db390959cfbfae2b60e49d3c70561", checked := Tryd.checked }
namespace Rows
def none {H : Type} : Left H := { results := [], args := [] }

/- WHAT THE LISTED PACKAGE-LEVEL VARIABLES READ AS WHEN THE CALL BEGINS. Each datum BY PROGRAM (the guide's laid-datum.mjs) off the statement by which the dump's own 'gosem.cut.vars' lays the variable. In a bare row this is a premise. The card (YthpimindkmmkjaaDoorCards.lean) ties it to the program's text. -/
def laid_loop_example_g01224_impl_errUnfit {H : Type} : DataW H := .iface "*errors.errorString" (.ptr (.agg [.lit (.string [97, 110, 32, 97, 114, 103, 117, 109, 101, 110, 116, 32, 105, 115, 32, 110, 111, 116, 32, 118, 97, 108, 105, 100])]))
def laid_loop_example_g01224_impl_errBeyond {H : Type} : DataW H := .iface "*errors.errorString" (.ptr (.agg [.lit (.string [97, 110, 32, 97, 114, 103, 117, 109, 101, 110, 116, 32, 105, 115, 32, 111, 117, 116, 32, 111, 102, 32, 105, 116, 115, 32, 114, 97, 110, 103, 101])]))
def laid_loop_example_g01224_impl_errCrowded {H : Type} : DataW H := .iface "*errors.errorString" (.ptr (.agg [.lit (.string [116, 104, 101, 114, 101, 32, 119, 111, 117, 108, 100, 32, 98, 101, 32, 116, 111, 111, 32, 109, 97, 110, 121, 32, 99, 101, 108, 108, 115])]))
def laid_loop_example_g01224_impl_errNoText {H : Type} : DataW H := .iface "*errors.errorString" (.ptr (.agg [.lit (.string [116, 104, 105, 115, 32, 105, 115, 32, 116, 104, 101, 32, 116, 101, 120, 116, 32, 111, 102, 32, 110, 111, 116, 104, 105, 110, 103])]))
def laid_loop_example_g01224_impl_errNowhere {H : Type} : DataW H := .iface "*errors.errorString" (.ptr (.agg [.lit (.string [116, 104, 101, 114, 101, 32, 105, 115, 32, 110, 111, 32, 115, 117, 99, 104, 32, 99, 101, 108, 108])]))
def laid_loop_example_g01224_impl_errNoAnswer {H : Type} : DataW H := .iface "*errors.errorString" (.ptr (.agg [.lit (.string [116, 104, 101, 114, 101, 32, 105, 115, 32, 110, 111, 32, 102, 105, 110, 105, 116, 101, 32, 114, 101, 115, 117, 108, 116])]))
def laid_math_bits_deBruijn32tab {H : Type} : DataW H := .agg [.lit (.int .u8 0), .lit (.int .u8 1), .lit (.int .u8 28), .lit (.int .u8 2), .lit (.int .u8 29), .lit (.int .u8 14), .lit (.int .u8 24), .lit (.int .u8 3), .lit (.int .u8 30), .lit (.int .u8 22), .lit (.int .u8 20), .lit (.int .u8 15), .lit (.int .u8 25), .lit (.int .u8 17), .lit (.int .u8 4), .lit (.int .u8 8), .lit (.int .u8 31), .lit (.int .u8 27), .lit (.int .u8 13), .lit (.int .u8 23), .lit (.int .u8 21), .lit (.int .u8 19), .lit (.int .u8 16), .lit (.int .u8 7), .lit (.int .u8 26), .lit (.int .u8 12), .lit (.int .u8 18), .lit (.int .u8 6), .lit (.int .u8 11), .lit (.int .u8 5), .lit (.int .u8 10), .lit (.int .u8 9)]
def laid_math_bits_deBruijn64tab {H : Type} : DataW H := .agg [.lit (.int .u8 0), .lit (.int .u8 1), .lit (.int .u8 56), .lit (.int .u8 2), .lit (.int .u8 57), .lit (.int .u8 49), .lit (.int .u8 28), .lit (.int .u8 3), .lit (.int .u8 61), .lit (.int .u8 58), .lit (.int .u8 42), .lit (.int .u8 50), .lit (.int .u8 38), .lit (.int .u8 29), .lit (.int .u8 17), .lit (.int .u8 4), .lit (.int .u8 62), .lit (.int .u8 47), .lit (.int .u8 59), .lit (.int .u8 36), .lit (.int .u8 45), .lit (.int .u8 43), .lit (.int .u8 51), .lit (.int .u8 22), .lit (.int .u8 53), .lit (.int .u8 39), .lit (.int .u8 33), .lit (.int .u8 30), .lit (.int .u8 24), .lit (.int .u8 18), .lit (.int .u8 12), .lit (.int .u8 5), .lit (.int .u8 63), .lit (.int .u8 55), .lit (.int .u8 48), .lit (.int .u8 27), .lit (.int .u8 60), .lit (.int .u8 41), .lit (.int .u8 37), .lit (.int .u8 16), .lit (.int .u8 46), .lit (.int .u8 35), .lit (.int .u8 44), .lit (.int .u8 21), .lit (.int .u8 52), .lit (.int .u8 32), .lit (.int .u8 23), .lit (.int .u8 11), .lit (.int .u8 54), .lit (.int .u8 26), .lit (.int .u8 40), .lit (.int .u8 15), .lit (.int .u8 34), .lit (.int .u8 20), .lit (.int .u8 31), .lit (.int .u8 10), .lit (.int .u8 25), .lit (.int .u8 14), .lit (.int .u8 19), .lit (.int .u8 9), .lit (.int .u8 13), .lit (.int .u8 8), .lit (.int .u8 7), .lit (.int .u8 6)]
def laid_internal_strconv_uint64pow10 {H : Type} : DataW H := .agg [.lit (.int .u64 1), .lit (.int .u64 10), .lit (.int .u64 100), .lit (.int .u64 1000), .lit (.int .u64 10000), .lit (.int .u64 100000), .lit (.int .u64 1000000), .lit (.int .u64 10000000), .lit (.int .u64 100000000), .lit (.int .u64 1000000000), .lit (.int .u64 10000000000), .lit (.int .u64 100000000000), .lit (.int .u64 1000000000000), .lit (.int .u64 10000000000000), .lit (.int .u64 100000000000000), .lit (.int .u64 1000000000000000), .lit (.int .u64 10000000000000000), .lit (.int .u64 100000000000000000), .lit (.int .u64 1000000000000000000), .lit (.int .u64 10000000000000000000)]
def laid_unicode_utf8_acceptRanges {H : Type} : DataW H := .agg [.agg [.lit (.int .u8 128), .lit (.int .u8 191)], .agg [.lit (.int .u8 160), .lit (.int .u8 191)], .agg [.lit (.int .u8 128), .lit (.int .u8 159)], .agg [.lit (.int .u8 144), .lit (.int .u8 191)], .agg [.lit (.int .u8 128), .lit (.int .u8 143)], .agg [.lit (.int .u8 0), .lit (.int .u8 0)], .agg [.lit (.int .u8 0), .lit (.int .u8 0)], .agg [.lit (.int .u8 0), .lit (.int .u8 0)], .agg [.lit (.int .u8 0), .lit (.int .u8 0)], .agg [.lit (.int .u8 0), .lit (.int .u8 0)], .agg [.lit (.int .u8 0), .lit (.int .u8 0)], .agg [.lit (.int .u8 0), .lit (.int .u8 0)], .agg [.lit (.int .u8 0), .lit (.int .u8 0)], .agg [.lit (.int .u8 0), .lit (.int .u8 0)], .agg [.lit (.int .u8 0), .lit (.int .u8 0)], .agg [.lit (.int .u8 0), .lit (.int .u8 0)]]
def laid_strconv_ErrRange {H : Type} : DataW H := .iface "*errors.errorString" (.ptr (.agg [.lit (.string [118, 97, 108, 117, 101, 32, 111, 117, 116, 32, 111, 102, 32, 114, 97, 110, 103, 101])]))
def laid_strconv_ErrSyntax {H : Type} : DataW H := .iface "*errors.errorString" (.ptr (.agg [.lit (.string [105, 110, 118, 97, 108, 105, 100, 32, 115, 121, 110, 116, 97, 120])]))
/-- One of Go's own tables, pinned by name: the form's constant. -/
def laid_unicode_utf8_first : DataW Unit := Go.Pinned.utf8First

/-- 'laws.FnExactSpotOf': WHATEVER THE INPUT: true; the input reads as it did. -/
def fnExactSpotOfSpec : ChangeSpec := { name := "fnExactSpotOf", vars := ["loop.example/g01224/impl.errBeyond", "loop.example/g01224/impl.errUnfit", "loop.example/g01224/impl.errCrowded", "loop.example/g01224/impl.errNoText", "loop.example/g01224/impl.errNowhere"], fn := fun _ => fun
  | [d1, d2, g1, g2, g3, g4, g5] => { results := [.lit (.bool true)], args := [d1, d2], vars := [g1, g2, g3, g4, g5] }
  | _ => none }
def fnExactSpotOfRow : OpenClaim := { program := "ythpimindkmmkjaadoor", sum := "aa85fd47bc17d2c67958c3718a7bdfc1e78db390959cfbfae2b60e49d3c70561", func := "loop.example/g01224/laws.FnExactSpotOf", spec := "fnExactSpotOf", inPlace := ["math.Float64frombits", "math.RoundToEven", "math.Float64bits", "internal/reflectlite.TypeOf"], unfollowed := true, recurses := true, named := ["loop.example/g01224/impl.errBeyond", "loop.example/g01224/impl.errUnfit", "loop.example/g01224/impl.errCrowded", "loop.example/g01224/impl.errNoText", "loop.example/g01224/impl.errNowhere"], ifaces := true, plainKeys := false, apart := false, laid := [("loop.example/g01224/impl.errUnfit", laid_loop_example_g01224_impl_errUnfit), ("loop.example/g01224/impl.errBeyond", laid_loop_example_g01224_impl_errBeyond), ("loop.example/g01224/impl.errCrowded", laid_loop_example_g01224_impl_errCrowded), ("loop.example/g01224/impl.errNoText", laid_loop_example_g01224_impl_errNoText), ("loop.example/g01224/impl.errNowhere", laid_loop_example_g01224_impl_errNowhere)] }
def FnExactSpotOfSaid : Prop := fnExactSpotOfRow.holds Tryd.pinned (OpenSpec.ofChange fnExactSpotOfSpec)

/-- ITS FALSE NEIGHBOUR: 'it returns false'. Refute it at one input. -/
def fnExactSpotOfWrong : ChangeSpec := { name := "fnExactSpotOf", vars := ["loop.example/g01224/impl.errBeyond", "loop.example/g01224/impl.errUnfit", "loop.example/g01224/impl.errCrowded", "loop.example/g01224/impl.errNoText", "loop.example/g01224/impl.errNowhere"], fn := fun _ => fun
  | [d1, d2, g1, g2, g3, g4, g5] => { results := [.lit (.bool false)], args := [d1, d2], vars := [g1, g2, g3, g4, g5] }
  | _ => none }
def FnExactSpotOfWrongFalsely : Prop := fnExactSpotOfRow.holds Tryd.pinned (OpenSpec.ofChange fnExactSpotOfWrong)

/-- 'laws.FnExactUnfoldSpeeds': WHATEVER THE INPUT: true; the input reads as it did. -/
def fnExactUnfoldSpeedsSpec : ChangeSpec := { name := "fnExactUnfoldSpeeds", vars := ["loop.example/g01224/impl.errBeyond", "loop.example/g01224/impl.errUnfit", "loop.example/g01224/impl.errCrowded", "loop.example/g01224/impl.errNoText", "loop.example/g01224/impl.errNowhere", "loop.example/g01224/impl.errNoAnswer"], fn := fun _ => fun
  | [d1, d2, g1, g2, g3, g4, g5, g6] => { results := [.lit (.bool true)], args := [d1, d2], vars := [g1, g2, g3, g4, g5, g6] }
  | _ => none }
def fnExactUnfoldSpeedsRow : OpenClaim := { program := "ythpimindkmmkjaadoor", sum := "aa85fd47bc17d2c67958c3718a7bdfc1e78db390959cfbfae2b60e49d3c70561", func := "loop.example/g01224/laws.FnExactUnfoldSpeeds", spec := "fnExactUnfoldSpeeds", inPlace := ["math.RoundToEven", "internal/reflectlite.TypeOf", "math.Float64bits", "math.Float64frombits"], unfollowed := true, recurses := true, named := ["loop.example/g01224/impl.errBeyond", "loop.example/g01224/impl.errUnfit", "loop.example/g01224/impl.errCrowded", "loop.example/g01224/impl.errNoText", "loop.example/g01224/impl.errNowhere", "loop.example/g01224/impl.errNoAnswer"], ifaces := true, plainKeys := false, apart := false, laid := [("loop.example/g01224/impl.errUnfit", laid_loop_example_g01224_impl_errUnfit), ("loop.example/g01224/impl.errBeyond", laid_loop_example_g01224_impl_errBeyond), ("loop.example/g01224/impl.errCrowded", laid_loop_example_g01224_impl_errCrowded), ("loop.example/g01224/impl.errNoAnswer", laid_loop_example_g01224_impl_errNoAnswer), ("loop.example/g01224/impl.errNoText", laid_loop_example_g01224_impl_errNoText), ("loop.example/g01224/impl.errNowhere", laid_loop_example_g01224_impl_errNowhere)] }
def FnExactUnfoldSpeedsSaid : Prop := fnExactUnfoldSpeedsRow.holds Tryd.pinned (OpenSpec.ofChange fnExactUnfoldSpeedsSpec)

/-- ITS FALSE NEIGHBOUR: 'it returns false'. Refute it at one input. -/
def fnExactUnfoldSpeedsWrong : ChangeSpec := { name := "fnExactUnfoldSpeeds", vars := ["loop.example/g01224/impl.errBeyond", "loop.example/g01224/impl.errUnfit", "loop.example/g01224/impl.errCrowded", "loop.example/g01224/impl.errNoText", "loop.example/g01224/impl.errNowhere", "loop.example/g01224/impl.errNoAnswer"], fn := fun _ => fun
  | [d1, d2, g1, g2, g3, g4, g5, g6] => { results := [.lit (.bool false)], args := [d1, d2], vars := [g1, g2, g3, g4, g5, g6] }
  | _ => none }
def FnExactUnfoldSpeedsWrongFalsely : Prop := fnExactUnfoldSpeedsRow.holds Tryd.pinned (OpenSpec.ofChange fnExactUnfoldSpeedsWrong)

/-- 'laws.FnExactNoisePulses': WHATEVER THE INPUT: true; the input reads as it did. -/
def fnExactNoisePulsesSpec : ChangeSpec := { name := "fnExactNoisePulses", vars := ["loop.example/g01224/impl.errBeyond", "loop.example/g01224/impl.errUnfit", "loop.example/g01224/impl.errCrowded", "loop.example/g01224/impl.errNoText", "loop.example/g01224/impl.errNowhere"], fn := fun _ => fun
  | [d1, d2, d3, g1, g2, g3, g4, g5] => { results := [.lit (.bool true)], args := [d1, d2, d3], vars := [g1, g2, g3, g4, g5] }
  | _ => none }
def fnExactNoisePulsesRow : OpenClaim := { program := "ythpimindkmmkjaadoor", sum := "aa85fd47bc17d2c67958c3718a7bdfc1e78db390959cfbfae2b60e49d3c70561", func := "loop.example/g01224/laws.FnExactNoisePulses", spec := "fnExactNoisePulses", inPlace := ["math.Float32bits", "math.Float64bits", "math.Float64frombits", "internal/reflectlite.TypeOf"], unfollowed := true, recurses := true, named := ["loop.example/g01224/impl.errBeyond", "loop.example/g01224/impl.errUnfit", "loop.example/g01224/impl.errCrowded", "loop.example/g01224/impl.errNoText", "loop.example/g01224/impl.errNowhere"], ifaces := true, plainKeys := false, apart := false, laid := [("loop.example/g01224/impl.errUnfit", laid_loop_example_g01224_impl_errUnfit), ("loop.example/g01224/impl.errBeyond", laid_loop_example_g01224_impl_errBeyond), ("loop.example/g01224/impl.errCrowded", laid_loop_example_g01224_impl_errCrowded), ("loop.example/g01224/impl.errNoText", laid_loop_example_g01224_impl_errNoText), ("loop.example/g01224/impl.errNowhere", laid_loop_example_g01224_impl_errNowhere)] }
def FnExactNoisePulsesSaid : Prop := fnExactNoisePulsesRow.holds Tryd.pinned (OpenSpec.ofChange fnExactNoisePulsesSpec)

/-- ITS FALSE NEIGHBOUR: 'it returns false'. Refute it at one input. -/
def fnExactNoisePulsesWrong : ChangeSpec := { name := "fnExactNoisePulses", vars := ["loop.example/g01224/impl.errBeyond", "loop.example/g01224/impl.errUnfit", "loop.example/g01224/impl.errCrowded", "loop.example/g01224/impl.errNoText", "loop.example/g01224/impl.errNowhere"], fn := fun _ => fun
  | [d1, d2, d3, g1, g2, g3, g4, g5] => { results := [.lit (.bool false)], args := [d1, d2, d3], vars := [g1, g2, g3, g4, g5] }
  | _ => none }
def FnExactNoisePulsesWrongFalsely : Prop := fnExactNoisePulsesRow.holds Tryd.pinned (OpenSpec.ofChange fnExactNoisePulsesWrong)

/-- 'laws.FnExactPulsesOf': WHATEVER THE INPUT: true; the input reads as it did. -/
def fnExactPulsesOfSpec : ChangeSpec := { name := "fnExactPulsesOf", vars := ["loop.example/g01224/impl.errBeyond", "loop.example/g01224/impl.errUnfit", "loop.example/g01224/impl.errCrowded", "loop.example/g01224/impl.errNoText", "loop.example/g01224/impl.errNowhere", "loop.example/g01224/impl.errNoAnswer"], fn := fun _ => fun
  | [d1, d2, d3, d4, g1, g2, g3, g4, g5, g6] => { results := [.lit (.bool true)], args := [d1, d2, d3, d4], vars := [g1, g2, g3, g4, g5, g6] }
  | _ => none }
def fnExactPulsesOfRow : OpenClaim := { program := "ythpimindkmmkjaadoor", sum := "aa85fd47bc17d2c67958c3718a7bdfc1e78db390959cfbfae2b60e49d3c70561", func := "loop.example/g01224/laws.FnExactPulsesOf", spec := "fnExactPulsesOf", inPlace := ["math.Float32bits", "math.Float64frombits", "math.RoundToEven", "math.Float64bits", "internal/reflectlite.TypeOf"], unfollowed := true, recurses := true, named := ["loop.example/g01224/impl.errBeyond", "loop.example/g01224/impl.errUnfit", "loop.example/g01224/impl.errCrowded", "loop.example/g01224/impl.errNoText", "loop.example/g01224/impl.errNowhere", "loop.example/g01224/impl.errNoAnswer"], ifaces := true, plainKeys := false, apart := false, laid := [("loop.example/g01224/impl.errUnfit", laid_loop_example_g01224_impl_errUnfit), ("loop.example/g01224/impl.errBeyond", laid_loop_example_g01224_impl_errBeyond), ("loop.example/g01224/impl.errCrowded", laid_loop_example_g01224_impl_errCrowded), ("loop.example/g01224/impl.errNoAnswer", laid_loop_example_g01224_impl_errNoAnswer), ("loop.example/g01224/impl.errNoText", laid_loop_example_g01224_impl_errNoText), ("loop.example/g01224/impl.errNowhere", laid_loop_example_g01224_impl_errNowhere)] }
def FnExactPulsesOfSaid : Prop := fnExactPulsesOfRow.holds Tryd.pinned (OpenSpec.ofChange fnExactPulsesOfSpec)

/-- ITS FALSE NEIGHBOUR: 'it returns false'. Refute it at one input. -/
def fnExactPulsesOfWrong : ChangeSpec := { name := "fnExactPulsesOf", vars := ["loop.example/g01224/impl.errBeyond", "loop.example/g01224/impl.errUnfit", "loop.example/g01224/impl.errCrowded", "loop.example/g01224/impl.errNoText", "loop.example/g01224/impl.errNowhere", "loop.example/g01224/impl.errNoAnswer"], fn := fun _ => fun
  | [d1, d2, d3, d4, g1, g2, g3, g4, g5, g6] => { results := [.lit (.bool false)], args := [d1, d2, d3, d4], vars := [g1, g2, g3, g4, g5, g6] }
  | _ => none }
def FnExactPulsesOfWrongFalsely : Prop := fnExactPulsesOfRow.holds Tryd.pinned (OpenSpec.ofChange fnExactPulsesOfWrong)

/-- 'laws.FnExactAddBeam': WHATEVER THE INPUT: true; the input reads as it did. -/
def fnExactAddBeamSpec : ChangeSpec := { name := "fnExactAddBeam", vars := ["loop.example/g01224/impl.errCrowded", "loop.example/g01224/impl.errUnfit", "loop.example/g01224/impl.errBeyond", "loop.example/g01224/impl.errNoText", "loop.example/g01224/impl.errNowhere"], fn := fun _ => fun
  | [d1, d2, d3, g1, g2, g3, g4, g5] => { results := [.lit (.bool true)], args := [d1, d2, d3], vars := [g1, g2, g3, g4, g5] }
  | _ => none }
def fnExactAddBeamRow : OpenClaim := { program := "ythpimindkmmkjaadoor", sum := "aa85fd47bc17d2c67958c3718a7bdfc1e78db390959cfbfae2b60e49d3c70561", func := "loop.example/g01224/laws.FnExactAddBeam", spec := "fnExactAddBeam", inPlace := ["math.Float32bits", "math.Float64frombits", "math.RoundToEven", "math.Float64bits", "internal/reflectlite.TypeOf"], unfollowed := true, recurses := true, named := ["loop.example/g01224/impl.errCrowded", "loop.example/g01224/impl.errUnfit", "loop.example/g01224/impl.errBeyond", "loop.example/g01224/impl.errNoText", "loop.example/g01224/impl.errNowhere"], ifaces := true, plainKeys := false, apart := false, laid := [("loop.example/g01224/impl.errUnfit", laid_loop_example_g01224_impl_errUnfit), ("loop.example/g01224/impl.errBeyond", laid_loop_example_g01224_impl_errBeyond), ("loop.example/g01224/impl.errCrowded", laid_loop_example_g01224_impl_errCrowded), ("loop.example/g01224/impl.errNoText", laid_loop_example_g01224_impl_errNoText), ("loop.example/g01224/impl.errNowhere", laid_loop_example_g01224_impl_errNowhere)] }
def FnExactAddBeamSaid : Prop := fnExactAddBeamRow.holds Tryd.pinned (OpenSpec.ofChange fnExactAddBeamSpec)

/-- ITS FALSE NEIGHBOUR: 'it returns false'. Refute it at one input. -/
def fnExactAddBeamWrong : ChangeSpec := { name := "fnExactAddBeam", vars := ["loop.example/g01224/impl.errCrowded", "loop.example/g01224/impl.errUnfit", "loop.example/g01224/impl.errBeyond", "loop.example/g01224/impl.errNoText", "loop.example/g01224/impl.errNowhere"], fn := fun _ => fun
  | [d1, d2, d3, g1, g2, g3, g4, g5] => { results := [.lit (.bool false)], args := [d1, d2, d3], vars := [g1, g2, g3, g4, g5] }
  | _ => none }
def FnExactAddBeamWrongFalsely : Prop := fnExactAddBeamRow.holds Tryd.pinned (OpenSpec.ofChange fnExactAddBeamWrong)

/-- 'laws.FnExactDeedText': WHATEVER THE INPUT: true; the input reads as it did. -/
def fnExactDeedTextSpec : ChangeSpec := { name := "fnExactDeedText", fn := fun _ => fun
  | [d] => { results := [.lit (.bool true)], args := [d] }
  | _ => none }
def fnExactDeedTextRow : OpenClaim := { program := "ythpimindkmmkjaadoor", sum := "aa85fd47bc17d2c67958c3718a7bdfc1e78db390959cfbfae2b60e49d3c70561", func := "loop.example/g01224/laws.FnExactDeedText", spec := "fnExactDeedText", recurses := true, named := ["internal/strconv.uint64pow10", "math/bits.deBruijn32tab", "math/bits.deBruijn64tab"], plainKeys := false, apart := false, laid := [("math/bits.deBruijn32tab", laid_math_bits_deBruijn32tab), ("math/bits.deBruijn64tab", laid_math_bits_deBruijn64tab), ("internal/strconv.uint64pow10", laid_internal_strconv_uint64pow10)] }
def FnExactDeedTextSaid : Prop := fnExactDeedTextRow.holds Tryd.pinned (OpenSpec.ofChange fnExactDeedTextSpec)

/-- ITS FALSE NEIGHBOUR: 'it returns false'. Refute it at one input. -/
def fnExactDeedTextWrong : ChangeSpec := { name := "fnExactDeedText", fn := fun _ => fun
  | [d] => { results := [.lit (.bool false)], args := [d] }
  | _ => none }
def FnExactDeedTextWrongFalsely : Prop := fnExactDeedTextRow.holds Tryd.pinned (OpenSpec.ofChange fnExactDeedTextWrong)

/-- 'laws.FnExactReadDeed': WHATEVER THE INPUT: true; the input reads as it did. -/
def fnExactReadDeedSpec : ChangeSpec := { name := "fnExactReadDeed", fn := fun _ => fun
  | [d] => { results := [.lit (.bool true)], args := [d] }
  | _ => none }
def fnExactReadDeedRow : OpenClaim := { program := "ythpimindkmmkjaadoor", sum := "aa85fd47bc17d2c67958c3718a7bdfc1e78db390959cfbfae2b60e49d3c70561", func := "loop.example/g01224/laws.FnExactReadDeed", spec := "fnExactReadDeed", inPlace := ["internal/bytealg.CountString", "internal/bytealg.IndexByteString", "internal/bytealg.IndexString"], named := ["unicode/utf8.first", "unicode/utf8.acceptRanges", "internal/bytealg.MaxLen", "strconv.ErrSyntax", "strconv.ErrRange", "internal/strconv.uint64pow10", "math/bits.deBruijn32tab", "math/bits.deBruijn64tab"], plainKeys := false, apart := false, laid := [("math/bits.deBruijn32tab", laid_math_bits_deBruijn32tab), ("math/bits.deBruijn64tab", laid_math_bits_deBruijn64tab), ("internal/strconv.uint64pow10", laid_internal_strconv_uint64pow10), ("unicode/utf8.acceptRanges", laid_unicode_utf8_acceptRanges), ("strconv.ErrRange", laid_strconv_ErrRange), ("strconv.ErrSyntax", laid_strconv_ErrSyntax), ("unicode/utf8.first", laid_unicode_utf8_first)] }
def FnExactReadDeedSaid : Prop := fnExactReadDeedRow.holds Tryd.pinned (OpenSpec.ofChange fnExactReadDeedSpec)

/-- ITS FALSE NEIGHBOUR: 'it returns false'. Refute it at one input. -/
def fnExactReadDeedWrong : ChangeSpec := { name := "fnExactReadDeed", fn := fun _ => fun
  | [d] => { results := [.lit (.bool false)], args := [d] }
  | _ => none }
def FnExactReadDeedWrongFalsely : Prop := fnExactReadDeedRow.holds Tryd.pinned (OpenSpec.ofChange fnExactReadDeedWrong)

/-- 'laws.FnExactActText': WHATEVER THE INPUT: true; the input reads as it did. -/
def fnExactActTextSpec : ChangeSpec := { name := "fnExactActText", fn := fun _ => fun
  | [d] => { results := [.lit (.bool true)], args := [d] }
  | _ => none }
def fnExactActTextRow : OpenClaim := { program := "ythpimindkmmkjaadoor", sum := "aa85fd47bc17d2c67958c3718a7bdfc1e78db390959cfbfae2b60e49d3c70561", func := "loop.example/g01224/laws.FnExactActText", spec := "fnExactActText", inPlace := ["math.Float32bits", "math.archFloor", "math.Float64bits", "math.Float64frombits", "math.archTrunc", "internal/bytealg.IndexByteString", "internal/bytealg.IndexString"], recurses := true, named := ["internal/strconv.uint64pow10", "math/bits.deBruijn32tab", "math/bits.deBruijn64tab", "internal/bytealg.MaxLen"], plainKeys := false, apart := false, laid := [("math/bits.deBruijn32tab", laid_math_bits_deBruijn32tab), ("math/bits.deBruijn64tab", laid_math_bits_deBruijn64tab), ("internal/strconv.uint64pow10", laid_internal_strconv_uint64pow10)] }
def FnExactActTextSaid : Prop := fnExactActTextRow.holds Tryd.pinned (OpenSpec.ofChange fnExactActTextSpec)

/-- ITS FALSE NEIGHBOUR: 'it returns false'. Refute it at one input. -/
def fnExactActTextWrong : ChangeSpec := { name := "fnExactActText", fn := fun _ => fun
  | [d] => { results := [.lit (.bool false)], args := [d] }
  | _ => none }
def FnExactActTextWrongFalsely : Prop := fnExactActTextRow.holds Tryd.pinned (OpenSpec.ofChange fnExactActTextWrong)

/-- 'laws.FnExactNumberText': WHATEVER THE INPUT: true; the input reads as it did. -/
def fnExactNumberTextSpec : ChangeSpec := { name := "fnExactNumberText", fn := fun _ => fun
  | [d] => { results := [.lit (.bool true)], args := [d] }
  | _ => none }
def fnExactNumberTextRow : OpenClaim := { program := "ythpimindkmmkjaadoor", sum := "aa85fd47bc17d2c67958c3718a7bdfc1e78db390959cfbfae2b60e49d3c70561", func := "loop.example/g01224/laws.FnExactNumberText", spec := "fnExactNumberText", inPlace := ["math.Float32bits", "internal/abi.NoEscape", "internal/bytealg.MakeNoZero"], named := ["internal/strconv.uint64pow10", "math/bits.deBruijn32tab", "math/bits.deBruijn64tab"], plainKeys := false, apart := false, laid := [("math/bits.deBruijn32tab", laid_math_bits_deBruijn32tab), ("math/bits.deBruijn64tab", laid_math_bits_deBruijn64tab), ("internal/strconv.uint64pow10", laid_internal_strconv_uint64pow10)] }
def FnExactNumberTextSaid : Prop := fnExactNumberTextRow.holds Tryd.pinned (OpenSpec.ofChange fnExactNumberTextSpec)

/-- ITS FALSE NEIGHBOUR: 'it returns false'. Refute it at one input. -/
def fnExactNumberTextWrong : ChangeSpec := { name := "fnExactNumberText", fn := fun _ => fun
  | [d] => { results := [.lit (.bool false)], args := [d] }
  | _ => none }
def FnExactNumberTextWrongFalsely : Prop := fnExactNumberTextRow.holds Tryd.pinned (OpenSpec.ofChange fnExactNumberTextWrong)

/-- 'laws.FnExactReadNumber': WHATEVER THE INPUT: true; the input reads as it did. -/
def fnExactReadNumberSpec : ChangeSpec := { name := "fnExactReadNumber", fn := fun _ => fun
  | [d] => { results := [.lit (.bool true)], args := [d] }
  | _ => none }
def fnExactReadNumberRow : OpenClaim := { program := "ythpimindkmmkjaadoor", sum := "aa85fd47bc17d2c67958c3718a7bdfc1e78db390959cfbfae2b60e49d3c70561", func := "loop.example/g01224/laws.FnExactReadNumber", spec := "fnExactReadNumber", inPlace := ["math.Float32frombits", "math.Float32bits", "internal/abi.NoEscape", "internal/bytealg.MakeNoZero"], named := ["strconv.ErrSyntax", "strconv.ErrRange", "internal/strconv.uint64pow10", "math/bits.deBruijn32tab", "math/bits.deBruijn64tab"], plainKeys := false, apart := false, laid := [("math/bits.deBruijn32tab", laid_math_bits_deBruijn32tab), ("math/bits.deBruijn64tab", laid_math_bits_deBruijn64tab), ("internal/strconv.uint64pow10", laid_internal_strconv_uint64pow10), ("strconv.ErrRange", laid_strconv_ErrRange), ("strconv.ErrSyntax", laid_strconv_ErrSyntax)] }
def FnExactReadNumberSaid : Prop := fnExactReadNumberRow.holds Tryd.pinned (OpenSpec.ofChange fnExactReadNumberSpec)

/-- ITS FALSE NEIGHBOUR: 'it returns false'. Refute it at one input. -/
def fnExactReadNumberWrong : ChangeSpec := { name := "fnExactReadNumber", fn := fun _ => fun
  | [d] => { results := [.lit (.bool false)], args := [d] }
  | _ => none }
def FnExactReadNumberWrongFalsely : Prop := fnExactReadNumberRow.holds Tryd.pinned (OpenSpec.ofChange fnExactReadNumberWrong)

/-- 'laws.FnExactSizesText': WHATEVER THE INPUT: true; the input reads as it did. -/
def fnExactSizesTextSpec : ChangeSpec := { name := "fnExactSizesText", fn := fun _ => fun
  | [d] => { results := [.lit (.bool true)], args := [d] }
  | _ => none }
def fnExactSizesTextRow : OpenClaim := { program := "ythpimindkmmkjaadoor", sum := "aa85fd47bc17d2c67958c3718a7bdfc1e78db390959cfbfae2b60e49d3c70561", func := "loop.example/g01224/laws.FnExactSizesText", spec := "fnExactSizesText", inPlace := ["math.Float32bits", "math.Float64bits", "math.Float64frombits", "internal/abi.NoEscape", "internal/bytealg.MakeNoZero"], named := ["internal/strconv.uint64pow10", "math/bits.deBruijn32tab", "math/bits.deBruijn64tab"], plainKeys := false, apart := false, laid := [("math/bits.deBruijn32tab", laid_math_bits_deBruijn32tab), ("math/bits.deBruijn64tab", laid_math_bits_deBruijn64tab), ("internal/strconv.uint64pow10", laid_internal_strconv_uint64pow10)] }
def FnExactSizesTextSaid : Prop := fnExactSizesTextRow.holds Tryd.pinned (OpenSpec.ofChange fnExactSizesTextSpec)

/-- ITS FALSE NEIGHBOUR: 'it returns false'. Refute it at one input. -/
def fnExactSizesTextWrong : ChangeSpec := { name := "fnExactSizesText", fn := fun _ => fun
  | [d] => { results := [.lit (.bool false)], args := [d] }
  | _ => none }
def FnExactSizesTextWrongFalsely : Prop := fnExactSizesTextRow.holds Tryd.pinned (OpenSpec.ofChange fnExactSizesTextWrong)

/-- 'laws.FnExactReadSizes': WHATEVER THE INPUT: true; the input reads as it did. -/
def fnExactReadSizesSpec : ChangeSpec := { name := "fnExactReadSizes", fn := fun _ => fun
  | [d] => { results := [.lit (.bool true)], args := [d] }
  | _ => none }
def fnExactReadSizesRow : OpenClaim := { program := "ythpimindkmmkjaadoor", sum := "aa85fd47bc17d2c67958c3718a7bdfc1e78db390959cfbfae2b60e49d3c70561", func := "loop.example/g01224/laws.FnExactReadSizes", spec := "fnExactReadSizes", inPlace := ["math.Float32frombits", "math.Float32bits", "internal/bytealg.CountString", "internal/bytealg.IndexByteString", "internal/bytealg.IndexString", "internal/abi.NoEscape", "internal/bytealg.MakeNoZero", "math.Float64bits", "math.Float64frombits"], named := ["unicode/utf8.first", "unicode/utf8.acceptRanges", "internal/bytealg.MaxLen", "strconv.ErrSyntax", "strconv.ErrRange", "internal/strconv.uint64pow10", "math/bits.deBruijn32tab", "math/bits.deBruijn64tab"], plainKeys := false, apart := false, laid := [("math/bits.deBruijn32tab", laid_math_bits_deBruijn32tab), ("math/bits.deBruijn64tab", laid_math_bits_deBruijn64tab), ("internal/strconv.uint64pow10", laid_internal_strconv_uint64pow10), ("unicode/utf8.acceptRanges", laid_unicode_utf8_acceptRanges), ("strconv.ErrRange", laid_strconv_ErrRange), ("strconv.ErrSyntax", laid_strconv_ErrSyntax), ("unicode/utf8.first", laid_unicode_utf8_first)] }
def FnExactReadSizesSaid : Prop := fnExactReadSizesRow.holds Tryd.pinned (OpenSpec.ofChange fnExactReadSizesSpec)

/-- ITS FALSE NEIGHBOUR: 'it returns false'. Refute it at one input. -/
def fnExactReadSizesWrong : ChangeSpec := { name := "fnExactReadSizes", fn := fun _ => fun
  | [d] => { results := [.lit (.bool false)], args := [d] }
  | _ => none }
def FnExactReadSizesWrongFalsely : Prop := fnExactReadSizesRow.holds Tryd.pinned (OpenSpec.ofChange fnExactReadSizesWrong)

/- THE SECOND FORM. 'bulk': how many values and letters a reading holds, each counted each time it is reached (what is shared counts as often as it is met; a slice's spare places count too). A statement '..UptoSaid' is the law's where the arguments, and the package variables that the reading takes, are together of bulk at most 1048576: NARROWER than '..Said'. Prove '..Said' where nothing that the law and all that it calls make is longer than what came in: it says more and counts as full. Else prove '..UptoSaid'. A law counts once. -/
mutual
def uptoBulk {H : Type} : DataW H → Nat
  | .lit (.string bytes) => bytes.length + 1
  | .lit _ => 1
  | .nil => 1
  | .ptr d => uptoBulk d + 1
  | .slice elems spare => uptoBulkAll elems + uptoBulkAll spare + 1
  | .agg parts => uptoBulkAll parts + 1
  | .iface _ d => uptoBulk d + 1
  | .map entries => uptoBulkEntries entries + 1
  | .held _ => 1
def uptoBulkAll {H : Type} : List (DataW H) → Nat
  | [] => 0
  | d :: r => uptoBulk d + uptoBulkAll r
def uptoBulkEntries {H : Type} : List (Lit × DataW H) → Nat
  | [] => 0
  | x :: r => uptoBulkEntry x + uptoBulkEntries r
def uptoBulkEntry {H : Type} : Lit × DataW H → Nat
  | (.string bytes, d) => bytes.length + uptoBulk d + 1
  | (_, d) => uptoBulk d + 1
 end
def uptoSmall : (H : Type) → List (DataW H) → Bool := fun _ ds => decide (uptoBulkAll ds ≤ 1048576)
def OpenSpec.upto (s : _root_.Go.ChangeSpec) : _root_.Go.OpenSpec := { _root_.Go.OpenSpec.ofChange s with cond := some uptoSmall }

/-- 'laws.FnExactSpotOf', WHERE WHAT IT READS IS OF BULK AT MOST 1048576: true; the input reads as it did. -/
def fnExactSpotOfUptoRow : OpenClaim := { program := "ythpimindkmmkjaadoor", sum := "aa85fd47bc17d2c67958c3718a7bdfc1e78db390959cfbfae2b60e49d3c70561", func := "loop.example/g01224/laws.FnExactSpotOf", spec := "fnExactSpotOf", inPlace := ["math.Float64frombits", "math.RoundToEven", "math.Float64bits", "internal/reflectlite.TypeOf"], unfollowed := true, recurses := true, named := ["loop.example/g01224/impl.errBeyond", "loop.example/g01224/impl.errUnfit", "loop.example/g01224/impl.errCrowded", "loop.example/g01224/impl.errNoText", "loop.example/g01224/impl.errNowhere"], ifaces := true, plainKeys := false, apart := false, laid := [("loop.example/g01224/impl.errUnfit", laid_loop_example_g01224_impl_errUnfit), ("loop.example/g01224/impl.errBeyond", laid_loop_example_g01224_impl_errBeyond), ("loop.example/g01224/impl.errCrowded", laid_loop_example_g01224_impl_errCrowded), ("loop.example/g01224/impl.errNoText", laid_loop_example_g01224_impl_errNoText), ("loop.example/g01224/impl.errNowhere", laid_loop_example_g01224_impl_errNowhere)], narrowed := true }
def FnExactSpotOfUptoSaid : Prop := fnExactSpotOfUptoRow.holds Tryd.pinned (OpenSpec.upto fnExactSpotOfSpec)

/-- 'laws.FnExactUnfoldSpeeds', WHERE WHAT IT READS IS OF BULK AT MOST 1048576: true; the input reads as it did. -/
def fnExactUnfoldSpeedsUptoRow : OpenClaim := { program := "ythpimindkmmkjaadoor", sum := "aa85fd47bc17d2c67958c3718a7bdfc1e78db390959cfbfae2b60e49d3c70561", func := "loop.example/g01224/laws.FnExactUnfoldSpeeds", spec := "fnExactUnfoldSpeeds", inPlace := ["math.RoundToEven", "internal/reflectlite.TypeOf", "math.Float64bits", "math.Float64frombits"], unfollowed := true, recurses := true, named := ["loop.example/g01224/impl.errBeyond", "loop.example/g01224/impl.errUnfit", "loop.example/g01224/impl.errCrowded", "loop.example/g01224/impl.errNoText", "loop.example/g01224/impl.errNowhere", "loop.example/g01224/impl.errNoAnswer"], ifaces := true, plainKeys := false, apart := false, laid := [("loop.example/g01224/impl.errUnfit", laid_loop_example_g01224_impl_errUnfit), ("loop.example/g01224/impl.errBeyond", laid_loop_example_g01224_impl_errBeyond), ("loop.example/g01224/impl.errCrowded", laid_loop_example_g01224_impl_errCrowded), ("loop.example/g01224/impl.errNoAnswer", laid_loop_example_g01224_impl_errNoAnswer), ("loop.example/g01224/impl.errNoText", laid_loop_example_g01224_impl_errNoText), ("loop.example/g01224/impl.errNowhere", laid_loop_example_g01224_impl_errNowhere)], narrowed := true }
def FnExactUnfoldSpeedsUptoSaid : Prop := fnExactUnfoldSpeedsUptoRow.holds Tryd.pinned (OpenSpec.upto fnExactUnfoldSpeedsSpec)

/-- 'laws.FnExactNoisePulses', WHERE WHAT IT READS IS OF BULK AT MOST 1048576: true; the input reads as it did. -/
def fnExactNoisePulsesUptoRow : OpenClaim := { program := "ythpimindkmmkjaadoor", sum := "aa85fd47bc17d2c67958c3718a7bdfc1e78db390959cfbfae2b60e49d3c70561", func := "loop.example/g01224/laws.FnExactNoisePulses", spec := "fnExactNoisePulses", inPlace := ["math.Float32bits", "math.Float64bits", "math.Float64frombits", "internal/reflectlite.TypeOf"], unfollowed := true, recurses := true, named := ["loop.example/g01224/impl.errBeyond", "loop.example/g01224/impl.errUnfit", "loop.example/g01224/impl.errCrowded", "loop.example/g01224/impl.errNoText", "loop.example/g01224/impl.errNowhere"], ifaces := true, plainKeys := false, apart := false, laid := [("loop.example/g01224/impl.errUnfit", laid_loop_example_g01224_impl_errUnfit), ("loop.example/g01224/impl.errBeyond", laid_loop_example_g01224_impl_errBeyond), ("loop.example/g01224/impl.errCrowded", laid_loop_example_g01224_impl_errCrowded), ("loop.example/g01224/impl.errNoText", laid_loop_example_g01224_impl_errNoText), ("loop.example/g01224/impl.errNowhere", laid_loop_example_g01224_impl_errNowhere)], narrowed := true }
def FnExactNoisePulsesUptoSaid : Prop := fnExactNoisePulsesUptoRow.holds Tryd.pinned (OpenSpec.upto fnExactNoisePulsesSpec)

/-- 'laws.FnExactPulsesOf', WHERE WHAT IT READS IS OF BULK AT MOST 1048576: true; the input reads as it did. -/
def fnExactPulsesOfUptoRow : OpenClaim := { program := "ythpimindkmmkjaadoor", sum := "aa85fd47bc17d2c67958c3718a7bdfc1e78db390959cfbfae2b60e49d3c70561", func := "loop.example/g01224/laws.FnExactPulsesOf", spec := "fnExactPulsesOf", inPlace := ["math.Float32bits", "math.Float64frombits", "math.RoundToEven", "math.Float64bits", "internal/reflectlite.TypeOf"], unfollowed := true, recurses := true, named := ["loop.example/g01224/impl.errBeyond", "loop.example/g01224/impl.errUnfit", "loop.example/g01224/impl.errCrowded", "loop.example/g01224/impl.errNoText", "loop.example/g01224/impl.errNowhere", "loop.example/g01224/impl.errNoAnswer"], ifaces := true, plainKeys := false, apart := false, laid := [("loop.example/g01224/impl.errUnfit", laid_loop_example_g01224_impl_errUnfit), ("loop.example/g01224/impl.errBeyond", laid_loop_example_g01224_impl_errBeyond), ("loop.example/g01224/impl.errCrowded", laid_loop_example_g01224_impl_errCrowded), ("loop.example/g01224/impl.errNoAnswer", laid_loop_example_g01224_impl_errNoAnswer), ("loop.example/g01224/impl.errNoText", laid_loop_example_g01224_impl_errNoText), ("loop.example/g01224/impl.errNowhere", laid_loop_example_g01224_impl_errNowhere)], narrowed := true }
def FnExactPulsesOfUptoSaid : Prop := fnExactPulsesOfUptoRow.holds Tryd.pinned (OpenSpec.upto fnExactPulsesOfSpec)

/-- 'laws.FnExactAddBeam', WHERE WHAT IT READS IS OF BULK AT MOST 1048576: true; the input reads as it did. -/
def fnExactAddBeamUptoRow : OpenClaim := { program := "ythpimindkmmkjaadoor", sum := "aa85fd47bc17d2c67958c3718a7bdfc1e78db390959cfbfae2b60e49d3c70561", func := "loop.example/g01224/laws.FnExactAddBeam", spec := "fnExactAddBeam", inPlace := ["math.Float32bits", "math.Float64frombits", "math.RoundToEven", "math.Float64bits", "internal/reflectlite.TypeOf"], unfollowed := true, recurses := true, named := ["loop.example/g01224/impl.errCrowded", "loop.example/g01224/impl.errUnfit", "loop.example/g01224/impl.errBeyond", "loop.example/g01224/impl.errNoText", "loop.example/g01224/impl.errNowhere"], ifaces := true, plainKeys := false, apart := false, laid := [("loop.example/g01224/impl.errUnfit", laid_loop_example_g01224_impl_errUnfit), ("loop.example/g01224/impl.errBeyond", laid_loop_example_g01224_impl_errBeyond), ("loop.example/g01224/impl.errCrowded", laid_loop_example_g01224_impl_errCrowded), ("loop.example/g01224/impl.errNoText", laid_loop_example_g01224_impl_errNoText), ("loop.example/g01224/impl.errNowhere", laid_loop_example_g01224_impl_errNowhere)], narrowed := true }
def FnExactAddBeamUptoSaid : Prop := fnExactAddBeamUptoRow.holds Tryd.pinned (OpenSpec.upto fnExactAddBeamSpec)

/-- 'laws.FnExactDeedText', WHERE WHAT IT READS IS OF BULK AT MOST 1048576: true; the input reads as it did. -/
def fnExactDeedTextUptoRow : OpenClaim := { program := "ythpimindkmmkjaadoor", sum := "aa85fd47bc17d2c67958c3718a7bdfc1e78db390959cfbfae2b60e49d3c70561", func := "loop.example/g01224/laws.FnExactDeedText", spec := "fnExactDeedText", recurses := true, named := ["internal/strconv.uint64pow10", "math/bits.deBruijn32tab", "math/bits.deBruijn64tab"], plainKeys := false, apart := false, laid := [("math/bits.deBruijn32tab", laid_math_bits_deBruijn32tab), ("math/bits.deBruijn64tab", laid_math_bits_deBruijn64tab), ("internal/strconv.uint64pow10", laid_internal_strconv_uint64pow10)], narrowed := true }
def FnExactDeedTextUptoSaid : Prop := fnExactDeedTextUptoRow.holds Tryd.pinned (OpenSpec.upto fnExactDeedTextSpec)

/-- 'laws.FnExactReadDeed', WHERE WHAT IT READS IS OF BULK AT MOST 1048576: true; the input reads as it did. -/
def fnExactReadDeedUptoRow : OpenClaim := { program := "ythpimindkmmkjaadoor", sum := "aa85fd47bc17d2c67958c3718a7bdfc1e78db390959cfbfae2b60e49d3c70561", func := "loop.example/g01224/laws.FnExactReadDeed", spec := "fnExactReadDeed", inPlace := ["internal/bytealg.CountString", "internal/bytealg.IndexByteString", "internal/bytealg.IndexString"], named := ["unicode/utf8.first", "unicode/utf8.acceptRanges", "internal/bytealg.MaxLen", "strconv.ErrSyntax", "strconv.ErrRange", "internal/strconv.uint64pow10", "math/bits.deBruijn32tab", "math/bits.deBruijn64tab"], plainKeys := false, apart := false, laid := [("math/bits.deBruijn32tab", laid_math_bits_deBruijn32tab), ("math/bits.deBruijn64tab", laid_math_bits_deBruijn64tab), ("internal/strconv.uint64pow10", laid_internal_strconv_uint64pow10), ("unicode/utf8.acceptRanges", laid_unicode_utf8_acceptRanges), ("strconv.ErrRange", laid_strconv_ErrRange), ("strconv.ErrSyntax", laid_strconv_ErrSyntax), ("unicode/utf8.first", laid_unicode_utf8_first)], narrowed := true }
def FnExactReadDeedUptoSaid : Prop := fnExactReadDeedUptoRow.holds Tryd.pinned (OpenSpec.upto fnExactReadDeedSpec)

/-- 'laws.FnExactActText', WHERE WHAT IT READS IS OF BULK AT MOST 1048576: true; the input reads as it did. -/
def fnExactActTextUptoRow : OpenClaim := { program := "ythpimindkmmkjaadoor", sum := "aa85fd47bc17d2c67958c3718a7bdfc1e78db390959cfbfae2b60e49d3c70561", func := "loop.example/g01224/laws.FnExactActText", spec := "fnExactActText", inPlace := ["math.Float32bits", "math.archFloor", "math.Float64bits", "math.Float64frombits", "math.archTrunc", "internal/bytealg.IndexByteString", "internal/bytealg.IndexString"], recurses := true, named := ["internal/strconv.uint64pow10", "math/bits.deBruijn32tab", "math/bits.deBruijn64tab", "internal/bytealg.MaxLen"], plainKeys := false, apart := false, laid := [("math/bits.deBruijn32tab", laid_math_bits_deBruijn32tab), ("math/bits.deBruijn64tab", laid_math_bits_deBruijn64tab), ("internal/strconv.uint64pow10", laid_internal_strconv_uint64pow10)], narrowed := true }
def FnExactActTextUptoSaid : Prop := fnExactActTextUptoRow.holds Tryd.pinned (OpenSpec.upto fnExactActTextSpec)

/-- 'laws.FnExactNumberText', WHERE WHAT IT READS IS OF BULK AT MOST 1048576: true; the input reads as it did. -/
def fnExactNumberTextUptoRow : OpenClaim := { program := "ythpimindkmmkjaadoor", sum := "aa85fd47bc17d2c67958c3718a7bdfc1e78db390959cfbfae2b60e49d3c70561", func := "loop.example/g01224/laws.FnExactNumberText", spec := "fnExactNumberText", inPlace := ["math.Float32bits", "internal/abi.NoEscape", "internal/bytealg.MakeNoZero"], named := ["internal/strconv.uint64pow10", "math/bits.deBruijn32tab", "math/bits.deBruijn64tab"], plainKeys := false, apart := false, laid := [("math/bits.deBruijn32tab", laid_math_bits_deBruijn32tab), ("math/bits.deBruijn64tab", laid_math_bits_deBruijn64tab), ("internal/strconv.uint64pow10", laid_internal_strconv_uint64pow10)], narrowed := true }
def FnExactNumberTextUptoSaid : Prop := fnExactNumberTextUptoRow.holds Tryd.pinned (OpenSpec.upto fnExactNumberTextSpec)

/-- 'laws.FnExactReadNumber', WHERE WHAT IT READS IS OF BULK AT MOST 1048576: true; the input reads as it did. -/
def fnExactReadNumberUptoRow : OpenClaim := { program := "ythpimindkmmkjaadoor", sum := "aa85fd47bc17d2c67958c3718a7bdfc1e78db390959cfbfae2b60e49d3c70561", func := "loop.example/g01224/laws.FnExactReadNumber", spec := "fnExactReadNumber", inPlace := ["math.Float32frombits", "math.Float32bits", "internal/abi.NoEscape", "internal/bytealg.MakeNoZero"], named := ["strconv.ErrSyntax", "strconv.ErrRange", "internal/strconv.uint64pow10", "math/bits.deBruijn32tab", "math/bits.deBruijn64tab"], plainKeys := false, apart := false, laid := [("math/bits.deBruijn32tab", laid_math_bits_deBruijn32tab), ("math/bits.deBruijn64tab", laid_math_bits_deBruijn64tab), ("internal/strconv.uint64pow10", laid_internal_strconv_uint64pow10), ("strconv.ErrRange", laid_strconv_ErrRange), ("strconv.ErrSyntax", laid_strconv_ErrSyntax)], narrowed := true }
def FnExactReadNumberUptoSaid : Prop := fnExactReadNumberUptoRow.holds Tryd.pinned (OpenSpec.upto fnExactReadNumberSpec)

/-- 'laws.FnExactSizesText', WHERE WHAT IT READS IS OF BULK AT MOST 1048576: true; the input reads as it did. -/
def fnExactSizesTextUptoRow : OpenClaim := { program := "ythpimindkmmkjaadoor", sum := "aa85fd47bc17d2c67958c3718a7bdfc1e78db390959cfbfae2b60e49d3c70561", func := "loop.example/g01224/laws.FnExactSizesText", spec := "fnExactSizesText", inPlace := ["math.Float32bits", "math.Float64bits", "math.Float64frombits", "internal/abi.NoEscape", "internal/bytealg.MakeNoZero"], named := ["internal/strconv.uint64pow10", "math/bits.deBruijn32tab", "math/bits.deBruijn64tab"], plainKeys := false, apart := false, laid := [("math/bits.deBruijn32tab", laid_math_bits_deBruijn32tab), ("math/bits.deBruijn64tab", laid_math_bits_deBruijn64tab), ("internal/strconv.uint64pow10", laid_internal_strconv_uint64pow10)], narrowed := true }
def FnExactSizesTextUptoSaid : Prop := fnExactSizesTextUptoRow.holds Tryd.pinned (OpenSpec.upto fnExactSizesTextSpec)

/-- 'laws.FnExactReadSizes', WHERE WHAT IT READS IS OF BULK AT MOST 1048576: true; the input reads as it did. -/
def fnExactReadSizesUptoRow : OpenClaim := { program := "ythpimindkmmkjaadoor", sum := "aa85fd47bc17d2c67958c3718a7bdfc1e78db390959cfbfae2b60e49d3c70561", func := "loop.example/g01224/laws.FnExactReadSizes", spec := "fnExactReadSizes", inPlace := ["math.Float32frombits", "math.Float32bits", "internal/bytealg.CountString", "internal/bytealg.IndexByteString", "internal/bytealg.IndexString", "internal/abi.NoEscape", "internal/bytealg.MakeNoZero", "math.Float64bits", "math.Float64frombits"], named := ["unicode/utf8.first", "unicode/utf8.acceptRanges", "internal/bytealg.MaxLen", "strconv.ErrSyntax", "strconv.ErrRange", "internal/strconv.uint64pow10", "math/bits.deBruijn32tab", "math/bits.deBruijn64tab"], plainKeys := false, apart := false, laid := [("math/bits.deBruijn32tab", laid_math_bits_deBruijn32tab), ("math/bits.deBruijn64tab", laid_math_bits_deBruijn64tab), ("internal/strconv.uint64pow10", laid_internal_strconv_uint64pow10), ("unicode/utf8.acceptRanges", laid_unicode_utf8_acceptRanges), ("strconv.ErrRange", laid_strconv_ErrRange), ("strconv.ErrSyntax", laid_strconv_ErrSyntax), ("unicode/utf8.first", laid_unicode_utf8_first)], narrowed := true }
def FnExactReadSizesUptoSaid : Prop := fnExactReadSizesUptoRow.holds Tryd.pinned (OpenSpec.upto fnExactReadSizesSpec)

end Rows
end Go.Proofs.YthpimindkmmkjaaDoor
