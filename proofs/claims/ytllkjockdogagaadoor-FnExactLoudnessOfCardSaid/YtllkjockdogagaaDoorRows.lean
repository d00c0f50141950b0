/-
  NARROWER THAN 'FOR EVERY INPUT', by the rows' own cells (each row's printed sentence says how): FnExactEchoAt: ifaces, laid · FnExactStrongestCell: ifaces, laid · FnExactFoldSpeed: ifaces, laid · FnExactLoudnessOf: ifaces, laid.
  DERIVED. THE GIVEN ROWS OF THIS SEAT. 4 by the template 'for every input the law returns true; each argument reads behind the call as it read before'; 0 by the template 'total and deterministic' (their statements: YtllkjockdogagaaDoorTotals.lean).
  GIVEN WITH THE SEED: the statements are not yours to turn. If you find one false, say at which input.
  Laid BY PROGRAM, IN A SANDBOX (cutbox-rows.mjs): the forced cells as the released guide's own fill.sh prints them over the translation 0cd2e196c4e14347… (all of the seat's roots in one cut). By AI agents, Wed Nov 11 2026. No macro, syntax, notation, axiom, sorry.
-/
import Derived.Test.YtllkjockdogagaaDoorChecked
import GoSem.Claim
import GoSem.ClaimJoined
import GoSem.ClaimMapViews
import Derived.JoinedTies
import Derived.KernelRfl
namespace Go.Proofs.YtllkjockdogagaaDoor
/- THE CELL 'sum', in the pinned program and in every row, IS THE sha256 OF THE DUMP (.gsa) THAT YtllkjockdogagaaDoorProg.lean LOADS. Nothing in Lean hashes anything: it is a label: what it is worth is what the hold of that sum in a sandbox is worth. -/
noncomputable def Tryd.pinned : Pinned := { name := "ytllkjockdogagaadoor", sum := "0cd2e196c4e14347dda238c751cba6ab821ad2a128f0fa4aa458cf1723077da9", checked := Tryd.checked }
namespace Rows
def none {H : Type} : Left H := { results := [], args := [] }

/- WHAT THE LISTED PACKAGE-LEVEL VARIABLES READ AS WHEN THE CALL BEGINS. Each datum BY PROGRAM (the guide's laid-datum.mjs) off the statement by which the dump's own 'gosem.cut.vars' lays the variable. In a bare row this is a premise. The card (YtllkjockdogagaaDoorCards.lean) ties it to the program's text. -/
def laid_loop_example_g01224_impl_errUnfit {H : Type} : DataW H := .iface "*errors.errorString" (.ptr (.agg [.lit (.string [97, 110, 32, 97, 114, 103, 117, 109, 101, 110, 116, 32, 105, 115, 32, 110, 111, 116, 32, 118, 97, 108, 105, 100])]))
def laid_loop_example_g01224_impl_errBeyond {H : Type} : DataW H := .iface "*errors.errorString" (.ptr (.agg [.lit (.string [97, 110, 32, 97, 114, 103, 117, 109, 101, 110, 116, 32, 105, 115, 32, 111, 117, 116, 32, 111, 102, 32, 105, 116, 115, 32, 114, 97, 110, 103, 101])]))
def laid_loop_example_g01224_impl_errCrowded {H : Type} : DataW H := .iface "*errors.errorString" (.ptr (.agg [.lit (.string [116, 104, 101, 114, 101, 32, 119, 111, 117, 108, 100, 32, 98, 101, 32, 116, 111, 111, 32, 109, 97, 110, 121, 32, 99, 101, 108, 108, 115])]))
def laid_loop_example_g01224_impl_errNoText {H : Type} : DataW H := .iface "*errors.errorString" (.ptr (.agg [.lit (.string [116, 104, 105, 115, 32, 105, 115, 32, 116, 104, 101, 32, 116, 101, 120, 116, 32, 111, 102, 32, 110, 111, 116, 104, 105, 110, 103])]))
def laid_loop_example_g01224_impl_errNowhere {H : Type} : DataW H := .iface "*errors.errorString" (.ptr (.agg [.lit (.string [116, 104, 101, 114, 101, 32, 105, 115, 32, 110, 111, 32, 115, 117, 99, 104, 32, 99, 101, 108, 108])]))

/-- 'laws.FnExactEchoAt': WHATEVER THE INPUT: true; the input reads as it did. -/
def fnExactEchoAtSpec : ChangeSpec := { name := "fnExactEchoAt", vars := ["loop.example/g01224/impl.errUnfit", "loop.example/g01224/impl.errNowhere", "loop.example/g01224/impl.errBeyond", "loop.example/g01224/impl.errCrowded", "loop.example/g01224/impl.errNoText"], fn := fun _ => fun
  | [d1, d2, g1, g2, g3, g4, g5] => { results := [.lit (.bool true)], args := [d1, d2], vars := [g1, g2, g3, g4, g5] }
  | _ => none }
def fnExactEchoAtRow : OpenClaim := { program := "ytllkjockdogagaadoor", sum := "0cd2e196c4e14347dda238c751cba6ab821ad2a128f0fa4aa458cf1723077da9", func := "loop.example/g01224/laws.FnExactEchoAt", spec := "fnExactEchoAt", inPlace := ["math.Float32bits", "math.Float64bits", "math.Float64frombits", "internal/reflectlite.TypeOf"], unfollowed := true, recurses := true, named := ["loop.example/g01224/impl.errUnfit", "loop.example/g01224/impl.errNowhere", "loop.example/g01224/impl.errBeyond", "loop.example/g01224/impl.errCrowded", "loop.example/g01224/impl.errNoText"], ifaces := true, apart := false, laid := [("loop.example/g01224/impl.errUnfit", laid_loop_example_g01224_impl_errUnfit), ("loop.example/g01224/impl.errBeyond", laid_loop_example_g01224_impl_errBeyond), ("loop.example/g01224/impl.errCrowded", laid_loop_example_g01224_impl_errCrowded), ("loop.example/g01224/impl.errNoText", laid_loop_example_g01224_impl_errNoText), ("loop.example/g01224/impl.errNowhere", laid_loop_example_g01224_impl_errNowhere)] }
def FnExactEchoAtSaid : Prop := fnExactEchoAtRow.holds Tryd.pinned (OpenSpec.ofChange fnExactEchoAtSpec)

/-- ITS FALSE NEIGHBOUR: 'it returns false'. Refute it at one input. -/
def fnExactEchoAtWrong : ChangeSpec := { name := "fnExactEchoAt", vars := ["loop.example/g01224/impl.errUnfit", "loop.example/g01224/impl.errNowhere", "loop.example/g01224/impl.errBeyond", "loop.example/g01224/impl.errCrowded", "loop.example/g01224/impl.errNoText"], fn := fun _ => fun
  | [d1, d2, g1, g2, g3, g4, g5] => { results := [.lit (.bool false)], args := [d1, d2], vars := [g1, g2, g3, g4, g5] }
  | _ => none }
def FnExactEchoAtWrongFalsely : Prop := fnExactEchoAtRow.holds Tryd.pinned (OpenSpec.ofChange fnExactEchoAtWrong)

/-- 'laws.FnExactStrongestCell': WHATEVER THE INPUT: true; the input reads as it did. -/
def fnExactStrongestCellSpec : ChangeSpec := { name := "fnExactStrongestCell", vars := ["loop.example/g01224/impl.errUnfit", "loop.example/g01224/impl.errNowhere", "loop.example/g01224/impl.errBeyond", "loop.example/g01224/impl.errCrowded", "loop.example/g01224/impl.errNoText"], fn := fun _ => fun
  | [d, g1, g2, g3, g4, g5] => { results := [.lit (.bool true)], args := [d], vars := [g1, g2, g3, g4, g5] }
  | _ => none }
def fnExactStrongestCellRow : OpenClaim := { program := "ytllkjockdogagaadoor", sum := "0cd2e196c4e14347dda238c751cba6ab821ad2a128f0fa4aa458cf1723077da9", func := "loop.example/g01224/laws.FnExactStrongestCell", spec := "fnExactStrongestCell", inPlace := ["math.Float32bits", "math.Float64bits", "math.Float64frombits", "internal/reflectlite.TypeOf"], unfollowed := true, recurses := true, named := ["loop.example/g01224/impl.errUnfit", "loop.example/g01224/impl.errNowhere", "loop.example/g01224/impl.errBeyond", "loop.example/g01224/impl.errCrowded", "loop.example/g01224/impl.errNoText"], ifaces := true, apart := false, laid := [("loop.example/g01224/impl.errUnfit", laid_loop_example_g01224_impl_errUnfit), ("loop.example/g01224/impl.errBeyond", laid_loop_example_g01224_impl_errBeyond), ("loop.example/g01224/impl.errCrowded", laid_loop_example_g01224_impl_errCrowded), ("loop.example/g01224/impl.errNoText", laid_loop_example_g01224_impl_errNoText), ("loop.example/g01224/impl.errNowhere", laid_loop_example_g01224_impl_errNowhere)] }
def FnExactStrongestCellSaid : Prop := fnExactStrongestCellRow.holds Tryd.pinned (OpenSpec.ofChange fnExactStrongestCellSpec)

/-- ITS FALSE NEIGHBOUR: 'it returns false'. Refute it at one input. -/
def fnExactStrongestCellWrong : ChangeSpec := { name := "fnExactStrongestCell", vars := ["loop.example/g01224/impl.errUnfit", "loop.example/g01224/impl.errNowhere", "loop.example/g01224/impl.errBeyond", "loop.example/g01224/impl.errCrowded", "loop.example/g01224/impl.errNoText"], fn := fun _ => fun
  | [d, g1, g2, g3, g4, g5] => { results := [.lit (.bool false)], args := [d], vars := [g1, g2, g3, g4, g5] }
  | _ => none }
def FnExactStrongestCellWrongFalsely : Prop := fnExactStrongestCellRow.holds Tryd.pinned (OpenSpec.ofChange fnExactStrongestCellWrong)

/-- 'laws.FnExactFoldSpeed': WHATEVER THE INPUT: true; the input reads as it did. -/
def fnExactFoldSpeedSpec : ChangeSpec := { name := "fnExactFoldSpeed", vars := ["loop.example/g01224/impl.errBeyond", "loop.example/g01224/impl.errUnfit", "loop.example/g01224/impl.errCrowded", "loop.example/g01224/impl.errNoText", "loop.example/g01224/impl.errNowhere"], fn := fun _ => fun
  | [d1, d2, g1, g2, g3, g4, g5] => { results := [.lit (.bool true)], args := [d1, d2], vars := [g1, g2, g3, g4, g5] }
  | _ => none }
def fnExactFoldSpeedRow : OpenClaim := { program := "ytllkjockdogagaadoor", sum := "0cd2e196c4e14347dda238c751cba6ab821ad2a128f0fa4aa458cf1723077da9", func := "loop.example/g01224/laws.FnExactFoldSpeed", spec := "fnExactFoldSpeed", inPlace := ["math.RoundToEven", "math.Float64bits", "math.Float64frombits", "internal/reflectlite.TypeOf"], unfollowed := true, recurses := true, named := ["loop.example/g01224/impl.errBeyond", "loop.example/g01224/impl.errUnfit", "loop.example/g01224/impl.errCrowded", "loop.example/g01224/impl.errNoText", "loop.example/g01224/impl.errNowhere"], ifaces := true, apart := false, laid := [("loop.example/g01224/impl.errUnfit", laid_loop_example_g01224_impl_errUnfit), ("loop.example/g01224/impl.errBeyond", laid_loop_example_g01224_impl_errBeyond), ("loop.example/g01224/impl.errCrowded", laid_loop_example_g01224_impl_errCrowded), ("loop.example/g01224/impl.errNoText", laid_loop_example_g01224_impl_errNoText), ("loop.example/g01224/impl.errNowhere", laid_loop_example_g01224_impl_errNowhere)] }
def FnExactFoldSpeedSaid : Prop := fnExactFoldSpeedRow.holds Tryd.pinned (OpenSpec.ofChange fnExactFoldSpeedSpec)

/-- ITS FALSE NEIGHBOUR: 'it returns false'. Refute it at one input. -/
def fnExactFoldSpeedWrong : ChangeSpec := { name := "fnExactFoldSpeed", vars := ["loop.example/g01224/impl.errBeyond", "loop.example/g01224/impl.errUnfit", "loop.example/g01224/impl.errCrowded", "loop.example/g01224/impl.errNoText", "loop.example/g01224/impl.errNowhere"], fn := fun _ => fun
  | [d1, d2, g1, g2, g3, g4, g5] => { results := [.lit (.bool false)], args := [d1, d2], vars := [g1, g2, g3, g4, g5] }
  | _ => none }
def FnExactFoldSpeedWrongFalsely : Prop := fnExactFoldSpeedRow.holds Tryd.pinned (OpenSpec.ofChange fnExactFoldSpeedWrong)

/-- 'laws.FnExactLoudnessOf': WHATEVER THE INPUT: true; the input reads as it did. -/
def fnExactLoudnessOfSpec : ChangeSpec := { name := "fnExactLoudnessOf", vars := ["loop.example/g01224/impl.errBeyond", "loop.example/g01224/impl.errUnfit", "loop.example/g01224/impl.errCrowded", "loop.example/g01224/impl.errNoText", "loop.example/g01224/impl.errNowhere"], fn := fun _ => fun
  | [d, g1, g2, g3, g4, g5] => { results := [.lit (.bool true)], args := [d], vars := [g1, g2, g3, g4, g5] }
  | _ => none }
def fnExactLoudnessOfRow : OpenClaim := { program := "ytllkjockdogagaadoor", sum := "0cd2e196c4e14347dda238c751cba6ab821ad2a128f0fa4aa458cf1723077da9", func := "loop.example/g01224/laws.FnExactLoudnessOf", spec := "fnExactLoudnessOf", inPlace := ["math.Float64bits", "math.Float64frombits", "internal/reflectlite.TypeOf"], unfollowed := true, recurses := true, named := ["loop.example/g01224/impl.errBeyond", "loop.example/g01224/impl.errUnfit", "loop.example/g01224/impl.errCrowded", "loop.example/g01224/impl.errNoText", "loop.example/g01224/impl.errNowhere"], ifaces := true, apart := false, laid := [("loop.example/g01224/impl.errUnfit", laid_loop_example_g01224_impl_errUnfit), ("loop.example/g01224/impl.errBeyond", laid_loop_example_g01224_impl_errBeyond), ("loop.example/g01224/impl.errCrowded", laid_loop_example_g01224_impl_errCrowded), ("loop.example/g01224/impl.errNoText", laid_loop_example_g01224_impl_errNoText), ("loop.example/g01224/impl.errNowhere", laid_loop_example_g01224_impl_errNowhere)] }
def FnExactLoudnessOfSaid : Prop := fnExactLoudnessOfRow.holds Tryd.pinned (OpenSpec.ofChange fnExactLoudnessOfSpec)

/-- ITS FALSE NEIGHBOUR: 'it returns false'. Refute it at one input. -/
def fnExactLoudnessOfWrong : ChangeSpec := { name := "fnExactLoudnessOf", vars := ["loop.example/g01224/impl.errBeyond", "loop.example/g01224/impl.errUnfit", "loop.example/g01224/impl.errCrowded", "loop.example/g01224/impl.errNoText", "loop.example/g01224/impl.errNowhere"], fn := fun _ => fun
  | [d, g1, g2, g3, g4, g5] => { results := [.lit (.bool false)], args := [d], vars := [g1, g2, g3, g4, g5] }
  | _ => none }
def FnExactLoudnessOfWrongFalsely : Prop := fnExactLoudnessOfRow.holds Tryd.pinned (OpenSpec.ofChange fnExactLoudnessOfWrong)

/- THE SECOND FORM. 'bulk': how many values and letters a reading holds, each counted each time it is reached (what is shared counts as often as it is met; a slice's spare places count too). A statement '..UptoSaid' is the law's where the arguments, and the package variables that the reading takes, are together of bulk at most 1048576: NARROWER than '..Said'. Prove '..Said' where nothing that the law and all that it calls make is longer than what came in: it says more and counts as full. Else prove '..UptoSaid'. A law counts once. -/
mutual
def uptoBulk {H : Type} : DataW H → Nat
  | .lit (.string bytes) => bytes.length + 1
  | .lit _ => 1
  | .nil => 1
  | .ptr d => uptoBulk d + 1
  | .slice elems spare => uptoBulkAll elems + uptoBulkAll spare + 1
  | .agg parts => uptoBulkAll parts + 1
  | .iface _ d => uptoBulk d + 1
  | .map entries => uptoBulkEntries entries + 1
  | .held _ => 1
def uptoBulkAll {H : Type} : List (DataW H) → Nat
  | [] => 0
  | d :: r => uptoBulk d + uptoBulkAll r
def uptoBulkEntries {H : Type} : List (Lit × DataW H) → Nat
  | [] => 0
  | x :: r => uptoBulkEntry x + uptoBulkEntries r
def uptoBulkEntry {H : Type} : Lit × DataW H → Nat
  | (.string bytes, d) => bytes.length + uptoBulk d + 1
  | (_, d) => uptoBulk d + 1
 end
def uptoSmall : (H : Type) → List (DataW H) → Bool := fun _ ds => decide (uptoBulkAll ds ≤ 1048576)
def OpenSpec.upto (s : _root_.Go.ChangeSpec) : _root_.Go.OpenSpec := { _root_.Go.OpenSpec.ofChange s with cond := some uptoSmall }

/-- 'laws.FnExactEchoAt', WHERE WHAT IT READS IS OF BULK AT MOST 1048576: true; the input reads as it did. -/
def fnExactEchoAtUptoRow : OpenClaim := { program := "ytllkjockdogagaadoor", sum := "0cd2e196c4e14347dda238c751cba6ab821ad2a128f0fa4aa458cf1723077da9", func := "loop.example/g01224/laws.FnExactEchoAt", spec := "fnExactEchoAt", inPlace := ["math.Float32bits", "math.Float64bits", "math.Float64frombits", "internal/reflectlite.TypeOf"], unfollowed := true, recurses := true, named := ["loop.example/g01224/impl.errUnfit", "loop.example/g01224/impl.errNowhere", "loop.example/g01224/impl.errBeyond", "loop.example/g01224/impl.errCrowded", "loop.example/g01224/impl.errNoText"], ifaces := true, apart := false, laid := [("loop.example/g01224/impl.errUnfit", laid_loop_example_g01224_impl_errUnfit), ("loop.example/g01224/impl.errBeyond", laid_loop_example_g01224_impl_errBeyond), ("loop.example/g01224/impl.errCrowded", laid_loop_example_g01224_impl_errCrowded), ("loop.example/g01224/impl.errNoText", laid_loop_example_g01224_impl_errNoText), ("loop.example/g01224/impl.errNowhere", laid_loop_example_g01224_impl_errNowhere)], narrowed := true }
def FnExactEchoAtUptoSaid : Prop := fnExactEchoAtUptoRow.holds Tryd.pinned (OpenSpec.upto fnExactEchoAtSpec)

/-- 'laws.FnExactStrongestCell', WHERE WHAT IT READS IS OF BULK AT MOST 1048576: true; the input reads as it did. -/
def fnExactStrongestCellUptoRow : OpenClaim := { program := "ytllkjockdogagaadoor", sum := "0cd2e196c4e14347dda238c751cba6ab821ad2a128f0fa4aa458cf1723077da9", func := "loop.example/g01224/laws.FnExactStrongestCell", spec := "fnExactStrongestCell", inPlace := ["math.Float32bits", "math.Float64bits", "math.Float64frombits", "internal/reflectlite.TypeOf"], unfollowed := true, recurses := true, named := ["loop.example/g01224/impl.errUnfit", "loop.example/g01224/impl.errNowhere", "loop.example/g01224/impl.errBeyond", "loop.example/g01224/impl.errCrowded", "loop.example/g01224/impl.errNoText"], ifaces := true, apart := false, laid := [("loop.example/g01224/impl.errUnfit", laid_loop_example_g01224_impl_errUnfit), ("loop.example/g01224/impl.errBeyond", laid_loop_example_g01224_impl_errBeyond), ("loop.example/g01224/impl.errCrowded", laid_loop_example_g01224_impl_errCrowded), ("loop.example/g01224/impl.errNoText", laid_loop_example_g01224_impl_errNoText), ("loop.example/g01224/impl.errNowhere", laid_loop_example_g01224_impl_errNowhere)], narrowed := true }
def FnExactStrongestCellUptoSaid : Prop := fnExactStrongestCellUptoRow.holds Tryd.pinned (OpenSpec.upto fnExactStrongestCellSpec)

/-- 'laws.FnExactFoldSpeed', WHERE WHAT IT READS IS OF BULK AT MOST 1048576: true; the input reads as it did. -/
def fnExactFoldSpeedUptoRow : OpenClaim := { program := "ytllkjockdogagaadoor", sum := "0cd2e196c4e14347dda238c751cba6ab821ad2a128f0fa4aa458cf1723077da9", func := "loop.example/g01224/laws.FnExactFoldSpeed", spec := "fnExactFoldSpeed", inPlace := ["math.RoundToEven", "math.Float64bits", "math.Float64frombits", "internal/reflectlite.TypeOf"], unfollowed := true, recurses := true, named := ["loop.example/g01224/impl.errBeyond", "loop.example/g01224/impl.errUnfit", "loop.example/g01224/impl.errCrowded", "loop.example/g01224/impl.errNoText", "loop.example/g01224/impl.errNowhere"], ifaces := true, apart := false, laid := [("loop.example/g01224/impl.errUnfit", laid_loop_example_g01224_impl_errUnfit), ("loop.example/g01224/impl.errBeyond", laid_loop_example_g01224_impl_errBeyond), ("loop.example/g01224/impl.errCrowded", laid_loop_example_g01224_impl_errCrowded), ("loop.example/g01224/impl.errNoText", laid_loop_example_g01224_impl_errNoText), ("loop.example/g01224/impl.errNowhere", laid_loop_example_g01224_impl_errNowhere)], narrowed := true }
def FnExactFoldSpeedUptoSaid : Prop := fnExactFoldSpeedUptoRow.holds Tryd.pinned (OpenSpec.upto fnExactFoldSpeedSpec)

/-- 'laws.FnExactLoudnessOf', WHERE WHAT IT READS IS OF BULK AT MOST 1048576: true; the input reads as it did. -/
def fnExactLoudnessOfUptoRow : OpenClaim := { program := "ytllkjockdogagaadoor", sum := "0cd2e196c4e14347dda238c751cba6ab821ad2a128f0fa4aa458cf1723077da9", func := "loop.example/g01224/laws.FnExactLoudnessOf", spec := "fnExactLoudnessOf", inPlace := ["math.Float64bits", "math.Float64frombits", "internal/reflectlite.TypeOf"], unfollowed := true, recurses := true, named := ["loop.example/g01224/impl.errBeyond", "loop.example/g01224/impl.errUnfit", "loop.example/g01224/impl.errCrowded", "loop.example/g01224/impl.errNoText", "loop.example/g01224/impl.errNowhere"], ifaces := true, apart := false, laid := [("loop.example/g01224/impl.errUnfit", laid_loop_example_g01224_impl_errUnfit), ("loop.example/g01224/impl.errBeyond", laid_loop_example_g01224_impl_errBeyond), ("loop.example/g01224/impl.errCrowded", laid_loop_example_g01224_impl_errCrowded), ("loop.example/g01224/impl.errNoText", laid_loop_example_g01224_impl_errNoText), ("loop.example/g01224/impl.errNowhere", laid_loop_example_g01224_impl_errNowhere)], narrowed := true }
def FnExactLoudnessOfUptoSaid : Prop := fnExactLoudnessOfUptoRow.holds Tryd.pinned (OpenSpec.upto fnExactLoudnessOfSpec)

end Rows
end Go.Proofs.YtllkjockdogagaaDoor
