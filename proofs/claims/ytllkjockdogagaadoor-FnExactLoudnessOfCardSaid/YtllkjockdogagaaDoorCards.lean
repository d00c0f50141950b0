/-
  DERIVED. GIVEN WITH THE SEED: THE CARDS: each row of YtllkjockdogagaaDoorRows.lean that lists a variable, with what it lists TIED to the program's text (the seventh form; the later family's looks); each row that meets fmt, with fmt's text TOLD by the authors' own Lean function (tested against real Go, not proved from fmt's source: count such statements apart). THE CARD IS WHAT COUNTS. Prove the row's statement (the work); the ties are given (YtllkjockdogagaaDoorTie.lean); close each card by the builder's one call (the guide's Derived/Test/ToyasCard.lean, 'card_holds'). Laid BY PROGRAM, IN A SANDBOX (cutbox-door.mjs). By AI agents, Wed Nov 11 2026. No macro, syntax, notation, axiom, sorry.
-/
import Derived.Test.YtllkjockdogagaaDoorRows
import GoSem.ClaimSeven
namespace Go.Proofs.YtllkjockdogagaaDoor
namespace Rows

/-- THE TIED CARD OF 'laws.FnExactEchoAt'. -/
def fnExactEchoAtCard : Claim7 := { stood := { row := fnExactEchoAtRow, standIns := [], harness := (true, "00e6536917000565d6f6c8f21311f4d1e29f71b4c97b81724f8c4836e5640c7a"), looks := true }, kinds := [], alts := [], laidByText := true, laidKinds := [.sentinel, .sentinel, .sentinel, .sentinel, .sentinel], laidTests := true, laidLooks := .later }
def FnExactEchoAtCardSaid : Prop := Claim7.holds Tryd.pinned (.plain (OpenSpec.ofChange fnExactEchoAtSpec)) fnExactEchoAtCard

/-- THE TIED CARD OF 'laws.FnExactStrongestCell'. -/
def fnExactStrongestCellCard : Claim7 := { stood := { row := fnExactStrongestCellRow, standIns := [], harness := (true, "00e6536917000565d6f6c8f21311f4d1e29f71b4c97b81724f8c4836e5640c7a"), looks := true }, kinds := [], alts := [], laidByText := true, laidKinds := [.sentinel, .sentinel, .sentinel, .sentinel, .sentinel], laidTests := true, laidLooks := .later }
def FnExactStrongestCellCardSaid : Prop := Claim7.holds Tryd.pinned (.plain (OpenSpec.ofChange fnExactStrongestCellSpec)) fnExactStrongestCellCard

/-- THE TIED CARD OF 'laws.FnExactFoldSpeed'. -/
def fnExactFoldSpeedCard : Claim7 := { stood := { row := fnExactFoldSpeedRow, standIns := [], harness := (true, "00e6536917000565d6f6c8f21311f4d1e29f71b4c97b81724f8c4836e5640c7a"), looks := true }, kinds := [], alts := [], laidByText := true, laidKinds := [.sentinel, .sentinel, .sentinel, .sentinel, .sentinel], laidTests := true, laidLooks := .later }
def FnExactFoldSpeedCardSaid : Prop := Claim7.holds Tryd.pinned (.plain (OpenSpec.ofChange fnExactFoldSpeedSpec)) fnExactFoldSpeedCard

/-- THE TIED CARD OF 'laws.FnExactLoudnessOf'. -/
def fnExactLoudnessOfCard : Claim7 := { stood := { row := fnExactLoudnessOfRow, standIns := [], harness := (true, "00e6536917000565d6f6c8f21311f4d1e29f71b4c97b81724f8c4836e5640c7a"), looks := true }, kinds := [], alts := [], laidByText := true, laidKinds := [.sentinel, .sentinel, .sentinel, .sentinel, .sentinel], laidTests := true, laidLooks := .later }
def FnExactLoudnessOfCardSaid : Prop := Claim7.holds Tryd.pinned (.plain (OpenSpec.ofChange fnExactLoudnessOfSpec)) fnExactLoudnessOfCard

/-- THE SECOND FORM's CARD OF 'laws.FnExactEchoAt'. -/
def fnExactEchoAtUptoCard : Claim7 := { stood := { row := fnExactEchoAtUptoRow, standIns := [], harness := (true, "00e6536917000565d6f6c8f21311f4d1e29f71b4c97b81724f8c4836e5640c7a"), looks := true }, kinds := [], alts := [], laidByText := true, laidKinds := [.sentinel, .sentinel, .sentinel, .sentinel, .sentinel], laidTests := true, laidLooks := .later }
def FnExactEchoAtUptoCardSaid : Prop := Claim7.holds Tryd.pinned (.plain (OpenSpec.upto fnExactEchoAtSpec)) fnExactEchoAtUptoCard

/-- THE SECOND FORM's CARD OF 'laws.FnExactStrongestCell'. -/
def fnExactStrongestCellUptoCard : Claim7 := { stood := { row := fnExactStrongestCellUptoRow, standIns := [], harness := (true, "00e6536917000565d6f6c8f21311f4d1e29f71b4c97b81724f8c4836e5640c7a"), looks := true }, kinds := [], alts := [], laidByText := true, laidKinds := [.sentinel, .sentinel, .sentinel, .sentinel, .sentinel], laidTests := true, laidLooks := .later }
def FnExactStrongestCellUptoCardSaid : Prop := Claim7.holds Tryd.pinned (.plain (OpenSpec.upto fnExactStrongestCellSpec)) fnExactStrongestCellUptoCard

/-- THE SECOND FORM's CARD OF 'laws.FnExactFoldSpeed'. -/
def fnExactFoldSpeedUptoCard : Claim7 := { stood := { row := fnExactFoldSpeedUptoRow, standIns := [], harness := (true, "00e6536917000565d6f6c8f21311f4d1e29f71b4c97b81724f8c4836e5640c7a"), looks := true }, kinds := [], alts := [], laidByText := true, laidKinds := [.sentinel, .sentinel, .sentinel, .sentinel, .sentinel], laidTests := true, laidLooks := .later }
def FnExactFoldSpeedUptoCardSaid : Prop := Claim7.holds Tryd.pinned (.plain (OpenSpec.upto fnExactFoldSpeedSpec)) fnExactFoldSpeedUptoCard

/-- THE SECOND FORM's CARD OF 'laws.FnExactLoudnessOf'. -/
def fnExactLoudnessOfUptoCard : Claim7 := { stood := { row := fnExactLoudnessOfUptoRow, standIns := [], harness := (true, "00e6536917000565d6f6c8f21311f4d1e29f71b4c97b81724f8c4836e5640c7a"), looks := true }, kinds := [], alts := [], laidByText := true, laidKinds := [.sentinel, .sentinel, .sentinel, .sentinel, .sentinel], laidTests := true, laidLooks := .later }
def FnExactLoudnessOfUptoCardSaid : Prop := Claim7.holds Tryd.pinned (.plain (OpenSpec.upto fnExactLoudnessOfSpec)) fnExactLoudnessOfUptoCard
end Rows
end Go.Proofs.YtllkjockdogagaaDoor
