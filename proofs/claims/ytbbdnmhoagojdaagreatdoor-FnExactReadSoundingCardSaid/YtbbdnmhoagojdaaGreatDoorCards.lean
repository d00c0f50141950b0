/-
  DERIVED. GIVEN WITH THE SEED: THE CARDS: each row of YtbbdnmhoagojdaaGreatDoorRows.lean that lists a variable, with what it lists TIED to the program's text (the seventh form; the later family's looks); each row that meets fmt, with fmt's text TOLD by the authors' own Lean function (tested against real Go, not proved from fmt's source: count such statements apart). THE CARD IS WHAT COUNTS. Prove the row's statement (the work); the ties are given (YtbbdnmhoagojdaaGreatDoorTie.lean); close each card by the builder's one call (the guide's Derived/Test/ToyasCard.lean, 'card_holds'). Laid BY PROGRAM, IN A SANDBOX (cutbox-door.mjs). By AI agents, Wed Nov 11 2026. No macro, syntax, notation, axiom, sorry.
-/
import Derived.Test.YtbbdnmhoagojdaaGreatDoorRows
import GoSem.ClaimSeven
namespace Go.Proofs.YtbbdnmhoagojdaaGreatDoor
namespace Rows

/-- THE TIED CARD OF 'laws.FnExactReadSounding'. -/
def fnExactReadSoundingCard : Claim7 := { stood := { row := fnExactReadSoundingRow, standIns := [], harness := (true, "bdc54e197921cb06de73f7742beedc6312bc6298186ace0dea6786e54be29c15"), looks := true }, kinds := [], alts := [], laidByText := true, laidKinds := [.data, .data, .data, .data, .sentinel, .sentinel, .pinned], laidTests := true, laidLooks := .later }
def FnExactReadSoundingCardSaid : Prop := Claim7.holds Tryz.pinned (.plain (OpenSpec.ofChange fnExactReadSoundingSpec)) fnExactReadSoundingCard

/-- THE TIED CARD OF 'laws.FnExactReadColumn'. -/
def fnExactReadColumnCard : Claim7 := { stood := { row := fnExactReadColumnRow, standIns := [], harness := (true, "bdc54e197921cb06de73f7742beedc6312bc6298186ace0dea6786e54be29c15"), looks := true }, kinds := [], alts := [], laidByText := true, laidKinds := [.data, .data, .data, .data, .sentinel, .sentinel, .pinned], laidTests := true, laidLooks := .later }
def FnExactReadColumnCardSaid : Prop := Claim7.holds Tryz.pinned (.plain (OpenSpec.ofChange fnExactReadColumnSpec)) fnExactReadColumnCard

/-- THE TIED CARD OF 'laws.FnExactReadPulses'. -/
def fnExactReadPulsesCard : Claim7 := { stood := { row := fnExactReadPulsesRow, standIns := [], harness := (true, "bdc54e197921cb06de73f7742beedc6312bc6298186ace0dea6786e54be29c15"), looks := true }, kinds := [], alts := [], laidByText := true, laidKinds := [.data, .data, .data, .sentinel, .sentinel, .sentinel, .sentinel, .sentinel, .sentinel, .sentinel], laidTests := true, laidLooks := .later }
def FnExactReadPulsesCardSaid : Prop := Claim7.holds Tryz.pinned (.plain (OpenSpec.ofChange fnExactReadPulsesSpec)) fnExactReadPulsesCard

/-- THE SECOND FORM's CARD OF 'laws.FnExactReadSounding'. -/
def fnExactReadSoundingUptoCard : Claim7 := { stood := { row := fnExactReadSoundingUptoRow, standIns := [], harness := (true, "bdc54e197921cb06de73f7742beedc6312bc6298186ace0dea6786e54be29c15"), looks := true }, kinds := [], alts := [], laidByText := true, laidKinds := [.data, .data, .data, .data, .sentinel, .sentinel, .pinned], laidTests := true, laidLooks := .later }
def FnExactReadSoundingUptoCardSaid : Prop := Claim7.holds Tryz.pinned (.plain (OpenSpec.upto fnExactReadSoundingSpec)) fnExactReadSoundingUptoCard

/-- THE SECOND FORM's CARD OF 'laws.FnExactReadColumn'. -/
def fnExactReadColumnUptoCard : Claim7 := { stood := { row := fnExactReadColumnUptoRow, standIns := [], harness := (true, "bdc54e197921cb06de73f7742beedc6312bc6298186ace0dea6786e54be29c15"), looks := true }, kinds := [], alts := [], laidByText := true, laidKinds := [.data, .data, .data, .data, .sentinel, .sentinel, .pinned], laidTests := true, laidLooks := .later }
def FnExactReadColumnUptoCardSaid : Prop := Claim7.holds Tryz.pinned (.plain (OpenSpec.upto fnExactReadColumnSpec)) fnExactReadColumnUptoCard

/-- THE SECOND FORM's CARD OF 'laws.FnExactReadPulses'. -/
def fnExactReadPulsesUptoCard : Claim7 := { stood := { row := fnExactReadPulsesUptoRow, standIns := [], harness := (true, "bdc54e197921cb06de73f7742beedc6312bc6298186ace0dea6786e54be29c15"), looks := true }, kinds := [], alts := [], laidByText := true, laidKinds := [.data, .data, .data, .sentinel, .sentinel, .sentinel, .sentinel, .sentinel, .sentinel, .sentinel], laidTests := true, laidLooks := .later }
def FnExactReadPulsesUptoCardSaid : Prop := Claim7.holds Tryz.pinned (.plain (OpenSpec.upto fnExactReadPulsesSpec)) fnExactReadPulsesUptoCard
end Rows
end Go.Proofs.YtbbdnmhoagojdaaGreatDoor
