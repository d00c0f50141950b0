/-
  DERIVED. GIVEN WITH THE SEED: THE CARDS: each row of YtbbdnmhoagojdaaDoorRows.lean that lists a variable, with what it lists TIED to the program's text (the seventh form; the later family's looks); each row that meets fmt, with fmt's text TOLD by the authors' own Lean function (tested against real Go, not proved from fmt's source: count such statements apart). THE CARD IS WHAT COUNTS. Prove the row's statement (the work); the ties are given (YtbbdnmhoagojdaaDoorTie.lean); close each card by the builder's one call (the guide's Derived/Test/ToyasCard.lean, 'card_holds'). Laid BY PROGRAM, IN A SANDBOX (cutbox-door.mjs). By AI agents, Wed Nov 11 2026. No macro, syntax, notation, axiom, sorry.
-/
import Derived.Test.YtbbdnmhoagojdaaDoorRows
import GoSem.ClaimSeven
namespace Go.Proofs.YtbbdnmhoagojdaaDoor
namespace Rows

/-- THE TIED CARD OF 'laws.FnExactReadSizes'. -/
def fnExactReadSizesCard : Claim7 := { stood := { row := fnExactReadSizesRow, standIns := [], harness := (true, "61897a0a5ea995214c5e1fa2fc9ece6a2b2193e817fa77bc0a27a8d612ef745e"), looks := true }, kinds := [], alts := [], laidByText := true, laidKinds := [.data, .data, .data, .data, .sentinel, .sentinel, .pinned], laidTests := true, laidLooks := .later }
def FnExactReadSizesCardSaid : Prop := Claim7.holds Tryd.pinned (.plain (OpenSpec.ofChange fnExactReadSizesSpec)) fnExactReadSizesCard

/-- THE TIED CARD OF 'laws.FnExactReadAir'. -/
def fnExactReadAirCard : Claim7 := { stood := { row := fnExactReadAirRow, standIns := [], harness := (true, "61897a0a5ea995214c5e1fa2fc9ece6a2b2193e817fa77bc0a27a8d612ef745e"), looks := true }, kinds := [], alts := [], laidByText := true, laidKinds := [.data, .data, .data, .data, .sentinel, .sentinel, .pinned], laidTests := true, laidLooks := .later }
def FnExactReadAirCardSaid : Prop := Claim7.holds Tryd.pinned (.plain (OpenSpec.ofChange fnExactReadAirSpec)) fnExactReadAirCard

/-- THE TIED CARD OF 'laws.FnExactReadKernel'. -/
def fnExactReadKernelCard : Claim7 := { stood := { row := fnExactReadKernelRow, standIns := [], harness := (true, "61897a0a5ea995214c5e1fa2fc9ece6a2b2193e817fa77bc0a27a8d612ef745e"), looks := true }, kinds := [], alts := [], laidByText := true, laidKinds := [.data, .data, .data, .data, .sentinel, .sentinel, .pinned], laidTests := true, laidLooks := .later }
def FnExactReadKernelCardSaid : Prop := Claim7.holds Tryd.pinned (.plain (OpenSpec.ofChange fnExactReadKernelSpec)) fnExactReadKernelCard

/-- THE TIED CARD OF 'laws.FnClasses'. -/
def fnClassesCard : Claim7 := { stood := { row := fnClassesRow, standIns := [], harness := (true, "61897a0a5ea995214c5e1fa2fc9ece6a2b2193e817fa77bc0a27a8d612ef745e"), looks := true }, kinds := [], alts := [], laidByText := true, laidKinds := [.data, .data, .data, .sentinel, .sentinel], laidTests := true, laidLooks := .later }
def FnClassesCardSaid : Prop := Claim7.holds Tryd.pinned (.plain (OpenSpec.ofChange fnClassesSpec)) fnClassesCard

/-- THE TIED CARD OF 'laws.FnExactColumnText'. -/
def fnExactColumnTextCard : Claim7 := { stood := { row := fnExactColumnTextRow, standIns := [], harness := (true, "61897a0a5ea995214c5e1fa2fc9ece6a2b2193e817fa77bc0a27a8d612ef745e"), looks := true }, kinds := [], alts := [], laidByText := true, laidKinds := [.data, .data, .data], laidTests := true, laidLooks := .later }
def FnExactColumnTextCardSaid : Prop := Claim7.holds Tryd.pinned (.plain (OpenSpec.ofChange fnExactColumnTextSpec)) fnExactColumnTextCard

/-- THE TIED CARD OF 'laws.FnExactDeedText'. -/
def fnExactDeedTextCard : Claim7 := { stood := { row := fnExactDeedTextRow, standIns := [], harness := (true, "61897a0a5ea995214c5e1fa2fc9ece6a2b2193e817fa77bc0a27a8d612ef745e"), looks := true }, kinds := [], alts := [], laidByText := true, laidKinds := [.data, .data, .data], laidTests := true, laidLooks := .later }
def FnExactDeedTextCardSaid : Prop := Claim7.holds Tryd.pinned (.plain (OpenSpec.ofChange fnExactDeedTextSpec)) fnExactDeedTextCard

/-- THE TIED CARD OF 'laws.FnExactReadDeed'. -/
def fnExactReadDeedCard : Claim7 := { stood := { row := fnExactReadDeedRow, standIns := [], harness := (true, "61897a0a5ea995214c5e1fa2fc9ece6a2b2193e817fa77bc0a27a8d612ef745e"), looks := true }, kinds := [], alts := [], laidByText := true, laidKinds := [.data, .data, .data, .data, .sentinel, .sentinel, .pinned], laidTests := true, laidLooks := .later }
def FnExactReadDeedCardSaid : Prop := Claim7.holds Tryd.pinned (.plain (OpenSpec.ofChange fnExactReadDeedSpec)) fnExactReadDeedCard

/-- THE TIED CARD OF 'laws.FnExactActText'. -/
def fnExactActTextCard : Claim7 := { stood := { row := fnExactActTextRow, standIns := [], harness := (true, "61897a0a5ea995214c5e1fa2fc9ece6a2b2193e817fa77bc0a27a8d612ef745e"), looks := true }, kinds := [], alts := [], laidByText := true, laidKinds := [.data, .data, .data], laidTests := true, laidLooks := .later }
def FnExactActTextCardSaid : Prop := Claim7.holds Tryd.pinned (.plain (OpenSpec.ofChange fnExactActTextSpec)) fnExactActTextCard

/-- THE SECOND FORM's CARD OF 'laws.FnExactReadSizes'. -/
def fnExactReadSizesUptoCard : Claim7 := { stood := { row := fnExactReadSizesUptoRow, standIns := [], harness := (true, "61897a0a5ea995214c5e1fa2fc9ece6a2b2193e817fa77bc0a27a8d612ef745e"), looks := true }, kinds := [], alts := [], laidByText := true, laidKinds := [.data, .data, .data, .data, .sentinel, .sentinel, .pinned], laidTests := true, laidLooks := .later }
def FnExactReadSizesUptoCardSaid : Prop := Claim7.holds Tryd.pinned (.plain (OpenSpec.upto fnExactReadSizesSpec)) fnExactReadSizesUptoCard

/-- THE SECOND FORM's CARD OF 'laws.FnExactReadAir'. -/
def fnExactReadAirUptoCard : Claim7 := { stood := { row := fnExactReadAirUptoRow, standIns := [], harness := (true, "61897a0a5ea995214c5e1fa2fc9ece6a2b2193e817fa77bc0a27a8d612ef745e"), looks := true }, kinds := [], alts := [], laidByText := true, laidKinds := [.data, .data, .data, .data, .sentinel, .sentinel, .pinned], laidTests := true, laidLooks := .later }
def FnExactReadAirUptoCardSaid : Prop := Claim7.holds Tryd.pinned (.plain (OpenSpec.upto fnExactReadAirSpec)) fnExactReadAirUptoCard

/-- THE SECOND FORM's CARD OF 'laws.FnExactReadKernel'. -/
def fnExactReadKernelUptoCard : Claim7 := { stood := { row := fnExactReadKernelUptoRow, standIns := [], harness := (true, "61897a0a5ea995214c5e1fa2fc9ece6a2b2193e817fa77bc0a27a8d612ef745e"), looks := true }, kinds := [], alts := [], laidByText := true, laidKinds := [.data, .data, .data, .data, .sentinel, .sentinel, .pinned], laidTests := true, laidLooks := .later }
def FnExactReadKernelUptoCardSaid : Prop := Claim7.holds Tryd.pinned (.plain (OpenSpec.upto fnExactReadKernelSpec)) fnExactReadKernelUptoCard

/-- THE SECOND FORM's CARD OF 'laws.FnClasses'. -/
def fnClassesUptoCard : Claim7 := { stood := { row := fnClassesUptoRow, standIns := [], harness := (true, "61897a0a5ea995214c5e1fa2fc9ece6a2b2193e817fa77bc0a27a8d612ef745e"), looks := true }, kinds := [], alts := [], laidByText := true, laidKinds := [.data, .data, .data, .sentinel, .sentinel], laidTests := true, laidLooks := .later }
def FnClassesUptoCardSaid : Prop := Claim7.holds Tryd.pinned (.plain (OpenSpec.upto fnClassesSpec)) fnClassesUptoCard

/-- THE SECOND FORM's CARD OF 'laws.FnExactColumnText'. -/
def fnExactColumnTextUptoCard : Claim7 := { stood := { row := fnExactColumnTextUptoRow, standIns := [], harness := (true, "61897a0a5ea995214c5e1fa2fc9ece6a2b2193e817fa77bc0a27a8d612ef745e"), looks := true }, kinds := [], alts := [], laidByText := true, laidKinds := [.data, .data, .data], laidTests := true, laidLooks := .later }
def FnExactColumnTextUptoCardSaid : Prop := Claim7.holds Tryd.pinned (.plain (OpenSpec.upto fnExactColumnTextSpec)) fnExactColumnTextUptoCard

/-- THE SECOND FORM's CARD OF 'laws.FnExactDeedText'. -/
def fnExactDeedTextUptoCard : Claim7 := { stood := { row := fnExactDeedTextUptoRow, standIns := [], harness := (true, "61897a0a5ea995214c5e1fa2fc9ece6a2b2193e817fa77bc0a27a8d612ef745e"), looks := true }, kinds := [], alts := [], laidByText := true, laidKinds := [.data, .data, .data], laidTests := true, laidLooks := .later }
def FnExactDeedTextUptoCardSaid : Prop := Claim7.holds Tryd.pinned (.plain (OpenSpec.upto fnExactDeedTextSpec)) fnExactDeedTextUptoCard

/-- THE SECOND FORM's CARD OF 'laws.FnExactReadDeed'. -/
def fnExactReadDeedUptoCard : Claim7 := { stood := { row := fnExactReadDeedUptoRow, standIns := [], harness := (true, "61897a0a5ea995214c5e1fa2fc9ece6a2b2193e817fa77bc0a27a8d612ef745e"), looks := true }, kinds := [], alts := [], laidByText := true, laidKinds := [.data, .data, .data, .data, .sentinel, .sentinel, .pinned], laidTests := true, laidLooks := .later }
def FnExactReadDeedUptoCardSaid : Prop := Claim7.holds Tryd.pinned (.plain (OpenSpec.upto fnExactReadDeedSpec)) fnExactReadDeedUptoCard

/-- THE SECOND FORM's CARD OF 'laws.FnExactActText'. -/
def fnExactActTextUptoCard : Claim7 := { stood := { row := fnExactActTextUptoRow, standIns := [], harness := (true, "61897a0a5ea995214c5e1fa2fc9ece6a2b2193e817fa77bc0a27a8d612ef745e"), looks := true }, kinds := [], alts := [], laidByText := true, laidKinds := [.data, .data, .data], laidTests := true, laidLooks := .later }
def FnExactActTextUptoCardSaid : Prop := Claim7.holds Tryd.pinned (.plain (OpenSpec.upto fnExactActTextSpec)) fnExactActTextUptoCard
end Rows
end Go.Proofs.YtbbdnmhoagojdaaDoor
