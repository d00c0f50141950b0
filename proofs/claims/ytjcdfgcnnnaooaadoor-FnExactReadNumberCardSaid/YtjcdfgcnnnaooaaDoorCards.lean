/-
  DERIVED. GIVEN WITH THE SEED: THE CARDS: each row of YtjcdfgcnnnaooaaDoorRows.lean that lists a variable, with what it lists TIED to the program's text (the seventh form; the later family's looks); each row that meets fmt, with fmt's text TOLD by the authors' own Lean function (tested against real Go, not proved from fmt's source: count such statements apart). THE CARD IS WHAT COUNTS. Prove the row's statement (the work); the ties are given (YtjcdfgcnnnaooaaDoorTie.lean); close each card by the builder's one call (the guide's Derived/Test/ToyasCard.lean, 'card_holds'). Laid BY PROGRAM, IN A SANDBOX (cutbox-door.mjs). By AI agents, Wed Nov 11 2026. No macro, syntax, notation, axiom, sorry.
-/
import Derived.Test.YtjcdfgcnnnaooaaDoorRows
import GoSem.ClaimSeven
namespace Go.Proofs.YtjcdfgcnnnaooaaDoor
namespace Rows

/-- THE TIED CARD OF 'laws.FnExactNumberText'. -/
def fnExactNumberTextCard : Claim7 := { stood := { row := fnExactNumberTextRow, standIns := [], harness := (true, "329017af1714b06bb681f9385b1a25610dfe8a3e677e6ff2a465e5caa2c575ff"), looks := true }, kinds := [], alts := [], laidByText := true, laidKinds := [.data, .data, .data], laidTests := true, laidLooks := .later }
def FnExactNumberTextCardSaid : Prop := Claim7.holds Tryd.pinned (.plain (OpenSpec.ofChange fnExactNumberTextSpec)) fnExactNumberTextCard

/-- THE TIED CARD OF 'laws.FnExactReadNumber'. -/
def fnExactReadNumberCard : Claim7 := { stood := { row := fnExactReadNumberRow, standIns := [], harness := (true, "329017af1714b06bb681f9385b1a25610dfe8a3e677e6ff2a465e5caa2c575ff"), looks := true }, kinds := [], alts := [], laidByText := true, laidKinds := [.data, .data, .data, .sentinel, .sentinel], laidTests := true, laidLooks := .later }
def FnExactReadNumberCardSaid : Prop := Claim7.holds Tryd.pinned (.plain (OpenSpec.ofChange fnExactReadNumberSpec)) fnExactReadNumberCard

/-- THE TIED CARD OF 'laws.FnExactSizesText'. -/
def fnExactSizesTextCard : Claim7 := { stood := { row := fnExactSizesTextRow, standIns := [], harness := (true, "329017af1714b06bb681f9385b1a25610dfe8a3e677e6ff2a465e5caa2c575ff"), looks := true }, kinds := [], alts := [], laidByText := true, laidKinds := [.data, .data, .data], laidTests := true, laidLooks := .later }
def FnExactSizesTextCardSaid : Prop := Claim7.holds Tryd.pinned (.plain (OpenSpec.ofChange fnExactSizesTextSpec)) fnExactSizesTextCard

/-- THE TIED CARD OF 'laws.FnExactReadSizes'. -/
def fnExactReadSizesCard : Claim7 := { stood := { row := fnExactReadSizesRow, standIns := [], harness := (true, "329017af1714b06bb681f9385b1a25610dfe8a3e677e6ff2a465e5caa2c575ff"), looks := true }, kinds := [], alts := [], laidByText := true, laidKinds := [.data, .data, .data, .data, .sentinel, .sentinel, .pinned], laidTests := true, laidLooks := .later }
def FnExactReadSizesCardSaid : Prop := Claim7.holds Tryd.pinned (.plain (OpenSpec.ofChange fnExactReadSizesSpec)) fnExactReadSizesCard

/-- THE TIED CARD OF 'laws.FnExactAirText'. -/
def fnExactAirTextCard : Claim7 := { stood := { row := fnExactAirTextRow, standIns := [], harness := (true, "329017af1714b06bb681f9385b1a25610dfe8a3e677e6ff2a465e5caa2c575ff"), looks := true }, kinds := [], alts := [], laidByText := true, laidKinds := [.data, .data, .data], laidTests := true, laidLooks := .later }
def FnExactAirTextCardSaid : Prop := Claim7.holds Tryd.pinned (.plain (OpenSpec.ofChange fnExactAirTextSpec)) fnExactAirTextCard

/-- THE TIED CARD OF 'laws.FnExactReadAir'. -/
def fnExactReadAirCard : Claim7 := { stood := { row := fnExactReadAirRow, standIns := [], harness := (true, "329017af1714b06bb681f9385b1a25610dfe8a3e677e6ff2a465e5caa2c575ff"), looks := true }, kinds := [], alts := [], laidByText := true, laidKinds := [.data, .data, .data, .data, .sentinel, .sentinel, .pinned], laidTests := true, laidLooks := .later }
def FnExactReadAirCardSaid : Prop := Claim7.holds Tryd.pinned (.plain (OpenSpec.ofChange fnExactReadAirSpec)) fnExactReadAirCard

/-- THE TIED CARD OF 'laws.FnExactKernelText'. -/
def fnExactKernelTextCard : Claim7 := { stood := { row := fnExactKernelTextRow, standIns := [], harness := (true, "329017af1714b06bb681f9385b1a25610dfe8a3e677e6ff2a465e5caa2c575ff"), looks := true }, kinds := [], alts := [], laidByText := true, laidKinds := [.data, .data, .data], laidTests := true, laidLooks := .later }
def FnExactKernelTextCardSaid : Prop := Claim7.holds Tryd.pinned (.plain (OpenSpec.ofChange fnExactKernelTextSpec)) fnExactKernelTextCard

/-- THE TIED CARD OF 'laws.FnExactReadKernel'. -/
def fnExactReadKernelCard : Claim7 := { stood := { row := fnExactReadKernelRow, standIns := [], harness := (true, "329017af1714b06bb681f9385b1a25610dfe8a3e677e6ff2a465e5caa2c575ff"), looks := true }, kinds := [], alts := [], laidByText := true, laidKinds := [.data, .data, .data, .data, .sentinel, .sentinel, .pinned], laidTests := true, laidLooks := .later }
def FnExactReadKernelCardSaid : Prop := Claim7.holds Tryd.pinned (.plain (OpenSpec.ofChange fnExactReadKernelSpec)) fnExactReadKernelCard

/-- THE TIED CARD OF 'laws.FnExactSoundingText'. -/
def fnExactSoundingTextCard : Claim7 := { stood := { row := fnExactSoundingTextRow, standIns := [], harness := (true, "329017af1714b06bb681f9385b1a25610dfe8a3e677e6ff2a465e5caa2c575ff"), looks := true }, kinds := [], alts := [], laidByText := true, laidKinds := [.data, .data, .data], laidTests := true, laidLooks := .later }
def FnExactSoundingTextCardSaid : Prop := Claim7.holds Tryd.pinned (.plain (OpenSpec.ofChange fnExactSoundingTextSpec)) fnExactSoundingTextCard

/-- THE SECOND FORM's CARD OF 'laws.FnExactNumberText'. -/
def fnExactNumberTextUptoCard : Claim7 := { stood := { row := fnExactNumberTextUptoRow, standIns := [], harness := (true, "329017af1714b06bb681f9385b1a25610dfe8a3e677e6ff2a465e5caa2c575ff"), looks := true }, kinds := [], alts := [], laidByText := true, laidKinds := [.data, .data, .data], laidTests := true, laidLooks := .later }
def FnExactNumberTextUptoCardSaid : Prop := Claim7.holds Tryd.pinned (.plain (OpenSpec.upto fnExactNumberTextSpec)) fnExactNumberTextUptoCard

/-- THE SECOND FORM's CARD OF 'laws.FnExactReadNumber'. -/
def fnExactReadNumberUptoCard : Claim7 := { stood := { row := fnExactReadNumberUptoRow, standIns := [], harness := (true, "329017af1714b06bb681f9385b1a25610dfe8a3e677e6ff2a465e5caa2c575ff"), looks := true }, kinds := [], alts := [], laidByText := true, laidKinds := [.data, .data, .data, .sentinel, .sentinel], laidTests := true, laidLooks := .later }
def FnExactReadNumberUptoCardSaid : Prop := Claim7.holds Tryd.pinned (.plain (OpenSpec.upto fnExactReadNumberSpec)) fnExactReadNumberUptoCard

/-- THE SECOND FORM's CARD OF 'laws.FnExactSizesText'. -/
def fnExactSizesTextUptoCard : Claim7 := { stood := { row := fnExactSizesTextUptoRow, standIns := [], harness := (true, "329017af1714b06bb681f9385b1a25610dfe8a3e677e6ff2a465e5caa2c575ff"), looks := true }, kinds := [], alts := [], laidByText := true, laidKinds := [.data, .data, .data], laidTests := true, laidLooks := .later }
def FnExactSizesTextUptoCardSaid : Prop := Claim7.holds Tryd.pinned (.plain (OpenSpec.upto fnExactSizesTextSpec)) fnExactSizesTextUptoCard

/-- THE SECOND FORM's CARD OF 'laws.FnExactReadSizes'. -/
def fnExactReadSizesUptoCard : Claim7 := { stood := { row := fnExactReadSizesUptoRow, standIns := [], harness := (true, "329017af1714b06bb681f9385b1a25610dfe8a3e677e6ff2a465e5caa2c575ff"), looks := true }, kinds := [], alts := [], laidByText := true, laidKinds := [.data, .data, .data, .data, .sentinel, .sentinel, .pinned], laidTests := true, laidLooks := .later }
def FnExactReadSizesUptoCardSaid : Prop := Claim7.holds Tryd.pinned (.plain (OpenSpec.upto fnExactReadSizesSpec)) fnExactReadSizesUptoCard

/-- THE SECOND FORM's CARD OF 'laws.FnExactAirText'. -/
def fnExactAirTextUptoCard : Claim7 := { stood := { row := fnExactAirTextUptoRow, standIns := [], harness := (true, "329017af1714b06bb681f9385b1a25610dfe8a3e677e6ff2a465e5caa2c575ff"), looks := true }, kinds := [], alts := [], laidByText := true, laidKinds := [.data, .data, .data], laidTests := true, laidLooks := .later }
def FnExactAirTextUptoCardSaid : Prop := Claim7.holds Tryd.pinned (.plain (OpenSpec.upto fnExactAirTextSpec)) fnExactAirTextUptoCard

/-- THE SECOND FORM's CARD OF 'laws.FnExactReadAir'. -/
def fnExactReadAirUptoCard : Claim7 := { stood := { row := fnExactReadAirUptoRow, standIns := [], harness := (true, "329017af1714b06bb681f9385b1a25610dfe8a3e677e6ff2a465e5caa2c575ff"), looks := true }, kinds := [], alts := [], laidByText := true, laidKinds := [.data, .data, .data, .data, .sentinel, .sentinel, .pinned], laidTests := true, laidLooks := .later }
def FnExactReadAirUptoCardSaid : Prop := Claim7.holds Tryd.pinned (.plain (OpenSpec.upto fnExactReadAirSpec)) fnExactReadAirUptoCard

/-- THE SECOND FORM's CARD OF 'laws.FnExactKernelText'. -/
def fnExactKernelTextUptoCard : Claim7 := { stood := { row := fnExactKernelTextUptoRow, standIns := [], harness := (true, "329017af1714b06bb681f9385b1a25610dfe8a3e677e6ff2a465e5caa2c575ff"), looks := true }, kinds := [], alts := [], laidByText := true, laidKinds := [.data, .data, .data], laidTests := true, laidLooks := .later }
def FnExactKernelTextUptoCardSaid : Prop := Claim7.holds Tryd.pinned (.plain (OpenSpec.upto fnExactKernelTextSpec)) fnExactKernelTextUptoCard

/-- THE SECOND FORM's CARD OF 'laws.FnExactReadKernel'. -/
def fnExactReadKernelUptoCard : Claim7 := { stood := { row := fnExactReadKernelUptoRow, standIns := [], harness := (true, "329017af1714b06bb681f9385b1a25610dfe8a3e677e6ff2a465e5caa2c575ff"), looks := true }, kinds := [], alts := [], laidByText := true, laidKinds := [.data, .data, .data, .data, .sentinel, .sentinel, .pinned], laidTests := true, laidLooks := .later }
def FnExactReadKernelUptoCardSaid : Prop := Claim7.holds Tryd.pinned (.plain (OpenSpec.upto fnExactReadKernelSpec)) fnExactReadKernelUptoCard

/-- THE SECOND FORM's CARD OF 'laws.FnExactSoundingText'. -/
def fnExactSoundingTextUptoCard : Claim7 := { stood := { row := fnExactSoundingTextUptoRow, standIns := [], harness := (true, "329017af1714b06bb681f9385b1a25610dfe8a3e677e6ff2a465e5caa2c575ff"), looks := true }, kinds := [], alts := [], laidByText := true, laidKinds := [.data, .data, .data], laidTests := true, laidLooks := .later }
def FnExactSoundingTextUptoCardSaid : Prop := Claim7.holds Tryd.pinned (.plain (OpenSpec.upto fnExactSoundingTextSpec)) fnExactSoundingTextUptoCard
end Rows
end Go.Proofs.YtjcdfgcnnnaooaaDoor
