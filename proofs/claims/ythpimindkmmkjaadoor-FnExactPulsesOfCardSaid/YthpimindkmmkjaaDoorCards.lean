/-
  DERIVED. GIVEN WITH THE SEED: THE CARDS: each row of YthpimindkmmkjaaDoorRows.lean that lists a variable, with what it lists TIED to the program's text (the seventh form; the later family's looks); each row that meets fmt, with fmt's text TOLD by the authors' own Lean function (tested against real Go, not proved from fmt's source: count such statements apart). THE CARD IS WHAT COUNTS. Prove the row's statement (the work); the ties are given (YthpimindkmmkjaaDoorTie.lean); close each card by the builder's one call (the guide's Derived/Test/ToyasCard.lean, 'card_holds'). Laid BY PROGRAM, IN A SANDBOX (cutbox-door.mjs). By AI agents, Wed Nov 11 2026. No macro, syntax, notation, axiom, sorry.
-/
import Derived.Test.YthpimindkmmkjaaDoorRows
import GoSem.ClaimSeven
namespace Go.Proofs.YthpimindkmmkjaaDoor
namespace Rows

/-- THE TIED CARD OF 'laws.FnExactSpotOf'. -/
def fnExactSpotOfCard : Claim7 := { stood := { row := fnExactSpotOfRow, standIns := [], harness := (true, "676091b62306f3ff9401e4688b454d0146593c020ebeb642d8fda31eda063b35"), looks := true }, kinds := [], alts := [], laidByText := true, laidKinds := [.sentinel, .sentinel, .sentinel, .sentinel, .sentinel], laidTests := true, laidLooks := .later }
def FnExactSpotOfCardSaid : Prop := Claim7.holds Tryd.pinned (.plain (OpenSpec.ofChange fnExactSpotOfSpec)) fnExactSpotOfCard

/-- THE TIED CARD OF 'laws.FnExactUnfoldSpeeds'. -/
def fnExactUnfoldSpeedsCard : Claim7 := { stood := { row := fnExactUnfoldSpeedsRow, standIns := [], harness := (true, "676091b62306f3ff9401e4688b454d0146593c020ebeb642d8fda31eda063b35"), looks := true }, kinds := [], alts := [], laidByText := true, laidKinds := [.sentinel, .sentinel, .sentinel, .sentinel, .sentinel, .sentinel], laidTests := true, laidLooks := .later }
def FnExactUnfoldSpeedsCardSaid : Prop := Claim7.holds Tryd.pinned (.plain (OpenSpec.ofChange fnExactUnfoldSpeedsSpec)) fnExactUnfoldSpeedsCard

/-- THE TIED CARD OF 'laws.FnExactNoisePulses'. -/
def fnExactNoisePulsesCard : Claim7 := { stood := { row := fnExactNoisePulsesRow, standIns := [], harness := (true, "676091b62306f3ff9401e4688b454d0146593c020ebeb642d8fda31eda063b35"), looks := true }, kinds := [], alts := [], laidByText := true, laidKinds := [.sentinel, .sentinel, .sentinel, .sentinel, .sentinel], laidTests := true, laidLooks := .later }
def FnExactNoisePulsesCardSaid : Prop := Claim7.holds Tryd.pinned (.plain (OpenSpec.ofChange fnExactNoisePulsesSpec)) fnExactNoisePulsesCard

/-- THE TIED CARD OF 'laws.FnExactPulsesOf'. -/
def fnExactPulsesOfCard : Claim7 := { stood := { row := fnExactPulsesOfRow, standIns := [], harness := (true, "676091b62306f3ff9401e4688b454d0146593c020ebeb642d8fda31eda063b35"), looks := true }, kinds := [], alts := [], laidByText := true, laidKinds := [.sentinel, .sentinel, .sentinel, .sentinel, .sentinel, .sentinel], laidTests := true, laidLooks := .later }
def FnExactPulsesOfCardSaid : Prop := Claim7.holds Tryd.pinned (.plain (OpenSpec.ofChange fnExactPulsesOfSpec)) fnExactPulsesOfCard

/-- THE TIED CARD OF 'laws.FnExactAddBeam'. -/
def fnExactAddBeamCard : Claim7 := { stood := { row := fnExactAddBeamRow, standIns := [], harness := (true, "676091b62306f3ff9401e4688b454d0146593c020ebeb642d8fda31eda063b35"), looks := true }, kinds := [], alts := [], laidByText := true, laidKinds := [.sentinel, .sentinel, .sentinel, .sentinel, .sentinel], laidTests := true, laidLooks := .later }
def FnExactAddBeamCardSaid : Prop := Claim7.holds Tryd.pinned (.plain (OpenSpec.ofChange fnExactAddBeamSpec)) fnExactAddBeamCard

/-- THE TIED CARD OF 'laws.FnExactDeedText'. -/
def fnExactDeedTextCard : Claim7 := { stood := { row := fnExactDeedTextRow, standIns := [], harness := (true, "676091b62306f3ff9401e4688b454d0146593c020ebeb642d8fda31eda063b35"), looks := true }, kinds := [], alts := [], laidByText := true, laidKinds := [.data, .data, .data], laidTests := true, laidLooks := .later }
def FnExactDeedTextCardSaid : Prop := Claim7.holds Tryd.pinned (.plain (OpenSpec.ofChange fnExactDeedTextSpec)) fnExactDeedTextCard

/-- THE TIED CARD OF 'laws.FnExactReadDeed'. -/
def fnExactReadDeedCard : Claim7 := { stood := { row := fnExactReadDeedRow, standIns := [], harness := (true, "676091b62306f3ff9401e4688b454d0146593c020ebeb642d8fda31eda063b35"), looks := true }, kinds := [], alts := [], laidByText := true, laidKinds := [.data, .data, .data, .data, .sentinel, .sentinel, .pinned], laidTests := true, laidLooks := .later }
def FnExactReadDeedCardSaid : Prop := Claim7.holds Tryd.pinned (.plain (OpenSpec.ofChange fnExactReadDeedSpec)) fnExactReadDeedCard

/-- THE TIED CARD OF 'laws.FnExactActText'. -/
def fnExactActTextCard : Claim7 := { stood := { row := fnExactActTextRow, standIns := [], harness := (true, "676091b62306f3ff9401e4688b454d0146593c020ebeb642d8fda31eda063b35"), looks := true }, kinds := [], alts := [], laidByText := true, laidKinds := [.data, .data, .data], laidTests := true, laidLooks := .later }
def FnExactActTextCardSaid : Prop := Claim7.holds Tryd.pinned (.plain (OpenSpec.ofChange fnExactActTextSpec)) fnExactActTextCard

/-- THE TIED CARD OF 'laws.FnExactNumberText'. -/
def fnExactNumberTextCard : Claim7 := { stood := { row := fnExactNumberTextRow, standIns := [], harness := (true, "676091b62306f3ff9401e4688b454d0146593c020ebeb642d8fda31eda063b35"), looks := true }, kinds := [], alts := [], laidByText := true, laidKinds := [.data, .data, .data], laidTests := true, laidLooks := .later }
def FnExactNumberTextCardSaid : Prop := Claim7.holds Tryd.pinned (.plain (OpenSpec.ofChange fnExactNumberTextSpec)) fnExactNumberTextCard

/-- THE TIED CARD OF 'laws.FnExactReadNumber'. -/
def fnExactReadNumberCard : Claim7 := { stood := { row := fnExactReadNumberRow, standIns := [], harness := (true, "676091b62306f3ff9401e4688b454d0146593c020ebeb642d8fda31eda063b35"), looks := true }, kinds := [], alts := [], laidByText := true, laidKinds := [.data, .data, .data, .sentinel, .sentinel], laidTests := true, laidLooks := .later }
def FnExactReadNumberCardSaid : Prop := Claim7.holds Tryd.pinned (.plain (OpenSpec.ofChange fnExactReadNumberSpec)) fnExactReadNumberCard

/-- THE TIED CARD OF 'laws.FnExactSizesText'. -/
def fnExactSizesTextCard : Claim7 := { stood := { row := fnExactSizesTextRow, standIns := [], harness := (true, "676091b62306f3ff9401e4688b454d0146593c020ebeb642d8fda31eda063b35"), looks := true }, kinds := [], alts := [], laidByText := true, laidKinds := [.data, .data, .data], laidTests := true, laidLooks := .later }
def FnExactSizesTextCardSaid : Prop := Claim7.holds Tryd.pinned (.plain (OpenSpec.ofChange fnExactSizesTextSpec)) fnExactSizesTextCard

/-- THE TIED CARD OF 'laws.FnExactReadSizes'. -/
def fnExactReadSizesCard : Claim7 := { stood := { row := fnExactReadSizesRow, standIns := [], harness := (true, "676091b62306f3ff9401e4688b454d0146593c020ebeb642d8fda31eda063b35"), looks := true }, kinds := [], alts := [], laidByText := true, laidKinds := [.data, .data, .data, .data, .sentinel, .sentinel, .pinned], laidTests := true, laidLooks := .later }
def FnExactReadSizesCardSaid : Prop := Claim7.holds Tryd.pinned (.plain (OpenSpec.ofChange fnExactReadSizesSpec)) fnExactReadSizesCard

/-- THE SECOND FORM's CARD OF 'laws.FnExactSpotOf'. -/
def fnExactSpotOfUptoCard : Claim7 := { stood := { row := fnExactSpotOfUptoRow, standIns := [], harness := (true, "676091b62306f3ff9401e4688b454d0146593c020ebeb642d8fda31eda063b35"), looks := true }, kinds := [], alts := [], laidByText := true, laidKinds := [.sentinel, .sentinel, .sentinel, .sentinel, .sentinel], laidTests := true, laidLooks := .later }
def FnExactSpotOfUptoCardSaid : Prop := Claim7.holds Tryd.pinned (.plain (OpenSpec.upto fnExactSpotOfSpec)) fnExactSpotOfUptoCard

/-- THE SECOND FORM's CARD OF 'laws.FnExactUnfoldSpeeds'. -/
def fnExactUnfoldSpeedsUptoCard : Claim7 := { stood := { row := fnExactUnfoldSpeedsUptoRow, standIns := [], harness := (true, "676091b62306f3ff9401e4688b454d0146593c020ebeb642d8fda31eda063b35"), looks := true }, kinds := [], alts := [], laidByText := true, laidKinds := [.sentinel, .sentinel, .sentinel, .sentinel, .sentinel, .sentinel], laidTests := true, laidLooks := .later }
def FnExactUnfoldSpeedsUptoCardSaid : Prop := Claim7.holds Tryd.pinned (.plain (OpenSpec.upto fnExactUnfoldSpeedsSpec)) fnExactUnfoldSpeedsUptoCard

/-- THE SECOND FORM's CARD OF 'laws.FnExactNoisePulses'. -/
def fnExactNoisePulsesUptoCard : Claim7 := { stood := { row := fnExactNoisePulsesUptoRow, standIns := [], harness := (true, "676091b62306f3ff9401e4688b454d0146593c020ebeb642d8fda31eda063b35"), looks := true }, kinds := [], alts := [], laidByText := true, laidKinds := [.sentinel, .sentinel, .sentinel, .sentinel, .sentinel], laidTests := true, laidLooks := .later }
def FnExactNoisePulsesUptoCardSaid : Prop := Claim7.holds Tryd.pinned (.plain (OpenSpec.upto fnExactNoisePulsesSpec)) fnExactNoisePulsesUptoCard

/-- THE SECOND FORM's CARD OF 'laws.FnExactPulsesOf'. -/
def fnExactPulsesOfUptoCard : Claim7 := { stood := { row := fnExactPulsesOfUptoRow, standIns := [], harness := (true, "676091b62306f3ff9401e4688b454d0146593c020ebeb642d8fda31eda063b35"), looks := true }, kinds := [], alts := [], laidByText := true, laidKinds := [.sentinel, .sentinel, .sentinel, .sentinel, .sentinel, .sentinel], laidTests := true, laidLooks := .later }
def FnExactPulsesOfUptoCardSaid : Prop := Claim7.holds Tryd.pinned (.plain (OpenSpec.upto fnExactPulsesOfSpec)) fnExactPulsesOfUptoCard

/-- THE SECOND FORM's CARD OF 'laws.FnExactAddBeam'. -/
def fnExactAddBeamUptoCard : Claim7 := { stood := { row := fnExactAddBeamUptoRow, standIns := [], harness := (true, "676091b62306f3ff9401e4688b454d0146593c020ebeb642d8fda31eda063b35"), looks := true }, kinds := [], alts := [], laidByText := true, laidKinds := [.sentinel, .sentinel, .sentinel, .sentinel, .sentinel], laidTests := true, laidLooks := .later }
def FnExactAddBeamUptoCardSaid : Prop := Claim7.holds Tryd.pinned (.plain (OpenSpec.upto fnExactAddBeamSpec)) fnExactAddBeamUptoCard

/-- THE SECOND FORM's CARD OF 'laws.FnExactDeedText'. -/
def fnExactDeedTextUptoCard : Claim7 := { stood := { row := fnExactDeedTextUptoRow, standIns := [], harness := (true, "676091b62306f3ff9401e4688b454d0146593c020ebeb642d8fda31eda063b35"), looks := true }, kinds := [], alts := [], laidByText := true, laidKinds := [.data, .data, .data], laidTests := true, laidLooks := .later }
def FnExactDeedTextUptoCardSaid : Prop := Claim7.holds Tryd.pinned (.plain (OpenSpec.upto fnExactDeedTextSpec)) fnExactDeedTextUptoCard

/-- THE SECOND FORM's CARD OF 'laws.FnExactReadDeed'. -/
def fnExactReadDeedUptoCard : Claim7 := { stood := { row := fnExactReadDeedUptoRow, standIns := [], harness := (true, "676091b62306f3ff9401e4688b454d0146593c020ebeb642d8fda31eda063b35"), looks := true }, kinds := [], alts := [], laidByText := true, laidKinds := [.data, .data, .data, .data, .sentinel, .sentinel, .pinned], laidTests := true, laidLooks := .later }
def FnExactReadDeedUptoCardSaid : Prop := Claim7.holds Tryd.pinned (.plain (OpenSpec.upto fnExactReadDeedSpec)) fnExactReadDeedUptoCard

/-- THE SECOND FORM's CARD OF 'laws.FnExactActText'. -/
def fnExactActTextUptoCard : Claim7 := { stood := { row := fnExactActTextUptoRow, standIns := [], harness := (true, "676091b62306f3ff9401e4688b454d0146593c020ebeb642d8fda31eda063b35"), looks := true }, kinds := [], alts := [], laidByText := true, laidKinds := [.data, .data, .data], laidTests := true, laidLooks := .later }
def FnExactActTextUptoCardSaid : Prop := Claim7.holds Tryd.pinned (.plain (OpenSpec.upto fnExactActTextSpec)) fnExactActTextUptoCard

/-- THE SECOND FORM's CARD OF 'laws.FnExactNumberText'. -/
def fnExactNumberTextUptoCard : Claim7 := { stood := { row := fnExactNumberTextUptoRow, standIns := [], harness := (true, "676091b62306f3ff9401e4688b454d0146593c020ebeb642d8fda31eda063b35"), looks := true }, kinds := [], alts := [], laidByText := true, laidKinds := [.data, .data, .data], laidTests := true, laidLooks := .later }
def FnExactNumberTextUptoCardSaid : Prop := Claim7.holds Tryd.pinned (.plain (OpenSpec.upto fnExactNumberTextSpec)) fnExactNumberTextUptoCard

/-- THE SECOND FORM's CARD OF 'laws.FnExactReadNumber'. -/
def fnExactReadNumberUptoCard : Claim7 := { stood := { row := fnExactReadNumberUptoRow, standIns := [], harness := (true, "676091b62306f3ff9401e4688b454d0146593c020ebeb642d8fda31eda063b35"), looks := true }, kinds := [], alts := [], laidByText := true, laidKinds := [.data, .data, .data, .sentinel, .sentinel], laidTests := true, laidLooks := .later }
def FnExactReadNumberUptoCardSaid : Prop := Claim7.holds Tryd.pinned (.plain (OpenSpec.upto fnExactReadNumberSpec)) fnExactReadNumberUptoCard

/-- THE SECOND FORM's CARD OF 'laws.FnExactSizesText'. -/
def fnExactSizesTextUptoCard : Claim7 := { stood := { row := fnExactSizesTextUptoRow, standIns := [], harness := (true, "676091b62306f3ff9401e4688b454d0146593c020ebeb642d8fda31eda063b35"), looks := true }, kinds := [], alts := [], laidByText := true, laidKinds := [.data, .data, .data], laidTests := true, laidLooks := .later }
def FnExactSizesTextUptoCardSaid : Prop := Claim7.holds Tryd.pinned (.plain (OpenSpec.upto fnExactSizesTextSpec)) fnExactSizesTextUptoCard

/-- THE SECOND FORM's CARD OF 'laws.FnExactReadSizes'. -/
def fnExactReadSizesUptoCard : Claim7 := { stood := { row := fnExactReadSizesUptoRow, standIns := [], harness := (true, "676091b62306f3ff9401e4688b454d0146593c020ebeb642d8fda31eda063b35"), looks := true }, kinds := [], alts := [], laidByText := true, laidKinds := [.data, .data, .data, .data, .sentinel, .sentinel, .pinned], laidTests := true, laidLooks := .later }
def FnExactReadSizesUptoCardSaid : Prop := Claim7.holds Tryd.pinned (.plain (OpenSpec.upto fnExactReadSizesSpec)) fnExactReadSizesUptoCard
end Rows
end Go.Proofs.YthpimindkmmkjaaDoor
