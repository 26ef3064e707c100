/-
  DERIVED. GIVEN WITH THE SEED: THE CARDS: each row of YtaegadicnbmapaaDoorRows.lean that lists a variable, with what it lists TIED to the program's text (the seventh form; the later family's looks); each row that meets fmt, with fmt's text TOLD by the authors' own Lean function (tested against real Go, not proved from fmt's source: count such statements apart). THE CARD IS WHAT COUNTS. Prove the row's statement (the work); the ties are given (YtaegadicnbmapaaDoorTie.lean); close each card by the builder's one call (the guide's Derived/Test/ToyasCard.lean, 'card_holds'). Laid BY PROGRAM, IN A SANDBOX (cutbox-door.mjs). By AI agents, Wed Nov 11 2026. No macro, syntax, notation, axiom, sorry.
-/
import Derived.Test.YtaegadicnbmapaaDoorRows
import GoSem.ClaimSeven
namespace Go.Proofs.YtaegadicnbmapaaDoor
namespace Rows

/-- THE TIED CARD OF 'planispherelaw01.WideMore'. -/
def wideMoreCard : Claim7 := { stood := { row := wideMoreRow, standIns := [], harness := (true, "1c6300524930fc0634fb48f6cddbbb31dc1310fa9841ee2c28ce8503dea0b5d0"), looks := false }, kinds := [], alts := [], laidByText := true, laidKinds := [.data], laidTests := true, laidLooks := .later }
def WideMoreCardSaid : Prop := Claim7.holds Tryd.pinned (.plain (OpenSpec.ofChange wideMoreSpec)) wideMoreCard

/-- THE TIED CARD OF 'planispherelaw01.WideTexts'. -/
def wideTextsCard : Claim7 := { stood := { row := wideTextsRow, standIns := [], harness := (true, "1c6300524930fc0634fb48f6cddbbb31dc1310fa9841ee2c28ce8503dea0b5d0"), looks := false }, kinds := [], alts := [], laidByText := true, laidKinds := [.data, .data, .data], laidTests := true, laidLooks := .later }
def WideTextsCardSaid : Prop := Claim7.holds Tryd.pinned (.plain (OpenSpec.ofChange wideTextsSpec)) wideTextsCard

/-- THE TIED CARD OF 'planispherelaw01.WideNames'. -/
def wideNamesCard : Claim7 := { stood := { row := wideNamesRow, standIns := [], harness := (true, "1c6300524930fc0634fb48f6cddbbb31dc1310fa9841ee2c28ce8503dea0b5d0"), looks := false }, kinds := [], alts := [], laidByText := true, laidKinds := [.data, .data, .data], laidTests := true, laidLooks := .later }
def WideNamesCardSaid : Prop := Claim7.holds Tryd.pinned (.plain (OpenSpec.ofChange wideNamesSpec)) wideNamesCard

/-- THE TIED CARD OF 'planispherelaw01.WideRing'. -/
def wideRingCard : Claim7 := { stood := { row := wideRingRow, standIns := [], harness := (true, "1c6300524930fc0634fb48f6cddbbb31dc1310fa9841ee2c28ce8503dea0b5d0"), looks := false }, kinds := [], alts := [], laidByText := true, laidKinds := [.data, .data, .data], laidTests := true, laidLooks := .later }
def WideRingCardSaid : Prop := Claim7.holds Tryd.pinned (.plain (OpenSpec.ofChange wideRingSpec)) wideRingCard

/-- THE SECOND FORM's CARD OF 'planispherelaw01.WideMore'. -/
def wideMoreUptoCard : Claim7 := { stood := { row := wideMoreUptoRow, standIns := [], harness := (true, "1c6300524930fc0634fb48f6cddbbb31dc1310fa9841ee2c28ce8503dea0b5d0"), looks := false }, kinds := [], alts := [], laidByText := true, laidKinds := [.data], laidTests := true, laidLooks := .later }
def WideMoreUptoCardSaid : Prop := Claim7.holds Tryd.pinned (.plain (OpenSpec.upto wideMoreSpec)) wideMoreUptoCard

/-- THE SECOND FORM's CARD OF 'planispherelaw01.WideTexts'. -/
def wideTextsUptoCard : Claim7 := { stood := { row := wideTextsUptoRow, standIns := [], harness := (true, "1c6300524930fc0634fb48f6cddbbb31dc1310fa9841ee2c28ce8503dea0b5d0"), looks := false }, kinds := [], alts := [], laidByText := true, laidKinds := [.data, .data, .data], laidTests := true, laidLooks := .later }
def WideTextsUptoCardSaid : Prop := Claim7.holds Tryd.pinned (.plain (OpenSpec.upto wideTextsSpec)) wideTextsUptoCard

/-- THE SECOND FORM's CARD OF 'planispherelaw01.WideNames'. -/
def wideNamesUptoCard : Claim7 := { stood := { row := wideNamesUptoRow, standIns := [], harness := (true, "1c6300524930fc0634fb48f6cddbbb31dc1310fa9841ee2c28ce8503dea0b5d0"), looks := false }, kinds := [], alts := [], laidByText := true, laidKinds := [.data, .data, .data], laidTests := true, laidLooks := .later }
def WideNamesUptoCardSaid : Prop := Claim7.holds Tryd.pinned (.plain (OpenSpec.upto wideNamesSpec)) wideNamesUptoCard

/-- THE SECOND FORM's CARD OF 'planispherelaw01.WideRing'. -/
def wideRingUptoCard : Claim7 := { stood := { row := wideRingUptoRow, standIns := [], harness := (true, "1c6300524930fc0634fb48f6cddbbb31dc1310fa9841ee2c28ce8503dea0b5d0"), looks := false }, kinds := [], alts := [], laidByText := true, laidKinds := [.data, .data, .data], laidTests := true, laidLooks := .later }
def WideRingUptoCardSaid : Prop := Claim7.holds Tryd.pinned (.plain (OpenSpec.upto wideRingSpec)) wideRingUptoCard
end Rows
end Go.Proofs.YtaegadicnbmapaaDoor
