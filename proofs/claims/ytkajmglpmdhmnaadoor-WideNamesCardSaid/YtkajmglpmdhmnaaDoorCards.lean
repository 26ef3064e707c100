/-
  DERIVED. GIVEN WITH THE SEED: THE CARDS: each row of YtkajmglpmdhmnaaDoorRows.lean that lists a variable, with what it lists TIED to the program's text (the seventh form; the later family's looks); each row that meets fmt, with fmt's text TOLD by the authors' own Lean function (tested against real Go, not proved from fmt's source: count such statements apart). THE CARD IS WHAT COUNTS. Prove the row's statement (the work); the ties are given (YtkajmglpmdhmnaaDoorTie.lean); close each card by the builder's one call (the guide's Derived/Test/ToyasCard.lean, 'card_holds'). Laid BY PROGRAM, IN A SANDBOX (cutbox-door.mjs). By AI agents, Wed Nov 11 2026. No macro, syntax, notation, axiom, sorry.
-/
import Derived.Test.YtkajmglpmdhmnaaDoorRows
import GoSem.ClaimSeven
namespace Go.Proofs.YtkajmglpmdhmnaaDoor
namespace Rows

/-- THE TIED CARD OF 'planispherelaw01.WideMore'. -/
def wideMoreCard : Claim7 := { stood := { row := wideMoreRow, standIns := [], harness := (true, "68fd3e93a90ac24c5bcc194fcc613d2de0db48999fb46a2e0f74c5b0c9353ae0"), looks := false }, kinds := [], alts := [], laidByText := true, laidKinds := [.data], laidTests := true, laidLooks := .later }
def WideMoreCardSaid : Prop := Claim7.holds Tryd.pinned (.plain (OpenSpec.ofChange wideMoreSpec)) wideMoreCard

/-- THE TIED CARD OF 'planispherelaw01.WideNames'. -/
def wideNamesCard : Claim7 := { stood := { row := wideNamesRow, standIns := [], harness := (true, "68fd3e93a90ac24c5bcc194fcc613d2de0db48999fb46a2e0f74c5b0c9353ae0"), looks := false }, kinds := [], alts := [], laidByText := true, laidKinds := [.data, .data, .data], laidTests := true, laidLooks := .later }
def WideNamesCardSaid : Prop := Claim7.holds Tryd.pinned (.plain (OpenSpec.ofChange wideNamesSpec)) wideNamesCard

/-- THE TIED CARD OF 'planispherelaw01.WideRing'. -/
def wideRingCard : Claim7 := { stood := { row := wideRingRow, standIns := [], harness := (true, "68fd3e93a90ac24c5bcc194fcc613d2de0db48999fb46a2e0f74c5b0c9353ae0"), looks := false }, kinds := [], alts := [], laidByText := true, laidKinds := [.data, .data, .data], laidTests := true, laidLooks := .later }
def WideRingCardSaid : Prop := Claim7.holds Tryd.pinned (.plain (OpenSpec.ofChange wideRingSpec)) wideRingCard

/-- THE SECOND FORM's CARD OF 'planispherelaw01.WideMore'. -/
def wideMoreUptoCard : Claim7 := { stood := { row := wideMoreUptoRow, standIns := [], harness := (true, "68fd3e93a90ac24c5bcc194fcc613d2de0db48999fb46a2e0f74c5b0c9353ae0"), looks := false }, kinds := [], alts := [], laidByText := true, laidKinds := [.data], laidTests := true, laidLooks := .later }
def WideMoreUptoCardSaid : Prop := Claim7.holds Tryd.pinned (.plain (OpenSpec.upto wideMoreSpec)) wideMoreUptoCard

/-- THE SECOND FORM's CARD OF 'planispherelaw01.WideNames'. -/
def wideNamesUptoCard : Claim7 := { stood := { row := wideNamesUptoRow, standIns := [], harness := (true, "68fd3e93a90ac24c5bcc194fcc613d2de0db48999fb46a2e0f74c5b0c9353ae0"), looks := false }, kinds := [], alts := [], laidByText := true, laidKinds := [.data, .data, .data], laidTests := true, laidLooks := .later }
def WideNamesUptoCardSaid : Prop := Claim7.holds Tryd.pinned (.plain (OpenSpec.upto wideNamesSpec)) wideNamesUptoCard

/-- THE SECOND FORM's CARD OF 'planispherelaw01.WideRing'. -/
def wideRingUptoCard : Claim7 := { stood := { row := wideRingUptoRow, standIns := [], harness := (true, "68fd3e93a90ac24c5bcc194fcc613d2de0db48999fb46a2e0f74c5b0c9353ae0"), looks := false }, kinds := [], alts := [], laidByText := true, laidKinds := [.data, .data, .data], laidTests := true, laidLooks := .later }
def WideRingUptoCardSaid : Prop := Claim7.holds Tryd.pinned (.plain (OpenSpec.upto wideRingSpec)) wideRingUptoCard
end Rows
end Go.Proofs.YtkajmglpmdhmnaaDoor
