/-
  DERIVED. GIVEN WITH THE SEED: THE CARDS: each row of YtkcdijhfiahibaaDoorRows.lean that lists a variable, with what it lists TIED to the program's text (the seventh form; the later family's looks); each row that meets fmt, with fmt's text TOLD by the authors' own Lean function (tested against real Go, not proved from fmt's source: count such statements apart). THE CARD IS WHAT COUNTS. Prove the row's statement (the work); the ties are given (YtkcdijhfiahibaaDoorTie.lean); close each card by the builder's one call (the guide's Derived/Test/ToyasCard.lean, 'card_holds'). Laid BY PROGRAM, IN A SANDBOX (cutbox-door.mjs). By AI agents, Wed Nov 11 2026. No macro, syntax, notation, axiom, sorry.
-/
import Derived.Test.YtkcdijhfiahibaaDoorRows
import GoSem.ClaimSeven
namespace Go.Proofs.YtkcdijhfiahibaaDoor
namespace Rows

/-- THE TIED CARD OF 'planispherelaw01.WideDivision'. -/
def wideDivisionCard : Claim7 := { stood := { row := wideDivisionRow, standIns := [], harness := (true, "178edba845ab45082388bda1bce46212edb438a9cf7f2e7f86f310cc1fc07dfd"), looks := false }, kinds := [], alts := [], laidByText := true, laidKinds := [.data, .data, .data], laidTests := true, laidLooks := .later }
def WideDivisionCardSaid : Prop := Claim7.holds Tryd.pinned (.plain (OpenSpec.ofChange wideDivisionSpec)) wideDivisionCard

/-- THE TIED CARD OF 'planispherelaw01.WideRoots'. -/
def wideRootsCard : Claim7 := { stood := { row := wideRootsRow, standIns := [], harness := (true, "178edba845ab45082388bda1bce46212edb438a9cf7f2e7f86f310cc1fc07dfd"), looks := false }, kinds := [], alts := [], laidByText := true, laidKinds := [.data, .data, .data], laidTests := true, laidLooks := .later }
def WideRootsCardSaid : Prop := Claim7.holds Tryd.pinned (.plain (OpenSpec.ofChange wideRootsSpec)) wideRootsCard

/-- THE TIED CARD OF 'planispherelaw01.WideBack'. -/
def wideBackCard : Claim7 := { stood := { row := wideBackRow, standIns := [], harness := (true, "178edba845ab45082388bda1bce46212edb438a9cf7f2e7f86f310cc1fc07dfd"), looks := false }, kinds := [], alts := [], laidByText := true, laidKinds := [.data, .data, .data], laidTests := true, laidLooks := .later }
def WideBackCardSaid : Prop := Claim7.holds Tryd.pinned (.plain (OpenSpec.ofChange wideBackSpec)) wideBackCard

/-- THE SECOND FORM's CARD OF 'planispherelaw01.WideDivision'. -/
def wideDivisionUptoCard : Claim7 := { stood := { row := wideDivisionUptoRow, standIns := [], harness := (true, "178edba845ab45082388bda1bce46212edb438a9cf7f2e7f86f310cc1fc07dfd"), looks := false }, kinds := [], alts := [], laidByText := true, laidKinds := [.data, .data, .data], laidTests := true, laidLooks := .later }
def WideDivisionUptoCardSaid : Prop := Claim7.holds Tryd.pinned (.plain (OpenSpec.upto wideDivisionSpec)) wideDivisionUptoCard

/-- THE SECOND FORM's CARD OF 'planispherelaw01.WideRoots'. -/
def wideRootsUptoCard : Claim7 := { stood := { row := wideRootsUptoRow, standIns := [], harness := (true, "178edba845ab45082388bda1bce46212edb438a9cf7f2e7f86f310cc1fc07dfd"), looks := false }, kinds := [], alts := [], laidByText := true, laidKinds := [.data, .data, .data], laidTests := true, laidLooks := .later }
def WideRootsUptoCardSaid : Prop := Claim7.holds Tryd.pinned (.plain (OpenSpec.upto wideRootsSpec)) wideRootsUptoCard

/-- THE SECOND FORM's CARD OF 'planispherelaw01.WideBack'. -/
def wideBackUptoCard : Claim7 := { stood := { row := wideBackUptoRow, standIns := [], harness := (true, "178edba845ab45082388bda1bce46212edb438a9cf7f2e7f86f310cc1fc07dfd"), looks := false }, kinds := [], alts := [], laidByText := true, laidKinds := [.data, .data, .data], laidTests := true, laidLooks := .later }
def WideBackUptoCardSaid : Prop := Claim7.holds Tryd.pinned (.plain (OpenSpec.upto wideBackSpec)) wideBackUptoCard
end Rows
end Go.Proofs.YtkcdijhfiahibaaDoor
