/-
  DERIVED. GIVEN WITH THE SEED: THE CARDS: each row of YtlmnhlfklbgjdaaGreatDoorRows.lean that lists a variable, with what it lists TIED to the program's text (the seventh form; the later family's looks); each row that meets fmt, with fmt's text TOLD by the authors' own Lean function (tested against real Go, not proved from fmt's source: count such statements apart). THE CARD IS WHAT COUNTS. Prove the row's statement (the work); the ties are given (YtlmnhlfklbgjdaaGreatDoorTie.lean); close each card by the builder's one call (the guide's Derived/Test/ToyasCard.lean, 'card_holds'). Laid BY PROGRAM, IN A SANDBOX (cutbox-door.mjs). By AI agents, Wed Nov 11 2026. No macro, syntax, notation, axiom, sorry.
-/
import Derived.Test.YtlmnhlfklbgjdaaGreatDoorRows
import GoSem.ClaimSeven
namespace Go.Proofs.YtlmnhlfklbgjdaaGreatDoor
namespace Rows

/-- THE TIED CARD OF 'laws.FnDrawnAnew'. -/
def fnDrawnAnewCard : Claim7 := { stood := { row := fnDrawnAnewRow, standIns := [], harness := (true, "900be04c92c40667689c0b346a4d5c985ebe64ce58d43df6650f92cfd5c83bdc"), looks := false }, kinds := [], alts := [], laidByText := true, laidKinds := [.data, .data, .data, .data], laidTests := true, laidLooks := .later }
def FnDrawnAnewCardSaid : Prop := Claim7.holds Tryz.pinned (.plain (OpenSpec.ofChange fnDrawnAnewSpec)) fnDrawnAnewCard

/-- THE TIED CARD OF 'laws.FnExactDrawn'. -/
def fnExactDrawnCard : Claim7 := { stood := { row := fnExactDrawnRow, standIns := [], harness := (true, "900be04c92c40667689c0b346a4d5c985ebe64ce58d43df6650f92cfd5c83bdc"), looks := false }, kinds := [], alts := [], laidByText := true, laidKinds := [.data, .data, .data, .data], laidTests := true, laidLooks := .later }
def FnExactDrawnCardSaid : Prop := Claim7.holds Tryz.pinned (.plain (OpenSpec.ofChange fnExactDrawnSpec)) fnExactDrawnCard

/-- THE SECOND FORM's CARD OF 'laws.FnDrawnAnew'. -/
def fnDrawnAnewUptoCard : Claim7 := { stood := { row := fnDrawnAnewUptoRow, standIns := [], harness := (true, "900be04c92c40667689c0b346a4d5c985ebe64ce58d43df6650f92cfd5c83bdc"), looks := false }, kinds := [], alts := [], laidByText := true, laidKinds := [.data, .data, .data, .data], laidTests := true, laidLooks := .later }
def FnDrawnAnewUptoCardSaid : Prop := Claim7.holds Tryz.pinned (.plain (OpenSpec.upto fnDrawnAnewSpec)) fnDrawnAnewUptoCard

/-- THE SECOND FORM's CARD OF 'laws.FnExactDrawn'. -/
def fnExactDrawnUptoCard : Claim7 := { stood := { row := fnExactDrawnUptoRow, standIns := [], harness := (true, "900be04c92c40667689c0b346a4d5c985ebe64ce58d43df6650f92cfd5c83bdc"), looks := false }, kinds := [], alts := [], laidByText := true, laidKinds := [.data, .data, .data, .data], laidTests := true, laidLooks := .later }
def FnExactDrawnUptoCardSaid : Prop := Claim7.holds Tryz.pinned (.plain (OpenSpec.upto fnExactDrawnSpec)) fnExactDrawnUptoCard
end Rows
end Go.Proofs.YtlmnhlfklbgjdaaGreatDoor
