/-
  DERIVED. GIVEN WITH THE SEED: THE CARDS: each row of YtngbndfnhpjmjaaDoorRows.lean that lists a variable, with what it lists TIED to the program's text (the seventh form; the later family's looks); each row that meets fmt, with fmt's text TOLD by the authors' own Lean function (tested against real Go, not proved from fmt's source: count such statements apart). THE CARD IS WHAT COUNTS. Prove the row's statement (the work); the ties are given (YtngbndfnhpjmjaaDoorTie.lean); close each card by the builder's one call (the guide's Derived/Test/ToyasCard.lean, 'card_holds'). Laid BY PROGRAM, IN A SANDBOX (cutbox-door.mjs). By AI agents, Wed Nov 11 2026. No macro, syntax, notation, axiom, sorry.
-/
import Derived.Test.YtngbndfnhpjmjaaDoorRows
import GoSem.ClaimSeven
namespace Go.Proofs.YtngbndfnhpjmjaaDoor
namespace Rows

/-- THE TIED CARD OF 'laws.FnGrids'. -/
def fnGridsCard : Claim7 := { stood := { row := fnGridsRow, standIns := [], harness := (true, "28885fb7ad6f70a8879accc7304dcc6f106d7fd8d4d2880c5cfe4607a025e215"), looks := false }, kinds := [], alts := [], laidByText := true, laidKinds := [.data, .data, .pinned], laidTests := true, laidLooks := .later }
def FnGridsCardSaid : Prop := Claim7.holds Tryd.pinned (.plain (OpenSpec.ofChange fnGridsSpec)) fnGridsCard

/-- THE TIED CARD OF 'laws.FnExactGridOk'. -/
def fnExactGridOkCard : Claim7 := { stood := { row := fnExactGridOkRow, standIns := [], harness := (true, "28885fb7ad6f70a8879accc7304dcc6f106d7fd8d4d2880c5cfe4607a025e215"), looks := false }, kinds := [], alts := [], laidByText := true, laidKinds := [.data], laidTests := true, laidLooks := .later }
def FnExactGridOkCardSaid : Prop := Claim7.holds Tryd.pinned (.plain (OpenSpec.ofChange fnExactGridOkSpec)) fnExactGridOkCard

/-- THE TIED CARD OF 'laws.FnExactUp'. -/
def fnExactUpCard : Claim7 := { stood := { row := fnExactUpRow, standIns := [], harness := (true, "28885fb7ad6f70a8879accc7304dcc6f106d7fd8d4d2880c5cfe4607a025e215"), looks := false }, kinds := [], alts := [], laidByText := true, laidKinds := [.data], laidTests := true, laidLooks := .later }
def FnExactUpCardSaid : Prop := Claim7.holds Tryd.pinned (.plain (OpenSpec.ofChange fnExactUpSpec)) fnExactUpCard

/-- THE TIED CARD OF 'laws.FnExactDown'. -/
def fnExactDownCard : Claim7 := { stood := { row := fnExactDownRow, standIns := [], harness := (true, "28885fb7ad6f70a8879accc7304dcc6f106d7fd8d4d2880c5cfe4607a025e215"), looks := false }, kinds := [], alts := [], laidByText := true, laidKinds := [.data], laidTests := true, laidLooks := .later }
def FnExactDownCardSaid : Prop := Claim7.holds Tryd.pinned (.plain (OpenSpec.ofChange fnExactDownSpec)) fnExactDownCard

/-- THE TIED CARD OF 'laws.FnExactResized'. -/
def fnExactResizedCard : Claim7 := { stood := { row := fnExactResizedRow, standIns := [], harness := (true, "28885fb7ad6f70a8879accc7304dcc6f106d7fd8d4d2880c5cfe4607a025e215"), looks := false }, kinds := [], alts := [], laidByText := true, laidKinds := [.data], laidTests := true, laidLooks := .later }
def FnExactResizedCardSaid : Prop := Claim7.holds Tryd.pinned (.plain (OpenSpec.ofChange fnExactResizedSpec)) fnExactResizedCard

/-- THE SECOND FORM's CARD OF 'laws.FnGrids'. -/
def fnGridsUptoCard : Claim7 := { stood := { row := fnGridsUptoRow, standIns := [], harness := (true, "28885fb7ad6f70a8879accc7304dcc6f106d7fd8d4d2880c5cfe4607a025e215"), looks := false }, kinds := [], alts := [], laidByText := true, laidKinds := [.data, .data, .pinned], laidTests := true, laidLooks := .later }
def FnGridsUptoCardSaid : Prop := Claim7.holds Tryd.pinned (.plain (OpenSpec.upto fnGridsSpec)) fnGridsUptoCard

/-- THE SECOND FORM's CARD OF 'laws.FnExactGridOk'. -/
def fnExactGridOkUptoCard : Claim7 := { stood := { row := fnExactGridOkUptoRow, standIns := [], harness := (true, "28885fb7ad6f70a8879accc7304dcc6f106d7fd8d4d2880c5cfe4607a025e215"), looks := false }, kinds := [], alts := [], laidByText := true, laidKinds := [.data], laidTests := true, laidLooks := .later }
def FnExactGridOkUptoCardSaid : Prop := Claim7.holds Tryd.pinned (.plain (OpenSpec.upto fnExactGridOkSpec)) fnExactGridOkUptoCard

/-- THE SECOND FORM's CARD OF 'laws.FnExactUp'. -/
def fnExactUpUptoCard : Claim7 := { stood := { row := fnExactUpUptoRow, standIns := [], harness := (true, "28885fb7ad6f70a8879accc7304dcc6f106d7fd8d4d2880c5cfe4607a025e215"), looks := false }, kinds := [], alts := [], laidByText := true, laidKinds := [.data], laidTests := true, laidLooks := .later }
def FnExactUpUptoCardSaid : Prop := Claim7.holds Tryd.pinned (.plain (OpenSpec.upto fnExactUpSpec)) fnExactUpUptoCard

/-- THE SECOND FORM's CARD OF 'laws.FnExactDown'. -/
def fnExactDownUptoCard : Claim7 := { stood := { row := fnExactDownUptoRow, standIns := [], harness := (true, "28885fb7ad6f70a8879accc7304dcc6f106d7fd8d4d2880c5cfe4607a025e215"), looks := false }, kinds := [], alts := [], laidByText := true, laidKinds := [.data], laidTests := true, laidLooks := .later }
def FnExactDownUptoCardSaid : Prop := Claim7.holds Tryd.pinned (.plain (OpenSpec.upto fnExactDownSpec)) fnExactDownUptoCard

/-- THE SECOND FORM's CARD OF 'laws.FnExactResized'. -/
def fnExactResizedUptoCard : Claim7 := { stood := { row := fnExactResizedUptoRow, standIns := [], harness := (true, "28885fb7ad6f70a8879accc7304dcc6f106d7fd8d4d2880c5cfe4607a025e215"), looks := false }, kinds := [], alts := [], laidByText := true, laidKinds := [.data], laidTests := true, laidLooks := .later }
def FnExactResizedUptoCardSaid : Prop := Claim7.holds Tryd.pinned (.plain (OpenSpec.upto fnExactResizedSpec)) fnExactResizedUptoCard
end Rows
end Go.Proofs.YtngbndfnhpjmjaaDoor
