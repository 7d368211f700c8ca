/-
  DERIVED. GIVEN WITH THE SEED: THE CARDS: each row of YteimcepkoclpbaaDoorRows.lean that lists a variable, with what it lists TIED to the program's text (the seventh form; the later family's looks); each row that meets fmt, with fmt's text TOLD by the authors' own Lean function (tested against real Go, not proved from fmt's source: count such statements apart). THE CARD IS WHAT COUNTS. Prove the row's statement (the work); the ties are given (YteimcepkoclpbaaDoorTie.lean); close each card by the builder's one call (the guide's Derived/Test/ToyasCard.lean, 'card_holds'). Laid BY PROGRAM, IN A SANDBOX (cutbox-door.mjs). By AI agents, Wed Nov 11 2026. No macro, syntax, notation, axiom, sorry.
-/
import Derived.Test.YteimcepkoclpbaaDoorRows
import GoSem.ClaimSeven
namespace Go.Proofs.YteimcepkoclpbaaDoor
namespace Rows

/-- THE TIED CARD OF 'laws.FnRows'. -/
def fnRowsCard : Claim7 := { stood := { row := fnRowsRow, standIns := [], harness := (true, "1e65e903c5f967deea184536da14111959074b593f3d9f0f17d9afdbc4d8dcc9"), looks := false }, kinds := [], alts := [], laidByText := true, laidKinds := [.data, .data, .pinned], laidTests := true, laidLooks := .later }
def FnRowsCardSaid : Prop := Claim7.holds Tryd.pinned (.plain (OpenSpec.ofChange fnRowsSpec)) fnRowsCard

/-- THE TIED CARD OF 'laws.FnMoved'. -/
def fnMovedCard : Claim7 := { stood := { row := fnMovedRow, standIns := [], harness := (true, "1e65e903c5f967deea184536da14111959074b593f3d9f0f17d9afdbc4d8dcc9"), looks := false }, kinds := [], alts := [], laidByText := true, laidKinds := [.data], laidTests := true, laidLooks := .later }
def FnMovedCardSaid : Prop := Claim7.holds Tryd.pinned (.plain (OpenSpec.ofChange fnMovedSpec)) fnMovedCard

/-- THE TIED CARD OF 'laws.FnExactRowOk'. -/
def fnExactRowOkCard : Claim7 := { stood := { row := fnExactRowOkRow, standIns := [], harness := (true, "1e65e903c5f967deea184536da14111959074b593f3d9f0f17d9afdbc4d8dcc9"), looks := false }, kinds := [], alts := [], laidByText := true, laidKinds := [.data], laidTests := true, laidLooks := .later }
def FnExactRowOkCardSaid : Prop := Claim7.holds Tryd.pinned (.plain (OpenSpec.ofChange fnExactRowOkSpec)) fnExactRowOkCard

/-- THE TIED CARD OF 'laws.FnExactCleared'. -/
def fnExactClearedCard : Claim7 := { stood := { row := fnExactClearedRow, standIns := [], harness := (true, "1e65e903c5f967deea184536da14111959074b593f3d9f0f17d9afdbc4d8dcc9"), looks := false }, kinds := [], alts := [], laidByText := true, laidKinds := [.data], laidTests := true, laidLooks := .later }
def FnExactClearedCardSaid : Prop := Claim7.holds Tryd.pinned (.plain (OpenSpec.ofChange fnExactClearedSpec)) fnExactClearedCard

/-- THE TIED CARD OF 'laws.FnExactWritten'. -/
def fnExactWrittenCard : Claim7 := { stood := { row := fnExactWrittenRow, standIns := [], harness := (true, "1e65e903c5f967deea184536da14111959074b593f3d9f0f17d9afdbc4d8dcc9"), looks := false }, kinds := [], alts := [], laidByText := true, laidKinds := [.data], laidTests := true, laidLooks := .later }
def FnExactWrittenCardSaid : Prop := Claim7.holds Tryd.pinned (.plain (OpenSpec.ofChange fnExactWrittenSpec)) fnExactWrittenCard

/-- THE SECOND FORM's CARD OF 'laws.FnRows'. -/
def fnRowsUptoCard : Claim7 := { stood := { row := fnRowsUptoRow, standIns := [], harness := (true, "1e65e903c5f967deea184536da14111959074b593f3d9f0f17d9afdbc4d8dcc9"), looks := false }, kinds := [], alts := [], laidByText := true, laidKinds := [.data, .data, .pinned], laidTests := true, laidLooks := .later }
def FnRowsUptoCardSaid : Prop := Claim7.holds Tryd.pinned (.plain (OpenSpec.upto fnRowsSpec)) fnRowsUptoCard

/-- THE SECOND FORM's CARD OF 'laws.FnMoved'. -/
def fnMovedUptoCard : Claim7 := { stood := { row := fnMovedUptoRow, standIns := [], harness := (true, "1e65e903c5f967deea184536da14111959074b593f3d9f0f17d9afdbc4d8dcc9"), looks := false }, kinds := [], alts := [], laidByText := true, laidKinds := [.data], laidTests := true, laidLooks := .later }
def FnMovedUptoCardSaid : Prop := Claim7.holds Tryd.pinned (.plain (OpenSpec.upto fnMovedSpec)) fnMovedUptoCard

/-- THE SECOND FORM's CARD OF 'laws.FnExactRowOk'. -/
def fnExactRowOkUptoCard : Claim7 := { stood := { row := fnExactRowOkUptoRow, standIns := [], harness := (true, "1e65e903c5f967deea184536da14111959074b593f3d9f0f17d9afdbc4d8dcc9"), looks := false }, kinds := [], alts := [], laidByText := true, laidKinds := [.data], laidTests := true, laidLooks := .later }
def FnExactRowOkUptoCardSaid : Prop := Claim7.holds Tryd.pinned (.plain (OpenSpec.upto fnExactRowOkSpec)) fnExactRowOkUptoCard

/-- THE SECOND FORM's CARD OF 'laws.FnExactCleared'. -/
def fnExactClearedUptoCard : Claim7 := { stood := { row := fnExactClearedUptoRow, standIns := [], harness := (true, "1e65e903c5f967deea184536da14111959074b593f3d9f0f17d9afdbc4d8dcc9"), looks := false }, kinds := [], alts := [], laidByText := true, laidKinds := [.data], laidTests := true, laidLooks := .later }
def FnExactClearedUptoCardSaid : Prop := Claim7.holds Tryd.pinned (.plain (OpenSpec.upto fnExactClearedSpec)) fnExactClearedUptoCard

/-- THE SECOND FORM's CARD OF 'laws.FnExactWritten'. -/
def fnExactWrittenUptoCard : Claim7 := { stood := { row := fnExactWrittenUptoRow, standIns := [], harness := (true, "1e65e903c5f967deea184536da14111959074b593f3d9f0f17d9afdbc4d8dcc9"), looks := false }, kinds := [], alts := [], laidByText := true, laidKinds := [.data], laidTests := true, laidLooks := .later }
def FnExactWrittenUptoCardSaid : Prop := Claim7.holds Tryd.pinned (.plain (OpenSpec.upto fnExactWrittenSpec)) fnExactWrittenUptoCard
end Rows
end Go.Proofs.YteimcepkoclpbaaDoor
