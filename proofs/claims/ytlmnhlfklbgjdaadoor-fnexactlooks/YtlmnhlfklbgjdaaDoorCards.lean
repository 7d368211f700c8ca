/-
  DERIVED. GIVEN WITH THE SEED: THE CARDS: each row of YtlmnhlfklbgjdaaDoorRows.lean that lists a variable, with what it lists TIED to the program's text (the seventh form; the later family's looks); each row that meets fmt, with fmt's text TOLD by the authors' own Lean function (tested against real Go, not proved from fmt's source: count such statements apart). THE CARD IS WHAT COUNTS. Prove the row's statement (the work); the ties are given (YtlmnhlfklbgjdaaDoorTie.lean); close each card by the builder's one call (the guide's Derived/Test/ToyasCard.lean, 'card_holds'). Laid BY PROGRAM, IN A SANDBOX (cutbox-door.mjs). By AI agents, Wed Nov 11 2026. No macro, syntax, notation, axiom, sorry.
-/
import Derived.Test.YtlmnhlfklbgjdaaDoorRows
import GoSem.ClaimSeven
namespace Go.Proofs.YtlmnhlfklbgjdaaDoor
namespace Rows

/-- THE TIED CARD OF 'laws.FnExactLooks'. -/
def fnExactLooksCard : Claim7 := { stood := { row := fnExactLooksRow, standIns := [], harness := (true, "09d64297a4707431342a6d1bef142a96e28f3cc630de5574e398528bcf1b69ac"), looks := false }, kinds := [], alts := [], laidByText := true, laidKinds := [.data], laidTests := true, laidLooks := .later }
def FnExactLooksCardSaid : Prop := Claim7.holds Tryd.pinned (.plain (OpenSpec.ofChange fnExactLooksSpec)) fnExactLooksCard

/-- THE TIED CARD OF 'laws.FnExactSameScreen'. -/
def fnExactSameScreenCard : Claim7 := { stood := { row := fnExactSameScreenRow, standIns := [], harness := (true, "09d64297a4707431342a6d1bef142a96e28f3cc630de5574e398528bcf1b69ac"), looks := false }, kinds := [], alts := [], laidByText := true, laidKinds := [.data], laidTests := true, laidLooks := .later }
def FnExactSameScreenCardSaid : Prop := Claim7.holds Tryd.pinned (.plain (OpenSpec.ofChange fnExactSameScreenSpec)) fnExactSameScreenCard

/-- THE SECOND FORM's CARD OF 'laws.FnExactLooks'. -/
def fnExactLooksUptoCard : Claim7 := { stood := { row := fnExactLooksUptoRow, standIns := [], harness := (true, "09d64297a4707431342a6d1bef142a96e28f3cc630de5574e398528bcf1b69ac"), looks := false }, kinds := [], alts := [], laidByText := true, laidKinds := [.data], laidTests := true, laidLooks := .later }
def FnExactLooksUptoCardSaid : Prop := Claim7.holds Tryd.pinned (.plain (OpenSpec.upto fnExactLooksSpec)) fnExactLooksUptoCard

/-- THE SECOND FORM's CARD OF 'laws.FnExactSameScreen'. -/
def fnExactSameScreenUptoCard : Claim7 := { stood := { row := fnExactSameScreenUptoRow, standIns := [], harness := (true, "09d64297a4707431342a6d1bef142a96e28f3cc630de5574e398528bcf1b69ac"), looks := false }, kinds := [], alts := [], laidByText := true, laidKinds := [.data], laidTests := true, laidLooks := .later }
def FnExactSameScreenUptoCardSaid : Prop := Claim7.holds Tryd.pinned (.plain (OpenSpec.upto fnExactSameScreenSpec)) fnExactSameScreenUptoCard
end Rows
end Go.Proofs.YtlmnhlfklbgjdaaDoor
