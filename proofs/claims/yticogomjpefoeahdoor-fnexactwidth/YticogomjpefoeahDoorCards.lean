/-
  DERIVED. GIVEN WITH THE SEED: THE CARDS: each row of YticogomjpefoeahDoorRows.lean that lists a variable, with what it lists TIED to the program's text (the seventh form; the later family's looks); each row that meets fmt, with fmt's text TOLD by the authors' own Lean function (tested against real Go, not proved from fmt's source: count such statements apart). THE CARD IS WHAT COUNTS. Prove the row's statement (the work); the ties are given (YticogomjpefoeahDoorTie.lean); close each card by the builder's one call (the guide's Derived/Test/ToyasCard.lean, 'card_holds'). Laid BY PROGRAM, IN A SANDBOX (cutbox-door.mjs). By AI agents, Wed Nov 11 2026. No macro, syntax, notation, axiom, sorry.
-/
import Derived.Test.YticogomjpefoeahDoorRows
import GoSem.ClaimSeven
namespace Go.Proofs.YticogomjpefoeahDoor
namespace Rows

/-- THE TIED CARD OF 'laws.FnExactWidth'. -/
def fnExactWidthCard : Claim7 := { stood := { row := fnExactWidthRow, standIns := [], harness := (true, "72ed07a283583eb6ddf812d228165313499b2c2bbf440021342abde62f6412fa"), looks := false }, kinds := [], alts := [], laidByText := true, laidKinds := [.data], laidTests := true, laidLooks := .later }
def FnExactWidthCardSaid : Prop := Claim7.holds Tryd.pinned (.plain (OpenSpec.ofChange fnExactWidthSpec)) fnExactWidthCard

/-- THE TIED CARD OF 'laws.FnExactTextWidth'. -/
def fnExactTextWidthCard : Claim7 := { stood := { row := fnExactTextWidthRow, standIns := [], harness := (true, "72ed07a283583eb6ddf812d228165313499b2c2bbf440021342abde62f6412fa"), looks := false }, kinds := [], alts := [], laidByText := true, laidKinds := [.data], laidTests := true, laidLooks := .later }
def FnExactTextWidthCardSaid : Prop := Claim7.holds Tryd.pinned (.plain (OpenSpec.ofChange fnExactTextWidthSpec)) fnExactTextWidthCard

/-- THE TIED CARD OF 'laws.FnExactFitting'. -/
def fnExactFittingCard : Claim7 := { stood := { row := fnExactFittingRow, standIns := [], harness := (true, "72ed07a283583eb6ddf812d228165313499b2c2bbf440021342abde62f6412fa"), looks := false }, kinds := [], alts := [], laidByText := true, laidKinds := [.data], laidTests := true, laidLooks := .later }
def FnExactFittingCardSaid : Prop := Claim7.holds Tryd.pinned (.plain (OpenSpec.ofChange fnExactFittingSpec)) fnExactFittingCard

/-- THE SECOND FORM's CARD OF 'laws.FnExactWidth'. -/
def fnExactWidthUptoCard : Claim7 := { stood := { row := fnExactWidthUptoRow, standIns := [], harness := (true, "72ed07a283583eb6ddf812d228165313499b2c2bbf440021342abde62f6412fa"), looks := false }, kinds := [], alts := [], laidByText := true, laidKinds := [.data], laidTests := true, laidLooks := .later }
def FnExactWidthUptoCardSaid : Prop := Claim7.holds Tryd.pinned (.plain (OpenSpec.upto fnExactWidthSpec)) fnExactWidthUptoCard

/-- THE SECOND FORM's CARD OF 'laws.FnExactTextWidth'. -/
def fnExactTextWidthUptoCard : Claim7 := { stood := { row := fnExactTextWidthUptoRow, standIns := [], harness := (true, "72ed07a283583eb6ddf812d228165313499b2c2bbf440021342abde62f6412fa"), looks := false }, kinds := [], alts := [], laidByText := true, laidKinds := [.data], laidTests := true, laidLooks := .later }
def FnExactTextWidthUptoCardSaid : Prop := Claim7.holds Tryd.pinned (.plain (OpenSpec.upto fnExactTextWidthSpec)) fnExactTextWidthUptoCard

/-- THE SECOND FORM's CARD OF 'laws.FnExactFitting'. -/
def fnExactFittingUptoCard : Claim7 := { stood := { row := fnExactFittingUptoRow, standIns := [], harness := (true, "72ed07a283583eb6ddf812d228165313499b2c2bbf440021342abde62f6412fa"), looks := false }, kinds := [], alts := [], laidByText := true, laidKinds := [.data], laidTests := true, laidLooks := .later }
def FnExactFittingUptoCardSaid : Prop := Claim7.holds Tryd.pinned (.plain (OpenSpec.upto fnExactFittingSpec)) fnExactFittingUptoCard
end Rows
end Go.Proofs.YticogomjpefoeahDoor
