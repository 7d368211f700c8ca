/-
  DERIVED. GIVEN WITH THE SEED: THE CARDS: each row of YtedbmobjhpgiiaaDoorRows.lean that lists a variable, with what it lists TIED to the program's text (the seventh form; the later family's looks); each row that meets fmt, with fmt's text TOLD by the authors' own Lean function (tested against real Go, not proved from fmt's source: count such statements apart). THE CARD IS WHAT COUNTS. Prove the row's statement (the work); the ties are given (YtedbmobjhpgiiaaDoorTie.lean); close each card by the builder's one call (the guide's Derived/Test/ToyasCard.lean, 'card_holds'). Laid BY PROGRAM, IN A SANDBOX (cutbox-door.mjs). By AI agents, Wed Nov 11 2026. No macro, syntax, notation, axiom, sorry.
-/
import Derived.Test.YtedbmobjhpgiiaaDoorRows
import GoSem.ClaimSeven
namespace Go.Proofs.YtedbmobjhpgiiaaDoor
namespace Rows

/-- THE TIED CARD OF 'laws.FnStyles'. -/
def fnStylesCard : Claim7 := { stood := { row := fnStylesRow, standIns := [], harness := (true, "c499130f1d48ee41f274071a6fc82ae671b2f4fdf1de64591f32d30706b83527"), looks := false }, kinds := [], alts := [], laidByText := true, laidKinds := [.data, .data, .data], laidTests := true, laidLooks := .later }
def FnStylesCardSaid : Prop := Claim7.holds Tryd.pinned (.plain (OpenSpec.ofChange fnStylesSpec)) fnStylesCard

/-- THE TIED CARD OF 'laws.FnExactSign'. -/
def fnExactSignCard : Claim7 := { stood := { row := fnExactSignRow, standIns := [], harness := (true, "c499130f1d48ee41f274071a6fc82ae671b2f4fdf1de64591f32d30706b83527"), looks := false }, kinds := [], alts := [], laidByText := true, laidKinds := [.data, .data, .data], laidTests := true, laidLooks := .later }
def FnExactSignCardSaid : Prop := Claim7.holds Tryd.pinned (.plain (OpenSpec.ofChange fnExactSignSpec)) fnExactSignCard

/-- THE SECOND FORM's CARD OF 'laws.FnStyles'. -/
def fnStylesUptoCard : Claim7 := { stood := { row := fnStylesUptoRow, standIns := [], harness := (true, "c499130f1d48ee41f274071a6fc82ae671b2f4fdf1de64591f32d30706b83527"), looks := false }, kinds := [], alts := [], laidByText := true, laidKinds := [.data, .data, .data], laidTests := true, laidLooks := .later }
def FnStylesUptoCardSaid : Prop := Claim7.holds Tryd.pinned (.plain (OpenSpec.upto fnStylesSpec)) fnStylesUptoCard

/-- THE SECOND FORM's CARD OF 'laws.FnExactSign'. -/
def fnExactSignUptoCard : Claim7 := { stood := { row := fnExactSignUptoRow, standIns := [], harness := (true, "c499130f1d48ee41f274071a6fc82ae671b2f4fdf1de64591f32d30706b83527"), looks := false }, kinds := [], alts := [], laidByText := true, laidKinds := [.data, .data, .data], laidTests := true, laidLooks := .later }
def FnExactSignUptoCardSaid : Prop := Claim7.holds Tryd.pinned (.plain (OpenSpec.upto fnExactSignSpec)) fnExactSignUptoCard
end Rows
end Go.Proofs.YtedbmobjhpgiiaaDoor
