/-
  DERIVED. GIVEN WITH THE SEED: THE CARDS: each row of YteimcepkoclpbabDoorRows.lean that lists a variable, with what it lists TIED to the program's text (the seventh form; the later family's looks); each row that meets fmt, with fmt's text TOLD by the authors' own Lean function (tested against real Go, not proved from fmt's source: count such statements apart). THE CARD IS WHAT COUNTS. Prove the row's statement (the work); the ties are given (YteimcepkoclpbabDoorTie.lean); close each card by the builder's one call (the guide's Derived/Test/ToyasCard.lean, 'card_holds'). Laid BY PROGRAM, IN A SANDBOX (cutbox-door.mjs). By AI agents, Wed Nov 11 2026. No macro, syntax, notation, axiom, sorry.
-/
import Derived.Test.YteimcepkoclpbabDoorRows
import GoSem.ClaimSeven
namespace Go.Proofs.YteimcepkoclpbabDoor
namespace Rows

/-- THE TIED CARD OF 'laws.FnExactPushed'. -/
def fnExactPushedCard : Claim7 := { stood := { row := fnExactPushedRow, standIns := [], harness := (true, "a890a19f4d6f79faaa3202c47df60a5de0f3ab9ae18379d1f1313df0228cacab"), looks := false }, kinds := [], alts := [], laidByText := true, laidKinds := [.data], laidTests := true, laidLooks := .later }
def FnExactPushedCardSaid : Prop := Claim7.holds Tryd.pinned (.plain (OpenSpec.ofChange fnExactPushedSpec)) fnExactPushedCard

/-- THE TIED CARD OF 'laws.FnExactPulled'. -/
def fnExactPulledCard : Claim7 := { stood := { row := fnExactPulledRow, standIns := [], harness := (true, "a890a19f4d6f79faaa3202c47df60a5de0f3ab9ae18379d1f1313df0228cacab"), looks := false }, kinds := [], alts := [], laidByText := true, laidKinds := [.data], laidTests := true, laidLooks := .later }
def FnExactPulledCardSaid : Prop := Claim7.holds Tryd.pinned (.plain (OpenSpec.ofChange fnExactPulledSpec)) fnExactPulledCard

/-- THE TIED CARD OF 'laws.FnExactRowText'. -/
def fnExactRowTextCard : Claim7 := { stood := { row := fnExactRowTextRow, standIns := [], harness := (true, "a890a19f4d6f79faaa3202c47df60a5de0f3ab9ae18379d1f1313df0228cacab"), looks := false }, kinds := [], alts := [], laidByText := true, laidKinds := [.data, .data, .pinned], laidTests := true, laidLooks := .later }
def FnExactRowTextCardSaid : Prop := Claim7.holds Tryd.pinned (.plain (OpenSpec.ofChange fnExactRowTextSpec)) fnExactRowTextCard

/-- THE SECOND FORM's CARD OF 'laws.FnExactPushed'. -/
def fnExactPushedUptoCard : Claim7 := { stood := { row := fnExactPushedUptoRow, standIns := [], harness := (true, "a890a19f4d6f79faaa3202c47df60a5de0f3ab9ae18379d1f1313df0228cacab"), looks := false }, kinds := [], alts := [], laidByText := true, laidKinds := [.data], laidTests := true, laidLooks := .later }
def FnExactPushedUptoCardSaid : Prop := Claim7.holds Tryd.pinned (.plain (OpenSpec.upto fnExactPushedSpec)) fnExactPushedUptoCard

/-- THE SECOND FORM's CARD OF 'laws.FnExactPulled'. -/
def fnExactPulledUptoCard : Claim7 := { stood := { row := fnExactPulledUptoRow, standIns := [], harness := (true, "a890a19f4d6f79faaa3202c47df60a5de0f3ab9ae18379d1f1313df0228cacab"), looks := false }, kinds := [], alts := [], laidByText := true, laidKinds := [.data], laidTests := true, laidLooks := .later }
def FnExactPulledUptoCardSaid : Prop := Claim7.holds Tryd.pinned (.plain (OpenSpec.upto fnExactPulledSpec)) fnExactPulledUptoCard

/-- THE SECOND FORM's CARD OF 'laws.FnExactRowText'. -/
def fnExactRowTextUptoCard : Claim7 := { stood := { row := fnExactRowTextUptoRow, standIns := [], harness := (true, "a890a19f4d6f79faaa3202c47df60a5de0f3ab9ae18379d1f1313df0228cacab"), looks := false }, kinds := [], alts := [], laidByText := true, laidKinds := [.data, .data, .pinned], laidTests := true, laidLooks := .later }
def FnExactRowTextUptoCardSaid : Prop := Claim7.holds Tryd.pinned (.plain (OpenSpec.upto fnExactRowTextSpec)) fnExactRowTextUptoCard
end Rows
end Go.Proofs.YteimcepkoclpbabDoor
