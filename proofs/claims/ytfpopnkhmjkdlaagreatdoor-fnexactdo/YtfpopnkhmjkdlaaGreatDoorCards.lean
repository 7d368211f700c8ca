/-
  DERIVED. GIVEN WITH THE SEED: THE CARDS: each row of YtfpopnkhmjkdlaaGreatDoorRows.lean that lists a variable, with what it lists TIED to the program's text (the seventh form; the later family's looks); each row that meets fmt, with fmt's text TOLD by the authors' own Lean function (tested against real Go, not proved from fmt's source: count such statements apart). THE CARD IS WHAT COUNTS. Prove the row's statement (the work); the ties are given (YtfpopnkhmjkdlaaGreatDoorTie.lean); close each card by the builder's one call (the guide's Derived/Test/ToyasCard.lean, 'card_holds'). Laid BY PROGRAM, IN A SANDBOX (cutbox-door.mjs). By AI agents, Wed Nov 11 2026. No macro, syntax, notation, axiom, sorry.
-/
import Derived.Test.YtfpopnkhmjkdlaaGreatDoorRows
import GoSem.ClaimSeven
namespace Go.Proofs.YtfpopnkhmjkdlaaGreatDoor
namespace Rows

/-- THE TIED CARD OF 'laws.FnTerms'. -/
def fnTermsCard : Claim7 := { stood := { row := fnTermsRow, standIns := [], harness := (true, "cf654561a2b18467d275698a45aaa84086f33cec3084bf711758daecb8b661dd"), looks := false }, kinds := [], alts := [], laidByText := true, laidKinds := [.data], laidTests := true, laidLooks := .later }
def FnTermsCardSaid : Prop := Claim7.holds Tryz.pinned (.plain (OpenSpec.ofChange fnTermsSpec)) fnTermsCard

/-- THE TIED CARD OF 'laws.FnScrolled'. -/
def fnScrolledCard : Claim7 := { stood := { row := fnScrolledRow, standIns := [], harness := (true, "cf654561a2b18467d275698a45aaa84086f33cec3084bf711758daecb8b661dd"), looks := false }, kinds := [], alts := [], laidByText := true, laidKinds := [.data], laidTests := true, laidLooks := .later }
def FnScrolledCardSaid : Prop := Claim7.holds Tryz.pinned (.plain (OpenSpec.ofChange fnScrolledSpec)) fnScrolledCard

/-- THE TIED CARD OF 'laws.FnRefitted'. -/
def fnRefittedCard : Claim7 := { stood := { row := fnRefittedRow, standIns := [], harness := (true, "cf654561a2b18467d275698a45aaa84086f33cec3084bf711758daecb8b661dd"), looks := false }, kinds := [], alts := [], laidByText := true, laidKinds := [.data], laidTests := true, laidLooks := .later }
def FnRefittedCardSaid : Prop := Claim7.holds Tryz.pinned (.plain (OpenSpec.ofChange fnRefittedSpec)) fnRefittedCard

/-- THE TIED CARD OF 'laws.FnExactDo'. -/
def fnExactDoCard : Claim7 := { stood := { row := fnExactDoRow, standIns := [], harness := (true, "cf654561a2b18467d275698a45aaa84086f33cec3084bf711758daecb8b661dd"), looks := false }, kinds := [], alts := [], laidByText := true, laidKinds := [.data], laidTests := true, laidLooks := .later }
def FnExactDoCardSaid : Prop := Claim7.holds Tryz.pinned (.plain (OpenSpec.ofChange fnExactDoSpec)) fnExactDoCard

/-- THE TIED CARD OF 'laws.FnExactWrite'. -/
def fnExactWriteCard : Claim7 := { stood := { row := fnExactWriteRow, standIns := [], harness := (true, "cf654561a2b18467d275698a45aaa84086f33cec3084bf711758daecb8b661dd"), looks := false }, kinds := [], alts := [], laidByText := true, laidKinds := [.data], laidTests := true, laidLooks := .later }
def FnExactWriteCardSaid : Prop := Claim7.holds Tryz.pinned (.plain (OpenSpec.ofChange fnExactWriteSpec)) fnExactWriteCard

/-- THE SECOND FORM's CARD OF 'laws.FnTerms'. -/
def fnTermsUptoCard : Claim7 := { stood := { row := fnTermsUptoRow, standIns := [], harness := (true, "cf654561a2b18467d275698a45aaa84086f33cec3084bf711758daecb8b661dd"), looks := false }, kinds := [], alts := [], laidByText := true, laidKinds := [.data], laidTests := true, laidLooks := .later }
def FnTermsUptoCardSaid : Prop := Claim7.holds Tryz.pinned (.plain (OpenSpec.upto fnTermsSpec)) fnTermsUptoCard

/-- THE SECOND FORM's CARD OF 'laws.FnScrolled'. -/
def fnScrolledUptoCard : Claim7 := { stood := { row := fnScrolledUptoRow, standIns := [], harness := (true, "cf654561a2b18467d275698a45aaa84086f33cec3084bf711758daecb8b661dd"), looks := false }, kinds := [], alts := [], laidByText := true, laidKinds := [.data], laidTests := true, laidLooks := .later }
def FnScrolledUptoCardSaid : Prop := Claim7.holds Tryz.pinned (.plain (OpenSpec.upto fnScrolledSpec)) fnScrolledUptoCard

/-- THE SECOND FORM's CARD OF 'laws.FnRefitted'. -/
def fnRefittedUptoCard : Claim7 := { stood := { row := fnRefittedUptoRow, standIns := [], harness := (true, "cf654561a2b18467d275698a45aaa84086f33cec3084bf711758daecb8b661dd"), looks := false }, kinds := [], alts := [], laidByText := true, laidKinds := [.data], laidTests := true, laidLooks := .later }
def FnRefittedUptoCardSaid : Prop := Claim7.holds Tryz.pinned (.plain (OpenSpec.upto fnRefittedSpec)) fnRefittedUptoCard

/-- THE SECOND FORM's CARD OF 'laws.FnExactDo'. -/
def fnExactDoUptoCard : Claim7 := { stood := { row := fnExactDoUptoRow, standIns := [], harness := (true, "cf654561a2b18467d275698a45aaa84086f33cec3084bf711758daecb8b661dd"), looks := false }, kinds := [], alts := [], laidByText := true, laidKinds := [.data], laidTests := true, laidLooks := .later }
def FnExactDoUptoCardSaid : Prop := Claim7.holds Tryz.pinned (.plain (OpenSpec.upto fnExactDoSpec)) fnExactDoUptoCard

/-- THE SECOND FORM's CARD OF 'laws.FnExactWrite'. -/
def fnExactWriteUptoCard : Claim7 := { stood := { row := fnExactWriteUptoRow, standIns := [], harness := (true, "cf654561a2b18467d275698a45aaa84086f33cec3084bf711758daecb8b661dd"), looks := false }, kinds := [], alts := [], laidByText := true, laidKinds := [.data], laidTests := true, laidLooks := .later }
def FnExactWriteUptoCardSaid : Prop := Claim7.holds Tryz.pinned (.plain (OpenSpec.upto fnExactWriteSpec)) fnExactWriteUptoCard
end Rows
end Go.Proofs.YtfpopnkhmjkdlaaGreatDoor
