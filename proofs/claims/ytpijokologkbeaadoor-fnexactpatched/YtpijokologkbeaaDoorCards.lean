/-
  DERIVED. GIVEN WITH THE SEED: THE CARDS: each row of YtpijokologkbeaaDoorRows.lean that lists a variable, with what it lists TIED to the program's text (the seventh form; the later family's looks); each row that meets fmt, with fmt's text TOLD by the authors' own Lean function (tested against real Go, not proved from fmt's source: count such statements apart). THE CARD IS WHAT COUNTS. Prove the row's statement (the work); the ties are given (YtpijokologkbeaaDoorTie.lean); close each card by the builder's one call (the guide's Derived/Test/ToyasCard.lean, 'card_holds'). Laid BY PROGRAM, IN A SANDBOX (cutbox-door.mjs). By AI agents, Wed Nov 11 2026. No macro, syntax, notation, axiom, sorry.
-/
import Derived.Test.YtpijokologkbeaaDoorRows
import GoSem.ClaimSeven
namespace Go.Proofs.YtpijokologkbeaaDoor
namespace Rows

/-- THE TIED CARD OF 'laws.FnPatched'. -/
def fnPatchedCard : Claim7 := { stood := { row := fnPatchedRow, standIns := [], harness := (true, "749ad2c1e96e4f0edb51eb4ca39839321834ce9d87b3c52a1e8e61fd58ae6105"), looks := true }, kinds := [], alts := [], laidByText := true, laidKinds := [.data], laidTests := true, laidLooks := .later }
def FnPatchedCardSaid : Prop := Claim7.holds Tryd.pinned (.plain (OpenSpec.ofChange fnPatchedSpec)) fnPatchedCard

/-- THE TIED CARD OF 'laws.FnExactDiff'. -/
def fnExactDiffCard : Claim7 := { stood := { row := fnExactDiffRow, standIns := [], harness := (true, "749ad2c1e96e4f0edb51eb4ca39839321834ce9d87b3c52a1e8e61fd58ae6105"), looks := true }, kinds := [], alts := [], laidByText := true, laidKinds := [.data], laidTests := true, laidLooks := .later }
def FnExactDiffCardSaid : Prop := Claim7.holds Tryd.pinned (.plain (OpenSpec.ofChange fnExactDiffSpec)) fnExactDiffCard

/-- THE TIED CARD OF 'laws.FnExactPatched'. -/
def fnExactPatchedCard : Claim7 := { stood := { row := fnExactPatchedRow, standIns := [], harness := (true, "749ad2c1e96e4f0edb51eb4ca39839321834ce9d87b3c52a1e8e61fd58ae6105"), looks := true }, kinds := [], alts := [], laidByText := true, laidKinds := [.data], laidTests := true, laidLooks := .later }
def FnExactPatchedCardSaid : Prop := Claim7.holds Tryd.pinned (.plain (OpenSpec.ofChange fnExactPatchedSpec)) fnExactPatchedCard

/-- THE TIED CARD OF 'laws.FnExactShowPatch'. -/
def fnExactShowPatchCard : Claim7 := { stood := { row := fnExactShowPatchRow, standIns := [], harness := (true, "749ad2c1e96e4f0edb51eb4ca39839321834ce9d87b3c52a1e8e61fd58ae6105"), looks := true }, kinds := [], alts := [], laidByText := true, laidKinds := [.data, .data, .data], laidTests := true, laidLooks := .later }
def FnExactShowPatchCardSaid : Prop := Claim7.holds Tryd.pinned (.plain (OpenSpec.ofChange fnExactShowPatchSpec)) fnExactShowPatchCard

/-- THE TIED CARD OF 'laws.FnExactReadPatch'. -/
def fnExactReadPatchCard : Claim7 := { stood := { row := fnExactReadPatchRow, standIns := [], harness := (true, "749ad2c1e96e4f0edb51eb4ca39839321834ce9d87b3c52a1e8e61fd58ae6105"), looks := true }, kinds := [], alts := [], laidByText := true, laidKinds := [.data, .data, .data, .data, .sentinel, .sentinel, .pinned], laidTests := true, laidLooks := .later }
def FnExactReadPatchCardSaid : Prop := Claim7.holds Tryd.pinned (.plain (OpenSpec.ofChange fnExactReadPatchSpec)) fnExactReadPatchCard

/-- THE SECOND FORM's CARD OF 'laws.FnPatched'. -/
def fnPatchedUptoCard : Claim7 := { stood := { row := fnPatchedUptoRow, standIns := [], harness := (true, "749ad2c1e96e4f0edb51eb4ca39839321834ce9d87b3c52a1e8e61fd58ae6105"), looks := true }, kinds := [], alts := [], laidByText := true, laidKinds := [.data], laidTests := true, laidLooks := .later }
def FnPatchedUptoCardSaid : Prop := Claim7.holds Tryd.pinned (.plain (OpenSpec.upto fnPatchedSpec)) fnPatchedUptoCard

/-- THE SECOND FORM's CARD OF 'laws.FnExactDiff'. -/
def fnExactDiffUptoCard : Claim7 := { stood := { row := fnExactDiffUptoRow, standIns := [], harness := (true, "749ad2c1e96e4f0edb51eb4ca39839321834ce9d87b3c52a1e8e61fd58ae6105"), looks := true }, kinds := [], alts := [], laidByText := true, laidKinds := [.data], laidTests := true, laidLooks := .later }
def FnExactDiffUptoCardSaid : Prop := Claim7.holds Tryd.pinned (.plain (OpenSpec.upto fnExactDiffSpec)) fnExactDiffUptoCard

/-- THE SECOND FORM's CARD OF 'laws.FnExactPatched'. -/
def fnExactPatchedUptoCard : Claim7 := { stood := { row := fnExactPatchedUptoRow, standIns := [], harness := (true, "749ad2c1e96e4f0edb51eb4ca39839321834ce9d87b3c52a1e8e61fd58ae6105"), looks := true }, kinds := [], alts := [], laidByText := true, laidKinds := [.data], laidTests := true, laidLooks := .later }
def FnExactPatchedUptoCardSaid : Prop := Claim7.holds Tryd.pinned (.plain (OpenSpec.upto fnExactPatchedSpec)) fnExactPatchedUptoCard

/-- THE SECOND FORM's CARD OF 'laws.FnExactShowPatch'. -/
def fnExactShowPatchUptoCard : Claim7 := { stood := { row := fnExactShowPatchUptoRow, standIns := [], harness := (true, "749ad2c1e96e4f0edb51eb4ca39839321834ce9d87b3c52a1e8e61fd58ae6105"), looks := true }, kinds := [], alts := [], laidByText := true, laidKinds := [.data, .data, .data], laidTests := true, laidLooks := .later }
def FnExactShowPatchUptoCardSaid : Prop := Claim7.holds Tryd.pinned (.plain (OpenSpec.upto fnExactShowPatchSpec)) fnExactShowPatchUptoCard

/-- THE SECOND FORM's CARD OF 'laws.FnExactReadPatch'. -/
def fnExactReadPatchUptoCard : Claim7 := { stood := { row := fnExactReadPatchUptoRow, standIns := [], harness := (true, "749ad2c1e96e4f0edb51eb4ca39839321834ce9d87b3c52a1e8e61fd58ae6105"), looks := true }, kinds := [], alts := [], laidByText := true, laidKinds := [.data, .data, .data, .data, .sentinel, .sentinel, .pinned], laidTests := true, laidLooks := .later }
def FnExactReadPatchUptoCardSaid : Prop := Claim7.holds Tryd.pinned (.plain (OpenSpec.upto fnExactReadPatchSpec)) fnExactReadPatchUptoCard
end Rows
end Go.Proofs.YtpijokologkbeaaDoor
