/-
  DERIVED. GIVEN WITH THE SEED: THE CARDS: each row of YtmmmglblkampcaaDoorRows.lean that lists a variable, with what it lists TIED to the program's text (the seventh form; the later family's looks); each row that meets fmt, with fmt's text TOLD by the authors' own Lean function (tested against real Go, not proved from fmt's source: count such statements apart). THE CARD IS WHAT COUNTS. Prove the row's statement (the work); the ties are given (YtmmmglblkampcaaDoorTie.lean); close each card by the builder's one call (the guide's Derived/Test/ToyasCard.lean, 'card_holds'). Laid BY PROGRAM, IN A SANDBOX (cutbox-door.mjs). By AI agents, Wed Nov 11 2026. No macro, syntax, notation, axiom, sorry.
-/
import Derived.Test.YtmmmglblkampcaaDoorRows
import GoSem.ClaimSeven
namespace Go.Proofs.YtmmmglblkampcaaDoor
namespace Rows

/-- THE TIED CARD OF 'laws.FnGrids'. -/
def fnGridsCard : Claim7 := { stood := { row := fnGridsRow, standIns := [], harness := (true, "39af7d8dd2f34ac70ba8582c04ea3245ac02e8d6eac3613f169f9b235ccde7f5"), looks := false }, kinds := [], alts := [], laidByText := true, laidKinds := [.data, .data, .pinned], laidTests := true, laidLooks := .later }
def FnGridsCardSaid : Prop := Claim7.holds Tryd.pinned (.plain (OpenSpec.ofChange fnGridsSpec)) fnGridsCard

/-- THE TIED CARD OF 'laws.FnExactUp'. -/
def fnExactUpCard : Claim7 := { stood := { row := fnExactUpRow, standIns := [], harness := (true, "39af7d8dd2f34ac70ba8582c04ea3245ac02e8d6eac3613f169f9b235ccde7f5"), looks := false }, kinds := [], alts := [], laidByText := true, laidKinds := [.data], laidTests := true, laidLooks := .later }
def FnExactUpCardSaid : Prop := Claim7.holds Tryd.pinned (.plain (OpenSpec.ofChange fnExactUpSpec)) fnExactUpCard

/-- THE TIED CARD OF 'laws.FnExactDown'. -/
def fnExactDownCard : Claim7 := { stood := { row := fnExactDownRow, standIns := [], harness := (true, "39af7d8dd2f34ac70ba8582c04ea3245ac02e8d6eac3613f169f9b235ccde7f5"), looks := false }, kinds := [], alts := [], laidByText := true, laidKinds := [.data], laidTests := true, laidLooks := .later }
def FnExactDownCardSaid : Prop := Claim7.holds Tryd.pinned (.plain (OpenSpec.ofChange fnExactDownSpec)) fnExactDownCard

/-- THE SECOND FORM's CARD OF 'laws.FnGrids'. -/
def fnGridsUptoCard : Claim7 := { stood := { row := fnGridsUptoRow, standIns := [], harness := (true, "39af7d8dd2f34ac70ba8582c04ea3245ac02e8d6eac3613f169f9b235ccde7f5"), looks := false }, kinds := [], alts := [], laidByText := true, laidKinds := [.data, .data, .pinned], laidTests := true, laidLooks := .later }
def FnGridsUptoCardSaid : Prop := Claim7.holds Tryd.pinned (.plain (OpenSpec.upto fnGridsSpec)) fnGridsUptoCard

/-- THE SECOND FORM's CARD OF 'laws.FnExactUp'. -/
def fnExactUpUptoCard : Claim7 := { stood := { row := fnExactUpUptoRow, standIns := [], harness := (true, "39af7d8dd2f34ac70ba8582c04ea3245ac02e8d6eac3613f169f9b235ccde7f5"), looks := false }, kinds := [], alts := [], laidByText := true, laidKinds := [.data], laidTests := true, laidLooks := .later }
def FnExactUpUptoCardSaid : Prop := Claim7.holds Tryd.pinned (.plain (OpenSpec.upto fnExactUpSpec)) fnExactUpUptoCard

/-- THE SECOND FORM's CARD OF 'laws.FnExactDown'. -/
def fnExactDownUptoCard : Claim7 := { stood := { row := fnExactDownUptoRow, standIns := [], harness := (true, "39af7d8dd2f34ac70ba8582c04ea3245ac02e8d6eac3613f169f9b235ccde7f5"), looks := false }, kinds := [], alts := [], laidByText := true, laidKinds := [.data], laidTests := true, laidLooks := .later }
def FnExactDownUptoCardSaid : Prop := Claim7.holds Tryd.pinned (.plain (OpenSpec.upto fnExactDownSpec)) fnExactDownUptoCard
end Rows
end Go.Proofs.YtmmmglblkampcaaDoor
