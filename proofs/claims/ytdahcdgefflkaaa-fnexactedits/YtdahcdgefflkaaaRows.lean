/-
  No cell of these rows narrows 'for every input' (looked for: loops, veiled, ifaces, maps, wideKeys, modest, calm, conditions, laid).
  DERIVED. THE GIVEN ROWS OF THIS SEAT. 6 by the template 'for every input the law returns true; each argument reads behind the call as it read before'; 0 by the template 'total and deterministic' (their statements: YtdahcdgefflkaaaTotals.lean).
  GIVEN WITH THE SEED: the statements are not yours to turn. If you find one false, say at which input.
  Laid BY PROGRAM, IN A SANDBOX (cutbox-rows.mjs): the forced cells as the released guide's own fill.sh prints them over the translation 3b9801c1bc75a1f3… (all of the seat's roots in one cut). By AI agents, Wed Nov 11 2026. No macro, syntax, notation, axiom, sorry.
-/
import Derived.Test.YtdahcdgefflkaaaChecked
import GoSem.Claim
import GoSem.ClaimJoined
import GoSem.ClaimMapViews
import Derived.JoinedTies
import Derived.KernelRfl
namespace Go.Proofs.Ytdahcdgefflkaaa
/- THE CELL 'sum', in the pinned program and in every row, IS THE sha256 OF THE DUMP (.gsa) THAT YtdahcdgefflkaaaProg.lean LOADS. Nothing in Lean hashes anything: it is a label: what it is worth is what the hold of that sum in a sandbox is worth. -/
noncomputable def Try.pinned : Pinned := { name := "ytdahcdgefflkaaa", sum := "3b9801c1bc75a1f3b88a3efd4479bd1a7c5329ea22f406daf6b60d9a1c523b7d", checked := Try.checked }
namespace Rows
def none {H : Type} : Left H := { results := [], args := [] }

/-- 'laws.FnLevenshtein': WHATEVER THE INPUT: true; the input reads as it did. -/
def fnLevenshteinSpec : ChangeSpec := { name := "fnLevenshtein", fn := fun _ => fun
  | [d] => { results := [.lit (.bool true)], args := [d] }
  | _ => none }
def fnLevenshteinRow : OpenClaim := { program := "ytdahcdgefflkaaa", sum := "3b9801c1bc75a1f3b88a3efd4479bd1a7c5329ea22f406daf6b60d9a1c523b7d", func := "loop.example/g00215/laws.FnLevenshtein", spec := "fnLevenshtein", apart := false }
def FnLevenshteinSaid : Prop := fnLevenshteinRow.holds Try.pinned (OpenSpec.ofChange fnLevenshteinSpec)

/-- ITS FALSE NEIGHBOUR: 'it returns false'. Refute it at one input. -/
def fnLevenshteinWrong : ChangeSpec := { name := "fnLevenshtein", fn := fun _ => fun
  | [d] => { results := [.lit (.bool false)], args := [d] }
  | _ => none }
def FnLevenshteinWrongFalsely : Prop := fnLevenshteinRow.holds Try.pinned (OpenSpec.ofChange fnLevenshteinWrong)

/-- 'laws.FnEdits': WHATEVER THE INPUT: true; the input reads as it did. -/
def fnEditsSpec : ChangeSpec := { name := "fnEdits", fn := fun _ => fun
  | [d] => { results := [.lit (.bool true)], args := [d] }
  | _ => none }
def fnEditsRow : OpenClaim := { program := "ytdahcdgefflkaaa", sum := "3b9801c1bc75a1f3b88a3efd4479bd1a7c5329ea22f406daf6b60d9a1c523b7d", func := "loop.example/g00215/laws.FnEdits", spec := "fnEdits", inPlace := ["slices.overlaps[int64]"], apart := false }
def FnEditsSaid : Prop := fnEditsRow.holds Try.pinned (OpenSpec.ofChange fnEditsSpec)

/-- ITS FALSE NEIGHBOUR: 'it returns false'. Refute it at one input. -/
def fnEditsWrong : ChangeSpec := { name := "fnEdits", fn := fun _ => fun
  | [d] => { results := [.lit (.bool false)], args := [d] }
  | _ => none }
def FnEditsWrongFalsely : Prop := fnEditsRow.holds Try.pinned (OpenSpec.ofChange fnEditsWrong)

/-- 'laws.FnExactApart': WHATEVER THE INPUT: true; the input reads as it did. -/
def fnExactApartSpec : ChangeSpec := { name := "fnExactApart", fn := fun _ => fun
  | [d1, d2] => { results := [.lit (.bool true)], args := [d1, d2] }
  | _ => none }
def fnExactApartRow : OpenClaim := { program := "ytdahcdgefflkaaa", sum := "3b9801c1bc75a1f3b88a3efd4479bd1a7c5329ea22f406daf6b60d9a1c523b7d", func := "loop.example/g00215/laws.FnExactApart", spec := "fnExactApart", apart := false }
def FnExactApartSaid : Prop := fnExactApartRow.holds Try.pinned (OpenSpec.ofChange fnExactApartSpec)

/-- ITS FALSE NEIGHBOUR: 'it returns false'. Refute it at one input. -/
def fnExactApartWrong : ChangeSpec := { name := "fnExactApart", fn := fun _ => fun
  | [d1, d2] => { results := [.lit (.bool false)], args := [d1, d2] }
  | _ => none }
def FnExactApartWrongFalsely : Prop := fnExactApartRow.holds Try.pinned (OpenSpec.ofChange fnExactApartWrong)

/-- 'laws.FnExactShared': WHATEVER THE INPUT: true; the input reads as it did. -/
def fnExactSharedSpec : ChangeSpec := { name := "fnExactShared", fn := fun _ => fun
  | [d1, d2] => { results := [.lit (.bool true)], args := [d1, d2] }
  | _ => none }
def fnExactSharedRow : OpenClaim := { program := "ytdahcdgefflkaaa", sum := "3b9801c1bc75a1f3b88a3efd4479bd1a7c5329ea22f406daf6b60d9a1c523b7d", func := "loop.example/g00215/laws.FnExactShared", spec := "fnExactShared", apart := false }
def FnExactSharedSaid : Prop := fnExactSharedRow.holds Try.pinned (OpenSpec.ofChange fnExactSharedSpec)

/-- ITS FALSE NEIGHBOUR: 'it returns false'. Refute it at one input. -/
def fnExactSharedWrong : ChangeSpec := { name := "fnExactShared", fn := fun _ => fun
  | [d1, d2] => { results := [.lit (.bool false)], args := [d1, d2] }
  | _ => none }
def FnExactSharedWrongFalsely : Prop := fnExactSharedRow.holds Try.pinned (OpenSpec.ofChange fnExactSharedWrong)

/-- 'laws.FnExactEdits': WHATEVER THE INPUT: true; the input reads as it did. -/
def fnExactEditsSpec : ChangeSpec := { name := "fnExactEdits", fn := fun _ => fun
  | [d1, d2] => { results := [.lit (.bool true)], args := [d1, d2] }
  | _ => none }
def fnExactEditsRow : OpenClaim := { program := "ytdahcdgefflkaaa", sum := "3b9801c1bc75a1f3b88a3efd4479bd1a7c5329ea22f406daf6b60d9a1c523b7d", func := "loop.example/g00215/laws.FnExactEdits", spec := "fnExactEdits", apart := false }
def FnExactEditsSaid : Prop := fnExactEditsRow.holds Try.pinned (OpenSpec.ofChange fnExactEditsSpec)

/-- ITS FALSE NEIGHBOUR: 'it returns false'. Refute it at one input. -/
def fnExactEditsWrong : ChangeSpec := { name := "fnExactEdits", fn := fun _ => fun
  | [d1, d2] => { results := [.lit (.bool false)], args := [d1, d2] }
  | _ => none }
def FnExactEditsWrongFalsely : Prop := fnExactEditsRow.holds Try.pinned (OpenSpec.ofChange fnExactEditsWrong)

/-- 'laws.FnExactEdited': WHATEVER THE INPUT: true; the input reads as it did. -/
def fnExactEditedSpec : ChangeSpec := { name := "fnExactEdited", fn := fun _ => fun
  | [d1, d2] => { results := [.lit (.bool true)], args := [d1, d2] }
  | _ => none }
def fnExactEditedRow : OpenClaim := { program := "ytdahcdgefflkaaa", sum := "3b9801c1bc75a1f3b88a3efd4479bd1a7c5329ea22f406daf6b60d9a1c523b7d", func := "loop.example/g00215/laws.FnExactEdited", spec := "fnExactEdited", inPlace := ["slices.overlaps[int64]"], apart := false }
def FnExactEditedSaid : Prop := fnExactEditedRow.holds Try.pinned (OpenSpec.ofChange fnExactEditedSpec)

/-- ITS FALSE NEIGHBOUR: 'it returns false'. Refute it at one input. -/
def fnExactEditedWrong : ChangeSpec := { name := "fnExactEdited", fn := fun _ => fun
  | [d1, d2] => { results := [.lit (.bool false)], args := [d1, d2] }
  | _ => none }
def FnExactEditedWrongFalsely : Prop := fnExactEditedRow.holds Try.pinned (OpenSpec.ofChange fnExactEditedWrong)

/- THE SECOND FORM. 'bulk': how many values and letters a reading holds, each counted each time it is reached (what is shared counts as often as it is met; a slice's spare places count too). A statement '..UptoSaid' is the law's where the arguments, and the package variables that the reading takes, are together of bulk at most 1048576: NARROWER than '..Said'. Prove '..Said' where nothing that the law and all that it calls make is longer than what came in: it says more and counts as full. Else prove '..UptoSaid'. A law counts once. -/
mutual
def uptoBulk {H : Type} : DataW H → Nat
  | .lit (.string bytes) => bytes.length + 1
  | .lit _ => 1
  | .nil => 1
  | .ptr d => uptoBulk d + 1
  | .slice elems spare => uptoBulkAll elems + uptoBulkAll spare + 1
  | .agg parts => uptoBulkAll parts + 1
  | .iface _ d => uptoBulk d + 1
  | .map entries => uptoBulkEntries entries + 1
  | .held _ => 1
def uptoBulkAll {H : Type} : List (DataW H) → Nat
  | [] => 0
  | d :: r => uptoBulk d + uptoBulkAll r
def uptoBulkEntries {H : Type} : List (Lit × DataW H) → Nat
  | [] => 0
  | x :: r => uptoBulkEntry x + uptoBulkEntries r
def uptoBulkEntry {H : Type} : Lit × DataW H → Nat
  | (.string bytes, d) => bytes.length + uptoBulk d + 1
  | (_, d) => uptoBulk d + 1
 end
def uptoSmall : (H : Type) → List (DataW H) → Bool := fun _ ds => decide (uptoBulkAll ds ≤ 1048576)
def OpenSpec.upto (s : _root_.Go.ChangeSpec) : _root_.Go.OpenSpec := { _root_.Go.OpenSpec.ofChange s with cond := some uptoSmall }

/-- 'laws.FnLevenshtein', WHERE WHAT IT READS IS OF BULK AT MOST 1048576: true; the input reads as it did. -/
def fnLevenshteinUptoRow : OpenClaim := { program := "ytdahcdgefflkaaa", sum := "3b9801c1bc75a1f3b88a3efd4479bd1a7c5329ea22f406daf6b60d9a1c523b7d", func := "loop.example/g00215/laws.FnLevenshtein", spec := "fnLevenshtein", apart := false, narrowed := true }
def FnLevenshteinUptoSaid : Prop := fnLevenshteinUptoRow.holds Try.pinned (OpenSpec.upto fnLevenshteinSpec)

/-- 'laws.FnEdits', WHERE WHAT IT READS IS OF BULK AT MOST 1048576: true; the input reads as it did. -/
def fnEditsUptoRow : OpenClaim := { program := "ytdahcdgefflkaaa", sum := "3b9801c1bc75a1f3b88a3efd4479bd1a7c5329ea22f406daf6b60d9a1c523b7d", func := "loop.example/g00215/laws.FnEdits", spec := "fnEdits", inPlace := ["slices.overlaps[int64]"], apart := false, narrowed := true }
def FnEditsUptoSaid : Prop := fnEditsUptoRow.holds Try.pinned (OpenSpec.upto fnEditsSpec)

/-- 'laws.FnExactApart', WHERE WHAT IT READS IS OF BULK AT MOST 1048576: true; the input reads as it did. -/
def fnExactApartUptoRow : OpenClaim := { program := "ytdahcdgefflkaaa", sum := "3b9801c1bc75a1f3b88a3efd4479bd1a7c5329ea22f406daf6b60d9a1c523b7d", func := "loop.example/g00215/laws.FnExactApart", spec := "fnExactApart", apart := false, narrowed := true }
def FnExactApartUptoSaid : Prop := fnExactApartUptoRow.holds Try.pinned (OpenSpec.upto fnExactApartSpec)

/-- 'laws.FnExactShared', WHERE WHAT IT READS IS OF BULK AT MOST 1048576: true; the input reads as it did. -/
def fnExactSharedUptoRow : OpenClaim := { program := "ytdahcdgefflkaaa", sum := "3b9801c1bc75a1f3b88a3efd4479bd1a7c5329ea22f406daf6b60d9a1c523b7d", func := "loop.example/g00215/laws.FnExactShared", spec := "fnExactShared", apart := false, narrowed := true }
def FnExactSharedUptoSaid : Prop := fnExactSharedUptoRow.holds Try.pinned (OpenSpec.upto fnExactSharedSpec)

/-- 'laws.FnExactEdits', WHERE WHAT IT READS IS OF BULK AT MOST 1048576: true; the input reads as it did. -/
def fnExactEditsUptoRow : OpenClaim := { program := "ytdahcdgefflkaaa", sum := "3b9801c1bc75a1f3b88a3efd4479bd1a7c5329ea22f406daf6b60d9a1c523b7d", func := "loop.example/g00215/laws.FnExactEdits", spec := "fnExactEdits", apart := false, narrowed := true }
def FnExactEditsUptoSaid : Prop := fnExactEditsUptoRow.holds Try.pinned (OpenSpec.upto fnExactEditsSpec)

/-- 'laws.FnExactEdited', WHERE WHAT IT READS IS OF BULK AT MOST 1048576: true; the input reads as it did. -/
def fnExactEditedUptoRow : OpenClaim := { program := "ytdahcdgefflkaaa", sum := "3b9801c1bc75a1f3b88a3efd4479bd1a7c5329ea22f406daf6b60d9a1c523b7d", func := "loop.example/g00215/laws.FnExactEdited", spec := "fnExactEdited", inPlace := ["slices.overlaps[int64]"], apart := false, narrowed := true }
def FnExactEditedUptoSaid : Prop := fnExactEditedUptoRow.holds Try.pinned (OpenSpec.upto fnExactEditedSpec)

end Rows
end Go.Proofs.Ytdahcdgefflkaaa
