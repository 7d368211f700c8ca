/-
  No cell of these rows narrows 'for every input' (looked for: loops, veiled, ifaces, maps, wideKeys, modest, calm, conditions, laid).
  DERIVED. THE GIVEN ROWS OF THIS SEAT. 3 by the template 'for every input the law returns true; each argument reads behind the call as it read before'; 0 by the template 'total and deterministic' (their statements: YtjcoebabipmmhaaTotals.lean).
  GIVEN WITH THE SEED: the statements are not yours to turn. If you find one false, say at which input.
  Laid BY PROGRAM, IN A SANDBOX (cutbox-rows.mjs): the forced cells as the released guide's own fill.sh prints them over the translation 863be3c60cd63de6… (all of the seat's roots in one cut). By AI agents, Wed Nov 11 2026. No macro, syntax, notation, axiom, sorry.
-/
import Derived.Test.YtjcoebabipmmhaaChecked
import GoSem.Claim
import GoSem.ClaimJoined
import GoSem.ClaimMapViews
import Derived.JoinedTies
import Derived.KernelRfl
namespace Go.Proofs.Ytjcoebabipmmhaa
/- THE CELL 'sum', in the pinned program and in every row, IS THE sha256 OF THE DUMP (.gsa) THAT YtjcoebabipmmhaaProg.lean LOADS. Nothing in Lean hashes anything: it is a label: what it is worth is what the hold of that sum in a sandbox is worth. -/
noncomputable def Try.pinned : Pinned := { name := "ytjcoebabipmmhaa", sum := "863be3c60cd63de66b9e4149f5d22c8382db3ca3a7f94c43b6bc1cf2d819c5e0", checked := Try.checked }
namespace Rows
def none {H : Type} : Left H := { results := [], args := [] }

/-- 'laws.FnExactStyleOk': WHATEVER THE INPUT: true; the input reads as it did. -/
def fnExactStyleOkSpec : ChangeSpec := { name := "fnExactStyleOk", fn := fun _ => fun
  | [d] => { results := [.lit (.bool true)], args := [d] }
  | _ => none }
def fnExactStyleOkRow : OpenClaim := { program := "ytjcoebabipmmhaa", sum := "863be3c60cd63de66b9e4149f5d22c8382db3ca3a7f94c43b6bc1cf2d819c5e0", func := "loop.example/g00215/laws.FnExactStyleOk", spec := "fnExactStyleOk", apart := false }
def FnExactStyleOkSaid : Prop := fnExactStyleOkRow.holds Try.pinned (OpenSpec.ofChange fnExactStyleOkSpec)

/-- ITS FALSE NEIGHBOUR: 'it returns false'. Refute it at one input. -/
def fnExactStyleOkWrong : ChangeSpec := { name := "fnExactStyleOk", fn := fun _ => fun
  | [d] => { results := [.lit (.bool false)], args := [d] }
  | _ => none }
def FnExactStyleOkWrongFalsely : Prop := fnExactStyleOkRow.holds Try.pinned (OpenSpec.ofChange fnExactStyleOkWrong)

/-- 'laws.FnExactStyled': WHATEVER THE INPUT: true; the input reads as it did. -/
def fnExactStyledSpec : ChangeSpec := { name := "fnExactStyled", fn := fun _ => fun
  | [d1, d2] => { results := [.lit (.bool true)], args := [d1, d2] }
  | _ => none }
def fnExactStyledRow : OpenClaim := { program := "ytjcoebabipmmhaa", sum := "863be3c60cd63de66b9e4149f5d22c8382db3ca3a7f94c43b6bc1cf2d819c5e0", func := "loop.example/g00215/laws.FnExactStyled", spec := "fnExactStyled", unfollowed := true, recurses := true, apart := false }
def FnExactStyledSaid : Prop := fnExactStyledRow.holds Try.pinned (OpenSpec.ofChange fnExactStyledSpec)

/-- ITS FALSE NEIGHBOUR: 'it returns false'. Refute it at one input. -/
def fnExactStyledWrong : ChangeSpec := { name := "fnExactStyled", fn := fun _ => fun
  | [d1, d2] => { results := [.lit (.bool false)], args := [d1, d2] }
  | _ => none }
def FnExactStyledWrongFalsely : Prop := fnExactStyledRow.holds Try.pinned (OpenSpec.ofChange fnExactStyledWrong)

/-- 'laws.FnExactParams': WHATEVER THE INPUT: true; the input reads as it did. -/
def fnExactParamsSpec : ChangeSpec := { name := "fnExactParams", fn := fun _ => fun
  | [d1, d2] => { results := [.lit (.bool true)], args := [d1, d2] }
  | _ => none }
def fnExactParamsRow : OpenClaim := { program := "ytjcoebabipmmhaa", sum := "863be3c60cd63de66b9e4149f5d22c8382db3ca3a7f94c43b6bc1cf2d819c5e0", func := "loop.example/g00215/laws.FnExactParams", spec := "fnExactParams", apart := false }
def FnExactParamsSaid : Prop := fnExactParamsRow.holds Try.pinned (OpenSpec.ofChange fnExactParamsSpec)

/-- ITS FALSE NEIGHBOUR: 'it returns false'. Refute it at one input. -/
def fnExactParamsWrong : ChangeSpec := { name := "fnExactParams", fn := fun _ => fun
  | [d1, d2] => { results := [.lit (.bool false)], args := [d1, d2] }
  | _ => none }
def FnExactParamsWrongFalsely : Prop := fnExactParamsRow.holds Try.pinned (OpenSpec.ofChange fnExactParamsWrong)

/- THE SECOND FORM. 'bulk': how many values and letters a reading holds, each counted each time it is reached (what is shared counts as often as it is met; a slice's spare places count too). A statement '..UptoSaid' is the law's where the arguments, and the package variables that the reading takes, are together of bulk at most 1048576: NARROWER than '..Said'. Prove '..Said' where nothing that the law and all that it calls make is longer than what came in: it says more and counts as full. Else prove '..UptoSaid'. A law counts once. -/
mutual
def uptoBulk {H : Type} : DataW H → Nat
  | .lit (.string bytes) => bytes.length + 1
  | .lit _ => 1
  | .nil => 1
  | .ptr d => uptoBulk d + 1
  | .slice elems spare => uptoBulkAll elems + uptoBulkAll spare + 1
  | .agg parts => uptoBulkAll parts + 1
  | .iface _ d => uptoBulk d + 1
  | .map entries => uptoBulkEntries entries + 1
  | .held _ => 1
def uptoBulkAll {H : Type} : List (DataW H) → Nat
  | [] => 0
  | d :: r => uptoBulk d + uptoBulkAll r
def uptoBulkEntries {H : Type} : List (Lit × DataW H) → Nat
  | [] => 0
  | x :: r => uptoBulkEntry x + uptoBulkEntries r
def uptoBulkEntry {H : Type} : Lit × DataW H → Nat
  | (.string bytes, d) => bytes.length + uptoBulk d + 1
  | (_, d) => uptoBulk d + 1
 end
def uptoSmall : (H : Type) → List (DataW H) → Bool := fun _ ds => decide (uptoBulkAll ds ≤ 1048576)
def OpenSpec.upto (s : _root_.Go.ChangeSpec) : _root_.Go.OpenSpec := { _root_.Go.OpenSpec.ofChange s with cond := some uptoSmall }

/-- 'laws.FnExactStyleOk', WHERE WHAT IT READS IS OF BULK AT MOST 1048576: true; the input reads as it did. -/
def fnExactStyleOkUptoRow : OpenClaim := { program := "ytjcoebabipmmhaa", sum := "863be3c60cd63de66b9e4149f5d22c8382db3ca3a7f94c43b6bc1cf2d819c5e0", func := "loop.example/g00215/laws.FnExactStyleOk", spec := "fnExactStyleOk", apart := false, narrowed := true }
def FnExactStyleOkUptoSaid : Prop := fnExactStyleOkUptoRow.holds Try.pinned (OpenSpec.upto fnExactStyleOkSpec)

/-- 'laws.FnExactStyled', WHERE WHAT IT READS IS OF BULK AT MOST 1048576: true; the input reads as it did. -/
def fnExactStyledUptoRow : OpenClaim := { program := "ytjcoebabipmmhaa", sum := "863be3c60cd63de66b9e4149f5d22c8382db3ca3a7f94c43b6bc1cf2d819c5e0", func := "loop.example/g00215/laws.FnExactStyled", spec := "fnExactStyled", unfollowed := true, recurses := true, apart := false, narrowed := true }
def FnExactStyledUptoSaid : Prop := fnExactStyledUptoRow.holds Try.pinned (OpenSpec.upto fnExactStyledSpec)

/-- 'laws.FnExactParams', WHERE WHAT IT READS IS OF BULK AT MOST 1048576: true; the input reads as it did. -/
def fnExactParamsUptoRow : OpenClaim := { program := "ytjcoebabipmmhaa", sum := "863be3c60cd63de66b9e4149f5d22c8382db3ca3a7f94c43b6bc1cf2d819c5e0", func := "loop.example/g00215/laws.FnExactParams", spec := "fnExactParams", apart := false, narrowed := true }
def FnExactParamsUptoSaid : Prop := fnExactParamsUptoRow.holds Try.pinned (OpenSpec.upto fnExactParamsSpec)

end Rows
end Go.Proofs.Ytjcoebabipmmhaa
