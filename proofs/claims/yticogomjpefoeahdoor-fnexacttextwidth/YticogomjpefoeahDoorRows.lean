/-
  NARROWER THAN 'FOR EVERY INPUT', by the rows' own cells (each row's printed sentence says how): FnExactWidth: laid · FnExactTextWidth: laid · FnExactFitting: laid.
  DERIVED. THE GIVEN ROWS OF THIS SEAT. 3 by the template 'for every input the law returns true; each argument reads behind the call as it read before'; 0 by the template 'total and deterministic' (their statements: YticogomjpefoeahDoorTotals.lean).
  GIVEN WITH THE SEED: the statements are not yours to turn. If you find one false, say at which input.
  Laid BY PROGRAM, IN A SANDBOX (cutbox-rows.mjs): the forced cells as the released guide's own fill.sh prints them over the translation 8c1a610b2c11856a… (all of the seat's roots in one cut). By AI agents, Wed Nov 11 2026. No macro, syntax, notation, axiom, sorry.
-/
import Derived.Test.YticogomjpefoeahDoorChecked
import GoSem.Claim
import GoSem.ClaimJoined
import GoSem.ClaimMapViews
import Derived.JoinedTies
import Derived.KernelRfl
namespace Go.Proofs.YticogomjpefoeahDoor
/- THE CELL 'sum', in the pinned program and in every row, IS THE sha256 OF THE DUMP (.gsa) THAT YticogomjpefoeahDoorProg.lean LOADS. Nothing in Lean hashes anything: it is a label: what it is worth is what the hold of that sum in a sandbox is worth. -/
noncomputable def Tryd.pinned : Pinned := { name := "yticogomjpefoeahdoor", sum := "8c1a610b2c11856a516b9b489607a45a310aa5cacb9b9cc76070766e8be2bfeb", checked := Tryd.checked }
namespace Rows
def none {H : Type} : Left H := { results := [], args := [] }

/- WHAT THE LISTED PACKAGE-LEVEL VARIABLES READ AS WHEN THE CALL BEGINS. Each datum BY PROGRAM (the guide's laid-datum.mjs) off the statement by which the dump's own 'gosem.cut.vars' lays the variable. In a bare row this is a premise. The card (YticogomjpefoeahDoorCards.lean) ties it to the program's text. -/
def laid_loop_example_g00215_impl_spans {H : Type} : DataW H := .agg [.agg [.lit (.int .i64 0), .lit (.int .i64 31), .lit (.int .i64 0)], .agg [.lit (.int .i64 127), .lit (.int .i64 159), .lit (.int .i64 0)], .agg [.lit (.int .i64 768), .lit (.int .i64 879), .lit (.int .i64 0)], .agg [.lit (.int .i64 4352), .lit (.int .i64 4447), .lit (.int .i64 2)], .agg [.lit (.int .i64 12288), .lit (.int .i64 55295), .lit (.int .i64 2)], .agg [.lit (.int .i64 127744), .lit (.int .i64 131071), .lit (.int .i64 2)]]

/-- 'laws.FnExactWidth': WHATEVER THE INPUT: true; the input reads as it did. -/
def fnExactWidthSpec : ChangeSpec := { name := "fnExactWidth", vars := ["loop.example/g00215/impl.spans"], fn := fun _ => fun
  | [d, g1] => { results := [.lit (.bool true)], args := [d], vars := [g1] }
  | _ => none }
def fnExactWidthRow : OpenClaim := { program := "yticogomjpefoeahdoor", sum := "8c1a610b2c11856a516b9b489607a45a310aa5cacb9b9cc76070766e8be2bfeb", func := "loop.example/g00215/laws.FnExactWidth", spec := "fnExactWidth", named := ["loop.example/g00215/impl.spans"], apart := false, laid := [("loop.example/g00215/impl.spans", laid_loop_example_g00215_impl_spans)] }
def FnExactWidthSaid : Prop := fnExactWidthRow.holds Tryd.pinned (OpenSpec.ofChange fnExactWidthSpec)

/-- ITS FALSE NEIGHBOUR: 'it returns false'. Refute it at one input. -/
def fnExactWidthWrong : ChangeSpec := { name := "fnExactWidth", vars := ["loop.example/g00215/impl.spans"], fn := fun _ => fun
  | [d, g1] => { results := [.lit (.bool false)], args := [d], vars := [g1] }
  | _ => none }
def FnExactWidthWrongFalsely : Prop := fnExactWidthRow.holds Tryd.pinned (OpenSpec.ofChange fnExactWidthWrong)

/-- 'laws.FnExactTextWidth': WHATEVER THE INPUT: true; the input reads as it did. -/
def fnExactTextWidthSpec : ChangeSpec := { name := "fnExactTextWidth", vars := ["loop.example/g00215/impl.spans"], fn := fun _ => fun
  | [d, g1] => { results := [.lit (.bool true)], args := [d], vars := [g1] }
  | _ => none }
def fnExactTextWidthRow : OpenClaim := { program := "yticogomjpefoeahdoor", sum := "8c1a610b2c11856a516b9b489607a45a310aa5cacb9b9cc76070766e8be2bfeb", func := "loop.example/g00215/laws.FnExactTextWidth", spec := "fnExactTextWidth", named := ["loop.example/g00215/impl.spans"], apart := false, laid := [("loop.example/g00215/impl.spans", laid_loop_example_g00215_impl_spans)] }
def FnExactTextWidthSaid : Prop := fnExactTextWidthRow.holds Tryd.pinned (OpenSpec.ofChange fnExactTextWidthSpec)

/-- ITS FALSE NEIGHBOUR: 'it returns false'. Refute it at one input. -/
def fnExactTextWidthWrong : ChangeSpec := { name := "fnExactTextWidth", vars := ["loop.example/g00215/impl.spans"], fn := fun _ => fun
  | [d, g1] => { results := [.lit (.bool false)], args := [d], vars := [g1] }
  | _ => none }
def FnExactTextWidthWrongFalsely : Prop := fnExactTextWidthRow.holds Tryd.pinned (OpenSpec.ofChange fnExactTextWidthWrong)

/-- 'laws.FnExactFitting': WHATEVER THE INPUT: true; the input reads as it did. -/
def fnExactFittingSpec : ChangeSpec := { name := "fnExactFitting", vars := ["loop.example/g00215/impl.spans"], fn := fun _ => fun
  | [d1, d2, g1] => { results := [.lit (.bool true)], args := [d1, d2], vars := [g1] }
  | _ => none }
def fnExactFittingRow : OpenClaim := { program := "yticogomjpefoeahdoor", sum := "8c1a610b2c11856a516b9b489607a45a310aa5cacb9b9cc76070766e8be2bfeb", func := "loop.example/g00215/laws.FnExactFitting", spec := "fnExactFitting", named := ["loop.example/g00215/impl.spans"], apart := false, laid := [("loop.example/g00215/impl.spans", laid_loop_example_g00215_impl_spans)] }
def FnExactFittingSaid : Prop := fnExactFittingRow.holds Tryd.pinned (OpenSpec.ofChange fnExactFittingSpec)

/-- ITS FALSE NEIGHBOUR: 'it returns false'. Refute it at one input. -/
def fnExactFittingWrong : ChangeSpec := { name := "fnExactFitting", vars := ["loop.example/g00215/impl.spans"], fn := fun _ => fun
  | [d1, d2, g1] => { results := [.lit (.bool false)], args := [d1, d2], vars := [g1] }
  | _ => none }
def FnExactFittingWrongFalsely : Prop := fnExactFittingRow.holds Tryd.pinned (OpenSpec.ofChange fnExactFittingWrong)

/- THE SECOND FORM. 'bulk': how many values and letters a reading holds, each counted each time it is reached (what is shared counts as often as it is met; a slice's spare places count too). A statement '..UptoSaid' is the law's where the arguments, and the package variables that the reading takes, are together of bulk at most 1048576: NARROWER than '..Said'. Prove '..Said' where nothing that the law and all that it calls make is longer than what came in: it says more and counts as full. Else prove '..UptoSaid'. A law counts once. -/
mutual
def uptoBulk {H : Type} : DataW H → Nat
  | .lit (.string bytes) => bytes.length + 1
  | .lit _ => 1
  | .nil => 1
  | .ptr d => uptoBulk d + 1
  | .slice elems spare => uptoBulkAll elems + uptoBulkAll spare + 1
  | .agg parts => uptoBulkAll parts + 1
  | .iface _ d => uptoBulk d + 1
  | .map entries => uptoBulkEntries entries + 1
  | .held _ => 1
def uptoBulkAll {H : Type} : List (DataW H) → Nat
  | [] => 0
  | d :: r => uptoBulk d + uptoBulkAll r
def uptoBulkEntries {H : Type} : List (Lit × DataW H) → Nat
  | [] => 0
  | x :: r => uptoBulkEntry x + uptoBulkEntries r
def uptoBulkEntry {H : Type} : Lit × DataW H → Nat
  | (.string bytes, d) => bytes.length + uptoBulk d + 1
  | (_, d) => uptoBulk d + 1
 end
def uptoSmall : (H : Type) → List (DataW H) → Bool := fun _ ds => decide (uptoBulkAll ds ≤ 1048576)
def OpenSpec.upto (s : _root_.Go.ChangeSpec) : _root_.Go.OpenSpec := { _root_.Go.OpenSpec.ofChange s with cond := some uptoSmall }

/-- 'laws.FnExactWidth', WHERE WHAT IT READS IS OF BULK AT MOST 1048576: true; the input reads as it did. -/
def fnExactWidthUptoRow : OpenClaim := { program := "yticogomjpefoeahdoor", sum := "8c1a610b2c11856a516b9b489607a45a310aa5cacb9b9cc76070766e8be2bfeb", func := "loop.example/g00215/laws.FnExactWidth", spec := "fnExactWidth", named := ["loop.example/g00215/impl.spans"], apart := false, laid := [("loop.example/g00215/impl.spans", laid_loop_example_g00215_impl_spans)], narrowed := true }
def FnExactWidthUptoSaid : Prop := fnExactWidthUptoRow.holds Tryd.pinned (OpenSpec.upto fnExactWidthSpec)

/-- 'laws.FnExactTextWidth', WHERE WHAT IT READS IS OF BULK AT MOST 1048576: true; the input reads as it did. -/
def fnExactTextWidthUptoRow : OpenClaim := { program := "yticogomjpefoeahdoor", sum := "8c1a610b2c11856a516b9b489607a45a310aa5cacb9b9cc76070766e8be2bfeb", func := "loop.example/g00215/laws.FnExactTextWidth", spec := "fnExactTextWidth", named := ["loop.example/g00215/impl.spans"], apart := false, laid := [("loop.example/g00215/impl.spans", laid_loop_example_g00215_impl_spans)], narrowed := true }
def FnExactTextWidthUptoSaid : Prop := fnExactTextWidthUptoRow.holds Tryd.pinned (OpenSpec.upto fnExactTextWidthSpec)

/-- 'laws.FnExactFitting', WHERE WHAT IT READS IS OF BULK AT MOST 1048576: true; the input reads as it did. -/
def fnExactFittingUptoRow : OpenClaim := { program := "yticogomjpefoeahdoor", sum := "8c1a610b2c11856a516b9b489607a45a310aa5cacb9b9cc76070766e8be2bfeb", func := "loop.example/g00215/laws.FnExactFitting", spec := "fnExactFitting", named := ["loop.example/g00215/impl.spans"], apart := false, laid := [("loop.example/g00215/impl.spans", laid_loop_example_g00215_impl_spans)], narrowed := true }
def FnExactFittingUptoSaid : Prop := fnExactFittingUptoRow.holds Tryd.pinned (OpenSpec.upto fnExactFittingSpec)

end Rows
end Go.Proofs.YticogomjpefoeahDoor
