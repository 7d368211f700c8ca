/-
  NARROWER THAN 'FOR EVERY INPUT', by the rows' own cells (each row's printed sentence says how): FnExactLooks: laid · FnExactSameScreen: laid.
  DERIVED. THE GIVEN ROWS OF THIS SEAT. 2 by the template 'for every input the law returns true; each argument reads behind the call as it read before'; 0 by the template 'total and deterministic' (their statements: YtlmnhlfklbgjdaaDoorTotals.lean).
  GIVEN WITH THE SEED: the statements are not yours to turn. If you find one false, say at which input.
  Laid BY PROGRAM, IN A SANDBOX (cutbox-rows.mjs): the forced cells as the released guide's own fill.sh prints them over the translation fe8136da9486d6a6… (all of the seat's roots in one cut). By AI agents, Wed Nov 11 2026. No macro, syntax, notation, axiom, sorry.
-/
import Derived.Test.YtlmnhlfklbgjdaaDoorChecked
import GoSem.Claim
import GoSem.ClaimJoined
import GoSem.ClaimMapViews
import Derived.JoinedTies
import Derived.KernelRfl
namespace Go.Proofs.YtlmnhlfklbgjdaaDoor
/- THE CELL 'sum', in the pinned program and in every row, IS THE sha256 OF THE DUMP (.gsa) THAT YtlmnhlfklbgjdaaDoorProg.lean LOADS. Nothing in Lean hashes anything: it is a label: what it is worth is what the hold of that sum in a sandbox is worth. -/
noncomputable def Tryd.pinned : Pinned := { name := "ytlmnhlfklbgjdaadoor", sum := "fe8136da9486d6a6664cd3f5e39873ba6017214030f5a551231fff13f99aaaea", checked := Tryd.checked }
namespace Rows
def none {H : Type} : Left H := { results := [], args := [] }

/- WHAT THE LISTED PACKAGE-LEVEL VARIABLES READ AS WHEN THE CALL BEGINS. Each datum BY PROGRAM (the guide's laid-datum.mjs) off the statement by which the dump's own 'gosem.cut.vars' lays the variable. In a bare row this is a premise. The card (YtlmnhlfklbgjdaaDoorCards.lean) ties it to the program's text. -/
def laid_loop_example_g00215_impl_spans {H : Type} : DataW H := .agg [.agg [.lit (.int .i64 0), .lit (.int .i64 31), .lit (.int .i64 0)], .agg [.lit (.int .i64 127), .lit (.int .i64 159), .lit (.int .i64 0)], .agg [.lit (.int .i64 768), .lit (.int .i64 879), .lit (.int .i64 0)], .agg [.lit (.int .i64 4352), .lit (.int .i64 4447), .lit (.int .i64 2)], .agg [.lit (.int .i64 12288), .lit (.int .i64 55295), .lit (.int .i64 2)], .agg [.lit (.int .i64 127744), .lit (.int .i64 131071), .lit (.int .i64 2)]]

/-- 'laws.FnExactLooks': WHATEVER THE INPUT: true; the input reads as it did. -/
def fnExactLooksSpec : ChangeSpec := { name := "fnExactLooks", vars := ["loop.example/g00215/impl.spans"], fn := fun _ => fun
  | [d, g1] => { results := [.lit (.bool true)], args := [d], vars := [g1] }
  | _ => none }
def fnExactLooksRow : OpenClaim := { program := "ytlmnhlfklbgjdaadoor", sum := "fe8136da9486d6a6664cd3f5e39873ba6017214030f5a551231fff13f99aaaea", func := "loop.example/g00215/laws.FnExactLooks", spec := "fnExactLooks", named := ["loop.example/g00215/impl.spans"], apart := false, laid := [("loop.example/g00215/impl.spans", laid_loop_example_g00215_impl_spans)] }
def FnExactLooksSaid : Prop := fnExactLooksRow.holds Tryd.pinned (OpenSpec.ofChange fnExactLooksSpec)

/-- ITS FALSE NEIGHBOUR: 'it returns false'. Refute it at one input. -/
def fnExactLooksWrong : ChangeSpec := { name := "fnExactLooks", vars := ["loop.example/g00215/impl.spans"], fn := fun _ => fun
  | [d, g1] => { results := [.lit (.bool false)], args := [d], vars := [g1] }
  | _ => none }
def FnExactLooksWrongFalsely : Prop := fnExactLooksRow.holds Tryd.pinned (OpenSpec.ofChange fnExactLooksWrong)

/-- 'laws.FnExactSameScreen': WHATEVER THE INPUT: true; the input reads as it did. -/
def fnExactSameScreenSpec : ChangeSpec := { name := "fnExactSameScreen", vars := ["loop.example/g00215/impl.spans"], fn := fun _ => fun
  | [d1, d2, g1] => { results := [.lit (.bool true)], args := [d1, d2], vars := [g1] }
  | _ => none }
def fnExactSameScreenRow : OpenClaim := { program := "ytlmnhlfklbgjdaadoor", sum := "fe8136da9486d6a6664cd3f5e39873ba6017214030f5a551231fff13f99aaaea", func := "loop.example/g00215/laws.FnExactSameScreen", spec := "fnExactSameScreen", unfollowed := true, recurses := true, named := ["loop.example/g00215/impl.spans"], apart := false, laid := [("loop.example/g00215/impl.spans", laid_loop_example_g00215_impl_spans)] }
def FnExactSameScreenSaid : Prop := fnExactSameScreenRow.holds Tryd.pinned (OpenSpec.ofChange fnExactSameScreenSpec)

/-- ITS FALSE NEIGHBOUR: 'it returns false'. Refute it at one input. -/
def fnExactSameScreenWrong : ChangeSpec := { name := "fnExactSameScreen", vars := ["loop.example/g00215/impl.spans"], fn := fun _ => fun
  | [d1, d2, g1] => { results := [.lit (.bool false)], args := [d1, d2], vars := [g1] }
  | _ => none }
def FnExactSameScreenWrongFalsely : Prop := fnExactSameScreenRow.holds Tryd.pinned (OpenSpec.ofChange fnExactSameScreenWrong)

/- THE SECOND FORM. 'bulk': how many values and letters a reading holds, each counted each time it is reached (what is shared counts as often as it is met; a slice's spare places count too). A statement '..UptoSaid' is the law's where the arguments, and the package variables that the reading takes, are together of bulk at most 1048576: NARROWER than '..Said'. Prove '..Said' where nothing that the law and all that it calls make is longer than what came in: it says more and counts as full. Else prove '..UptoSaid'. A law counts once. -/
mutual
def uptoBulk {H : Type} : DataW H → Nat
  | .lit (.string bytes) => bytes.length + 1
  | .lit _ => 1
  | .nil => 1
  | .ptr d => uptoBulk d + 1
  | .slice elems spare => uptoBulkAll elems + uptoBulkAll spare + 1
  | .agg parts => uptoBulkAll parts + 1
  | .iface _ d => uptoBulk d + 1
  | .map entries => uptoBulkEntries entries + 1
  | .held _ => 1
def uptoBulkAll {H : Type} : List (DataW H) → Nat
  | [] => 0
  | d :: r => uptoBulk d + uptoBulkAll r
def uptoBulkEntries {H : Type} : List (Lit × DataW H) → Nat
  | [] => 0
  | x :: r => uptoBulkEntry x + uptoBulkEntries r
def uptoBulkEntry {H : Type} : Lit × DataW H → Nat
  | (.string bytes, d) => bytes.length + uptoBulk d + 1
  | (_, d) => uptoBulk d + 1
 end
def uptoSmall : (H : Type) → List (DataW H) → Bool := fun _ ds => decide (uptoBulkAll ds ≤ 1048576)
def OpenSpec.upto (s : _root_.Go.ChangeSpec) : _root_.Go.OpenSpec := { _root_.Go.OpenSpec.ofChange s with cond := some uptoSmall }

/-- 'laws.FnExactLooks', WHERE WHAT IT READS IS OF BULK AT MOST 1048576: true; the input reads as it did. -/
def fnExactLooksUptoRow : OpenClaim := { program := "ytlmnhlfklbgjdaadoor", sum := "fe8136da9486d6a6664cd3f5e39873ba6017214030f5a551231fff13f99aaaea", func := "loop.example/g00215/laws.FnExactLooks", spec := "fnExactLooks", named := ["loop.example/g00215/impl.spans"], apart := false, laid := [("loop.example/g00215/impl.spans", laid_loop_example_g00215_impl_spans)], narrowed := true }
def FnExactLooksUptoSaid : Prop := fnExactLooksUptoRow.holds Tryd.pinned (OpenSpec.upto fnExactLooksSpec)

/-- 'laws.FnExactSameScreen', WHERE WHAT IT READS IS OF BULK AT MOST 1048576: true; the input reads as it did. -/
def fnExactSameScreenUptoRow : OpenClaim := { program := "ytlmnhlfklbgjdaadoor", sum := "fe8136da9486d6a6664cd3f5e39873ba6017214030f5a551231fff13f99aaaea", func := "loop.example/g00215/laws.FnExactSameScreen", spec := "fnExactSameScreen", unfollowed := true, recurses := true, named := ["loop.example/g00215/impl.spans"], apart := false, laid := [("loop.example/g00215/impl.spans", laid_loop_example_g00215_impl_spans)], narrowed := true }
def FnExactSameScreenUptoSaid : Prop := fnExactSameScreenUptoRow.holds Tryd.pinned (OpenSpec.upto fnExactSameScreenSpec)

end Rows
end Go.Proofs.YtlmnhlfklbgjdaaDoor
