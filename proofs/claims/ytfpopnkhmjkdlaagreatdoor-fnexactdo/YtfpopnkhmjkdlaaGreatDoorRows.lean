/-
  NARROWER THAN 'FOR EVERY INPUT', by the rows' own cells (each row's printed sentence says how): FnTerms: laid · FnScrolled: laid · FnRefitted: laid · FnExactDo: laid · FnExactWrite: laid.
  DERIVED. THE GIVEN ROWS OF THIS SEAT. 5 by the template 'for every input the law returns true; each argument reads behind the call as it read before'; 0 by the template 'total and deterministic' (their statements: YtfpopnkhmjkdlaaGreatDoorTotals.lean).
  GIVEN WITH THE SEED: the statements are not yours to turn. If you find one false, say at which input.
  Laid BY PROGRAM, IN A SANDBOX (cutbox-rows.mjs): the forced cells as the released guide's own fill.sh prints them over the translation d215e63fa7c42546… (all of the seat's roots in one cut). By AI agents, Wed Nov 11 2026. No macro, syntax, notation, axiom, sorry.
-/
import Derived.Test.YtfpopnkhmjkdlaaGreatDoorChecked
import GoSem.Claim
import GoSem.ClaimJoined
import GoSem.ClaimMapViews
import Derived.JoinedTies
import Derived.KernelRfl
namespace Go.Proofs.YtfpopnkhmjkdlaaGreatDoor
/- THE CELL 'sum', in the pinned program and in every row, IS THE sha256 OF THE DUMP (.gsa) THAT YtfpopnkhmjkdlaaGreatDoorProg.lean LOADS. Nothing in Lean hashes anything: it is a label: what it is worth is what the hold of that sum in a sandbox is worth. -/
noncomputable def Tryz.pinned : Pinned := { name := "ytfpopnkhmjkdlaagreatdoor", sum := "d215e63fa7c42546c103192909cd2c987fbfbe9f180c70cc52744952d9a10a5f", checked := Tryz.checked }
namespace Rows
def none {H : Type} : Left H := { results := [], args := [] }

/- WHAT THE LISTED PACKAGE-LEVEL VARIABLES READ AS WHEN THE CALL BEGINS. Each datum BY PROGRAM (the guide's laid-datum.mjs) off the statement by which the dump's own 'gosem.cut.vars' lays the variable. In a bare row this is a premise. The card (YtfpopnkhmjkdlaaGreatDoorCards.lean) ties it to the program's text. -/
def laid_loop_example_g00215_impl_spans {H : Type} : DataW H := .agg [.agg [.lit (.int .i64 0), .lit (.int .i64 31), .lit (.int .i64 0)], .agg [.lit (.int .i64 127), .lit (.int .i64 159), .lit (.int .i64 0)], .agg [.lit (.int .i64 768), .lit (.int .i64 879), .lit (.int .i64 0)], .agg [.lit (.int .i64 4352), .lit (.int .i64 4447), .lit (.int .i64 2)], .agg [.lit (.int .i64 12288), .lit (.int .i64 55295), .lit (.int .i64 2)], .agg [.lit (.int .i64 127744), .lit (.int .i64 131071), .lit (.int .i64 2)]]

/-- 'laws.FnTerms': WHATEVER THE INPUT: true; the input reads as it did. -/
def fnTermsSpec : ChangeSpec := { name := "fnTerms", vars := ["loop.example/g00215/impl.spans"], fn := fun _ => fun
  | [d, g1] => { results := [.lit (.bool true)], args := [d], vars := [g1] }
  | _ => none }
def fnTermsRow : OpenClaim := { program := "ytfpopnkhmjkdlaagreatdoor", sum := "d215e63fa7c42546c103192909cd2c987fbfbe9f180c70cc52744952d9a10a5f", func := "loop.example/g00215/laws.FnTerms", spec := "fnTerms", unfollowed := true, recurses := true, named := ["loop.example/g00215/impl.spans"], apart := false, laid := [("loop.example/g00215/impl.spans", laid_loop_example_g00215_impl_spans)] }
def FnTermsSaid : Prop := fnTermsRow.holds Tryz.pinned (OpenSpec.ofChange fnTermsSpec)

/-- ITS FALSE NEIGHBOUR: 'it returns false'. Refute it at one input. -/
def fnTermsWrong : ChangeSpec := { name := "fnTerms", vars := ["loop.example/g00215/impl.spans"], fn := fun _ => fun
  | [d, g1] => { results := [.lit (.bool false)], args := [d], vars := [g1] }
  | _ => none }
def FnTermsWrongFalsely : Prop := fnTermsRow.holds Tryz.pinned (OpenSpec.ofChange fnTermsWrong)

/-- 'laws.FnScrolled': WHATEVER THE INPUT: true; the input reads as it did. -/
def fnScrolledSpec : ChangeSpec := { name := "fnScrolled", vars := ["loop.example/g00215/impl.spans"], fn := fun _ => fun
  | [d, g1] => { results := [.lit (.bool true)], args := [d], vars := [g1] }
  | _ => none }
def fnScrolledRow : OpenClaim := { program := "ytfpopnkhmjkdlaagreatdoor", sum := "d215e63fa7c42546c103192909cd2c987fbfbe9f180c70cc52744952d9a10a5f", func := "loop.example/g00215/laws.FnScrolled", spec := "fnScrolled", unfollowed := true, recurses := true, named := ["loop.example/g00215/impl.spans"], apart := false, laid := [("loop.example/g00215/impl.spans", laid_loop_example_g00215_impl_spans)] }
def FnScrolledSaid : Prop := fnScrolledRow.holds Tryz.pinned (OpenSpec.ofChange fnScrolledSpec)

/-- ITS FALSE NEIGHBOUR: 'it returns false'. Refute it at one input. -/
def fnScrolledWrong : ChangeSpec := { name := "fnScrolled", vars := ["loop.example/g00215/impl.spans"], fn := fun _ => fun
  | [d, g1] => { results := [.lit (.bool false)], args := [d], vars := [g1] }
  | _ => none }
def FnScrolledWrongFalsely : Prop := fnScrolledRow.holds Tryz.pinned (OpenSpec.ofChange fnScrolledWrong)

/-- 'laws.FnRefitted': WHATEVER THE INPUT: true; the input reads as it did. -/
def fnRefittedSpec : ChangeSpec := { name := "fnRefitted", vars := ["loop.example/g00215/impl.spans"], fn := fun _ => fun
  | [d, g1] => { results := [.lit (.bool true)], args := [d], vars := [g1] }
  | _ => none }
def fnRefittedRow : OpenClaim := { program := "ytfpopnkhmjkdlaagreatdoor", sum := "d215e63fa7c42546c103192909cd2c987fbfbe9f180c70cc52744952d9a10a5f", func := "loop.example/g00215/laws.FnRefitted", spec := "fnRefitted", named := ["loop.example/g00215/impl.spans"], apart := false, laid := [("loop.example/g00215/impl.spans", laid_loop_example_g00215_impl_spans)] }
def FnRefittedSaid : Prop := fnRefittedRow.holds Tryz.pinned (OpenSpec.ofChange fnRefittedSpec)

/-- ITS FALSE NEIGHBOUR: 'it returns false'. Refute it at one input. -/
def fnRefittedWrong : ChangeSpec := { name := "fnRefitted", vars := ["loop.example/g00215/impl.spans"], fn := fun _ => fun
  | [d, g1] => { results := [.lit (.bool false)], args := [d], vars := [g1] }
  | _ => none }
def FnRefittedWrongFalsely : Prop := fnRefittedRow.holds Tryz.pinned (OpenSpec.ofChange fnRefittedWrong)

/-- 'laws.FnExactDo': WHATEVER THE INPUT: true; the input reads as it did. -/
def fnExactDoSpec : ChangeSpec := { name := "fnExactDo", vars := ["loop.example/g00215/impl.spans"], fn := fun _ => fun
  | [d1, d2, g1] => { results := [.lit (.bool true)], args := [d1, d2], vars := [g1] }
  | _ => none }
def fnExactDoRow : OpenClaim := { program := "ytfpopnkhmjkdlaagreatdoor", sum := "d215e63fa7c42546c103192909cd2c987fbfbe9f180c70cc52744952d9a10a5f", func := "loop.example/g00215/laws.FnExactDo", spec := "fnExactDo", unfollowed := true, recurses := true, named := ["loop.example/g00215/impl.spans"], apart := false, laid := [("loop.example/g00215/impl.spans", laid_loop_example_g00215_impl_spans)] }
def FnExactDoSaid : Prop := fnExactDoRow.holds Tryz.pinned (OpenSpec.ofChange fnExactDoSpec)

/-- ITS FALSE NEIGHBOUR: 'it returns false'. Refute it at one input. -/
def fnExactDoWrong : ChangeSpec := { name := "fnExactDo", vars := ["loop.example/g00215/impl.spans"], fn := fun _ => fun
  | [d1, d2, g1] => { results := [.lit (.bool false)], args := [d1, d2], vars := [g1] }
  | _ => none }
def FnExactDoWrongFalsely : Prop := fnExactDoRow.holds Tryz.pinned (OpenSpec.ofChange fnExactDoWrong)

/-- 'laws.FnExactWrite': WHATEVER THE INPUT: true; the input reads as it did. -/
def fnExactWriteSpec : ChangeSpec := { name := "fnExactWrite", vars := ["loop.example/g00215/impl.spans"], fn := fun _ => fun
  | [d1, d2, g1] => { results := [.lit (.bool true)], args := [d1, d2], vars := [g1] }
  | _ => none }
def fnExactWriteRow : OpenClaim := { program := "ytfpopnkhmjkdlaagreatdoor", sum := "d215e63fa7c42546c103192909cd2c987fbfbe9f180c70cc52744952d9a10a5f", func := "loop.example/g00215/laws.FnExactWrite", spec := "fnExactWrite", unfollowed := true, recurses := true, named := ["loop.example/g00215/impl.spans"], apart := false, laid := [("loop.example/g00215/impl.spans", laid_loop_example_g00215_impl_spans)] }
def FnExactWriteSaid : Prop := fnExactWriteRow.holds Tryz.pinned (OpenSpec.ofChange fnExactWriteSpec)

/-- ITS FALSE NEIGHBOUR: 'it returns false'. Refute it at one input. -/
def fnExactWriteWrong : ChangeSpec := { name := "fnExactWrite", vars := ["loop.example/g00215/impl.spans"], fn := fun _ => fun
  | [d1, d2, g1] => { results := [.lit (.bool false)], args := [d1, d2], vars := [g1] }
  | _ => none }
def FnExactWriteWrongFalsely : Prop := fnExactWriteRow.holds Tryz.pinned (OpenSpec.ofChange fnExactWriteWrong)

/- THE SECOND FORM. 'bulk': how many values and letters a reading holds, each counted each time it is reached (what is shared counts as often as it is met; a slice's spare places count too). A statement '..UptoSaid' is the law's where the arguments, and the package variables that the reading takes, are together of bulk at most 1048576: NARROWER than '..Said'. Prove '..Said' where nothing that the law and all that it calls make is longer than what came in: it says more and counts as full. Else prove '..UptoSaid'. A law counts once. -/
mutual
def uptoBulk {H : Type} : DataW H → Nat
  | .lit (.string bytes) => bytes.length + 1
  | .lit _ => 1
  | .nil => 1
  | .ptr d => uptoBulk d + 1
  | .slice elems spare => uptoBulkAll elems + uptoBulkAll spare + 1
  | .agg parts => uptoBulkAll parts + 1
  | .iface _ d => uptoBulk d + 1
  | .map entries => uptoBulkEntries entries + 1
  | .held _ => 1
def uptoBulkAll {H : Type} : List (DataW H) → Nat
  | [] => 0
  | d :: r => uptoBulk d + uptoBulkAll r
def uptoBulkEntries {H : Type} : List (Lit × DataW H) → Nat
  | [] => 0
  | x :: r => uptoBulkEntry x + uptoBulkEntries r
def uptoBulkEntry {H : Type} : Lit × DataW H → Nat
  | (.string bytes, d) => bytes.length + uptoBulk d + 1
  | (_, d) => uptoBulk d + 1
 end
def uptoSmall : (H : Type) → List (DataW H) → Bool := fun _ ds => decide (uptoBulkAll ds ≤ 1048576)
def OpenSpec.upto (s : _root_.Go.ChangeSpec) : _root_.Go.OpenSpec := { _root_.Go.OpenSpec.ofChange s with cond := some uptoSmall }

/-- 'laws.FnTerms', WHERE WHAT IT READS IS OF BULK AT MOST 1048576: true; the input reads as it did. -/
def fnTermsUptoRow : OpenClaim := { program := "ytfpopnkhmjkdlaagreatdoor", sum := "d215e63fa7c42546c103192909cd2c987fbfbe9f180c70cc52744952d9a10a5f", func := "loop.example/g00215/laws.FnTerms", spec := "fnTerms", unfollowed := true, recurses := true, named := ["loop.example/g00215/impl.spans"], apart := false, laid := [("loop.example/g00215/impl.spans", laid_loop_example_g00215_impl_spans)], narrowed := true }
def FnTermsUptoSaid : Prop := fnTermsUptoRow.holds Tryz.pinned (OpenSpec.upto fnTermsSpec)

/-- 'laws.FnScrolled', WHERE WHAT IT READS IS OF BULK AT MOST 1048576: true; the input reads as it did. -/
def fnScrolledUptoRow : OpenClaim := { program := "ytfpopnkhmjkdlaagreatdoor", sum := "d215e63fa7c42546c103192909cd2c987fbfbe9f180c70cc52744952d9a10a5f", func := "loop.example/g00215/laws.FnScrolled", spec := "fnScrolled", unfollowed := true, recurses := true, named := ["loop.example/g00215/impl.spans"], apart := false, laid := [("loop.example/g00215/impl.spans", laid_loop_example_g00215_impl_spans)], narrowed := true }
def FnScrolledUptoSaid : Prop := fnScrolledUptoRow.holds Tryz.pinned (OpenSpec.upto fnScrolledSpec)

/-- 'laws.FnRefitted', WHERE WHAT IT READS IS OF BULK AT MOST 1048576: true; the input reads as it did. -/
def fnRefittedUptoRow : OpenClaim := { program := "ytfpopnkhmjkdlaagreatdoor", sum := "d215e63fa7c42546c103192909cd2c987fbfbe9f180c70cc52744952d9a10a5f", func := "loop.example/g00215/laws.FnRefitted", spec := "fnRefitted", named := ["loop.example/g00215/impl.spans"], apart := false, laid := [("loop.example/g00215/impl.spans", laid_loop_example_g00215_impl_spans)], narrowed := true }
def FnRefittedUptoSaid : Prop := fnRefittedUptoRow.holds Tryz.pinned (OpenSpec.upto fnRefittedSpec)

/-- 'laws.FnExactDo', WHERE WHAT IT READS IS OF BULK AT MOST 1048576: true; the input reads as it did. -/
def fnExactDoUptoRow : OpenClaim := { program := "ytfpopnkhmjkdlaagreatdoor", sum := "d215e63fa7c42546c103192909cd2c987fbfbe9f180c70cc52744952d9a10a5f", func := "loop.example/g00215/laws.FnExactDo", spec := "fnExactDo", unfollowed := true, recurses := true, named := ["loop.example/g00215/impl.spans"], apart := false, laid := [("loop.example/g00215/impl.spans", laid_loop_example_g00215_impl_spans)], narrowed := true }
def FnExactDoUptoSaid : Prop := fnExactDoUptoRow.holds Tryz.pinned (OpenSpec.upto fnExactDoSpec)

/-- 'laws.FnExactWrite', WHERE WHAT IT READS IS OF BULK AT MOST 1048576: true; the input reads as it did. -/
def fnExactWriteUptoRow : OpenClaim := { program := "ytfpopnkhmjkdlaagreatdoor", sum := "d215e63fa7c42546c103192909cd2c987fbfbe9f180c70cc52744952d9a10a5f", func := "loop.example/g00215/laws.FnExactWrite", spec := "fnExactWrite", unfollowed := true, recurses := true, named := ["loop.example/g00215/impl.spans"], apart := false, laid := [("loop.example/g00215/impl.spans", laid_loop_example_g00215_impl_spans)], narrowed := true }
def FnExactWriteUptoSaid : Prop := fnExactWriteUptoRow.holds Tryz.pinned (OpenSpec.upto fnExactWriteSpec)

end Rows
end Go.Proofs.YtfpopnkhmjkdlaaGreatDoor
