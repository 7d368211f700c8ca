/-
  NARROWER THAN 'FOR EVERY INPUT', by the rows' own cells (each row's printed sentence says how): FnRows: laid · FnMoved: laid · FnExactRowOk: laid · FnExactCleared: laid · FnExactWritten: laid.
  DERIVED. THE GIVEN ROWS OF THIS SEAT. 5 by the template 'for every input the law returns true; each argument reads behind the call as it read before'; 0 by the template 'total and deterministic' (their statements: YteimcepkoclpbaaDoorTotals.lean).
  GIVEN WITH THE SEED: the statements are not yours to turn. If you find one false, say at which input.
  Laid BY PROGRAM, IN A SANDBOX (cutbox-rows.mjs): the forced cells as the released guide's own fill.sh prints them over the translation 6f3ceb60aa1dab34… (all of the seat's roots in one cut). By AI agents, Wed Nov 11 2026. No macro, syntax, notation, axiom, sorry.
-/
import Derived.Test.YteimcepkoclpbaaDoorChecked
import GoSem.PinnedTables
import GoSem.Claim
import GoSem.ClaimJoined
import GoSem.ClaimMapViews
import Derived.JoinedTies
import Derived.KernelRfl
namespace Go.Proofs.YteimcepkoclpbaaDoor
/- THE CELL 'sum', in the pinned program and in every row, IS THE sha256 OF THE DUMP (.gsa) THAT YteimcepkoclpbaaDoorProg.lean LOADS. Nothing in Lean hashes anything: it is a label: what it is worth is what the hold of that sum in a sandbox is worth. -/
noncomputable def Tryd.pinned : Pinned := { name := "yteimcepkoclpbaadoor", sum := "6f3ceb60aa1dab34ab764bbfa5dd572271006187df5cf82f93bb2a5a95427218", checked := Tryd.checked }
namespace Rows
def none {H : Type} : Left H := { results := [], args := [] }

/- WHAT THE LISTED PACKAGE-LEVEL VARIABLES READ AS WHEN THE CALL BEGINS. Each datum BY PROGRAM (the guide's laid-datum.mjs) off the statement by which the dump's own 'gosem.cut.vars' lays the variable. In a bare row this is a premise. The card (YteimcepkoclpbaaDoorCards.lean) ties it to the program's text. -/
def laid_unicode_utf8_acceptRanges {H : Type} : DataW H := .agg [.agg [.lit (.int .u8 128), .lit (.int .u8 191)], .agg [.lit (.int .u8 160), .lit (.int .u8 191)], .agg [.lit (.int .u8 128), .lit (.int .u8 159)], .agg [.lit (.int .u8 144), .lit (.int .u8 191)], .agg [.lit (.int .u8 128), .lit (.int .u8 143)], .agg [.lit (.int .u8 0), .lit (.int .u8 0)], .agg [.lit (.int .u8 0), .lit (.int .u8 0)], .agg [.lit (.int .u8 0), .lit (.int .u8 0)], .agg [.lit (.int .u8 0), .lit (.int .u8 0)], .agg [.lit (.int .u8 0), .lit (.int .u8 0)], .agg [.lit (.int .u8 0), .lit (.int .u8 0)], .agg [.lit (.int .u8 0), .lit (.int .u8 0)], .agg [.lit (.int .u8 0), .lit (.int .u8 0)], .agg [.lit (.int .u8 0), .lit (.int .u8 0)], .agg [.lit (.int .u8 0), .lit (.int .u8 0)], .agg [.lit (.int .u8 0), .lit (.int .u8 0)]]
def laid_loop_example_g00215_impl_spans {H : Type} : DataW H := .agg [.agg [.lit (.int .i64 0), .lit (.int .i64 31), .lit (.int .i64 0)], .agg [.lit (.int .i64 127), .lit (.int .i64 159), .lit (.int .i64 0)], .agg [.lit (.int .i64 768), .lit (.int .i64 879), .lit (.int .i64 0)], .agg [.lit (.int .i64 4352), .lit (.int .i64 4447), .lit (.int .i64 2)], .agg [.lit (.int .i64 12288), .lit (.int .i64 55295), .lit (.int .i64 2)], .agg [.lit (.int .i64 127744), .lit (.int .i64 131071), .lit (.int .i64 2)]]
/-- One of Go's own tables, pinned by name: the form's constant. -/
def laid_unicode_utf8_first : DataW Unit := Go.Pinned.utf8First

/-- 'laws.FnRows': WHATEVER THE INPUT: true; the input reads as it did. -/
def fnRowsSpec : ChangeSpec := { name := "fnRows", vars := ["loop.example/g00215/impl.spans"], fn := fun _ => fun
  | [d, g1] => { results := [.lit (.bool true)], args := [d], vars := [g1] }
  | _ => none }
def fnRowsRow : OpenClaim := { program := "yteimcepkoclpbaadoor", sum := "6f3ceb60aa1dab34ab764bbfa5dd572271006187df5cf82f93bb2a5a95427218", func := "loop.example/g00215/laws.FnRows", spec := "fnRows", inPlace := ["internal/bytealg.IndexByteString", "internal/bytealg.IndexString"], named := ["loop.example/g00215/impl.spans", "unicode/utf8.first", "unicode/utf8.acceptRanges", "internal/bytealg.MaxLen"], apart := false, laid := [("unicode/utf8.acceptRanges", laid_unicode_utf8_acceptRanges), ("loop.example/g00215/impl.spans", laid_loop_example_g00215_impl_spans), ("unicode/utf8.first", laid_unicode_utf8_first)] }
def FnRowsSaid : Prop := fnRowsRow.holds Tryd.pinned (OpenSpec.ofChange fnRowsSpec)

/-- ITS FALSE NEIGHBOUR: 'it returns false'. Refute it at one input. -/
def fnRowsWrong : ChangeSpec := { name := "fnRows", vars := ["loop.example/g00215/impl.spans"], fn := fun _ => fun
  | [d, g1] => { results := [.lit (.bool false)], args := [d], vars := [g1] }
  | _ => none }
def FnRowsWrongFalsely : Prop := fnRowsRow.holds Tryd.pinned (OpenSpec.ofChange fnRowsWrong)

/-- 'laws.FnMoved': WHATEVER THE INPUT: true; the input reads as it did. -/
def fnMovedSpec : ChangeSpec := { name := "fnMoved", vars := ["loop.example/g00215/impl.spans"], fn := fun _ => fun
  | [d, g1] => { results := [.lit (.bool true)], args := [d], vars := [g1] }
  | _ => none }
def fnMovedRow : OpenClaim := { program := "yteimcepkoclpbaadoor", sum := "6f3ceb60aa1dab34ab764bbfa5dd572271006187df5cf82f93bb2a5a95427218", func := "loop.example/g00215/laws.FnMoved", spec := "fnMoved", named := ["loop.example/g00215/impl.spans"], apart := false, laid := [("loop.example/g00215/impl.spans", laid_loop_example_g00215_impl_spans)] }
def FnMovedSaid : Prop := fnMovedRow.holds Tryd.pinned (OpenSpec.ofChange fnMovedSpec)

/-- ITS FALSE NEIGHBOUR: 'it returns false'. Refute it at one input. -/
def fnMovedWrong : ChangeSpec := { name := "fnMoved", vars := ["loop.example/g00215/impl.spans"], fn := fun _ => fun
  | [d, g1] => { results := [.lit (.bool false)], args := [d], vars := [g1] }
  | _ => none }
def FnMovedWrongFalsely : Prop := fnMovedRow.holds Tryd.pinned (OpenSpec.ofChange fnMovedWrong)

/-- 'laws.FnExactRowOk': WHATEVER THE INPUT: true; the input reads as it did. -/
def fnExactRowOkSpec : ChangeSpec := { name := "fnExactRowOk", vars := ["loop.example/g00215/impl.spans"], fn := fun _ => fun
  | [d, g1] => { results := [.lit (.bool true)], args := [d], vars := [g1] }
  | _ => none }
def fnExactRowOkRow : OpenClaim := { program := "yteimcepkoclpbaadoor", sum := "6f3ceb60aa1dab34ab764bbfa5dd572271006187df5cf82f93bb2a5a95427218", func := "loop.example/g00215/laws.FnExactRowOk", spec := "fnExactRowOk", named := ["loop.example/g00215/impl.spans"], apart := false, laid := [("loop.example/g00215/impl.spans", laid_loop_example_g00215_impl_spans)] }
def FnExactRowOkSaid : Prop := fnExactRowOkRow.holds Tryd.pinned (OpenSpec.ofChange fnExactRowOkSpec)

/-- ITS FALSE NEIGHBOUR: 'it returns false'. Refute it at one input. -/
def fnExactRowOkWrong : ChangeSpec := { name := "fnExactRowOk", vars := ["loop.example/g00215/impl.spans"], fn := fun _ => fun
  | [d, g1] => { results := [.lit (.bool false)], args := [d], vars := [g1] }
  | _ => none }
def FnExactRowOkWrongFalsely : Prop := fnExactRowOkRow.holds Tryd.pinned (OpenSpec.ofChange fnExactRowOkWrong)

/-- 'laws.FnExactCleared': WHATEVER THE INPUT: true; the input reads as it did. -/
def fnExactClearedSpec : ChangeSpec := { name := "fnExactCleared", vars := ["loop.example/g00215/impl.spans"], fn := fun _ => fun
  | [d1, d2, d3, d4, g1] => { results := [.lit (.bool true)], args := [d1, d2, d3, d4], vars := [g1] }
  | _ => none }
def fnExactClearedRow : OpenClaim := { program := "yteimcepkoclpbaadoor", sum := "6f3ceb60aa1dab34ab764bbfa5dd572271006187df5cf82f93bb2a5a95427218", func := "loop.example/g00215/laws.FnExactCleared", spec := "fnExactCleared", named := ["loop.example/g00215/impl.spans"], apart := false, laid := [("loop.example/g00215/impl.spans", laid_loop_example_g00215_impl_spans)] }
def FnExactClearedSaid : Prop := fnExactClearedRow.holds Tryd.pinned (OpenSpec.ofChange fnExactClearedSpec)

/-- ITS FALSE NEIGHBOUR: 'it returns false'. Refute it at one input. -/
def fnExactClearedWrong : ChangeSpec := { name := "fnExactCleared", vars := ["loop.example/g00215/impl.spans"], fn := fun _ => fun
  | [d1, d2, d3, d4, g1] => { results := [.lit (.bool false)], args := [d1, d2, d3, d4], vars := [g1] }
  | _ => none }
def FnExactClearedWrongFalsely : Prop := fnExactClearedRow.holds Tryd.pinned (OpenSpec.ofChange fnExactClearedWrong)

/-- 'laws.FnExactWritten': WHATEVER THE INPUT: true; the input reads as it did. -/
def fnExactWrittenSpec : ChangeSpec := { name := "fnExactWritten", vars := ["loop.example/g00215/impl.spans"], fn := fun _ => fun
  | [d1, d2, d3, d4, g1] => { results := [.lit (.bool true)], args := [d1, d2, d3, d4], vars := [g1] }
  | _ => none }
def fnExactWrittenRow : OpenClaim := { program := "yteimcepkoclpbaadoor", sum := "6f3ceb60aa1dab34ab764bbfa5dd572271006187df5cf82f93bb2a5a95427218", func := "loop.example/g00215/laws.FnExactWritten", spec := "fnExactWritten", named := ["loop.example/g00215/impl.spans"], apart := false, laid := [("loop.example/g00215/impl.spans", laid_loop_example_g00215_impl_spans)] }
def FnExactWrittenSaid : Prop := fnExactWrittenRow.holds Tryd.pinned (OpenSpec.ofChange fnExactWrittenSpec)

/-- ITS FALSE NEIGHBOUR: 'it returns false'. Refute it at one input. -/
def fnExactWrittenWrong : ChangeSpec := { name := "fnExactWritten", vars := ["loop.example/g00215/impl.spans"], fn := fun _ => fun
  | [d1, d2, d3, d4, g1] => { results := [.lit (.bool false)], args := [d1, d2, d3, d4], vars := [g1] }
  | _ => none }
def FnExactWrittenWrongFalsely : Prop := fnExactWrittenRow.holds Tryd.pinned (OpenSpec.ofChange fnExactWrittenWrong)

/- THE SECOND FORM. 'bulk': how many values and letters a reading holds, each counted each time it is reached (what is shared counts as often as it is met; a slice's spare places count too). A statement '..UptoSaid' is the law's where the arguments, and the package variables that the reading takes, are together of bulk at most 1048576: NARROWER than '..Said'. Prove '..Said' where nothing that the law and all that it calls make is longer than what came in: it says more and counts as full. Else prove '..UptoSaid'. A law counts once. -/
mutual
def uptoBulk {H : Type} : DataW H → Nat
  | .lit (.string bytes) => bytes.length + 1
  | .lit _ => 1
  | .nil => 1
  | .ptr d => uptoBulk d + 1
  | .slice elems spare => uptoBulkAll elems + uptoBulkAll spare + 1
  | .agg parts => uptoBulkAll parts + 1
  | .iface _ d => uptoBulk d + 1
  | .map entries => uptoBulkEntries entries + 1
  | .held _ => 1
def uptoBulkAll {H : Type} : List (DataW H) → Nat
  | [] => 0
  | d :: r => uptoBulk d + uptoBulkAll r
def uptoBulkEntries {H : Type} : List (Lit × DataW H) → Nat
  | [] => 0
  | x :: r => uptoBulkEntry x + uptoBulkEntries r
def uptoBulkEntry {H : Type} : Lit × DataW H → Nat
  | (.string bytes, d) => bytes.length + uptoBulk d + 1
  | (_, d) => uptoBulk d + 1
 end
def uptoSmall : (H : Type) → List (DataW H) → Bool := fun _ ds => decide (uptoBulkAll ds ≤ 1048576)
def OpenSpec.upto (s : _root_.Go.ChangeSpec) : _root_.Go.OpenSpec := { _root_.Go.OpenSpec.ofChange s with cond := some uptoSmall }

/-- 'laws.FnRows', WHERE WHAT IT READS IS OF BULK AT MOST 1048576: true; the input reads as it did. -/
def fnRowsUptoRow : OpenClaim := { program := "yteimcepkoclpbaadoor", sum := "6f3ceb60aa1dab34ab764bbfa5dd572271006187df5cf82f93bb2a5a95427218", func := "loop.example/g00215/laws.FnRows", spec := "fnRows", inPlace := ["internal/bytealg.IndexByteString", "internal/bytealg.IndexString"], named := ["loop.example/g00215/impl.spans", "unicode/utf8.first", "unicode/utf8.acceptRanges", "internal/bytealg.MaxLen"], apart := false, laid := [("unicode/utf8.acceptRanges", laid_unicode_utf8_acceptRanges), ("loop.example/g00215/impl.spans", laid_loop_example_g00215_impl_spans), ("unicode/utf8.first", laid_unicode_utf8_first)], narrowed := true }
def FnRowsUptoSaid : Prop := fnRowsUptoRow.holds Tryd.pinned (OpenSpec.upto fnRowsSpec)

/-- 'laws.FnMoved', WHERE WHAT IT READS IS OF BULK AT MOST 1048576: true; the input reads as it did. -/
def fnMovedUptoRow : OpenClaim := { program := "yteimcepkoclpbaadoor", sum := "6f3ceb60aa1dab34ab764bbfa5dd572271006187df5cf82f93bb2a5a95427218", func := "loop.example/g00215/laws.FnMoved", spec := "fnMoved", named := ["loop.example/g00215/impl.spans"], apart := false, laid := [("loop.example/g00215/impl.spans", laid_loop_example_g00215_impl_spans)], narrowed := true }
def FnMovedUptoSaid : Prop := fnMovedUptoRow.holds Tryd.pinned (OpenSpec.upto fnMovedSpec)

/-- 'laws.FnExactRowOk', WHERE WHAT IT READS IS OF BULK AT MOST 1048576: true; the input reads as it did. -/
def fnExactRowOkUptoRow : OpenClaim := { program := "yteimcepkoclpbaadoor", sum := "6f3ceb60aa1dab34ab764bbfa5dd572271006187df5cf82f93bb2a5a95427218", func := "loop.example/g00215/laws.FnExactRowOk", spec := "fnExactRowOk", named := ["loop.example/g00215/impl.spans"], apart := false, laid := [("loop.example/g00215/impl.spans", laid_loop_example_g00215_impl_spans)], narrowed := true }
def FnExactRowOkUptoSaid : Prop := fnExactRowOkUptoRow.holds Tryd.pinned (OpenSpec.upto fnExactRowOkSpec)

/-- 'laws.FnExactCleared', WHERE WHAT IT READS IS OF BULK AT MOST 1048576: true; the input reads as it did. -/
def fnExactClearedUptoRow : OpenClaim := { program := "yteimcepkoclpbaadoor", sum := "6f3ceb60aa1dab34ab764bbfa5dd572271006187df5cf82f93bb2a5a95427218", func := "loop.example/g00215/laws.FnExactCleared", spec := "fnExactCleared", named := ["loop.example/g00215/impl.spans"], apart := false, laid := [("loop.example/g00215/impl.spans", laid_loop_example_g00215_impl_spans)], narrowed := true }
def FnExactClearedUptoSaid : Prop := fnExactClearedUptoRow.holds Tryd.pinned (OpenSpec.upto fnExactClearedSpec)

/-- 'laws.FnExactWritten', WHERE WHAT IT READS IS OF BULK AT MOST 1048576: true; the input reads as it did. -/
def fnExactWrittenUptoRow : OpenClaim := { program := "yteimcepkoclpbaadoor", sum := "6f3ceb60aa1dab34ab764bbfa5dd572271006187df5cf82f93bb2a5a95427218", func := "loop.example/g00215/laws.FnExactWritten", spec := "fnExactWritten", named := ["loop.example/g00215/impl.spans"], apart := false, laid := [("loop.example/g00215/impl.spans", laid_loop_example_g00215_impl_spans)], narrowed := true }
def FnExactWrittenUptoSaid : Prop := fnExactWrittenUptoRow.holds Tryd.pinned (OpenSpec.upto fnExactWrittenSpec)

end Rows
end Go.Proofs.YteimcepkoclpbaaDoor
