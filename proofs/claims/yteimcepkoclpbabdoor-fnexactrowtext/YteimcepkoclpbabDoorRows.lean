/-
  NARROWER THAN 'FOR EVERY INPUT', by the rows' own cells (each row's printed sentence says how): FnExactPushed: laid · FnExactPulled: laid · FnExactRowText: laid.
  DERIVED. THE GIVEN ROWS OF THIS SEAT. 3 by the template 'for every input the law returns true; each argument reads behind the call as it read before'; 0 by the template 'total and deterministic' (their statements: YteimcepkoclpbabDoorTotals.lean).
  GIVEN WITH THE SEED: the statements are not yours to turn. If you find one false, say at which input.
  Laid BY PROGRAM, IN A SANDBOX (cutbox-rows.mjs): the forced cells as the released guide's own fill.sh prints them over the translation 57423e8950a65914… (all of the seat's roots in one cut). By AI agents, Wed Nov 11 2026. No macro, syntax, notation, axiom, sorry.
-/
import Derived.Test.YteimcepkoclpbabDoorChecked
import GoSem.PinnedTables
import GoSem.Claim
import GoSem.ClaimJoined
import GoSem.ClaimMapViews
import Derived.JoinedTies
import Derived.KernelRfl
namespace Go.Proofs.YteimcepkoclpbabDoor
/- THE CELL 'sum', in the pinned program and in every row, IS THE sha256 OF THE DUMP (.gsa) THAT YteimcepkoclpbabDoorProg.lean LOADS. Nothing in Lean hashes anything: it is a label: what it is worth is what the hold of that sum in a sandbox is worth. -/
noncomputable def Tryd.pinned : Pinned := { name := "yteimcepkoclpbabdoor", sum := "57423e8950a6591489af627b3a2ff9d6c2631ae99ab82d5aeaeff5bc94c063f8", checked := Tryd.checked }
namespace Rows
def none {H : Type} : Left H := { results := [], args := [] }

/- WHAT THE LISTED PACKAGE-LEVEL VARIABLES READ AS WHEN THE CALL BEGINS. Each datum BY PROGRAM (the guide's laid-datum.mjs) off the statement by which the dump's own 'gosem.cut.vars' lays the variable. In a bare row this is a premise. The card (YteimcepkoclpbabDoorCards.lean) ties it to the program's text. -/
def laid_loop_example_g00215_impl_spans {H : Type} : DataW H := .agg [.agg [.lit (.int .i64 0), .lit (.int .i64 31), .lit (.int .i64 0)], .agg [.lit (.int .i64 127), .lit (.int .i64 159), .lit (.int .i64 0)], .agg [.lit (.int .i64 768), .lit (.int .i64 879), .lit (.int .i64 0)], .agg [.lit (.int .i64 4352), .lit (.int .i64 4447), .lit (.int .i64 2)], .agg [.lit (.int .i64 12288), .lit (.int .i64 55295), .lit (.int .i64 2)], .agg [.lit (.int .i64 127744), .lit (.int .i64 131071), .lit (.int .i64 2)]]
def laid_unicode_utf8_acceptRanges {H : Type} : DataW H := .agg [.agg [.lit (.int .u8 128), .lit (.int .u8 191)], .agg [.lit (.int .u8 160), .lit (.int .u8 191)], .agg [.lit (.int .u8 128), .lit (.int .u8 159)], .agg [.lit (.int .u8 144), .lit (.int .u8 191)], .agg [.lit (.int .u8 128), .lit (.int .u8 143)], .agg [.lit (.int .u8 0), .lit (.int .u8 0)], .agg [.lit (.int .u8 0), .lit (.int .u8 0)], .agg [.lit (.int .u8 0), .lit (.int .u8 0)], .agg [.lit (.int .u8 0), .lit (.int .u8 0)], .agg [.lit (.int .u8 0), .lit (.int .u8 0)], .agg [.lit (.int .u8 0), .lit (.int .u8 0)], .agg [.lit (.int .u8 0), .lit (.int .u8 0)], .agg [.lit (.int .u8 0), .lit (.int .u8 0)], .agg [.lit (.int .u8 0), .lit (.int .u8 0)], .agg [.lit (.int .u8 0), .lit (.int .u8 0)], .agg [.lit (.int .u8 0), .lit (.int .u8 0)]]
/-- One of Go's own tables, pinned by name: the form's constant. -/
def laid_unicode_utf8_first : DataW Unit := Go.Pinned.utf8First

/-- 'laws.FnExactPushed': WHATEVER THE INPUT: true; the input reads as it did. -/
def fnExactPushedSpec : ChangeSpec := { name := "fnExactPushed", vars := ["loop.example/g00215/impl.spans"], fn := fun _ => fun
  | [d1, d2, d3, d4, g1] => { results := [.lit (.bool true)], args := [d1, d2, d3, d4], vars := [g1] }
  | _ => none }
def fnExactPushedRow : OpenClaim := { program := "yteimcepkoclpbabdoor", sum := "57423e8950a6591489af627b3a2ff9d6c2631ae99ab82d5aeaeff5bc94c063f8", func := "loop.example/g00215/laws.FnExactPushed", spec := "fnExactPushed", named := ["loop.example/g00215/impl.spans"], apart := false, laid := [("loop.example/g00215/impl.spans", laid_loop_example_g00215_impl_spans)] }
def FnExactPushedSaid : Prop := fnExactPushedRow.holds Tryd.pinned (OpenSpec.ofChange fnExactPushedSpec)

/-- ITS FALSE NEIGHBOUR: 'it returns false'. Refute it at one input. -/
def fnExactPushedWrong : ChangeSpec := { name := "fnExactPushed", vars := ["loop.example/g00215/impl.spans"], fn := fun _ => fun
  | [d1, d2, d3, d4, g1] => { results := [.lit (.bool false)], args := [d1, d2, d3, d4], vars := [g1] }
  | _ => none }
def FnExactPushedWrongFalsely : Prop := fnExactPushedRow.holds Tryd.pinned (OpenSpec.ofChange fnExactPushedWrong)

/-- 'laws.FnExactPulled': WHATEVER THE INPUT: true; the input reads as it did. -/
def fnExactPulledSpec : ChangeSpec := { name := "fnExactPulled", vars := ["loop.example/g00215/impl.spans"], fn := fun _ => fun
  | [d1, d2, d3, d4, g1] => { results := [.lit (.bool true)], args := [d1, d2, d3, d4], vars := [g1] }
  | _ => none }
def fnExactPulledRow : OpenClaim := { program := "yteimcepkoclpbabdoor", sum := "57423e8950a6591489af627b3a2ff9d6c2631ae99ab82d5aeaeff5bc94c063f8", func := "loop.example/g00215/laws.FnExactPulled", spec := "fnExactPulled", named := ["loop.example/g00215/impl.spans"], apart := false, laid := [("loop.example/g00215/impl.spans", laid_loop_example_g00215_impl_spans)] }
def FnExactPulledSaid : Prop := fnExactPulledRow.holds Tryd.pinned (OpenSpec.ofChange fnExactPulledSpec)

/-- ITS FALSE NEIGHBOUR: 'it returns false'. Refute it at one input. -/
def fnExactPulledWrong : ChangeSpec := { name := "fnExactPulled", vars := ["loop.example/g00215/impl.spans"], fn := fun _ => fun
  | [d1, d2, d3, d4, g1] => { results := [.lit (.bool false)], args := [d1, d2, d3, d4], vars := [g1] }
  | _ => none }
def FnExactPulledWrongFalsely : Prop := fnExactPulledRow.holds Tryd.pinned (OpenSpec.ofChange fnExactPulledWrong)

/-- 'laws.FnExactRowText': WHATEVER THE INPUT: true; the input reads as it did. -/
def fnExactRowTextSpec : ChangeSpec := { name := "fnExactRowText", vars := ["loop.example/g00215/impl.spans"], fn := fun _ => fun
  | [d, g1] => { results := [.lit (.bool true)], args := [d], vars := [g1] }
  | _ => none }
def fnExactRowTextRow : OpenClaim := { program := "yteimcepkoclpbabdoor", sum := "57423e8950a6591489af627b3a2ff9d6c2631ae99ab82d5aeaeff5bc94c063f8", func := "loop.example/g00215/laws.FnExactRowText", spec := "fnExactRowText", inPlace := ["internal/bytealg.IndexByteString", "internal/bytealg.IndexString"], named := ["loop.example/g00215/impl.spans", "unicode/utf8.first", "unicode/utf8.acceptRanges", "internal/bytealg.MaxLen"], apart := false, laid := [("unicode/utf8.acceptRanges", laid_unicode_utf8_acceptRanges), ("loop.example/g00215/impl.spans", laid_loop_example_g00215_impl_spans), ("unicode/utf8.first", laid_unicode_utf8_first)] }
def FnExactRowTextSaid : Prop := fnExactRowTextRow.holds Tryd.pinned (OpenSpec.ofChange fnExactRowTextSpec)

/-- ITS FALSE NEIGHBOUR: 'it returns false'. Refute it at one input. -/
def fnExactRowTextWrong : ChangeSpec := { name := "fnExactRowText", vars := ["loop.example/g00215/impl.spans"], fn := fun _ => fun
  | [d, g1] => { results := [.lit (.bool false)], args := [d], vars := [g1] }
  | _ => none }
def FnExactRowTextWrongFalsely : Prop := fnExactRowTextRow.holds Tryd.pinned (OpenSpec.ofChange fnExactRowTextWrong)

/- THE SECOND FORM. 'bulk': how many values and letters a reading holds, each counted each time it is reached (what is shared counts as often as it is met; a slice's spare places count too). A statement '..UptoSaid' is the law's where the arguments, and the package variables that the reading takes, are together of bulk at most 1048576: NARROWER than '..Said'. Prove '..Said' where nothing that the law and all that it calls make is longer than what came in: it says more and counts as full. Else prove '..UptoSaid'. A law counts once. -/
mutual
def uptoBulk {H : Type} : DataW H → Nat
  | .lit (.string bytes) => bytes.length + 1
  | .lit _ => 1
  | .nil => 1
  | .ptr d => uptoBulk d + 1
  | .slice elems spare => uptoBulkAll elems + uptoBulkAll spare + 1
  | .agg parts => uptoBulkAll parts + 1
  | .iface _ d => uptoBulk d + 1
  | .map entries => uptoBulkEntries entries + 1
  | .held _ => 1
def uptoBulkAll {H : Type} : List (DataW H) → Nat
  | [] => 0
  | d :: r => uptoBulk d + uptoBulkAll r
def uptoBulkEntries {H : Type} : List (Lit × DataW H) → Nat
  | [] => 0
  | x :: r => uptoBulkEntry x + uptoBulkEntries r
def uptoBulkEntry {H : Type} : Lit × DataW H → Nat
  | (.string bytes, d) => bytes.length + uptoBulk d + 1
  | (_, d) => uptoBulk d + 1
 end
def uptoSmall : (H : Type) → List (DataW H) → Bool := fun _ ds => decide (uptoBulkAll ds ≤ 1048576)
def OpenSpec.upto (s : _root_.Go.ChangeSpec) : _root_.Go.OpenSpec := { _root_.Go.OpenSpec.ofChange s with cond := some uptoSmall }

/-- 'laws.FnExactPushed', WHERE WHAT IT READS IS OF BULK AT MOST 1048576: true; the input reads as it did. -/
def fnExactPushedUptoRow : OpenClaim := { program := "yteimcepkoclpbabdoor", sum := "57423e8950a6591489af627b3a2ff9d6c2631ae99ab82d5aeaeff5bc94c063f8", func := "loop.example/g00215/laws.FnExactPushed", spec := "fnExactPushed", named := ["loop.example/g00215/impl.spans"], apart := false, laid := [("loop.example/g00215/impl.spans", laid_loop_example_g00215_impl_spans)], narrowed := true }
def FnExactPushedUptoSaid : Prop := fnExactPushedUptoRow.holds Tryd.pinned (OpenSpec.upto fnExactPushedSpec)

/-- 'laws.FnExactPulled', WHERE WHAT IT READS IS OF BULK AT MOST 1048576: true; the input reads as it did. -/
def fnExactPulledUptoRow : OpenClaim := { program := "yteimcepkoclpbabdoor", sum := "57423e8950a6591489af627b3a2ff9d6c2631ae99ab82d5aeaeff5bc94c063f8", func := "loop.example/g00215/laws.FnExactPulled", spec := "fnExactPulled", named := ["loop.example/g00215/impl.spans"], apart := false, laid := [("loop.example/g00215/impl.spans", laid_loop_example_g00215_impl_spans)], narrowed := true }
def FnExactPulledUptoSaid : Prop := fnExactPulledUptoRow.holds Tryd.pinned (OpenSpec.upto fnExactPulledSpec)

/-- 'laws.FnExactRowText', WHERE WHAT IT READS IS OF BULK AT MOST 1048576: true; the input reads as it did. -/
def fnExactRowTextUptoRow : OpenClaim := { program := "yteimcepkoclpbabdoor", sum := "57423e8950a6591489af627b3a2ff9d6c2631ae99ab82d5aeaeff5bc94c063f8", func := "loop.example/g00215/laws.FnExactRowText", spec := "fnExactRowText", inPlace := ["internal/bytealg.IndexByteString", "internal/bytealg.IndexString"], named := ["loop.example/g00215/impl.spans", "unicode/utf8.first", "unicode/utf8.acceptRanges", "internal/bytealg.MaxLen"], apart := false, laid := [("unicode/utf8.acceptRanges", laid_unicode_utf8_acceptRanges), ("loop.example/g00215/impl.spans", laid_loop_example_g00215_impl_spans), ("unicode/utf8.first", laid_unicode_utf8_first)], narrowed := true }
def FnExactRowTextUptoSaid : Prop := fnExactRowTextUptoRow.holds Tryd.pinned (OpenSpec.upto fnExactRowTextSpec)

end Rows
end Go.Proofs.YteimcepkoclpbabDoor
