/-
  NARROWER THAN 'FOR EVERY INPUT', by the rows' own cells (each row's printed sentence says how): FnGrids: laid · FnExactUp: laid · FnExactDown: laid.
  DERIVED. THE GIVEN ROWS OF THIS SEAT. 3 by the template 'for every input the law returns true; each argument reads behind the call as it read before'; 0 by the template 'total and deterministic' (their statements: YtmmmglblkampcaaDoorTotals.lean).
  GIVEN WITH THE SEED: the statements are not yours to turn. If you find one false, say at which input.
  Laid BY PROGRAM, IN A SANDBOX (cutbox-rows.mjs): the forced cells as the released guide's own fill.sh prints them over the translation 479dbe291be0f487… (all of the seat's roots in one cut). By AI agents, Wed Nov 11 2026. No macro, syntax, notation, axiom, sorry.
-/
import Derived.Test.YtmmmglblkampcaaDoorChecked
import GoSem.PinnedTables
import GoSem.Claim
import GoSem.ClaimJoined
import GoSem.ClaimMapViews
import Derived.JoinedTies
import Derived.KernelRfl
namespace Go.Proofs.YtmmmglblkampcaaDoor
/- THE CELL 'sum', in the pinned program and in every row, IS THE sha256 OF THE DUMP (.gsa) THAT YtmmmglblkampcaaDoorProg.lean LOADS. Nothing in Lean hashes anything: it is a label: what it is worth is what the hold of that sum in a sandbox is worth. -/
noncomputable def Tryd.pinned : Pinned := { name := "ytmmmglblkampcaadoor", sum := "479dbe291be0f4873d70f0c849297e597bac20f3d76eb09ca24fe4e3ed41ff9b", checked := Tryd.checked }
namespace Rows
def none {H : Type} : Left H := { results := [], args := [] }

/- WHAT THE LISTED PACKAGE-LEVEL VARIABLES READ AS WHEN THE CALL BEGINS. Each datum BY PROGRAM (the guide's laid-datum.mjs) off the statement by which the dump's own 'gosem.cut.vars' lays the variable. In a bare row this is a premise. The card (YtmmmglblkampcaaDoorCards.lean) ties it to the program's text. -/
def laid_unicode_utf8_acceptRanges {H : Type} : DataW H := .agg [.agg [.lit (.int .u8 128), .lit (.int .u8 191)], .agg [.lit (.int .u8 160), .lit (.int .u8 191)], .agg [.lit (.int .u8 128), .lit (.int .u8 159)], .agg [.lit (.int .u8 144), .lit (.int .u8 191)], .agg [.lit (.int .u8 128), .lit (.int .u8 143)], .agg [.lit (.int .u8 0), .lit (.int .u8 0)], .agg [.lit (.int .u8 0), .lit (.int .u8 0)], .agg [.lit (.int .u8 0), .lit (.int .u8 0)], .agg [.lit (.int .u8 0), .lit (.int .u8 0)], .agg [.lit (.int .u8 0), .lit (.int .u8 0)], .agg [.lit (.int .u8 0), .lit (.int .u8 0)], .agg [.lit (.int .u8 0), .lit (.int .u8 0)], .agg [.lit (.int .u8 0), .lit (.int .u8 0)], .agg [.lit (.int .u8 0), .lit (.int .u8 0)], .agg [.lit (.int .u8 0), .lit (.int .u8 0)], .agg [.lit (.int .u8 0), .lit (.int .u8 0)]]
def laid_loop_example_g00215_impl_spans {H : Type} : DataW H := .agg [.agg [.lit (.int .i64 0), .lit (.int .i64 31), .lit (.int .i64 0)], .agg [.lit (.int .i64 127), .lit (.int .i64 159), .lit (.int .i64 0)], .agg [.lit (.int .i64 768), .lit (.int .i64 879), .lit (.int .i64 0)], .agg [.lit (.int .i64 4352), .lit (.int .i64 4447), .lit (.int .i64 2)], .agg [.lit (.int .i64 12288), .lit (.int .i64 55295), .lit (.int .i64 2)], .agg [.lit (.int .i64 127744), .lit (.int .i64 131071), .lit (.int .i64 2)]]
/-- One of Go's own tables, pinned by name: the form's constant. -/
def laid_unicode_utf8_first : DataW Unit := Go.Pinned.utf8First

/-- 'laws.FnGrids': WHATEVER THE INPUT: true; the input reads as it did. -/
def fnGridsSpec : ChangeSpec := { name := "fnGrids", vars := ["loop.example/g00215/impl.spans"], fn := fun _ => fun
  | [d, g1] => { results := [.lit (.bool true)], args := [d], vars := [g1] }
  | _ => none }
def fnGridsRow : OpenClaim := { program := "ytmmmglblkampcaadoor", sum := "479dbe291be0f4873d70f0c849297e597bac20f3d76eb09ca24fe4e3ed41ff9b", func := "loop.example/g00215/laws.FnGrids", spec := "fnGrids", inPlace := ["internal/bytealg.IndexByteString", "internal/bytealg.IndexString"], named := ["loop.example/g00215/impl.spans", "unicode/utf8.first", "unicode/utf8.acceptRanges", "internal/bytealg.MaxLen"], apart := false, laid := [("unicode/utf8.acceptRanges", laid_unicode_utf8_acceptRanges), ("loop.example/g00215/impl.spans", laid_loop_example_g00215_impl_spans), ("unicode/utf8.first", laid_unicode_utf8_first)] }
def FnGridsSaid : Prop := fnGridsRow.holds Tryd.pinned (OpenSpec.ofChange fnGridsSpec)

/-- ITS FALSE NEIGHBOUR: 'it returns false'. Refute it at one input. -/
def fnGridsWrong : ChangeSpec := { name := "fnGrids", vars := ["loop.example/g00215/impl.spans"], fn := fun _ => fun
  | [d, g1] => { results := [.lit (.bool false)], args := [d], vars := [g1] }
  | _ => none }
def FnGridsWrongFalsely : Prop := fnGridsRow.holds Tryd.pinned (OpenSpec.ofChange fnGridsWrong)

/-- 'laws.FnExactUp': WHATEVER THE INPUT: true; the input reads as it did. -/
def fnExactUpSpec : ChangeSpec := { name := "fnExactUp", vars := ["loop.example/g00215/impl.spans"], fn := fun _ => fun
  | [d1, d2, d3, d4, d5, g1] => { results := [.lit (.bool true)], args := [d1, d2, d3, d4, d5], vars := [g1] }
  | _ => none }
def fnExactUpRow : OpenClaim := { program := "ytmmmglblkampcaadoor", sum := "479dbe291be0f4873d70f0c849297e597bac20f3d76eb09ca24fe4e3ed41ff9b", func := "loop.example/g00215/laws.FnExactUp", spec := "fnExactUp", named := ["loop.example/g00215/impl.spans"], apart := false, laid := [("loop.example/g00215/impl.spans", laid_loop_example_g00215_impl_spans)] }
def FnExactUpSaid : Prop := fnExactUpRow.holds Tryd.pinned (OpenSpec.ofChange fnExactUpSpec)

/-- ITS FALSE NEIGHBOUR: 'it returns false'. Refute it at one input. -/
def fnExactUpWrong : ChangeSpec := { name := "fnExactUp", vars := ["loop.example/g00215/impl.spans"], fn := fun _ => fun
  | [d1, d2, d3, d4, d5, g1] => { results := [.lit (.bool false)], args := [d1, d2, d3, d4, d5], vars := [g1] }
  | _ => none }
def FnExactUpWrongFalsely : Prop := fnExactUpRow.holds Tryd.pinned (OpenSpec.ofChange fnExactUpWrong)

/-- 'laws.FnExactDown': WHATEVER THE INPUT: true; the input reads as it did. -/
def fnExactDownSpec : ChangeSpec := { name := "fnExactDown", vars := ["loop.example/g00215/impl.spans"], fn := fun _ => fun
  | [d1, d2, d3, d4, d5, g1] => { results := [.lit (.bool true)], args := [d1, d2, d3, d4, d5], vars := [g1] }
  | _ => none }
def fnExactDownRow : OpenClaim := { program := "ytmmmglblkampcaadoor", sum := "479dbe291be0f4873d70f0c849297e597bac20f3d76eb09ca24fe4e3ed41ff9b", func := "loop.example/g00215/laws.FnExactDown", spec := "fnExactDown", named := ["loop.example/g00215/impl.spans"], apart := false, laid := [("loop.example/g00215/impl.spans", laid_loop_example_g00215_impl_spans)] }
def FnExactDownSaid : Prop := fnExactDownRow.holds Tryd.pinned (OpenSpec.ofChange fnExactDownSpec)

/-- ITS FALSE NEIGHBOUR: 'it returns false'. Refute it at one input. -/
def fnExactDownWrong : ChangeSpec := { name := "fnExactDown", vars := ["loop.example/g00215/impl.spans"], fn := fun _ => fun
  | [d1, d2, d3, d4, d5, g1] => { results := [.lit (.bool false)], args := [d1, d2, d3, d4, d5], vars := [g1] }
  | _ => none }
def FnExactDownWrongFalsely : Prop := fnExactDownRow.holds Tryd.pinned (OpenSpec.ofChange fnExactDownWrong)

/- THE SECOND FORM. 'bulk': how many values and letters a reading holds, each counted each time it is reached (what is shared counts as often as it is met; a slice's spare places count too). A statement '..UptoSaid' is the law's where the arguments, and the package variables that the reading takes, are together of bulk at most 1048576: NARROWER than '..Said'. Prove '..Said' where nothing that the law and all that it calls make is longer than what came in: it says more and counts as full. Else prove '..UptoSaid'. A law counts once. -/
mutual
def uptoBulk {H : Type} : DataW H → Nat
  | .lit (.string bytes) => bytes.length + 1
  | .lit _ => 1
  | .nil => 1
  | .ptr d => uptoBulk d + 1
  | .slice elems spare => uptoBulkAll elems + uptoBulkAll spare + 1
  | .agg parts => uptoBulkAll parts + 1
  | .iface _ d => uptoBulk d + 1
  | .map entries => uptoBulkEntries entries + 1
  | .held _ => 1
def uptoBulkAll {H : Type} : List (DataW H) → Nat
  | [] => 0
  | d :: r => uptoBulk d + uptoBulkAll r
def uptoBulkEntries {H : Type} : List (Lit × DataW H) → Nat
  | [] => 0
  | x :: r => uptoBulkEntry x + uptoBulkEntries r
def uptoBulkEntry {H : Type} : Lit × DataW H → Nat
  | (.string bytes, d) => bytes.length + uptoBulk d + 1
  | (_, d) => uptoBulk d + 1
 end
def uptoSmall : (H : Type) → List (DataW H) → Bool := fun _ ds => decide (uptoBulkAll ds ≤ 1048576)
def OpenSpec.upto (s : _root_.Go.ChangeSpec) : _root_.Go.OpenSpec := { _root_.Go.OpenSpec.ofChange s with cond := some uptoSmall }

/-- 'laws.FnGrids', WHERE WHAT IT READS IS OF BULK AT MOST 1048576: true; the input reads as it did. -/
def fnGridsUptoRow : OpenClaim := { program := "ytmmmglblkampcaadoor", sum := "479dbe291be0f4873d70f0c849297e597bac20f3d76eb09ca24fe4e3ed41ff9b", func := "loop.example/g00215/laws.FnGrids", spec := "fnGrids", inPlace := ["internal/bytealg.IndexByteString", "internal/bytealg.IndexString"], named := ["loop.example/g00215/impl.spans", "unicode/utf8.first", "unicode/utf8.acceptRanges", "internal/bytealg.MaxLen"], apart := false, laid := [("unicode/utf8.acceptRanges", laid_unicode_utf8_acceptRanges), ("loop.example/g00215/impl.spans", laid_loop_example_g00215_impl_spans), ("unicode/utf8.first", laid_unicode_utf8_first)], narrowed := true }
def FnGridsUptoSaid : Prop := fnGridsUptoRow.holds Tryd.pinned (OpenSpec.upto fnGridsSpec)

/-- 'laws.FnExactUp', WHERE WHAT IT READS IS OF BULK AT MOST 1048576: true; the input reads as it did. -/
def fnExactUpUptoRow : OpenClaim := { program := "ytmmmglblkampcaadoor", sum := "479dbe291be0f4873d70f0c849297e597bac20f3d76eb09ca24fe4e3ed41ff9b", func := "loop.example/g00215/laws.FnExactUp", spec := "fnExactUp", named := ["loop.example/g00215/impl.spans"], apart := false, laid := [("loop.example/g00215/impl.spans", laid_loop_example_g00215_impl_spans)], narrowed := true }
def FnExactUpUptoSaid : Prop := fnExactUpUptoRow.holds Tryd.pinned (OpenSpec.upto fnExactUpSpec)

/-- 'laws.FnExactDown', WHERE WHAT IT READS IS OF BULK AT MOST 1048576: true; the input reads as it did. -/
def fnExactDownUptoRow : OpenClaim := { program := "ytmmmglblkampcaadoor", sum := "479dbe291be0f4873d70f0c849297e597bac20f3d76eb09ca24fe4e3ed41ff9b", func := "loop.example/g00215/laws.FnExactDown", spec := "fnExactDown", named := ["loop.example/g00215/impl.spans"], apart := false, laid := [("loop.example/g00215/impl.spans", laid_loop_example_g00215_impl_spans)], narrowed := true }
def FnExactDownUptoSaid : Prop := fnExactDownUptoRow.holds Tryd.pinned (OpenSpec.upto fnExactDownSpec)

end Rows
end Go.Proofs.YtmmmglblkampcaaDoor
