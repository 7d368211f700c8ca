/-
  No cell of these rows narrows 'for every input' (looked for: loops, veiled, ifaces, maps, wideKeys, modest, calm, conditions, laid).
  DERIVED. THE GIVEN ROWS OF THIS SEAT. 6 by the template 'for every input the law returns true; each argument reads behind the call as it read before'; 0 by the template 'total and deterministic' (their statements: YtmocbhomnmmefagTotals.lean).
  GIVEN WITH THE SEED: the statements are not yours to turn. If you find one false, say at which input.
  Laid BY PROGRAM, IN A SANDBOX (cutbox-rows.mjs): the forced cells as the released guide's own fill.sh prints them over the translation 356bff610ed53e87… (all of the seat's roots in one cut). By AI agents, Wed Nov 11 2026. No macro, syntax, notation, axiom, sorry.
-/
import Derived.Test.YtmocbhomnmmefagChecked
import GoSem.Claim
import GoSem.ClaimJoined
import GoSem.ClaimMapViews
import Derived.JoinedTies
import Derived.KernelRfl
namespace Go.Proofs.Ytmocbhomnmmefag
/- THE CELL 'sum', in the pinned program and in every row, IS THE sha256 OF THE DUMP (.gsa) THAT YtmocbhomnmmefagProg.lean LOADS. Nothing in Lean hashes anything: it is a label: what it is worth is what the hold of that sum in a sandbox is worth. -/
noncomputable def Try.pinned : Pinned := { name := "ytmocbhomnmmefag", sum := "356bff610ed53e87bf5b701e63f69e3cb540ed5a76523746904baae4a0749b0b", checked := Try.checked }
namespace Rows
def none {H : Type} : Left H := { results := [], args := [] }

/-- 'laws.FnExactPut': WHATEVER THE INPUT: true; the input reads as it did. -/
def fnExactPutSpec : ChangeSpec := { name := "fnExactPut", fn := fun _ => fun
  | [d] => { results := [.lit (.bool true)], args := [d] }
  | _ => none }
def fnExactPutRow : OpenClaim := { program := "ytmocbhomnmmefag", sum := "356bff610ed53e87bf5b701e63f69e3cb540ed5a76523746904baae4a0749b0b", func := "loop.example/g00215/laws.FnExactPut", spec := "fnExactPut", apart := false }
def FnExactPutSaid : Prop := fnExactPutRow.holds Try.pinned (OpenSpec.ofChange fnExactPutSpec)

/-- ITS FALSE NEIGHBOUR: 'it returns false'. Refute it at one input. -/
def fnExactPutWrong : ChangeSpec := { name := "fnExactPut", fn := fun _ => fun
  | [d] => { results := [.lit (.bool false)], args := [d] }
  | _ => none }
def FnExactPutWrongFalsely : Prop := fnExactPutRow.holds Try.pinned (OpenSpec.ofChange fnExactPutWrong)

/-- 'laws.FnExactGet': WHATEVER THE INPUT: true; the input reads as it did. -/
def fnExactGetSpec : ChangeSpec := { name := "fnExactGet", fn := fun _ => fun
  | [d] => { results := [.lit (.bool true)], args := [d] }
  | _ => none }
def fnExactGetRow : OpenClaim := { program := "ytmocbhomnmmefag", sum := "356bff610ed53e87bf5b701e63f69e3cb540ed5a76523746904baae4a0749b0b", func := "loop.example/g00215/laws.FnExactGet", spec := "fnExactGet", apart := false }
def FnExactGetSaid : Prop := fnExactGetRow.holds Try.pinned (OpenSpec.ofChange fnExactGetSpec)

/-- ITS FALSE NEIGHBOUR: 'it returns false'. Refute it at one input. -/
def fnExactGetWrong : ChangeSpec := { name := "fnExactGet", fn := fun _ => fun
  | [d] => { results := [.lit (.bool false)], args := [d] }
  | _ => none }
def FnExactGetWrongFalsely : Prop := fnExactGetRow.holds Try.pinned (OpenSpec.ofChange fnExactGetWrong)

/-- 'laws.FnExactStarts': WHATEVER THE INPUT: true; the input reads as it did. -/
def fnExactStartsSpec : ChangeSpec := { name := "fnExactStarts", fn := fun _ => fun
  | [d] => { results := [.lit (.bool true)], args := [d] }
  | _ => none }
def fnExactStartsRow : OpenClaim := { program := "ytmocbhomnmmefag", sum := "356bff610ed53e87bf5b701e63f69e3cb540ed5a76523746904baae4a0749b0b", func := "loop.example/g00215/laws.FnExactStarts", spec := "fnExactStarts", apart := false }
def FnExactStartsSaid : Prop := fnExactStartsRow.holds Try.pinned (OpenSpec.ofChange fnExactStartsSpec)

/-- ITS FALSE NEIGHBOUR: 'it returns false'. Refute it at one input. -/
def fnExactStartsWrong : ChangeSpec := { name := "fnExactStarts", fn := fun _ => fun
  | [d] => { results := [.lit (.bool false)], args := [d] }
  | _ => none }
def FnExactStartsWrongFalsely : Prop := fnExactStartsRow.holds Try.pinned (OpenSpec.ofChange fnExactStartsWrong)

/-- 'laws.FnExactRunes': WHATEVER THE INPUT: true; the input reads as it did. -/
def fnExactRunesSpec : ChangeSpec := { name := "fnExactRunes", fn := fun _ => fun
  | [d] => { results := [.lit (.bool true)], args := [d] }
  | _ => none }
def fnExactRunesRow : OpenClaim := { program := "ytmocbhomnmmefag", sum := "356bff610ed53e87bf5b701e63f69e3cb540ed5a76523746904baae4a0749b0b", func := "loop.example/g00215/laws.FnExactRunes", spec := "fnExactRunes", apart := false }
def FnExactRunesSaid : Prop := fnExactRunesRow.holds Try.pinned (OpenSpec.ofChange fnExactRunesSpec)

/-- ITS FALSE NEIGHBOUR: 'it returns false'. Refute it at one input. -/
def fnExactRunesWrong : ChangeSpec := { name := "fnExactRunes", fn := fun _ => fun
  | [d] => { results := [.lit (.bool false)], args := [d] }
  | _ => none }
def FnExactRunesWrongFalsely : Prop := fnExactRunesRow.holds Try.pinned (OpenSpec.ofChange fnExactRunesWrong)

/-- 'laws.FnExactText': WHATEVER THE INPUT: true; the input reads as it did. -/
def fnExactTextSpec : ChangeSpec := { name := "fnExactText", fn := fun _ => fun
  | [d] => { results := [.lit (.bool true)], args := [d] }
  | _ => none }
def fnExactTextRow : OpenClaim := { program := "ytmocbhomnmmefag", sum := "356bff610ed53e87bf5b701e63f69e3cb540ed5a76523746904baae4a0749b0b", func := "loop.example/g00215/laws.FnExactText", spec := "fnExactText", apart := false }
def FnExactTextSaid : Prop := fnExactTextRow.holds Try.pinned (OpenSpec.ofChange fnExactTextSpec)

/-- ITS FALSE NEIGHBOUR: 'it returns false'. Refute it at one input. -/
def fnExactTextWrong : ChangeSpec := { name := "fnExactText", fn := fun _ => fun
  | [d] => { results := [.lit (.bool false)], args := [d] }
  | _ => none }
def FnExactTextWrongFalsely : Prop := fnExactTextRow.holds Try.pinned (OpenSpec.ofChange fnExactTextWrong)

/-- 'laws.FnExactFeederOk': WHATEVER THE INPUT: true; the input reads as it did. -/
def fnExactFeederOkSpec : ChangeSpec := { name := "fnExactFeederOk", fn := fun _ => fun
  | [d] => { results := [.lit (.bool true)], args := [d] }
  | _ => none }
def fnExactFeederOkRow : OpenClaim := { program := "ytmocbhomnmmefag", sum := "356bff610ed53e87bf5b701e63f69e3cb540ed5a76523746904baae4a0749b0b", func := "loop.example/g00215/laws.FnExactFeederOk", spec := "fnExactFeederOk", apart := false }
def FnExactFeederOkSaid : Prop := fnExactFeederOkRow.holds Try.pinned (OpenSpec.ofChange fnExactFeederOkSpec)

/-- ITS FALSE NEIGHBOUR: 'it returns false'. Refute it at one input. -/
def fnExactFeederOkWrong : ChangeSpec := { name := "fnExactFeederOk", fn := fun _ => fun
  | [d] => { results := [.lit (.bool false)], args := [d] }
  | _ => none }
def FnExactFeederOkWrongFalsely : Prop := fnExactFeederOkRow.holds Try.pinned (OpenSpec.ofChange fnExactFeederOkWrong)

/- THE SECOND FORM. 'bulk': how many values and letters a reading holds, each counted each time it is reached (what is shared counts as often as it is met; a slice's spare places count too). A statement '..UptoSaid' is the law's where the arguments, and the package variables that the reading takes, are together of bulk at most 1048576: NARROWER than '..Said'. Prove '..Said' where nothing that the law and all that it calls make is longer than what came in: it says more and counts as full. Else prove '..UptoSaid'. A law counts once. -/
mutual
def uptoBulk {H : Type} : DataW H → Nat
  | .lit (.string bytes) => bytes.length + 1
  | .lit _ => 1
  | .nil => 1
  | .ptr d => uptoBulk d + 1
  | .slice elems spare => uptoBulkAll elems + uptoBulkAll spare + 1
  | .agg parts => uptoBulkAll parts + 1
  | .iface _ d => uptoBulk d + 1
  | .map entries => uptoBulkEntries entries + 1
  | .held _ => 1
def uptoBulkAll {H : Type} : List (DataW H) → Nat
  | [] => 0
  | d :: r => uptoBulk d + uptoBulkAll r
def uptoBulkEntries {H : Type} : List (Lit × DataW H) → Nat
  | [] => 0
  | x :: r => uptoBulkEntry x + uptoBulkEntries r
def uptoBulkEntry {H : Type} : Lit × DataW H → Nat
  | (.string bytes, d) => bytes.length + uptoBulk d + 1
  | (_, d) => uptoBulk d + 1
 end
def uptoSmall : (H : Type) → List (DataW H) → Bool := fun _ ds => decide (uptoBulkAll ds ≤ 1048576)
def OpenSpec.upto (s : _root_.Go.ChangeSpec) : _root_.Go.OpenSpec := { _root_.Go.OpenSpec.ofChange s with cond := some uptoSmall }

/-- 'laws.FnExactPut', WHERE WHAT IT READS IS OF BULK AT MOST 1048576: true; the input reads as it did. -/
def fnExactPutUptoRow : OpenClaim := { program := "ytmocbhomnmmefag", sum := "356bff610ed53e87bf5b701e63f69e3cb540ed5a76523746904baae4a0749b0b", func := "loop.example/g00215/laws.FnExactPut", spec := "fnExactPut", apart := false, narrowed := true }
def FnExactPutUptoSaid : Prop := fnExactPutUptoRow.holds Try.pinned (OpenSpec.upto fnExactPutSpec)

/-- 'laws.FnExactGet', WHERE WHAT IT READS IS OF BULK AT MOST 1048576: true; the input reads as it did. -/
def fnExactGetUptoRow : OpenClaim := { program := "ytmocbhomnmmefag", sum := "356bff610ed53e87bf5b701e63f69e3cb540ed5a76523746904baae4a0749b0b", func := "loop.example/g00215/laws.FnExactGet", spec := "fnExactGet", apart := false, narrowed := true }
def FnExactGetUptoSaid : Prop := fnExactGetUptoRow.holds Try.pinned (OpenSpec.upto fnExactGetSpec)

/-- 'laws.FnExactStarts', WHERE WHAT IT READS IS OF BULK AT MOST 1048576: true; the input reads as it did. -/
def fnExactStartsUptoRow : OpenClaim := { program := "ytmocbhomnmmefag", sum := "356bff610ed53e87bf5b701e63f69e3cb540ed5a76523746904baae4a0749b0b", func := "loop.example/g00215/laws.FnExactStarts", spec := "fnExactStarts", apart := false, narrowed := true }
def FnExactStartsUptoSaid : Prop := fnExactStartsUptoRow.holds Try.pinned (OpenSpec.upto fnExactStartsSpec)

/-- 'laws.FnExactRunes', WHERE WHAT IT READS IS OF BULK AT MOST 1048576: true; the input reads as it did. -/
def fnExactRunesUptoRow : OpenClaim := { program := "ytmocbhomnmmefag", sum := "356bff610ed53e87bf5b701e63f69e3cb540ed5a76523746904baae4a0749b0b", func := "loop.example/g00215/laws.FnExactRunes", spec := "fnExactRunes", apart := false, narrowed := true }
def FnExactRunesUptoSaid : Prop := fnExactRunesUptoRow.holds Try.pinned (OpenSpec.upto fnExactRunesSpec)

/-- 'laws.FnExactText', WHERE WHAT IT READS IS OF BULK AT MOST 1048576: true; the input reads as it did. -/
def fnExactTextUptoRow : OpenClaim := { program := "ytmocbhomnmmefag", sum := "356bff610ed53e87bf5b701e63f69e3cb540ed5a76523746904baae4a0749b0b", func := "loop.example/g00215/laws.FnExactText", spec := "fnExactText", apart := false, narrowed := true }
def FnExactTextUptoSaid : Prop := fnExactTextUptoRow.holds Try.pinned (OpenSpec.upto fnExactTextSpec)

/-- 'laws.FnExactFeederOk', WHERE WHAT IT READS IS OF BULK AT MOST 1048576: true; the input reads as it did. -/
def fnExactFeederOkUptoRow : OpenClaim := { program := "ytmocbhomnmmefag", sum := "356bff610ed53e87bf5b701e63f69e3cb540ed5a76523746904baae4a0749b0b", func := "loop.example/g00215/laws.FnExactFeederOk", spec := "fnExactFeederOk", apart := false, narrowed := true }
def FnExactFeederOkUptoSaid : Prop := fnExactFeederOkUptoRow.holds Try.pinned (OpenSpec.upto fnExactFeederOkSpec)

end Rows
end Go.Proofs.Ytmocbhomnmmefag
