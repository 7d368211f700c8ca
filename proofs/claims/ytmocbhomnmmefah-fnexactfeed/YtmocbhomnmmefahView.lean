/- What an argument of a struct type is, once it can be read. -/
import Derived.Test.YtmocbhomnmmefahRows
import Derived.WalkKit
import Derived.ProofKit
import Derived.OpenShut
import Derived.ShutString
import Derived.ChangeOld
import Derived.Below
namespace Go.Proofs.Ytmocbhomnmmefah
open Go.ChangeShapes Go.WideShapes Go.ChangeAt Go.RowKit

theorem feeder_view {H : Type} {enc : TypeId × Value → H} {w : World} {base b0 : Nat} {spare : Nat → Bool} {held : Bool} {r : Reach} {v : Value} {d : DataW H} {p : List MemPlace} (hv : Value.okWide Try.prog w r b0 23 v) (h : DataW.Trod enc Try.prog w base spare held 23 v d p) :
    ∃ s : ByteArray, v = .agg #[.string s] ∧ s.size ≤ maxLen := by
  obtain ⟨cs, rfl, hsz⟩ := okWide_struct Try.underlying23 hv
  obtain ⟨fuel, hf⟩ := h
  obtain ⟨y0, n, _, hl, hy⟩ := trod_struct1 Try.underlying23 hf
  have e : Try.prog.cellsOf 23 = 1 := by kernel_rfl
  have e2 : Try.prog.cellsOf 9 = 1 := by kernel_rfl
  obtain ⟨l⟩ := cs
  match l, hsz.trans e with
  | [c0], _ =>
    have hy' : DataW.trod enc Try.prog w base spare held n 9 [c0] = some y0 := by
      simpa [Value.cells, e2] using hy
    obtain ⟨s, hs, _, hm⟩ := DataW.trod_string Try.underlying9 hy'
    simp at hs
    subst hs
    exact ⟨s, rfl, hm⟩
end Go.Proofs.Ytmocbhomnmmefah
