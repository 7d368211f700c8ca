/- The table of the program's Width as the row of a law lists it that reaches strings.TrimRight too. -/
import Derived.Test.YteimcepkoclpbabDoorSpans
namespace Go.Proofs.YteimcepkoclpbabDoor
open Go.ChangeShapes Go.WideShapes Go.ChangeAt Go.WideElems Go.RowKit

theorem spans_of_laid3 {W : World} (h : laidMetH Tryd.prog [("unicode/utf8.acceptRanges", Rows.laid_unicode_utf8_acceptRanges), ("loop.example/g00215/impl.spans", Rows.laid_loop_example_g00215_impl_spans), ("unicode/utf8.first", Rows.laid_unicode_utf8_first)] W) : SpansAt W := by
  rw [MakeChecks.laidMetH_plain _ _ _ (by kernel_rfl)] at h
  obtain ⟨ps, ⟨_, _, _, _, _, _, _, _, _, _, ⟨g0, t0, cs0, f0, p0, q0, hg0, ht0, hv0, hd0, _⟩, _⟩, _⟩ := h
  obtain rfl := Option.some.inj (gSpans.symm.trans hg0)
  obtain rfl := Option.some.inj (tSpans.symm.trans ht0)
  have hcs := spans_open hd0
  have e : cs0 = spansC := by cases cs0; simp at hcs; rw [hcs]
  subst e
  unfold World.var? at hv0
  rw [gSpans] at hv0
  simp only [Option.bind_some] at hv0
  cases hh : W.heap[0]? with
  | none => rw [hh] at hv0; cases hv0
  | some o =>
    rw [hh] at hv0
    cases o with
    | cells c t fr => simp at hv0; subst hv0; exact ⟨t, fr, hh⟩
    | _ => simp at hv0
end Go.Proofs.YteimcepkoclpbabDoor
