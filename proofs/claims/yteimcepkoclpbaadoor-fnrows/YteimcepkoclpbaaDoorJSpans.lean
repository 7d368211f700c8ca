/- The table of the program's Width as the row lists it: what lies in memory. The table of the program's Width as the row of a law lists it that reaches strings.TrimRight too. -/
import Derived.Test.YteimcepkoclpbaaDoorW1
import Derived.LaidMore
import Derived.OpenVars
import Derived.ChangeVars
import Derived.Deep.Strs
import Derived.Stop.Joined
namespace Go.Proofs.YteimcepkoclpbaaDoor
open Go.ChangeShapes Go.WideShapes Go.ChangeAt Go.WideElems Go.RowKit

theorem gSpans : Tryd.prog.globalNamed "loop.example/g00215/impl.spans" = some 0 := by kernel_rfl
theorem tSpans : (Tryd.prog.globals[0]?).map (·.type) = some 78 := by kernel_rfl
theorem c_i64 : Tryd.prog.cellsOf 2 = 1 := by kernel_rfl
theorem c_span : Tryd.prog.cellsOf 77 = 3 := by kernel_rfl
theorem c_spans : Tryd.prog.cellsOf 78 = 18 := by kernel_rfl

section
variable {H : Type} {enc : TypeId × Value → H} {w : World} {base : Nat} {spare : Nat → Bool} {held : Bool}
set_option maxRecDepth 20000 in
theorem span_open {fuel : Nat} {cs : List Value} {a b c : Int} {p : List MemPlace}
    (h : DataW.trod enc Tryd.prog w base spare held fuel 77 cs = some (.agg [.lit (.int .i64 a), .lit (.int .i64 b), .lit (.int .i64 c)], p)) : cs = [.int .i64 a, .int .i64 b, .int .i64 c] := by
  obtain ⟨y0, y1, y2, n, e, hl, h0, h1, h2⟩ := Go.Deep.trod_struct3 Tryd.underlying77 h
  rw [c_span] at hl
  simp only [Prod.mk.injEq, DataW.agg.injEq, List.cons.injEq, and_true] at e
  obtain ⟨⟨e0, e1, e2⟩, _⟩ := e
  match cs, hl with
  | [x0, x1, x2], _ =>
    obtain ⟨k0, q0, r0, _⟩ := DataW.trod_int Tryd.underlying2 h0
    obtain ⟨k1, q1, r1, _⟩ := DataW.trod_int Tryd.underlying2 h1
    obtain ⟨k2, q2, r2, _⟩ := DataW.trod_int Tryd.underlying2 h2
    subst r0; subst r1; subst r2
    simp only [DataW.lit.injEq, Lit.int.injEq, true_and] at e0 e1 e2
    subst e0; subst e1; subst e2
    rw [c_i64] at q0 q1 q2
    simp at q0 q1 q2
    subst q0; subst q1; subst q2
    rfl
set_option maxRecDepth 20000 in
theorem spans_open {fuel : Nat} {cs : List Value} {p : List MemPlace}
    (h : DataW.trod enc Tryd.prog w base spare held fuel 78 cs = some (Rows.laid_loop_example_g00215_impl_spans, p)) : cs = spansC.toList := by
  obtain ⟨xs, m, rfl, e, hl, hn, hel⟩ := DataW.trod_array Tryd.underlying78 h
  rw [c_spans] at hl
  simp only [Rows.laid_loop_example_g00215_impl_spans, Prod.mk.injEq, DataW.agg.injEq] at e
  obtain ⟨e, _⟩ := e
  match xs, hn with
  | [x0, x1, x2, x3, x4, x5], _ =>
    simp only [List.map_cons, List.map_nil, List.cons.injEq, and_true] at e
    obtain ⟨e0, e1, e2, e3, e4, e5⟩ := e
    have go : ∀ (i : Nat) (x : DataW H × List MemPlace) (a b c : Int), i < 6 → [x0, x1, x2, x3, x4, x5][i]? = some x → DataW.agg [.lit (.int .i64 a), .lit (.int .i64 b), .lit (.int .i64 c)] = x.1 → (cs.drop (i * 3)).take 3 = [.int .i64 a, .int .i64 b, .int .i64 c] := by
      intro i x a b c hi hx he
      have := hel i hi
      rw [c_span, hx] at this
      obtain ⟨x1, x2⟩ := x
      simp only at he
      rw [← he] at this
      exact span_open this
    have g0 := go 0 x0 _ _ _ (by decide) rfl e0
    have g1 := go 1 x1 _ _ _ (by decide) rfl e1
    have g2 := go 2 x2 _ _ _ (by decide) rfl e2
    have g3 := go 3 x3 _ _ _ (by decide) rfl e3
    have g4 := go 4 x4 _ _ _ (by decide) rfl e4
    have g5 := go 5 x5 _ _ _ (by decide) rfl e5
    match cs, hl with
    | [a0, a1, a2, a3, a4, a5, a6, a7, a8, a9, b0, b1, b2, b3, b4, b5, b6, b7], _ =>
      simp at g0 g1 g2 g3 g4 g5
      simp [spansC, g0, g1, g2, g3, g4, g5]
end
/-- What the row lists of the table is what the walks ask. -/
theorem spans_of_laid {W : World} (h : laidMetH Tryd.prog [("loop.example/g00215/impl.spans", Rows.laid_loop_example_g00215_impl_spans)] W) : SpansAt W := by
  rw [MakeChecks.laidMetH_plain _ _ _ (by kernel_rfl)] at h
  obtain ⟨ps, ⟨g0, t0, cs0, f0, p0, q0, hg0, ht0, hv0, hd0, _⟩, _⟩ := h
  obtain rfl := Option.some.inj (gSpans.symm.trans hg0)
  obtain rfl := Option.some.inj (tSpans.symm.trans ht0)
  have hcs := spans_open hd0
  have e : cs0 = spansC := by cases cs0; simp at hcs; rw [hcs]
  subst e
  unfold World.var? at hv0
  rw [gSpans] at hv0
  simp only [Option.bind_some] at hv0
  cases hh : W.heap[0]? with
  | none => rw [hh] at hv0; cases hv0
  | some o =>
    rw [hh] at hv0
    cases o with
    | cells c t fr => simp at hv0; subst hv0; exact ⟨t, fr, hh⟩
    | _ => simp at hv0
/-- The program's own start lays the table so. -/
theorem spans_door (os : Os) (args : Array Value) : laidMetH Tryd.prog [("loop.example/g00215/impl.spans", Rows.laid_loop_example_g00215_impl_spans)] ((World.doorLaid Tryd.prog 400 os).forCall (fun _ _ => 0) ⟨#[], args, []⟩).memory :=
  laidMetH_of_parts3 (fuel := 8) (laidMet_of_run' 8 (by kernel_rfl) (by kernel_rfl)) (by kernel_rfl) (by kernel_rfl)
end Go.Proofs.YteimcepkoclpbaaDoor
namespace Go.Proofs.YteimcepkoclpbaaDoor
open Go.ChangeShapes Go.WideShapes Go.ChangeAt Go.WideElems Go.RowKit

theorem spans_of_laid3 {W : World} (h : laidMetH Tryd.prog [("unicode/utf8.acceptRanges", Rows.laid_unicode_utf8_acceptRanges), ("loop.example/g00215/impl.spans", Rows.laid_loop_example_g00215_impl_spans), ("unicode/utf8.first", Rows.laid_unicode_utf8_first)] W) : SpansAt W := by
  rw [MakeChecks.laidMetH_plain _ _ _ (by kernel_rfl)] at h
  obtain ⟨ps, ⟨_, _, _, _, _, _, _, _, _, _, ⟨g0, t0, cs0, f0, p0, q0, hg0, ht0, hv0, hd0, _⟩, _⟩, _⟩ := h
  obtain rfl := Option.some.inj (gSpans.symm.trans hg0)
  obtain rfl := Option.some.inj (tSpans.symm.trans ht0)
  have hcs := spans_open hd0
  have e : cs0 = spansC := by cases cs0; simp at hcs; rw [hcs]
  subst e
  unfold World.var? at hv0
  rw [gSpans] at hv0
  simp only [Option.bind_some] at hv0
  cases hh : W.heap[0]? with
  | none => rw [hh] at hv0; cases hv0
  | some o =>
    rw [hh] at hv0
    cases o with
    | cells c t fr => simp at hv0; subst hv0; exact ⟨t, fr, hh⟩
    | _ => simp at hv0
end Go.Proofs.YteimcepkoclpbaaDoor
