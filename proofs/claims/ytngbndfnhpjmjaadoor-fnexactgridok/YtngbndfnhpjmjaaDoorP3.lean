/- The laws' own helpers on grids: likeness. The walk of the exact law of GridOk. The table of the program's Width as the row lists it: what lies in memory. What an argument that is a row of cells is, once it can be read. What an argument that is a grid is, once it can be read. -/
import Derived.Test.YtngbndfnhpjmjaaDoorP2
import Derived.LaidMore
import Derived.OpenVars
import Derived.ChangeVars
import Derived.Deep.Strs
import Derived.Stop.Joined
import Derived.ChangeOld
import Derived.Below
import Derived.Deep.Slices
namespace Go.Proofs.YtngbndfnhpjmjaaDoor
open Go.ChangeShapes Go.WideShapes Go.ChangeAt Go.RowKit
set_option maxHeartbeats 4000000 in
theorem eqCSS_same (va vb : Value) (rows : List (List Ce)) (w : World) (ha : SlG w va rows) (hb : SlG w vb rows) (hl : rows.length ≤ 1073741824) (hx : ∀ i, i < rows.length → (rowX rows i).length ≤ 1073741824) :
    Calls Tryd.prog 57 #[va, vb] w fun e w' => e = .returned (.bool true) ∧ Below w.heap.size w w' := by
  obtain ⟨a, c, vs, rfl, _, _, hr, hs⟩ := id ha
  obtain ⟨a2, c2, vs2, rfl, _, _, hr2, hs2⟩ := id hb
  clear ha hb
  go_enter Tryd.func57, Tryd.ntmps57
  go_wp2
  go_loopw [5] (fun i wr => ∃ j : Nat, i = .int .i64 j ∧ j ≤ rows.length ∧ Below w.heap.size w wr) (fun i _ => rows.length - (intOf i).toNat)
  case atStart => exact ⟨0, rfl, Nat.zero_le _, Below.refl _ _⟩
  case round =>
    obtain ⟨j, rfl, hj, kb⟩ := hrel
    by_cases hlt : j < rows.length
    · have hji : (j : Int) < (rows.length : Int) := by omega
      have hj0 : (0 : Int) ≤ (j : Int) := by omega
      rcases hr with h | ⟨b, off, rfl, hbb, hrc⟩
      · rw [h] at hlt; simp at hlt
      rcases hr2 with h | ⟨b2, off2, rfl, hbb2, hrc2⟩
      · rw [h] at hlt; simp at hlt
      have hsj := (hs j hlt).below kb
      have hsj2 := (hs2 j hlt).below kb
      have hcj := (kb.cell (p := ⟨b, off + j, none⟩) hbb).trans (hrc j hlt)
      have hcj2 := (kb.cell (p := ⟨b2, off2 + j, none⟩) hbb2).trans (hrc2 j hlt)
      obtain ⟨aj, cj, ev, _⟩ := id hsj
      obtain ⟨aj2, cj2, ev2, _⟩ := id hsj2
      rw [ev] at hcj hsj
      rw [ev2] at hcj2 hsj2
      have heq := fun W (hW : Below wr.heap.size wr W) => eqC_same _ _ _ W (hsj.below hW) (hsj2.below hW) (hx j hlt)
      clear hs hs2 hrc hrc2 ev ev2 hsj hsj2
      go_wp2
      go_region_with (go_at_call 80; refine (heq _ (bdr _)).mono ?_; rintro e w2 ⟨rfl, hb2⟩)
      all_goals
        have kb2 := (kb.trans ((bdr wr).mono kb.size)).trans (hb2.mono kb.size)
        clear kb hb2 heq
        go_wp2
        go_roundw
        case rel => exact ⟨j + 1, by go_num, by omega, by first | exact kb2 | exact kb2.drew⟩
        case measure => simp [intOf]; omega
    · have hjn : j = rows.length := by omega
      have hji : ¬ (j : Int) < (rows.length : Int) := by omega
      subst hjn
      clear hs hs2 hr hr2
      go_wp2
      go_ret
      exact ⟨rfl, kb⟩
set_option maxHeartbeats 2000000 in
theorem eqGrid_same (cols : Int) (va vb : Value) (rows : List (List Ce)) (w : World) (ha : SlG w va rows) (hb : SlG w vb rows) (hl : rows.length ≤ 1073741824) (hx : ∀ i, i < rows.length → (rowX rows i).length ≤ 1073741824) :
    Calls Tryd.prog 28 #[gridV cols va, gridV cols vb] w fun e w' => e = .returned (.bool true) ∧ Below w.heap.size w w' := by
  have hb0 := bal' w (Obj.cells #[.int .i64 cols, va] 26)
  have hb1 := bal' (w.alloc (Obj.cells #[.int .i64 cols, va] 26)) (Obj.cells #[.int .i64 cols, vb] 26)
  have hG0 := (GrN.new w cols va 26).below hb1
  have hG1 := GrN.new (w.alloc (Obj.cells #[.int .i64 cols, va] 26)) cols vb 26
  have e0 : (w.alloc (Obj.cells #[.int .i64 cols, va] 26)).heap.size = w.heap.size + 1 := by simp
  rw [e0] at hG1
  have heq := fun W h1 h2 => eqCSS_same va vb rows W h1 h2 hl hx
  have hbb := hb0.trans (hb1.mono hb0.size)
  have ha1 := ha.below hbb
  have hb2 := hb.below hbb
  obtain ⟨a, c, vs, rfl, _⟩ := id ha
  obtain ⟨a2, c2, vs2, rfl, _⟩ := id hb
  unfold gridV
  obtain ⟨_, g0, g1⟩ := id hG0
  obtain ⟨_, f0, f1⟩ := id hG1
  go_enter Tryd.func28, Tryd.ntmps28
  go_wp2_with fail
  refine (heq _ ha1 hb2).mono ?_
  rintro e w2 ⟨rfl, hw⟩
  go_wp2
  go_ret
  exact ⟨rfl, hbb.trans (hw.mono hbb.size)⟩
end Go.Proofs.YtngbndfnhpjmjaaDoor
namespace Go.Proofs.YtngbndfnhpjmjaaDoor
open Go.ChangeShapes Go.WideShapes Go.ChangeAt Go.RowKit
theorem slShape {w : World} {v : Value} {rows : List (List Ce)} (h : SlG w v rows) : ∃ a n c, v = Value.slice a n c := by
  obtain ⟨a, c, vs, rfl, _⟩ := h
  exact ⟨_, _, _, rfl⟩
set_option maxHeartbeats 4000000 in
set_option maxRecDepth 20000 in
theorem walk_FnExactGridOk (w : World) (hS : SpansAt w) (cols : Int) (v : Value) (rows : List (List Ce)) (hv : SlG w v rows) (hl0 : rows.length ≤ maxLen) (hx0 : ∀ i, i < rows.length → (rowX rows i).length ≤ maxLen) :
    Calls Tryd.prog 4 #[gridV cols v] w fun e w' => e = .returned (.bool true) ∧ Below w.heap.size w w' := by
  have hz := fun W h => szGrid_any cols v rows 1048576 W h hl0 hx0 (by decide)
  have hbA := bal' w (Obj.cells #[.int .i64 cols, v] 46)
  have hGA := GrN.new w cols v 46
  have hvA := hv.below hbA
  have hSA := hS.below hbA hS.lt
  obtain ⟨p0, p1, p2, rfl⟩ := slShape hv
  unfold gridV at *
  have c0 := hGA.2.1
  have c1 := hGA.2.2
  by_cases hL : szG rows 1048576 < 0
  · have hzv : Hid (szG rows 1048576 = -1) := by
      show _ = _
      unfold szG at *
      split at hL
      · rfl
      · omega
    clear hS hSA
    go_enter Tryd.func4, Tryd.ntmps4
    go_wp2_with fail
    refine (hz _ hvA).mono ?_
    rintro e w1 ⟨rfl, hb⟩
    go_wp2
    go_ret
    exact ⟨rfl, hbA.trans (hb.mono hbA.size)⟩
  · have hfit : rows.length ≤ 1048576 ∧ ∀ i, i < rows.length → (rowX rows i).length ≤ 1048576 := by
      unfold szG at hL
      split at hL
      · exact absurd (by decide) hL
      · rename_i m hm; exact ⟨(leftG_le hm).2.1, (leftG_le hm).2.2⟩
    obtain ⟨hl, hx⟩ := hfit
    have hto := fun W h => toGrid_copy cols (.slice p0 p1 p2) rows W h (by omega) (fun i hi => by have := hx i hi; omega)
    have hsp := fun v W h => specGridOk_any cols v rows W h (by omega) hx
    have him := fun v W hS h => implGridOk_any cols v rows W hS h hl hx
    have heq := fun va vb W h1 h2 => eqGrid_same cols va vb rows W h1 h2 (by omega) (fun i hi => by have := hx i hi; omega)
    unfold gridV at hto hsp him heq
    clear hl0 hx0 hx hl hv hS
    generalize szG rows 1048576 = z at *
    generalize gridOkB cols rows = ok at *
    have hne : (ok != ok) = false := by simp
    go_enter Tryd.func4, Tryd.ntmps4
    go_wp2_with fail
    refine (hz _ hvA).mono ?_
    rintro e w1 ⟨rfl, hb⟩
    have hb1 := hbA.trans (hb.mono hbA.size)
    have hG1 := hGA.below hb
    have hv1 := hvA.below hb
    have hS1 := hSA.below hb hSA.lt
    clear hbA hGA hvA hSA hb c0 c1
    have c0 := hG1.2.1
    have c1 := hG1.2.2
    go_wp2_with fail
    refine (hto _ hv1).mono ?_
    rintro e w2 ⟨u, rfl, ho, hb⟩
    have hb2 := hb1.trans (hb.mono hb1.size)
    have hG2 := hG1.below hb
    have hv2 := hv1.below hb
    have hS2 := hS1.below hb hS1.lt
    have hu := SlG.of_own ho
    obtain ⟨q0, q1, q2, rfl⟩ := slShape hu
    clear hb1 hG1 hv1 hS1 hb ho c0 c1
    go_wp2_with fail
    refine (hsp _ _ hu).mono ?_
    rintro e w3 ⟨rfl, hb⟩
    have hb3 := hb2.trans (hb.mono hb2.size)
    have hG3 := hG2.below hb
    have hv3 := hv2.below hb
    have hS3 := hS2.below hb hS2.lt
    clear hb2 hG2 hv2 hS2 hb hu
    have c0 := hG3.2.1
    have c1 := hG3.2.2
    go_wp2_with fail
    refine (hto _ hv3).mono ?_
    rintro e w4 ⟨x, rfl, ho, hb⟩
    have hal := bal' w4 (Obj.cells #[.int .i64 cols, x] 26)
    have hX := GrN.new w4 cols x 26
    have hb4 := (hb3.trans (hb.mono hb3.size)).trans (hal.mono (Nat.le_trans hb3.size hb.size))
    have hG4 := (hG3.below hb).below hal
    have hv4 := (hv3.below hb).below hal
    have hS4 := (hS3.below hb hS3.lt).below hal (hS3.below hb hS3.lt).lt
    have hx4 := (SlG.of_own ho).below hal
    obtain ⟨x0, x1, x2, rfl⟩ := slShape hx4
    clear hb3 hG3 hv3 hS3 hb ho hal c0 c1
    have d0 := hX.2.1
    have d1 := hX.2.2
    go_wp2_with fail
    refine (him _ _ hS4 hx4).mono ?_
    rintro e w5 ⟨rfl, hb⟩
    have hb5 := hb4.trans (hb.mono hb4.size)
    have hG5 := hG4.below hb
    have hv5 := hv4.below hb
    have hX5 := hX.below hb
    have hx5 := hx4.below hb
    clear hb4 hG4 hv4 hS4 hX hx4 hb d0 d1
    have hall : ∀ W, Below w5.heap.size w5 W → W.cell? ⟨w.heap.size, 0, none⟩ = some (.int .i64 cols) ∧ W.cell? ⟨w.heap.size, 1, none⟩ = some (.slice p0 p1 p2) ∧ W.cell? ⟨w4.heap.size, 0, none⟩ = some (.int .i64 cols) ∧ W.cell? ⟨w4.heap.size, 1, none⟩ = some (.slice x0 x1 x2) ∧ Below w5.heap.size w5 W :=
      fun W h => ⟨(hG5.below h).2.1, (hG5.below h).2.2, (hX5.below h).2.1, (hX5.below h).2.2, h⟩
    have hkd := hall _ (bdr w5)
    go_wp2
    go_region_held3 (fun W => W.cell? ⟨w.heap.size, 0, none⟩ = some (.int .i64 cols) ∧ W.cell? ⟨w.heap.size, 1, none⟩ = some (.slice p0 p1 p2) ∧ W.cell? ⟨w4.heap.size, 0, none⟩ = some (.int .i64 cols) ∧ W.cell? ⟨w4.heap.size, 1, none⟩ = some (.slice x0 x1 x2) ∧ Below w5.heap.size w5 W) (first | with_reducible assumption)
      (first
        | (go_at_call 27; refine (hto _ (hv5.below (bdr w5))).mono ?_; rintro e wa ⟨y, rfl, ho, hb⟩; have hka := hall _ ((bdr w5).trans (hb.mono (bdr w5).size)); obtain ⟨y0, y1, y2, rfl⟩ := slShape (SlG.of_own ho))
        | (go_at_call 28; refine (heq _ _ _ (hx5.below hka.2.2.2.2) (SlG.of_own ho)).mono ?_; rintro e wb ⟨rfl, hb'⟩; have hkb := hall _ (hka.2.2.2.2.trans (hb'.mono hka.2.2.2.2.size))))
    go_wp2
    go_ret
    exact ⟨rfl, hb5.trans (hkb.2.2.2.2.mono hb5.size)⟩
end Go.Proofs.YtngbndfnhpjmjaaDoor
namespace Go.Proofs.YtngbndfnhpjmjaaDoor
open Go.ChangeShapes Go.WideShapes Go.ChangeAt Go.WideElems Go.RowKit
theorem gSpans : Tryd.prog.globalNamed "loop.example/g00215/impl.spans" = some 0 := by kernel_rfl
theorem tSpans : (Tryd.prog.globals[0]?).map (·.type) = some 127 := by kernel_rfl
theorem c_i64 : Tryd.prog.cellsOf 2 = 1 := by kernel_rfl
theorem c_span : Tryd.prog.cellsOf 126 = 3 := by kernel_rfl
theorem c_spans : Tryd.prog.cellsOf 127 = 18 := by kernel_rfl

section
variable {H : Type} {enc : TypeId × Value → H} {w : World} {base : Nat} {spare : Nat → Bool} {held : Bool}
set_option maxRecDepth 20000 in
theorem span_open {fuel : Nat} {cs : List Value} {a b c : Int} {p : List MemPlace}
    (h : DataW.trod enc Tryd.prog w base spare held fuel 126 cs = some (.agg [.lit (.int .i64 a), .lit (.int .i64 b), .lit (.int .i64 c)], p)) : cs = [.int .i64 a, .int .i64 b, .int .i64 c] := by
  obtain ⟨y0, y1, y2, n, e, hl, h0, h1, h2⟩ := Go.Deep.trod_struct3 Tryd.underlying126 h
  rw [c_span] at hl
  simp only [Prod.mk.injEq, DataW.agg.injEq, List.cons.injEq, and_true] at e
  obtain ⟨⟨e0, e1, e2⟩, _⟩ := e
  match cs, hl with
  | [x0, x1, x2], _ =>
    obtain ⟨k0, q0, r0, _⟩ := DataW.trod_int Tryd.underlying2 h0
    obtain ⟨k1, q1, r1, _⟩ := DataW.trod_int Tryd.underlying2 h1
    obtain ⟨k2, q2, r2, _⟩ := DataW.trod_int Tryd.underlying2 h2
    subst r0; subst r1; subst r2
    simp only [DataW.lit.injEq, Lit.int.injEq, true_and] at e0 e1 e2
    subst e0; subst e1; subst e2
    rw [c_i64] at q0 q1 q2
    simp at q0 q1 q2
    subst q0; subst q1; subst q2
    rfl
set_option maxRecDepth 20000 in
theorem spans_open {fuel : Nat} {cs : List Value} {p : List MemPlace}
    (h : DataW.trod enc Tryd.prog w base spare held fuel 127 cs = some (Rows.laid_loop_example_g00215_impl_spans, p)) : cs = spansC.toList := by
  obtain ⟨xs, m, rfl, e, hl, hn, hel⟩ := DataW.trod_array Tryd.underlying127 h
  rw [c_spans] at hl
  simp only [Rows.laid_loop_example_g00215_impl_spans, Prod.mk.injEq, DataW.agg.injEq] at e
  obtain ⟨e, _⟩ := e
  match xs, hn with
  | [x0, x1, x2, x3, x4, x5], _ =>
    simp only [List.map_cons, List.map_nil, List.cons.injEq, and_true] at e
    obtain ⟨e0, e1, e2, e3, e4, e5⟩ := e
    have go : ∀ (i : Nat) (x : DataW H × List MemPlace) (a b c : Int), i < 6 → [x0, x1, x2, x3, x4, x5][i]? = some x → DataW.agg [.lit (.int .i64 a), .lit (.int .i64 b), .lit (.int .i64 c)] = x.1 → (cs.drop (i * 3)).take 3 = [.int .i64 a, .int .i64 b, .int .i64 c] := by
      intro i x a b c hi hx he
      have := hel i hi
      rw [c_span, hx] at this
      obtain ⟨x1, x2⟩ := x
      simp only at he
      rw [← he] at this
      exact span_open this
    have g0 := go 0 x0 _ _ _ (by decide) rfl e0
    have g1 := go 1 x1 _ _ _ (by decide) rfl e1
    have g2 := go 2 x2 _ _ _ (by decide) rfl e2
    have g3 := go 3 x3 _ _ _ (by decide) rfl e3
    have g4 := go 4 x4 _ _ _ (by decide) rfl e4
    have g5 := go 5 x5 _ _ _ (by decide) rfl e5
    match cs, hl with
    | [a0, a1, a2, a3, a4, a5, a6, a7, a8, a9, b0, b1, b2, b3, b4, b5, b6, b7], _ =>
      simp at g0 g1 g2 g3 g4 g5
      simp [spansC, g0, g1, g2, g3, g4, g5]
end
/-- What the row lists of the table is what the walks ask. -/
theorem spans_of_laid {W : World} (h : laidMetH Tryd.prog [("loop.example/g00215/impl.spans", Rows.laid_loop_example_g00215_impl_spans)] W) : SpansAt W := by
  rw [MakeChecks.laidMetH_plain _ _ _ (by kernel_rfl)] at h
  obtain ⟨ps, ⟨g0, t0, cs0, f0, p0, q0, hg0, ht0, hv0, hd0, _⟩, _⟩ := h
  obtain rfl := Option.some.inj (gSpans.symm.trans hg0)
  obtain rfl := Option.some.inj (tSpans.symm.trans ht0)
  have hcs := spans_open hd0
  have e : cs0 = spansC := by cases cs0; simp at hcs; rw [hcs]
  subst e
  unfold World.var? at hv0
  rw [gSpans] at hv0
  simp only [Option.bind_some] at hv0
  cases hh : W.heap[0]? with
  | none => rw [hh] at hv0; cases hv0
  | some o =>
    rw [hh] at hv0
    cases o with
    | cells c t fr => simp at hv0; subst hv0; exact ⟨t, fr, hh⟩
    | _ => simp at hv0
/-- The program's own start lays the table so. -/
theorem spans_door (os : Os) (args : Array Value) : laidMetH Tryd.prog [("loop.example/g00215/impl.spans", Rows.laid_loop_example_g00215_impl_spans)] ((World.doorLaid Tryd.prog 400 os).forCall (fun _ _ => 0) ⟨#[], args, []⟩).memory :=
  laidMetH_of_parts3 (fuel := 8) (laidMet_of_run' 8 (by kernel_rfl) (by kernel_rfl)) (by kernel_rfl) (by kernel_rfl)
end Go.Proofs.YtngbndfnhpjmjaaDoor
namespace Go.Proofs.YtngbndfnhpjmjaaDoor
open Go.ChangeShapes Go.WideShapes Go.ChangeAt Go.RowKit
section
instance : Inhabited Ce := ⟨Ce.zero⟩
variable {H : Type} {enc : TypeId × Value → H} {w : World} {base : Nat} {spare : Nat → Bool} {held : Bool}
set_option maxRecDepth 20000 in
theorem style_cs {fuel : Nat} {cs : List Value} {x : DataW H × List MemPlace} (hf : DataW.trod enc Tryd.prog w base spare held fuel 50 cs = some x) :
    ∃ s : St, cs = [.int .i64 s.fore, .int .i64 s.back, .bool s.bold, .bool s.under, .bool s.turned] := by
  obtain ⟨xs, n, _, _, hl, hlen, hfs⟩ := DataW.trod_struct Tryd.underlying50 hf
  have e : Tryd.prog.cellsOf 50 = 5 := by kernel_rfl
  have ei : Tryd.prog.cellsOf 2 = 1 := by kernel_rfl
  have eb : Tryd.prog.cellsOf 4 = 1 := by kernel_rfl
  match cs, hl.trans e, xs, hlen with
  | [c0, c1, c2, c3, c4], _, [x0, x1, x2, x3, x4], _ =>
    have h0 := hfs 0 _ rfl
    have h1 := hfs 1 _ rfl
    have h2 := hfs 2 _ rfl
    have h3 := hfs 3 _ rfl
    have h4 := hfs 4 _ rfl
    simp [ei, eb] at h0 h1 h2 h3 h4
    obtain ⟨k0, q0, _, _⟩ := DataW.trod_int Tryd.underlying2 h0
    obtain ⟨k1, q1, _, _⟩ := DataW.trod_int Tryd.underlying2 h1
    obtain ⟨k2, q2, _⟩ := DataW.trod_bool Tryd.underlying4 h2
    obtain ⟨k3, q3, _⟩ := DataW.trod_bool Tryd.underlying4 h3
    obtain ⟨k4, q4, _⟩ := DataW.trod_bool Tryd.underlying4 h4
    simp at q0 q1 q2 q3 q4
    subst q0; subst q1; subst q2; subst q3; subst q4
    exact ⟨⟨k0, k1, k2, k3, k4⟩, rfl⟩
set_option maxRecDepth 20000 in
theorem cell_cs {fuel : Nat} {cs : List Value} {x : DataW H × List MemPlace} (hf : DataW.trod enc Tryd.prog w base spare held fuel 123 cs = some x) :
    ∃ c : Ce, cs = ceL c := by
  obtain ⟨xs, n, _, _, hl, hlen, hfs⟩ := DataW.trod_struct Tryd.underlying123 hf
  have e : Tryd.prog.cellsOf 123 = 7 := by kernel_rfl
  have es : Tryd.prog.cellsOf 50 = 5 := by kernel_rfl
  have ei : Tryd.prog.cellsOf 2 = 1 := by kernel_rfl
  match cs, hl.trans e, xs, hlen with
  | [c0, c1, c2, c3, c4, c5, c6], _, [x0, x1, x2], _ =>
    have h0 := hfs 0 _ rfl
    have h1 := hfs 1 _ rfl
    have h2 := hfs 2 _ rfl
    simp [ei, es] at h0 h1 h2
    obtain ⟨k0, q0, _, _⟩ := DataW.trod_int Tryd.underlying2 h0
    obtain ⟨s, q1⟩ := style_cs h1
    obtain ⟨k2, q2, _, _⟩ := DataW.trod_int Tryd.underlying2 h2
    simp at q0 q1 q2
    obtain ⟨r1, r2, r3, r4, r5⟩ := q1
    subst q0; subst r1; subst r2; subst r3; subst r4; subst r5; subst q2
    exact ⟨⟨k0, s, k2⟩, rfl⟩
end
end Go.Proofs.YtngbndfnhpjmjaaDoor
namespace Go.Proofs.YtngbndfnhpjmjaaDoor
open Go.ChangeShapes Go.WideShapes Go.ChangeAt Go.RowKit
section
variable {H : Type} {enc : TypeId × Value → H} {w : World} {base : Nat} {spare : Nat → Bool} {held : Bool}
set_option maxRecDepth 20000 in
theorem cells_tr {fuel : Nat} {cs : List Value} {y : DataW H × List MemPlace} (hf : DataW.trod enc Tryd.prog w base spare held fuel 99 cs = some y) :
    ∃ (v : Value) (xs : List Ce), cs = [v] ∧ SlC w v xs ∧ xs.length ≤ maxLen := by
  have e : Tryd.prog.cellsOf 123 = 7 := by kernel_rfl
  rcases Go.Deep.open_slice Tryd.underlying99 hf with ⟨hcs, _⟩ | ⟨x, len, cap, m, n, D, Pl, hcs, _, hl, hm, hmm, _, hx⟩
  · exact ⟨_, [], hcs, ⟨none, 0, rfl, Nat.le_refl _, fun _ => rfl, .inl rfl⟩, by simp⟩
  · have hlm : len ≤ m := by rw [hmm]; split <;> omega
    rw [e] at hx
    obtain ⟨f, hfc⟩ := Go.Deep.choose_lt (α := Ce) (n := len) (p := fun i q => w.cells? base (x.add (i * 7)) 7 = some (ceL q)) (fun i hi => by
      obtain ⟨cs', h1, h2⟩ := hx i (by omega)
      obtain ⟨q, rfl⟩ := cell_cs h2
      exact ⟨q, h1⟩)
    have hlen : ((List.range len).map f).length = len := by simp
    refine ⟨_, (List.range len).map f, hcs, ⟨some x, cap, by rw [hlen], by rw [hlen]; exact hl, (fun h => by cases h), ?_⟩, by rw [hlen]; omega⟩
    by_cases h0 : len = 0
    · left; subst h0; rfl
    · right
      have hc : ∀ i, i < len → ∀ k, k < 7 → w.cell? ((x.add (i * 7)).add k) = (ceL (f i))[k]? := fun i hi k hk => by
        obtain ⟨_, hl7, hcell⟩ := World.cells?_some (hfc i hi)
        exact hcell k hk
      obtain ⟨b, off, spot⟩ := x
      have h1 := hc 0 (by omega) 0 (by decide)
      have hspot : spot = none := by
        have h1' : w.cell? ((⟨b, off, spot⟩ : Addr).add 0) = some (.int .i64 (f 0).rune) := by simpa [Addr.add, ceL] using h1
        simpa [Addr.add] using World.cell?_spot h1'
      subst hspot
      refine ⟨b, off, rfl, ?_, fun i hi => ?_⟩
      · have h1' : w.cell? ((⟨b, off, none⟩ : Addr).add 0) = some (.int .i64 (f 0).rune) := by simpa [Addr.add, ceL] using h1
        exact World.block_lt_of_cell? w _ h1'
      · rw [hlen] at hi
        have ef : atC ((List.range len).map f) i = f i := by simp [atC, hi]
        rw [ef]
        have g := fun k hk => hc i hi k hk
        have ea : ∀ k, (((⟨b, off, none⟩ : Addr).add (i * 7)).add k) = ⟨b, off + i * 7 + k, none⟩ := fun k => by rw [Addr.add_mid, Addr.add_mid]
        simp only [ea] at g
        exact ⟨by simpa [ceL] using g 0 (by decide), by simpa [ceL] using g 1 (by decide), by simpa [ceL] using g 2 (by decide), by simpa [ceL] using g 3 (by decide), by simpa [ceL] using g 4 (by decide), by simpa [ceL] using g 5 (by decide), by simpa [ceL] using g 6 (by decide)⟩
set_option maxRecDepth 20000 in
theorem rows_tr {fuel : Nat} {cs : List Value} {y : DataW H × List MemPlace} (hf : DataW.trod enc Tryd.prog w base spare held fuel 44 cs = some y) :
    ∃ (v : Value) (rows : List (List Ce)), cs = [v] ∧ SlG w v rows ∧ rows.length ≤ maxLen ∧ ∀ i, i < rows.length → (rowX rows i).length ≤ maxLen := by
  have e : Tryd.prog.cellsOf 99 = 1 := by kernel_rfl
  rcases Go.Deep.open_slice1 Tryd.underlying44 e hf with ⟨hcs, _⟩ | ⟨x, len, cap, m, n, V, D, Pl, hcs, _, hl, hm, hmm, _, hx⟩
  · exact ⟨_, [], hcs, ⟨none, 0, [], rfl, Nat.le_refl _, fun _ => rfl, .inl rfl, fun i h => absurd h (Nat.not_lt_zero i)⟩, by simp, fun i h => absurd h (Nat.not_lt_zero i)⟩
  · have hlm : len ≤ m := by rw [hmm]; split <;> omega
    obtain ⟨f, hfc⟩ := Go.Deep.choose_lt (α := List Ce) (n := len) (p := fun i xs => SlC w (V i) xs ∧ xs.length ≤ maxLen) (fun i hi => by
      obtain ⟨h1, h2⟩ := hx i (by omega)
      obtain ⟨v, xs, hv, hs, hle⟩ := cells_tr h2
      simp at hv
      subst hv
      exact ⟨xs, hs, hle⟩)
    have hlen : ((List.range len).map f).length = len := by simp
    have hvl : ((List.range len).map V).length = len := by simp
    have hX : ∀ i, i < len → rowX ((List.range len).map f) i = f i := fun i hi => by simp [rowX, List.getD, hi]
    have hV : ∀ i, i < len → rowV ((List.range len).map V) i = V i := fun i hi => by simp [rowV, List.getD, hi]
    refine ⟨_, (List.range len).map f, hcs, ⟨some x, cap, (List.range len).map V, by rw [hlen], by rw [hlen]; exact hl, (fun h => by cases h), ?_, fun i hi => ?_⟩, by rw [hlen]; omega, fun i hi => ?_⟩
    · by_cases h0 : len = 0
      · left; subst h0; rfl
      · right
        obtain ⟨b, off, spot⟩ := x
        have h1 := (hx 0 (by omega)).1
        have h1c : w.cell? ⟨b, off, spot⟩ = some (V 0) := by
          have : (⟨b, off, spot⟩ : Addr).add 0 = ⟨b, off, spot⟩ := by unfold Addr.add; split <;> simp_all
          rwa [this] at h1
        have hspot : spot = none := World.cell?_spot h1c
        subst hspot
        refine ⟨b, off, rfl, World.block_lt_of_cell? w _ h1c, fun i hi => ?_⟩
        rw [hlen] at hi
        rw [hV i hi, ← (hx i (by omega)).1, Addr.add_mid]
    · rw [hlen] at hi
      rw [hV i hi, hX i hi]
      exact (hfc i hi).1
    · rw [hlen] at hi
      rw [hX i hi]
      exact (hfc i hi).2
set_option maxRecDepth 20000 in
theorem grid_view {b0 : Nat} {r : Reach} {v : Value} {d : DataW H} {p : List MemPlace} (hv : Value.okWide Tryd.prog w r b0 46 v) (h : DataW.Trod enc Tryd.prog w base spare held 46 v d p) :
    ∃ (cols : Int) (u : Value) (rows : List (List Ce)), v = gridV cols u ∧ SlG w u rows ∧ rows.length ≤ maxLen ∧ ∀ i, i < rows.length → (rowX rows i).length ≤ maxLen := by
  obtain ⟨cs, rfl, hsz⟩ := okWide_struct Tryd.underlying46 hv
  obtain ⟨fuel, hf⟩ := h
  obtain ⟨xs, n, _, _, hl, hlen, hfs⟩ := DataW.trod_struct Tryd.underlying46 hf
  have e : Tryd.prog.cellsOf 46 = 2 := by kernel_rfl
  have ei : Tryd.prog.cellsOf 2 = 1 := by kernel_rfl
  have er : Tryd.prog.cellsOf 44 = 1 := by kernel_rfl
  obtain ⟨l⟩ := cs
  match l, hsz.trans e, xs, hlen with
  | [c0, c1], _, [x0, x1], _ =>
    have h0 := hfs 0 _ rfl
    have h1 := hfs 1 _ rfl
    simp [Value.cells, ei, er] at h0 h1
    obtain ⟨k0, q0, _, _⟩ := DataW.trod_int Tryd.underlying2 h0
    obtain ⟨u, rows, q1, hs, hle, hxl⟩ := rows_tr h1
    simp at q0 q1
    subst q0; subst q1
    exact ⟨_, _, rows, rfl, hs, hle, hxl⟩
end
end Go.Proofs.YtngbndfnhpjmjaaDoor
