/- Drawn numbers and texts of the chapter of widths. -/
import Derived.Test.YticogomjpefoeaaDoorDraw7
namespace Go.Proofs.YticogomjpefoeaaDoor
open Go.ChangeShapes Go.WideShapes Go.ChangeAt Go.RowKit

set_option maxHeartbeats 1000000 in
set_option maxRecDepth 20000 in
theorem drawWidth_a (v : Value) (xs : List Int) (w : World) (hv : SlB w v xs) :
    Calls Tryd.prog 5 #[v] w fun e w' => ∃ r : Int, e = .returned (.int .i64 r) ∧ Below w.heap.size w w' := by
  go_enter Tryd.func5, Tryd.ntmps5
  go_wp2_with fail
  refine (l1New_a v xs _ hv).mono ?_
  rintro e w1 ⟨rfl, hc1, hb1⟩
  go_wp2_with fail
  refine (l1Once_a _ v xs 2 _ hc1).mono ?_
  rintro e w2 ⟨b, rfl, hc2, hg2⟩
  have hb2 := below_of_grown7 hb1 hg2 (Nat.le_refl _)
  clear hc1 hb1 hg2
  cases b
  · go_wp2_with fail
    refine (drawRuneOk_a v xs _ (hv.below hb2)).mono ?_
    rintro e w3 ⟨r, rfl, -, hb3⟩
    go_wp2
    go_ret
    exact ⟨r, rfl, hb2.trans (hb3.mono hb2.size)⟩
  · go_wp2_with fail
    refine (l1Below_a _ v xs 22 _ (hc2.below (bal w2 _))).mono ?_
    rintro e w3 ⟨x, rfl, hx0, hx1, _, hc3, hg3⟩
    obtain ⟨k, y, rfl, hk, hy, hcell⟩ := i64_lit w.heap.size RW 22 rfl 2 hg3 hc2.1 x hx0 (hx1 (by omega))
    have hb3 := below_of_grown7 hb2 (gtr (World.grownBy_alloc w2 _ (some w.heap.size)) hg3) (Nat.le_refl _)
    have hki : (k : Int) < 22 := hk
    clear hg3 hx1
    go_wp2
    go_ret
    exact ⟨y, rfl, hb3⟩
theorem drawTextWidth_a (v : Value) (xs : List Int) (w : World) (hv : SlB w v xs) :
    Calls Tryd.prog 6 #[v] w fun e w' => ∃ s : ByteArray, e = .returned (.string s) ∧ s.size ≤ 40 ∧ Below w.heap.size w w' := by
  go_enter Tryd.func6, Tryd.ntmps6
  go_wp2_with fail
  refine (drawGet_a v xs _ hv).mono ?_
  rintro e w1 ⟨s, rfl, hs, hb1⟩
  go_wp2
  go_ret
  exact ⟨s, rfl, hs, hb1⟩
set_option maxHeartbeats 1000000 in
theorem drawFitting_a (v : Value) (xs : List Int) (w : World) (hv : SlB w v xs) :
    Calls Tryd.prog 7 #[v] w fun e w' => ∃ (s : ByteArray) (n : Int), e = .returned (.tuple #[.string s, .int .i64 n]) ∧ s.size ≤ 40 ∧ Below w.heap.size w w' := by
  go_enter Tryd.func7, Tryd.ntmps7
  go_wp2_with fail
  refine (l1New_a v xs _ hv).mono ?_
  rintro e w1 ⟨rfl, hc1, hb1⟩
  go_wp2_with fail
  refine (l1DrawBytes_a _ v xs _ hc1).mono ?_
  rintro e w2 ⟨s, rfl, hs, hc2, hg2⟩
  have hb2 := below_of_grown7 hb1 hg2 (Nat.le_refl _)
  clear hc1 hb1 hg2
  go_wp2_with fail
  refine (l1Below_a _ v xs 9 _ hc2).mono ?_
  rintro e w3 ⟨n, rfl, hn0, hn1, _, hc3, hg3⟩
  have hb3 := below_of_grown7 hb2 hg3 (Nat.le_refl _)
  clear hc2 hb2 hg3
  go_wp2_with fail
  refine (l1Once_a _ v xs 10 _ hc3).mono ?_
  rintro e w4 ⟨b, rfl, hc4, hg4⟩
  have hb4 := below_of_grown7 hb3 hg4 (Nat.le_refl _)
  clear hc3 hb3 hg4
  cases b
  · go_wp2
    go_ret2
    exact ⟨s, n, rfl, hs, hb4⟩
  · go_wp2_with fail
    refine (l1Below_a _ v xs 4 _ (hc4.below (bal w4 _))).mono ?_
    rintro e w5 ⟨x, rfl, hx0, hx1, _, hc5, hg5⟩
    obtain ⟨k, y, rfl, hk, hy, hcell⟩ := i64_lit w.heap.size RC 4 rfl 2 hg5 hc4.1 x hx0 (hx1 (by omega))
    have hb5 := below_of_grown7 hb4 (gtr (World.grownBy_alloc w4 _ (some w.heap.size)) hg5) (Nat.le_refl _)
    have hki : (k : Int) < 4 := hk
    clear hg5 hx1
    go_wp2
    go_ret2
    exact ⟨s, y, rfl, hs, hb5⟩
end Go.Proofs.YticogomjpefoeaaDoor
