/- Styles drawn. -/
import Derived.Test.YteimcepkoclpbaaDoorS1A
import Derived.Test.YteimcepkoclpbaaDoorDraw1
namespace Go.Proofs.YteimcepkoclpbaaDoor
open Go.ChangeShapes Go.WideShapes Go.ChangeAt Go.RowKit

theorem StAt.drawn {w w' : World} {B g : Nat} {s : St} (h : StAt w B s) (hg : w.grownBy w' (some g)) (hne : g ≠ B) : StAt w' B s := h.grown hg (by intro e; cases e; exact hne rfl)
theorem putSt_cur {w : World} {g B : Nat} {v : Value} {xs : List Int} (h : CurAt w g v xs) (hlt : g < B) (s : St) : CurAt (putSt w B s) g v xs := h.grown_own (putSt_grown w B s) (fun k hk => by cases hk; exact hlt)
theorem putSt_up {w0 w : World} {g B : Nat} (h : w0.grownBy w (some g)) (hB : w0.heap.size ≤ B) (s : St) : w0.grownBy (putSt w B s) (some g) := grownBy_own h (putSt_grown w B s) (fun k hk => by cases hk; exact hB)

set_option maxHeartbeats 2000000 in
theorem l3Draw_a (g : Nat) (v : Value) (xs : List Int) (w : World) (hc : CurAt w g v xs) :
    Calls Tryd.prog 68 #[.pointer (some ⟨g, 0, none⟩)] w fun e w' => ∃ s : St, e = .returned (stV s) ∧ CurAt w' g v xs ∧ w.grownBy w' (some g) := by
  have hlt := hc.1
  have h0 := StAt.new w St.zero 26
  have hg0 := World.grownBy_alloc w (Obj.cells #[.int .i64 0, .int .i64 0, .bool false, .bool false, .bool false] 26) (some g)
  have hc0 := hc.below (bal w (Obj.cells #[.int .i64 0, .int .i64 0, .bool false, .bool false, .bool false] 26))
  go_enter Tryd.func68, Tryd.ntmps68
  go_wp2_with fail
  refine (l1Once_a g v xs 3 _ hc0).mono ?_
  rintro e w1 ⟨b, rfl, hc1, hg1⟩
  have k1 := h0.drawn hg1 (by omega)
  have hu1 := gtr hg0 hg1
  clear h0 hg0 hc0 hg1
  cases b
  · go_wp2_with fail
    refine (l1Below_a g v xs 9 _ hc1).mono ?_
    rintro e w2 ⟨x1, rfl, _, _, _, hc2, hg2⟩
    have k2 := k1.drawn hg2 (by omega)
    have hu2 := gtr hu1 hg2
    clear hg2 k1 hu1 hc1
    go_wp2_with fail
    refine (l1Below_a g v xs 9 _ hc2).mono ?_
    rintro e w3 ⟨x2, rfl, _, _, _, hc3, hg3⟩
    have k3 := k2.drawn hg3 (by omega)
    have hu3 := gtr hu2 hg3
    clear hg3 k2 hu2 hc2
    go_wp2_with fail
    refine (l1Once_a g v xs 3 _ hc3).mono ?_
    rintro e w4 ⟨b3, rfl, hc4, hg4⟩
    have k4 := k3.drawn hg4 (by omega)
    have hu4 := gtr hu3 hg4
    clear hg4 k3 hu3 hc3
    go_wp2_with fail
    refine (l1Once_a g v xs 4 _ hc4).mono ?_
    rintro e w5 ⟨b4, rfl, hc5, hg5⟩
    have k5 := k4.drawn hg5 (by omega)
    have hu5 := gtr hu4 hg5
    clear hg5 k4 hu4 hc4
    go_wp2_with fail
    refine (l1Once_a g v xs 4 _ hc5).mono ?_
    rintro e w6 ⟨b5, rfl, hc6, hg6⟩
    have k6 := k5.drawn hg6 (by omega)
    have hu6 := gtr hu5 hg6
    clear hg6 k5 hu5 hc5
    have kP := k6.put ⟨x1, x2, b3, b4, b5⟩
    have cP := putSt_cur hc6 hlt ⟨x1, x2, b3, b4, b5⟩
    have uP := putSt_up hu6 (Nat.le_refl w.heap.size) ⟨x1, x2, b3, b4, b5⟩
    obtain ⟨_, ⟨d0, d1, d2, d3, d4⟩, ⟨y0, y1, y2, y3, y4⟩⟩ := k6
    obtain ⟨_, ⟨e0, e1, e2, e3, e4⟩, _⟩ := kP
    simp only [putSt] at cP uP e0 e1 e2 e3 e4
    go_wp2
    exact bodyPost_ret (v := .agg #[.int .i64 x1, .int .i64 x2, .bool b3, .bool b4, .bool b5]) (by simp [results, Tryd.results68, go_sem, e0, e1, e2, e3, e4]) rfl ⟨⟨x1, x2, b3, b4, b5⟩, rfl, cP, uP⟩
  · have kP := k1.put St.zero
    have cP := putSt_cur hc1 hlt St.zero
    have uP := putSt_up hu1 (Nat.le_refl w.heap.size) St.zero
    obtain ⟨_, ⟨d0, d1, d2, d3, d4⟩, ⟨y0, y1, y2, y3, y4⟩⟩ := k1
    obtain ⟨_, ⟨e0, e1, e2, e3, e4⟩, _⟩ := kP
    simp only [putSt, St.zero] at cP uP e0 e1 e2 e3 e4 d0 d1 d2 d3 d4
    go_wp2
    exact bodyPost_ret (v := .agg #[.int .i64 0, .int .i64 0, .bool false, .bool false, .bool false]) (by simp [results, Tryd.results68, go_sem, e0, e1, e2, e3, e4]) rfl ⟨St.zero, rfl, cP, uP⟩
theorem StAt.setFore {w : World} {B : Nat} {s : St} (h : StAt w B s) (y : Int) : StAt (w.setCell ⟨B, 0, none⟩ (.int .i64 y)) B { s with fore := y } := by
  obtain ⟨hlt, ⟨c0, c1, c2, c3, c4⟩, ⟨z0, z1, z2, z3, z4⟩⟩ := h
  refine ⟨by simpa using hlt, ⟨by simp [go_sem, c0], ?_, ?_, ?_, ?_⟩, ⟨by simp [go_sem, z0], by simp [go_sem, z1], by simp [go_sem, z2], by simp [go_sem, z3], by simp [go_sem, z4]⟩⟩
  · rw [setCell_ne' _ _ _ _ _ (by decide)]; exact c1
  · rw [setCell_ne' _ _ _ _ _ (by decide)]; exact c2
  · rw [setCell_ne' _ _ _ _ _ (by decide)]; exact c3
  · rw [setCell_ne' _ _ _ _ _ (by decide)]; exact c4
def RF : List Int := [-1, 8, 9, 4611686018427387904]
set_option maxHeartbeats 2000000 in
theorem l3DrawAny_a (g : Nat) (v : Value) (xs : List Int) (w : World) (hc : CurAt w g v xs) :
    Calls Tryd.prog 41 #[.pointer (some ⟨g, 0, none⟩)] w fun e w' => ∃ s : St, e = .returned (stV s) ∧ CurAt w' g v xs ∧ w.grownBy w' (some g) := by
  have hlt := hc.1
  have h0 := StAt.new w St.zero 26
  have hg0 := World.grownBy_alloc w (Obj.cells #[.int .i64 0, .int .i64 0, .bool false, .bool false, .bool false] 26) (some g)
  have hc0 := hc.below (bal w (Obj.cells #[.int .i64 0, .int .i64 0, .bool false, .bool false, .bool false] 26))
  go_enter Tryd.func41, Tryd.ntmps41
  go_wp2_with fail
  refine (l3Draw_a g v xs _ hc0).mono ?_
  rintro e w1 ⟨s, rfl, hc1, hg1⟩
  have k1 := h0.drawn hg1 (by omega)
  have hu1 := gtr hg0 hg1
  have hl1 : w.heap.size < w1.heap.size := k1.1
  have kA := k1.below (bal w1 (Obj.cells #[.int .i64 s.fore, .int .i64 s.back, .bool s.bold, .bool s.under, .bool s.turned] 26))
  have sA := StAt.new w1 s 26
  have cA := hc1.below (bal w1 (Obj.cells #[.int .i64 s.fore, .int .i64 s.back, .bool s.bold, .bool s.under, .bool s.turned] 26))
  have uA := gtr hu1 (World.grownBy_alloc w1 (Obj.cells #[.int .i64 s.fore, .int .i64 s.back, .bool s.bold, .bool s.under, .bool s.turned] 26) (some g))
  have hg1' : g < w1.heap.size := hc1.1
  clear h0 hg0 hc0 hg1 k1 hu1 hc1
  unfold stV
  go_wp2_with fail
  refine (l1Once_a g v xs 14 _ cA).mono ?_
  rintro e w2 ⟨b, rfl, hc2, hg2⟩
  have k2 := kA.drawn hg2 (by omega)
  have s2 := sA.drawn hg2 (by omega)
  have u2 := gtr uA hg2
  clear kA sA cA uA hg2
  generalize w1.heap.size = B3 at *
  have fin : ∀ (W : World) (y : St), StAt W w.heap.size St.zero → CurAt W g v xs → w.grownBy W (some g) → CurAt (putSt W w.heap.size y) g v xs ∧ w.grownBy (putSt W w.heap.size y) (some g) ∧ StAt (putSt W w.heap.size y) w.heap.size y := fun W y a1 a2 a3 => ⟨putSt_cur a2 hlt y, putSt_up a3 (Nat.le_refl _) y, a1.put y⟩
  cases b
  · obtain ⟨cP, uP, kP⟩ := fin w2 s k2 hc2 u2
    obtain ⟨_, ⟨d0, d1, d2, d3, d4⟩, ⟨y0, y1, y2, y3, y4⟩⟩ := k2
    obtain ⟨_, ⟨f0, f1, f2, f3, f4⟩, _⟩ := s2
    obtain ⟨_, ⟨e0, e1, e2, e3, e4⟩, _⟩ := kP
    simp only [putSt, St.zero] at cP uP e0 e1 e2 e3 e4 d0 d1 d2 d3 d4
    clear fin
    go_wp2
    exact bodyPost_ret (v := .agg #[.int .i64 s.fore, .int .i64 s.back, .bool s.bold, .bool s.under, .bool s.turned]) (by simp [results, Tryd.results41, go_sem, e0, e1, e2, e3, e4]) rfl ⟨s, rfl, cP, uP⟩
  · go_wp2_with fail
    have hl2 : g < w2.heap.size := hc2.1
    refine (l1Below_a g v xs 4 _ (hc2.below (bal w2 _))).mono ?_
    rintro e w3 ⟨x, rfl, hx0, hx1, _, hc3, hg3⟩
    obtain ⟨k, rfl⟩ : ∃ k : Nat, x = k := ⟨x.toNat, by omega⟩
    have hk : k < 4 := by have := hx1 (by omega); omega
    have hki : (k : Int) < 4 := by omega
    have hcell := lit_pick RF .i64 2 hg3 hl2 k hk
    have hgA := gtr (World.grownBy_alloc w2 _ (some g)) hg3
    have k3 := k2.drawn hgA (by omega)
    have s3 := s2.drawn hgA (by omega)
    have u3 := gtr u2 hgA
    generalize RF.getD k 0 = y at *
    have s4 := s3.setFore y
    have g4 := setCell_gr w3 B3 0 (.int .i64 y)
    have k4 := k3.grown g4 (by intro e; cases e; omega)
    have c4 := hc3.grown_own g4 (fun q hq => by cases hq; omega)
    have u4 := grownBy_own u3 g4 (fun q hq => by cases hq; omega)
    obtain ⟨_, ⟨b0, _, _, _, _⟩, ⟨a0, _, _, _, _⟩⟩ := s3
    obtain ⟨cP, uP, kP⟩ := fin _ { s with fore := y } k4 c4 u4
    obtain ⟨_, ⟨d0, d1, d2, d3, d4⟩, ⟨y0, y1, y2, y3, y4⟩⟩ := k4
    obtain ⟨_, ⟨f0, f1, f2, f3, f4⟩, _⟩ := s4
    obtain ⟨_, ⟨e0, e1, e2, e3, e4⟩, _⟩ := kP
    simp only [putSt, St.zero] at cP uP e0 e1 e2 e3 e4 d0 d1 d2 d3 d4
    clear fin hg3 hgA hx1 k2 s2 k3 g4
    go_wp2
    exact bodyPost_ret (v := .agg #[.int .i64 y, .int .i64 s.back, .bool s.bold, .bool s.under, .bool s.turned]) (by simp [results, Tryd.results41, go_sem, e0, e1, e2, e3, e4]) rfl ⟨{ s with fore := y }, rfl, cP, uP⟩
end Go.Proofs.YteimcepkoclpbaaDoor
