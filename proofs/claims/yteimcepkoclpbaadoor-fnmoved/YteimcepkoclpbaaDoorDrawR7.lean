/- Rows to push, drawn. -/
import Derived.Test.YteimcepkoclpbaaDoorDrawR5
namespace Go.Proofs.YteimcepkoclpbaaDoor
open Go.ChangeShapes Go.WideShapes Go.ChangeAt Go.RowKit

set_option maxHeartbeats 1000000 in
set_option maxRecDepth 20000 in
theorem drawPushed_a (v : Value) (xs : List Int) (w : World) (hv : SlB w v xs) :
    Calls Tryd.prog 24 #[v] w fun e w' => ∃ u L p q s, e = .returned (.tuple #[u, .int .i64 p, .int .i64 q, stV s]) ∧ L.length ≤ 100 ∧ OwnC w' w.heap.size u L ∧ Below w.heap.size w w' := by
  have h0 := StAt.new w St.zero 26
  have hbA := bal w (Obj.cells #[.int .i64 0, .int .i64 0, .bool false, .bool false, .bool false] 26)
  have eA : (w.alloc (Obj.cells #[.int .i64 0, .int .i64 0, .bool false, .bool false, .bool false] 26)).heap.size = w.heap.size + 1 := by simp
  simp only [St.zero] at h0
  go_enter Tryd.func24, Tryd.ntmps24
  go_wp2_with fail
  generalize w.alloc (Obj.cells #[.int .i64 0, .int .i64 0, .bool false, .bool false, .bool false] 26) = W0 at *
  refine (l1New_a v xs _ (hv.below hbA)).mono ?_
  rintro e w1 ⟨rfl, hc1, hb1⟩
  have k1 := h0.below hb1
  have hb1' := hbA.trans (hb1.mono (by omega))
  rw [eA] at hc1 ⊢
  clear h0 hbA hb1 eA
  go_wp2_with fail
  refine (l4DrawAny_a _ v xs _ hc1).mono ?_
  rintro e w2 ⟨u, L, rfl, hl, kr⟩
  have hg2 := kr.2.2.1
  have hgl : w.heap.size + 1 < w1.heap.size := hc1.1
  have kd : KD w.heap.size (w.heap.size + 1) w1.heap.size v xs u L w w2 :=
    ⟨k1.drawn hg2 (by omega), kr.1, kr.2.1, hb1'.grown hg2 hb1'.size (fun k hk => by cases hk; omega), by omega, hgl, Nat.le_refl _⟩
  obtain ⟨a, c, rfl, _⟩ := SlC.of_own kr.1
  clear k1 hb1' hc1 hg2 kr hv
  generalize w1.heap.size = base at *
  go_wp2_with fail
  refine (l4DrawAt_a _ v xs L.length _ kd.2.2.1 (by omega)).mono ?_
  rintro e w3 ⟨y, rfl, hc, hg⟩
  have k3 := kd.cur hc hg
  clear kd hc hg
  go_wp2_with fail
  refine (l4DrawAt_a _ v xs (L.length + 1) _ k3.2.2.1 (by omega)).mono ?_
  rintro e w4 ⟨z, rfl, hc, hg⟩
  have k4 := k3.cur hc hg
  clear k3 hc hg
  go_wp2_with fail
  refine (l3DrawAny_a _ v xs _ k4.2.2.1).mono ?_
  rintro e w5 ⟨s, rfl, hc, hg⟩
  have k5 := k4.cur hc hg
  clear k4 hc hg
  obtain ⟨kP, ho, hb⟩ := k5.put s
  obtain ⟨_, ⟨d0, d1, d2, d3, d4⟩, ⟨y0, y1, y2, y3, y4⟩⟩ := k5.1
  obtain ⟨_, ⟨e0, e1, e2, e3, e4⟩, _⟩ := kP
  simp only [putSt, St.zero] at ho hb e0 e1 e2 e3 e4 d0 d1 d2 d3 d4
  clear k5
  unfold stV
  go_wp2
  exact bodyPost_ret (v := .tuple #[.slice a L.length c, .int .i64 y, .int .i64 z, .agg #[.int .i64 s.fore, .int .i64 s.back, .bool s.bold, .bool s.under, .bool s.turned]]) (by simp [results, Tryd.results24, go_sem, e0, e1, e2, e3, e4]) rfl ⟨_, L, y, _, s, rfl, hl, ho, hb⟩
end Go.Proofs.YteimcepkoclpbaaDoor
