/- Two styles drawn. -/
import Derived.Test.YtjcoebabipmmhaaDoorDrawSt
import Derived.Deep.RegionWith
namespace Go.Proofs.YtjcoebabipmmhaaDoor
open Go.ChangeShapes Go.WideShapes Go.ChangeAt Go.RowKit

theorem below_gr3 {w0 w w' : World} {g : Nat} (hb : Below w0.heap.size w0 w) (hg : w.grownBy w' (some g)) (h : w0.heap.size ≤ g) : Below w0.heap.size w0 w' :=
  hb.grown hg hb.size (fun k hk => by cases hk; exact h)
/-- The two answers' places, the first style, the cursor. -/
def D2 (B5 g : Nat) (s : St) (v : Value) (xs : List Int) (w0 W : World) : Prop :=
  StAt W w0.heap.size St.zero ∧ StAt W (w0.heap.size + 1) St.zero ∧ StAt W B5 s ∧ CurAt W g v xs ∧ Below w0.heap.size w0 W
theorem D2.drew {B5 g : Nat} {s : St} {v : Value} {xs : List Int} {w0 W : World} (k : D2 B5 g s v xs w0 W) : D2 B5 g s v xs w0 W.drew :=
  ⟨k.1.below (bdr W), k.2.1.below (bdr W), k.2.2.1.below (bdr W), k.2.2.2.1.below (bdr W), k.2.2.2.2.trans ((bdr W).mono k.2.2.2.2.size)⟩
theorem l3DrawAny_d2 (B5 g : Nat) (s : St) (v : Value) (xs : List Int) (w0 W : World) (k : D2 B5 g s v xs w0 W) (h0 : w0.heap.size + 1 < g) (h5 : g < B5) :
    Calls Tryd.prog 19 #[.pointer (some ⟨g, 0, none⟩)] W fun e w' => ∃ y : St, e = .returned (.agg #[.int .i64 y.fore, .int .i64 y.back, .bool y.bold, .bool y.under, .bool y.turned]) ∧ D2 B5 g s v xs w0 w' :=
  (l3DrawAny_a g v xs W k.2.2.2.1).mono fun _ _ ⟨y, he, hc, hg⟩ => ⟨y, he, k.1.drawn hg (by omega), k.2.1.drawn hg (by omega), k.2.2.1.drawn hg (by omega), hc, below_gr3 k.2.2.2.2 hg (by omega)⟩
/-- Both styles in their places. -/
theorem D2.fin {B5 g : Nat} {s : St} {v : Value} {xs : List Int} {w0 W : World} (k : D2 B5 g s v xs w0 W) (y : St) :
    StAt (putSt (putSt W w0.heap.size s) (w0.heap.size + 1) y) w0.heap.size s ∧ StAt (putSt (putSt W w0.heap.size s) (w0.heap.size + 1) y) (w0.heap.size + 1) y ∧ Below w0.heap.size w0 (putSt (putSt W w0.heap.size s) (w0.heap.size + 1) y) := by
  have g1 := putSt_grown W w0.heap.size s
  have g2 := putSt_grown (putSt W w0.heap.size s) (w0.heap.size + 1) y
  have k2 := k.2.1.grown g1 (by simp)
  exact ⟨(k.1.put s).grown g2 (by simp), k2.put y, own_lift (own_lift k.2.2.2.2 g1 (Nat.le_refl _)) g2 (by omega)⟩

set_option maxHeartbeats 4000000 in
set_option maxRecDepth 20000 in
theorem drawParams_a (v : Value) (xs : List Int) (w : World) (hv : SlB w v xs) :
    Calls Tryd.prog 8 #[v] w fun e w' => ∃ s y : St, e = .returned (.tuple #[stV s, stV y]) ∧ Below w.heap.size w w' := by
  have h0 := StAt.new w St.zero 25
  have h1 := StAt.new (w.alloc (Obj.cells #[.int .i64 0, .int .i64 0, .bool false, .bool false, .bool false] 25)) St.zero 25
  have e1 : (w.alloc (Obj.cells #[.int .i64 0, .int .i64 0, .bool false, .bool false, .bool false] 25)).heap.size = w.heap.size + 1 := by simp
  rw [e1] at h1
  have h0' := h0.below (bal _ (Obj.cells #[.int .i64 0, .int .i64 0, .bool false, .bool false, .bool false] 25))
  have hbA : Below w.heap.size w ((w.alloc (Obj.cells #[.int .i64 0, .int .i64 0, .bool false, .bool false, .bool false] 25)).alloc (Obj.cells #[.int .i64 0, .int .i64 0, .bool false, .bool false, .bool false] 25)) := (bal _ _).trans ((bal _ _).mono (by simp))
  have eA : ((w.alloc (Obj.cells #[.int .i64 0, .int .i64 0, .bool false, .bool false, .bool false] 25)).alloc (Obj.cells #[.int .i64 0, .int .i64 0, .bool false, .bool false, .bool false] 25)).heap.size = w.heap.size + 1 + 1 := by simp
  go_enter Tryd.func8, Tryd.ntmps8
  go_wp2_with fail
  refine (l1New_a v xs _ (hv.below hbA)).mono ?_
  rintro e w1 ⟨rfl, hc1, hb1⟩
  have k0 := h0'.below hb1
  have k1 := h1.below hb1
  have hb1' := hbA.trans (hb1.mono (by simp; omega))
  rw [eA] at hc1 ⊢
  clear h0 h1 e1 h0' hbA hb1 eA
  go_wp2_with fail
  refine (l3DrawAny_a _ v xs _ hc1).mono ?_
  rintro e w2 ⟨s, rfl, hc2, hg2⟩
  have hl2 : w.heap.size + 1 + 1 < w2.heap.size := hc2.1
  have kd : D2 w2.heap.size (w.heap.size + 1 + 1) s v xs w (w2.alloc (Obj.cells #[.int .i64 s.fore, .int .i64 s.back, .bool s.bold, .bool s.under, .bool s.turned] 25)) := by
    have q := below_gr3 hb1' hg2 (by omega)
    exact ⟨(k0.drawn hg2 (by omega)).below (bal w2 _), (k1.drawn hg2 (by omega)).below (bal w2 _), StAt.new w2 s _, hc2.below (bal w2 _), q.trans ((bal w2 _).mono q.size)⟩
  clear k0 k1 hb1' hc1 hg2 hc2
  unfold stV
  go_wp2
  generalize w2.alloc (Obj.cells #[.int .i64 s.fore, .int .i64 s.back, .bool s.bold, .bool s.under, .bool s.turned] 25) = W2 at *
  generalize w2.heap.size = B5 at *
  obtain ⟨⟨_, ⟨d0, d1, d2, d3, d4⟩, ⟨y0, y1, y2, y3, y4⟩⟩, ⟨_, ⟨f0, f1, f2, f3, f4⟩, ⟨z0, z1, z2, z3, z4⟩⟩, ⟨_, ⟨b0, b1, b2, b3, b4⟩, _⟩, _⟩ := id kd
  go_region_with (first | (go_at_call 19; refine (l3DrawAny_d2 B5 _ s v xs w _ ?_ (by omega) hl2).mono ?_; (first | exact kd | exact kd.drew); rintro e wk ⟨y, rfl, hk⟩; obtain ⟨⟨_, ⟨d0, d1, d2, d3, d4⟩, ⟨y0, y1, y2, y3, y4⟩⟩, ⟨_, ⟨f0, f1, f2, f3, f4⟩, ⟨z0, z1, z2, z3, z4⟩⟩, ⟨_, ⟨b0, b1, b2, b3, b4⟩, _⟩, _⟩ := id hk))
  all_goals
    obtain ⟨⟨_, ⟨a0, a1, a2, a3, a4⟩, _⟩, ⟨_, ⟨e0, e1, e2, e3, e4⟩, _⟩, cb⟩ := hk.fin y
    simp only [putSt] at a0 a1 a2 a3 a4 e0 e1 e2 e3 e4 cb
    go_wp2
    exact bodyPost_ret (v := .tuple #[.agg #[.int .i64 s.fore, .int .i64 s.back, .bool s.bold, .bool s.under, .bool s.turned], .agg #[.int .i64 y.fore, .int .i64 y.back, .bool y.bold, .bool y.under, .bool y.turned]]) (by simp [results, Tryd.results8, go_sem, a0, a1, a2, a3, a4, e0, e1, e2, e3, e4]) rfl ⟨s, y, rfl, cb⟩
end Go.Proofs.YtjcoebabipmmhaaDoor
