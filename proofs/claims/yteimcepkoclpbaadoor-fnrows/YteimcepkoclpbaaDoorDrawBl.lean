/- A size and a style drawn. -/
import Derived.Test.YteimcepkoclpbaaDoorJDraw0
import Derived.Deep.RegionWith
import Derived.Deep.DrawnRows
namespace Go.Proofs.YteimcepkoclpbaaDoor
open Go.ChangeShapes Go.WideShapes Go.ChangeAt Go.RowKit
attribute [local go_sem ↓] Go.wp_at_zero Go.wp_at_succ

def BB : List Int := [0, 1, 5, 60, 61, -9223372036854775808]
/-- What stays while a size and a style are drawn. -/
def FB (g : Nat) (v : Value) (xs : List Int) (w0 W : World) : Prop := (∃ s, StAt W w0.heap.size s) ∧ CurAt W g v xs ∧ Below w0.heap.size w0 W
theorem FB.below {g : Nat} {v : Value} {xs : List Int} {w0 W W' : World} (k : FB g v xs w0 W) (hb : Below W.heap.size W W') : FB g v xs w0 W' :=
  ⟨⟨k.1.choose, k.1.choose_spec.below hb⟩, k.2.1.below hb, k.2.2.trans (hb.mono k.2.2.size)⟩
theorem FB.grown {g : Nat} {v : Value} {xs : List Int} {w0 W W' : World} (k : FB g v xs w0 W) (h2 : w0.heap.size < g) (hc : CurAt W' g v xs) (hg : W.grownBy W' (some g)) : FB g v xs w0 W' :=
  ⟨⟨k.1.choose, k.1.choose_spec.grown hg (by intro e; cases e; omega)⟩, hc, k.2.2.grown hg k.2.2.size (fun q hq => by cases hq; omega)⟩
theorem FB.alloc {g : Nat} {v : Value} {xs : List Int} {w0 W : World} (k : FB g v xs w0 W) (o : Obj) : FB g v xs w0 (W.alloc o) := k.below (bal W o)
theorem FB.drew {g : Nat} {v : Value} {xs : List Int} {w0 W : World} (k : FB g v xs w0 W) : FB g v xs w0 W.drew := k.below (bdr W)
theorem BB_now (q : Nat) (hq : q < 6) : ∃ y : Int, (∀ X : World, (X.alloc (Obj.cells #[.int .i64 0, .int .i64 1, .int .i64 5, .int .i64 60, .int .i64 61, .int .i64 (-9223372036854775808)] 2)).cell? ⟨X.heap.size, q, none⟩ = some (.int .i64 y)) ∧
    (∀ hl : q < [Value.int .i64 0, .int .i64 1, .int .i64 5, .int .i64 60, .int .i64 61, .int .i64 (-9223372036854775808)].length, [Value.int .i64 0, .int .i64 1, .int .i64 5, .int .i64 60, .int .i64 61, .int .i64 (-9223372036854775808)][q]'hl = .int .i64 y) :=
  ⟨BB.getD q 0, fun X => lit_cell X BB .i64 _ q hq, by
    intro hl
    have : (BB.map (Value.int .i64))[q]'(by simpa using (show q < BB.length from hq)) = .int .i64 (BB.getD q 0) := by simp [List.getD, show q < BB.length from hq]
    exact this⟩
theorem BB_after {X wk : World} {g n q : Nat} {t : TypeId} (hg : ((X.alloc (Obj.cells #[.int .i64 0, .int .i64 1, .int .i64 5, .int .i64 60, .int .i64 61, .int .i64 (-9223372036854775808)] t)).drew).grownBy wk (some g)) (hlt : g < X.heap.size) (hX : X.heap.size = n) (hq : q < 6) :
    ∃ y : Int, wk.cell? ⟨n, q, none⟩ = some (.int .i64 y) := by
  subst hX
  have hg' : (X.alloc (Obj.cells (BB.map (Value.int .i64)).toArray t)).grownBy wk (some g) := ⟨hg.os, hg.tape, hg.output, hg.size, hg.block⟩
  exact ⟨BB.getD q 0, lit_pick BB .i64 t hg' hlt q hq⟩
theorem l1Below_fb (g : Nat) (v : Value) (xs : List Int) (w0 W : World) (h2 : w0.heap.size < g) (k : FB g v xs w0 W) :
    Calls Tryd.prog 43 #[.pointer (some ⟨g, 0, none⟩), .int .i64 6] W fun e w' => ∃ x : Nat, e = .returned (.int .i64 (x : Int)) ∧ x < 6 ∧ FB g v xs w0 w' ∧ W.grownBy w' (some g) :=
  (l1Below_a g v xs 6 W k.2.1).mono fun _ _ ⟨x, he, h0, h1, _, hc, hg⟩ => ⟨x.toNat, by rw [he, Int.toNat_of_nonneg h0], by have := h1 (by omega); omega, k.grown h2 hc hg, hg⟩
theorem l3DrawAny_fb (g : Nat) (v : Value) (xs : List Int) (w0 W : World) (h2 : w0.heap.size < g) (k : FB g v xs w0 W) :
    Calls Tryd.prog 41 #[.pointer (some ⟨g, 0, none⟩)] W fun e w' => ∃ s : St, e = .returned (.agg #[.int .i64 s.fore, .int .i64 s.back, .bool s.bold, .bool s.under, .bool s.turned]) ∧ FB g v xs w0 w' ∧ W.grownBy w' (some g) :=
  (l3DrawAny_a g v xs W k.2.1).mono fun _ _ ⟨s, he, hc, hg⟩ => ⟨s, by rw [he]; rfl, k.grown h2 hc hg, hg⟩
set_option maxHeartbeats 4000000 in
set_option maxRecDepth 20000 in
theorem drawBlank_a (v : Value) (xs : List Int) (w : World) (hv : SlB w v xs) :
    Calls Tryd.prog 13 #[v] w fun e w' => ∃ (n : Int) (s : St), e = .returned (.tuple #[.int .i64 n, stV s]) ∧ Below w.heap.size w w' := by
  unfold stV
  have hA := StAt.new w St.zero 26
  simp only [St.zero] at hA
  have hbA := bal' w (Obj.cells #[.int .i64 0, .int .i64 0, .bool false, .bool false, .bool false] 26)
  have eA : (w.alloc (Obj.cells #[.int .i64 0, .int .i64 0, .bool false, .bool false, .bool false] 26)).heap.size = w.heap.size + 1 := by simp
  go_enter Tryd.func13, Tryd.ntmps13
  go_wp2_with fail
  refine (l1New_a v xs _ (hv.below hbA)).mono ?_
  rintro e w1 ⟨rfl, hc1, hb1⟩
  rw [eA] at hc1 ⊢
  have k1 : FB (w.heap.size + 1) v xs w w1 := ⟨⟨_, hA.below hb1⟩, hc1, hbA.trans (hb1.mono (by simp))⟩
  have hlt1 := hc1.1
  have hg0 : w.heap.size < w.heap.size + 1 := Nat.lt_succ_self _
  clear hA hbA eA hc1 hb1
  go_wp2
  go_region_with (first
    | (go_at_call 43; refine (l1Below_fb _ v xs w _ hg0 ?_).mono ?_; (first | exact k1.drew | exact k1.drew.alloc _ | exact (k1.alloc _).drew | exact k1 | exact k1.alloc _); rintro e wk ⟨q, rfl, hq, hk, hgk⟩; have hqi : (q : Int) < 6 := (by omega); obtain ⟨y2, hy2c, hy2a⟩ := BB_now q hq; have hy2d := hy2c wk; have hkl := hk.2.1.1; have hyP : Hid (∀ W', (wk.alloc (Obj.cells #[.int .i64 0, .int .i64 1, .int .i64 5, .int .i64 60, .int .i64 61, .int .i64 (-9223372036854775808)] 2)).grownBy W' (some (w.heap.size + 1)) → W'.cell? ⟨wk.heap.size, q, none⟩ = some (.int .i64 y2)) := (fun W' h => World.grownBy.cell h hy2d (fun e => Nat.ne_of_gt hkl (Option.some.inj e))); (try (have hyB := BB_after hgk hlt1 (Eq.refl w1.heap.size) hq; obtain ⟨y, hyc⟩ := hyB)))
    | (go_at_call 41; refine (l3DrawAny_fb _ v xs w _ hg0 ?_).mono ?_; (first | exact hk | exact hk.drew | exact hk.alloc _ | exact hk.drew.alloc _ | exact (hk.alloc _).drew); rintro e wm ⟨s, rfl, hm, hgm⟩; obtain ⟨s0, hs0l, ⟨z0, z1, z2, z3, z4⟩, ⟨f0, f1, f2, f3, f4⟩⟩ := hm.1; have hn5 : ¬ (w.heap.size = wm.heap.size) := (by omega); have hn6 : ¬ (wm.heap.size = w.heap.size) := (by omega); have hy2e := hy2c wm; have hml := hm.2.1.1; (try (have hyc3 := hgm.cell hyc (by simp; omega))); (try (have hyc4 := hyP.out _ hgm))))
  · have hX0 := StAt.put (show StAt wm w.heap.size s0 from ⟨hs0l, ⟨z0, z1, z2, z3, z4⟩, ⟨f0, f1, f2, f3, f4⟩⟩) s
    have hbX0 := hm.2.2.grown (putSt_grown wm w.heap.size s) hm.2.2.size (fun k hk => by cases hk; exact Nat.le_refl _)
    simp only [putSt] at hX0 hbX0
    generalize (((((wm).setCell ⟨w.heap.size, 0, none⟩ (.int .i64 s.fore)).setCell ⟨w.heap.size, 1, none⟩ (.int .i64 s.back)).setCell ⟨w.heap.size, 2, none⟩ (.bool s.bold)).setCell ⟨w.heap.size, 3, none⟩ (.bool s.under)).setCell ⟨w.heap.size, 4, none⟩ (.bool s.turned) = X at *
    obtain ⟨_, ⟨r0, r1, r2, r3, r4⟩, _⟩ := hX0
    go_wp2
    exact bodyPost_ret (v := .tuple #[.int .i64 y, .agg #[.int .i64 s.fore, .int .i64 s.back, .bool s.bold, .bool s.under, .bool s.turned]]) (by simp [results, Tryd.results13, go_sem, r0, r1, r2, r3, r4]) rfl ⟨y, s, rfl, hbX0⟩
  · have hX0 := StAt.put (show StAt wm w.heap.size s0 from ⟨hs0l, ⟨z0, z1, z2, z3, z4⟩, ⟨f0, f1, f2, f3, f4⟩⟩) s
    have hbX0 := hm.2.2.grown (putSt_grown wm w.heap.size s) hm.2.2.size (fun k hk => by cases hk; exact Nat.le_refl _)
    simp only [putSt] at hX0 hbX0
    generalize (((((wm).setCell ⟨w.heap.size, 0, none⟩ (.int .i64 s.fore)).setCell ⟨w.heap.size, 1, none⟩ (.int .i64 s.back)).setCell ⟨w.heap.size, 2, none⟩ (.bool s.bold)).setCell ⟨w.heap.size, 3, none⟩ (.bool s.under)).setCell ⟨w.heap.size, 4, none⟩ (.bool s.turned) = X at *
    obtain ⟨_, ⟨r0, r1, r2, r3, r4⟩, _⟩ := hX0
    go_wp2
    exact bodyPost_ret (v := .tuple #[.int .i64 y, .agg #[.int .i64 s.fore, .int .i64 s.back, .bool s.bold, .bool s.under, .bool s.turned]]) (by simp [results, Tryd.results13, go_sem, r0, r1, r2, r3, r4]) rfl ⟨y, s, rfl, hbX0⟩
  · have hX0 := StAt.put (show StAt wm w.heap.size s0 from ⟨hs0l, ⟨z0, z1, z2, z3, z4⟩, ⟨f0, f1, f2, f3, f4⟩⟩) s
    have hbX0 := hm.2.2.grown (putSt_grown wm w.heap.size s) hm.2.2.size (fun k hk => by cases hk; exact Nat.le_refl _)
    simp only [putSt] at hX0 hbX0
    generalize (((((wm).setCell ⟨w.heap.size, 0, none⟩ (.int .i64 s.fore)).setCell ⟨w.heap.size, 1, none⟩ (.int .i64 s.back)).setCell ⟨w.heap.size, 2, none⟩ (.bool s.bold)).setCell ⟨w.heap.size, 3, none⟩ (.bool s.under)).setCell ⟨w.heap.size, 4, none⟩ (.bool s.turned) = X at *
    obtain ⟨_, ⟨r0, r1, r2, r3, r4⟩, _⟩ := hX0
    go_wp2
    exact bodyPost_ret (v := .tuple #[.int .i64 y2, .agg #[.int .i64 s.fore, .int .i64 s.back, .bool s.bold, .bool s.under, .bool s.turned]]) (by simp [results, Tryd.results13, go_sem, r0, r1, r2, r3, r4]) rfl ⟨y2, s, rfl, hbX0⟩
  · have hX0 := StAt.put (show StAt wm w.heap.size s0 from ⟨hs0l, ⟨z0, z1, z2, z3, z4⟩, ⟨f0, f1, f2, f3, f4⟩⟩) s
    have hbX0 := hm.2.2.grown (putSt_grown wm w.heap.size s) hm.2.2.size (fun k hk => by cases hk; exact Nat.le_refl _)
    simp only [putSt] at hX0 hbX0
    generalize (((((wm).setCell ⟨w.heap.size, 0, none⟩ (.int .i64 s.fore)).setCell ⟨w.heap.size, 1, none⟩ (.int .i64 s.back)).setCell ⟨w.heap.size, 2, none⟩ (.bool s.bold)).setCell ⟨w.heap.size, 3, none⟩ (.bool s.under)).setCell ⟨w.heap.size, 4, none⟩ (.bool s.turned) = X at *
    obtain ⟨_, ⟨r0, r1, r2, r3, r4⟩, _⟩ := hX0
    go_wp2
    exact bodyPost_ret (v := .tuple #[.int .i64 y2, .agg #[.int .i64 s.fore, .int .i64 s.back, .bool s.bold, .bool s.under, .bool s.turned]]) (by simp [results, Tryd.results13, go_sem, r0, r1, r2, r3, r4]) rfl ⟨y2, s, rfl, hbX0⟩
  · have hX0 := StAt.put (show StAt wm w.heap.size s0 from ⟨hs0l, ⟨z0, z1, z2, z3, z4⟩, ⟨f0, f1, f2, f3, f4⟩⟩) s
    have hbX0 := hm.2.2.grown (putSt_grown wm w.heap.size s) hm.2.2.size (fun k hk => by cases hk; exact Nat.le_refl _)
    simp only [putSt] at hX0 hbX0
    generalize (((((wm).setCell ⟨w.heap.size, 0, none⟩ (.int .i64 s.fore)).setCell ⟨w.heap.size, 1, none⟩ (.int .i64 s.back)).setCell ⟨w.heap.size, 2, none⟩ (.bool s.bold)).setCell ⟨w.heap.size, 3, none⟩ (.bool s.under)).setCell ⟨w.heap.size, 4, none⟩ (.bool s.turned) = X at *
    have hX1 := hX0.below (bal X (Obj.cells #[.int .i64 0, .int .i64 1, .int .i64 5, .int .i64 60, .int .i64 61, .int .i64 (-9223372036854775808)] 2))
    have hbX1 := hbX0.trans ((bal X (Obj.cells #[.int .i64 0, .int .i64 1, .int .i64 5, .int .i64 60, .int .i64 61, .int .i64 (-9223372036854775808)] 2)).mono hbX0.size)
    clear hX0 hbX0
    generalize X.alloc (Obj.cells #[.int .i64 0, .int .i64 1, .int .i64 5, .int .i64 60, .int .i64 61, .int .i64 (-9223372036854775808)] 2) = Y at *
    obtain ⟨_, ⟨r0, r1, r2, r3, r4⟩, _⟩ := hX1
    go_wp2
    exact bodyPost_ret (v := .tuple #[.int .i64 y2, .agg #[.int .i64 s.fore, .int .i64 s.back, .bool s.bold, .bool s.under, .bool s.turned]]) (by simp [results, Tryd.results13, go_sem, r0, r1, r2, r3, r4]) rfl ⟨y2, s, rfl, hbX1⟩
end Go.Proofs.YteimcepkoclpbaaDoor
