/- A Feeder and a byte drawn. -/
import Derived.Test.YticogomjpefoeaaDraw8
namespace Go.Proofs.Yticogomjpefoeaa
open Go.ChangeShapes Go.WideShapes Go.ChangeAt Go.RowKit
attribute [local go_sem ↓] Go.wp_at_zero Go.wp_at_succ

def BF : List Int := [97, 128, 191, 159, 195, 228, 240, 255, 160]
theorem BF_bd : ∀ x ∈ BF, 0 ≤ x ∧ x < 256 := by decide
/-- What stays while a Feeder and a byte are drawn. -/
def FD (g : Nat) (v : Value) (xs : List Int) (w0 : World) (B5 : Nat) (h : ByteArray) (W : World) : Prop := (∃ x, HeldAt W w0.heap.size x) ∧ HeldAt W B5 h ∧ CurAt W g v xs ∧ Below w0.heap.size w0 W
theorem FD.below {g : Nat} {v : Value} {xs : List Int} {w0 : World} {B5 : Nat} {h : ByteArray} {W W' : World} (k : FD g v xs w0 B5 h W) (hb : Below W.heap.size W W') : FD g v xs w0 B5 h W' :=
  ⟨⟨k.1.choose, k.1.choose_spec.below hb⟩, k.2.1.below hb, k.2.2.1.below hb, k.2.2.2.trans (hb.mono k.2.2.2.size)⟩
theorem FD.grown {g : Nat} {v : Value} {xs : List Int} {w0 : World} {B5 : Nat} {h : ByteArray} {W W' : World} (k : FD g v xs w0 B5 h W) (h2 : w0.heap.size < g) (h5 : g < B5) (hc : CurAt W' g v xs) (hg : W.grownBy W' (some g)) : FD g v xs w0 B5 h W' :=
  ⟨⟨k.1.choose, k.1.choose_spec.grown hg (by intro e; cases e; omega)⟩, k.2.1.grown hg (by intro e; cases e; omega), hc, k.2.2.2.grown hg k.2.2.2.size (fun q hq => by cases hq; omega)⟩
theorem FD.alloc2 {g : Nat} {v : Value} {xs : List Int} {w0 : World} {B5 : Nat} {h : ByteArray} {W : World} (k : W.cell? ⟨B5, 0, none⟩ = some (.string h) ∧ FD g v xs w0 B5 h W) (o : Obj) : (W.alloc o).cell? ⟨B5, 0, none⟩ = some (.string h) ∧ FD g v xs w0 B5 h (W.alloc o) := ⟨(k.2.below (bal W o)).2.1.2.1, k.2.below (bal W o)⟩
theorem FD.drew2 {g : Nat} {v : Value} {xs : List Int} {w0 : World} {B5 : Nat} {h : ByteArray} {W : World} (k : W.cell? ⟨B5, 0, none⟩ = some (.string h) ∧ FD g v xs w0 B5 h W) : W.drew.cell? ⟨B5, 0, none⟩ = some (.string h) ∧ FD g v xs w0 B5 h W.drew := ⟨k.2.2.1.2.1, k.2.below ⟨rfl, rfl, rfl, Nat.le_refl _, fun _ _ => rfl⟩⟩
/-- The bytes that a cursor reads lie below: what is written above them leaves it. -/
def Low (n : Nat) (v : Value) (xs : List Int) : Prop := xs = [] ∨ ∀ a l c, v = .slice (some a) l c → a.block < n
theorem SlB.low {w : World} {v : Value} {xs : List Int} (h : SlB w v xs) : Low w.heap.size v xs := by
  obtain ⟨a, c, hv, _, _, h | ⟨b, off, ha, hlt, _⟩⟩ := h
  · exact .inl h
  · refine .inr fun a' l c' e => ?_
    rw [hv, ha] at e
    cases e
    exact hlt
theorem CurAt.other {W W' : World} {g n B : Nat} {v : Value} {xs : List Int} (h : CurAt W g v xs) (hv : Low n v xs) (hg : W.grownBy W' (some B)) (hne : B ≠ g) (hB : n ≤ B) : CurAt W' g v xs := by
  obtain ⟨hlt, z0, z1, z2, c0, ⟨i, hi, c1⟩, ⟨H, c2⟩, a, c, hv', hl, hx, hrr⟩ := h
  have hbg := hg.block g hlt (fun e => hne (by cases e; rfl))
  refine ⟨Nat.lt_of_lt_of_le hlt hg.size, (World.frozen?_of_block (w := W) hbg).trans z0, (World.frozen?_of_block (w := W) hbg).trans z1, (World.frozen?_of_block (w := W) hbg).trans z2, (World.cell?_of_block (w := W) hbg).trans c0, ⟨i, hi, (World.cell?_of_block (w := W) hbg).trans c1⟩, ⟨H, (World.cell?_of_block (w := W) hbg).trans c2⟩, a, c, hv', hl, hx, ?_⟩
  rcases hrr with hrr | ⟨b, off, ha, hb', hrr⟩
  · exact .inl hrr
  · rcases hv with hv | hv
    · exact .inl hv
    · have hb := hv _ _ _ (by rw [hv', ha])
      exact .inr ⟨b, off, ha, hb', fun j hj => (World.cell?_of_block (w := W) (hg.block b (by omega) (fun e => by cases e; simp only at hb; omega))).trans (hrr j hj)⟩
theorem FD.set2 {g : Nat} {v : Value} {xs : List Int} {w0 : World} {B5 : Nat} {h : ByteArray} {W : World} (h2 : w0.heap.size < g) (h5 : g < B5) (hv : Low w0.heap.size v xs) (k : W.cell? ⟨B5, 0, none⟩ = some (.string h) ∧ FD g v xs w0 B5 h W) : (W.setCell ⟨w0.heap.size, 0, none⟩ (.string h)).cell? ⟨B5, 0, none⟩ = some (.string h) ∧ FD g v xs w0 B5 h (W.setCell ⟨w0.heap.size, 0, none⟩ (.string h)) := by
  have hg := setCell_grown W w0.heap.size 0 (.string h)
  have h3 := k.2.2.1.grown hg (by intro e; cases e; omega)
  exact ⟨h3.2.1, ⟨h, k.2.1.choose_spec.set h⟩, h3, k.2.2.2.1.other hv hg (by omega) (Nat.le_refl _), k.2.2.2.2.setCell (p := ⟨w0.heap.size, 0, none⟩) (Nat.le_refl _) _⟩
theorem BF_now (q : Nat) (hq : q < 9) : ∃ y : Int, 0 ≤ y ∧ y < 256 ∧ (∀ X : World, (X.alloc (Obj.cells #[.int .u8 97, .int .u8 128, .int .u8 191, .int .u8 159, .int .u8 195, .int .u8 228, .int .u8 240, .int .u8 255, .int .u8 160] 5)).cell? ⟨X.heap.size, q, none⟩ = some (.int .u8 y)) ∧
    (∀ hl : q < [Value.int .u8 97, .int .u8 128, .int .u8 191, .int .u8 159, .int .u8 195, .int .u8 228, .int .u8 240, .int .u8 255, .int .u8 160].length, [Value.int .u8 97, .int .u8 128, .int .u8 191, .int .u8 159, .int .u8 195, .int .u8 228, .int .u8 240, .int .u8 255, .int .u8 160][q]'hl = .int .u8 y) :=
  ⟨BF.getD q 0, (getD_all BF BF_bd q hq).1, (getD_all BF BF_bd q hq).2, fun X => lit_cell X BF .u8 _ q hq, by
    intro hl
    have : (BF.map (Value.int .u8))[q]'(by simpa using (show q < BF.length from hq)) = .int .u8 (BF.getD q 0) := by simp [List.getD, show q < BF.length from hq]
    exact this⟩
theorem BF_after {X wk : World} {g n q : Nat} {t : TypeId} (hg : ((X.alloc (Obj.cells #[.int .u8 97, .int .u8 128, .int .u8 191, .int .u8 159, .int .u8 195, .int .u8 228, .int .u8 240, .int .u8 255, .int .u8 160] t)).drew).grownBy wk (some g)) (hlt : g < X.heap.size) (hX : X.heap.size = n) (hq : q < 9) :
    ∃ y : Int, 0 ≤ y ∧ y < 256 ∧ wk.cell? ⟨n, q, none⟩ = some (.int .u8 y) := by
  subst hX
  have hg' : (X.alloc (Obj.cells (BF.map (Value.int .u8)).toArray t)).grownBy wk (some g) := ⟨hg.os, hg.tape, hg.output, hg.size, hg.block⟩
  exact ⟨BF.getD q 0, (getD_all BF BF_bd q hq).1, (getD_all BF BF_bd q hq).2, lit_pick BF .u8 t hg' hlt q hq⟩
theorem l1Below_fd (g : Nat) (v : Value) (xs : List Int) (w0 : World) (B5 : Nat) (h : ByteArray) (W : World) (h2 : w0.heap.size < g) (h5 : g < B5) (k : W.cell? ⟨B5, 0, none⟩ = some (.string h) ∧ FD g v xs w0 B5 h W) :
    Calls Try.prog 34 #[.pointer (some ⟨g, 0, none⟩), .int .i64 9] W fun e w' => ∃ x : Nat, e = .returned (.int .i64 (x : Int)) ∧ x < 9 ∧ (w'.cell? ⟨B5, 0, none⟩ = some (.string h) ∧ FD g v xs w0 B5 h w') ∧ W.grownBy w' (some g) :=
  (l1Below_a g v xs 9 W k.2.2.2.1).mono fun _ _ ⟨x, he, h0, h1, _, hc, hg⟩ => ⟨x.toNat, by rw [he, Int.toNat_of_nonneg h0], by have := h1 (by omega); omega, ⟨(k.2.grown h2 h5 hc hg).2.1.2.1, k.2.grown h2 h5 hc hg⟩, hg⟩

set_option maxHeartbeats 4000000 in
set_option maxRecDepth 20000 in
theorem drawFeed_a (v : Value) (xs : List Int) (w : World) (hv : SlB w v xs) :
    Calls Try.prog 24 #[v] w fun e w' => ∃ (h : ByteArray) (b : Int), e = .returned (.tuple #[.agg #[.string h], .int .u8 b]) ∧ h.size ≤ 4 ∧ 0 ≤ b ∧ b < 256 ∧ Below w.heap.size w w' := by
  have hvl := hv.low
  go_enter Try.func24, Try.ntmps24
  go_wp2_with fail
  have hA2 := HeldAt.new w ⟨#[]⟩ 38
  have hbA := bal w (Obj.cells #[.string ⟨#[]⟩] 38)
  have eA : (w.alloc (Obj.cells #[.string ⟨#[]⟩] 38)).heap.size = w.heap.size + 1 := by simp
  refine (l1New_a v xs _ (hv.below hbA)).mono ?_
  rintro e w1 ⟨rfl, hc1, hb1⟩
  have h1 := hA2.below hb1
  have hb1' := hbA.trans (hb1.mono (by simp))
  rw [eA] at hc1 ⊢
  clear hA2 hbA hb1 eA
  go_wp2_with fail
  refine (l1DrawFeeder_a _ v xs _ hc1).mono ?_
  rintro e w2 ⟨h, rfl, hh, hc2, hg2⟩
  have h2 := h1.grown hg2 (by simp)
  have hb2 := hb1'.grown hg2 hb1'.size (fun q hq => by cases hq; omega)
  have hlt2 := hc2.1
  have k2 : FD (w.heap.size + 1) v xs w w2.heap.size h (w2.alloc (Obj.cells #[.string h] 38)) := ⟨⟨_, h2.below (bal w2 _)⟩, HeldAt.new w2 h _, hc2.below (bal w2 _), hb2.trans ((bal w2 _).mono hb2.size)⟩
  have hl0 : w.heap.size < w2.heap.size := by omega
  have hn1 : ¬ (w.heap.size = w2.heap.size) := by omega
  have hn2 : ¬ (w2.heap.size = w.heap.size) := by omega
  have hltA : w.heap.size + 1 < (w2.alloc (Obj.cells #[.string h] 38)).heap.size := by simp; omega
  have hszA : (w2.alloc (Obj.cells #[.string h] 38)).heap.size = w2.heap.size + 1 := by simp
  have hn3 : ¬ (w2.heap.size + 1 = w.heap.size) := by omega
  have hn4 : ¬ (w.heap.size = w2.heap.size + 1) := by omega
  clear hc1 hg2 hb1' h1 h2 hb2 hc2
  go_wp2
  go_region_with (first | (go_at_call 34; refine (l1Below_fd _ v xs w _ h _ (Nat.lt_succ_self _) hlt2 ?_).mono ?_; (first | exact FD.drew2 ⟨k2.2.1.2.1, k2⟩ | exact FD.drew2 (FD.alloc2 ⟨k2.2.1.2.1, k2⟩ _) | exact FD.alloc2 (FD.drew2 ⟨k2.2.1.2.1, k2⟩) _ | exact ⟨k2.2.1.2.1, k2⟩ | exact FD.alloc2 ⟨k2.2.1.2.1, k2⟩ _); rintro e wk ⟨q, rfl, hq, hk, hgk⟩; obtain ⟨x2, hx2l, hx2c, hx2z⟩ := hk.2.1; have hx5 := hk.2.2.1.1; have hx6 := hk.1; have hn5 : ¬ (w.heap.size = wk.heap.size) := (by omega); have hn6 : ¬ (wk.heap.size = w.heap.size) := (by omega); have hqi : (q : Int) < 9 := (by omega); obtain ⟨y2, hy20, hy21, hy2c, hy2a⟩ := BF_now q hq; have hy2d := hy2c wk; try (obtain ⟨y, hy0, hy1, hyc⟩ := BF_after hgk hltA hszA hq)))
  all_goals
    have hS0 := FD.set2 (Nat.lt_succ_self _) hlt2 hvl hk
    have hb6 := hS0.2.2.2.2
    have hc6 := (hk.2.1.choose_spec.set h).2.1
    generalize wk.setCell ⟨w.heap.size, 0, none⟩ (.string h) = Wf at *
    first
    | (go_wp2
       exact bodyPost_ret (v := .tuple #[.agg #[.string h], .int .u8 y]) (by simp [results, Try.results24, go_sem, hc6]) rfl ⟨h, y, rfl, hh, hy0, hy1, hb6⟩)
    | (have hc7 := (bal Wf (Obj.cells #[.int .u8 97, .int .u8 128, .int .u8 191, .int .u8 159, .int .u8 195, .int .u8 228, .int .u8 240, .int .u8 255, .int .u8 160] 5)).cell (p := ⟨w.heap.size, 0, none⟩) (World.block_lt_of_cell? Wf _ hc6)
       rw [hc6] at hc7
       have hb7 := hb6.trans ((bal Wf (Obj.cells #[.int .u8 97, .int .u8 128, .int .u8 191, .int .u8 159, .int .u8 195, .int .u8 228, .int .u8 240, .int .u8 255, .int .u8 160] 5)).mono hb6.size)
       generalize Wf.alloc (Obj.cells #[.int .u8 97, .int .u8 128, .int .u8 191, .int .u8 159, .int .u8 195, .int .u8 228, .int .u8 240, .int .u8 255, .int .u8 160] 5) = Wg at *
       go_wp2
       exact bodyPost_ret (v := .tuple #[.agg #[.string h], .int .u8 y2]) (by simp [results, Try.results24, go_sem, hc7]) rfl ⟨h, y2, rfl, hh, hy20, hy21, hb7⟩)
end Go.Proofs.Yticogomjpefoeaa
