/- A Feeder drawn. -/
import Derived.Test.YticogomjpefoeaaDraw7
import Derived.Test.YticogomjpefoeaaFedM
import Derived.Deep.RegionHeld3
import Derived.Deep.DrawnRows
namespace Go.Proofs.Yticogomjpefoeaa
open Go.ChangeShapes Go.WideShapes Go.ChangeAt Go.RowKit
attribute [local go_sem ↓] Go.wp_at_zero Go.wp_at_succ

theorem str_pick {w w1 : World} {g : Nat} (L : List ByteArray) (t : TypeId) (hg : (w.alloc (.cells (L.map Value.string).toArray t)).grownBy w1 (some g)) (hlt : g < w.heap.size) (k : Nat) (hk : k < L.length) : ∃ s ∈ L, w1.cell? ⟨w.heap.size, k, none⟩ = some (.string s) := by
  refine ⟨L[k], List.getElem_mem hk, hg.cell ?_ (by simp; omega)⟩
  rw [cell_of_row _ w.heap.size k _ t (0, 0) (heap_alloc_new w _)]
  simp [hk]
/-- A struct of one text in a block of this call's own. -/
def HeldAt (w : World) (B : Nat) (h : ByteArray) : Prop := B < w.heap.size ∧ w.cell? ⟨B, 0, none⟩ = some (.string h) ∧ w.frozen? ⟨B, 0, none⟩ = false
theorem HeldAt.grown {w w' : World} {B : Nat} {h : ByteArray} {row : Option Nat} (hh : HeldAt w B h) (hg : w.grownBy w' row) (hr : row ≠ some B) : HeldAt w' B h :=
  ⟨Nat.lt_of_lt_of_le hh.1 hg.size, by rw [World.cell?_of_block (w := w) (hg.block B hh.1 (Ne.symm hr))]; exact hh.2.1, by rw [World.frozen?_of_block (w := w) (hg.block B hh.1 (Ne.symm hr))]; exact hh.2.2⟩
theorem HeldAt.below {w w' : World} {B : Nat} {h : ByteArray} (hh : HeldAt w B h) (hb : Below w.heap.size w w') : HeldAt w' B h := hh.grown (gbl hb none) (by simp)
theorem HeldAt.set {w : World} {B : Nat} {h : ByteArray} (hh : HeldAt w B h) (h' : ByteArray) : HeldAt (w.setCell ⟨B, 0, none⟩ (.string h')) B h' :=
  ⟨by simpa using hh.1, setCell_same w ⟨B, 0, none⟩ (.string h') _ hh.2.1, by rw [setCell_frozen]; exact hh.2.2⟩
theorem setCell_grown (w : World) (B o : Nat) (u : Value) : w.grownBy (w.setCell ⟨B, o, none⟩ u) (some B) :=
  ⟨rfl, rfl, rfl, by simp, fun k _ hk => heap_setCell_other w ⟨B, o, none⟩ k _ (fun e => hk (by simp [e]))⟩
theorem HeldAt.new (w : World) (h : ByteArray) (t : TypeId) : HeldAt (w.alloc (.cells #[.string h] t)) w.heap.size h := ⟨by simp, by simp [go_sem], by simp [go_sem]⟩

/-- What stays while a Feeder is drawn: the result's cell, the Feeder's, the cursor. -/
def FK (g : Nat) (v : Value) (xs : List Int) (w0 : World) (B2 B3 : Nat) (h : ByteArray) (W : World) : Prop := HeldAt W B2 ⟨#[]⟩ ∧ HeldAt W B3 h ∧ CurAt W g v xs ∧ w0.grownBy W (some g)
theorem FK.below {g : Nat} {v : Value} {xs : List Int} {w0 : World} {B2 B3 : Nat} {h : ByteArray} {W W' : World} (k : FK g v xs w0 B2 B3 h W) (hb : Below W.heap.size W W') : FK g v xs w0 B2 B3 h W' :=
  ⟨k.1.below hb, k.2.1.below hb, k.2.2.1.below hb, gtr k.2.2.2 (gbl hb (some g))⟩
theorem FK.alloc {g : Nat} {v : Value} {xs : List Int} {w0 : World} {B2 B3 : Nat} {h : ByteArray} {W : World} (k : FK g v xs w0 B2 B3 h W) (o : Obj) : FK g v xs w0 B2 B3 h (W.alloc o) := k.below (bal W o)
theorem FK.drew {g : Nat} {v : Value} {xs : List Int} {w0 : World} {B2 B3 : Nat} {h : ByteArray} {W : World} (k : FK g v xs w0 B2 B3 h W) : FK g v xs w0 B2 B3 h W.drew := k.below ⟨rfl, rfl, rfl, Nat.le_refl _, fun _ _ => rfl⟩
theorem FK.alloc2 {g : Nat} {v : Value} {xs : List Int} {w0 : World} {B2 B3 : Nat} {h : ByteArray} {W : World} (k : W.cell? ⟨B3, 0, none⟩ = some (.string h) ∧ FK g v xs w0 B2 B3 h W) (o : Obj) : (W.alloc o).cell? ⟨B3, 0, none⟩ = some (.string h) ∧ FK g v xs w0 B2 B3 h (W.alloc o) := ⟨(k.2.alloc o).2.1.2.1, k.2.alloc o⟩
theorem FK.drew2 {g : Nat} {v : Value} {xs : List Int} {w0 : World} {B2 B3 : Nat} {h : ByteArray} {W : World} (k : W.cell? ⟨B3, 0, none⟩ = some (.string h) ∧ FK g v xs w0 B2 B3 h W) : W.drew.cell? ⟨B3, 0, none⟩ = some (.string h) ∧ FK g v xs w0 B2 B3 h W.drew := ⟨k.2.drew.2.1.2.1, k.2.drew⟩
theorem FK.set2 {g : Nat} {v : Value} {xs : List Int} {w0 : World} {B2 B3 : Nat} {h h' : ByteArray} {w W : World} (k0 : FK g v xs w0 B2 B3 h' w) (k : W.cell? ⟨B3, 0, none⟩ = some (.string h) ∧ FK g v xs w0 B2 B3 h W) (u : Value) :
    (W.setCell ⟨w.heap.size, 0, none⟩ u).cell? ⟨B3, 0, none⟩ = some (.string h) ∧ FK g v xs w0 B2 B3 h (W.setCell ⟨w.heap.size, 0, none⟩ u) := by
  have hg := setCell_grown W w.heap.size 0 u
  have l2 := k0.1.1
  have l3 := k0.2.1.1
  have lg := k0.2.2.1.1
  have lw := k0.2.2.2.size
  have h2 := k.2.1.grown hg (by intro e; cases e; omega)
  have h3 := k.2.2.1.grown hg (by intro e; cases e; omega)
  exact ⟨h3.2.1, h2, h3, k.2.2.2.1.grown_own hg (fun q hq => by cases hq; exact lg), grownBy_own k.2.2.2.2 hg (fun q hq => by cases hq; exact lw)⟩
theorem FK.put {g : Nat} {v : Value} {xs : List Int} {w0 : World} {B2 B3 : Nat} {h : ByteArray} {W : World} (k : FK g v xs w0 B2 B3 h W) (h2 : B2 < B3) (hg : g < B3) (h0 : w0.heap.size ≤ B3) (h' : ByteArray) : FK g v xs w0 B2 B3 h' (W.setCell ⟨B3, 0, none⟩ (.string h')) := by
  have hg' := setCell_grown W B3 0 (.string h')
  exact ⟨k.1.grown hg' (by intro e; cases e; omega), k.2.1.set h', k.2.2.1.grown_own hg' (fun q hq => by cases hq; exact hg), grownBy_own k.2.2.2 hg' (fun q hq => by cases hq; exact h0)⟩
def FT : List ByteArray := [⟨#[97]⟩, ⟨#[128]⟩, ⟨#[194]⟩, ⟨#[228, 184]⟩, ⟨#[240, 159, 152]⟩, ⟨#[237, 160]⟩, ⟨#[240, 159, 152, 128]⟩]
theorem FT_size : ∀ s ∈ FT, s.size ≤ 4 := by decide
theorem FK.grown {g : Nat} {v : Value} {xs : List Int} {w0 : World} {B2 B3 : Nat} {h : ByteArray} {W W' : World} (k : FK g v xs w0 B2 B3 h W) (h2 : g < B2) (h3 : g < B3) (hc : CurAt W' g v xs) (hg : W.grownBy W' (some g)) : FK g v xs w0 B2 B3 h W' :=
  ⟨k.1.grown hg (by intro e; cases e; omega), k.2.1.grown hg (by intro e; cases e; omega), hc, gtr k.2.2.2 hg⟩
theorem FK.res {g : Nat} {v : Value} {xs : List Int} {w0 : World} {B2 B3 : Nat} {h : ByteArray} {W : World} (k : FK g v xs w0 B2 B3 h W) (h2 : g < B2) (h0 : w0.heap.size ≤ B2) : CurAt (W.setCell ⟨B2, 0, none⟩ (.string h)) g v xs ∧ w0.grownBy (W.setCell ⟨B2, 0, none⟩ (.string h)) (some g) ∧ (W.setCell ⟨B2, 0, none⟩ (.string h)).cell? ⟨B2, 0, none⟩ = some (.string h) := by
  have hg' := setCell_grown W B2 0 (.string h)
  exact ⟨k.2.2.1.grown_own hg' (fun q hq => by cases hq; exact h2), grownBy_own k.2.2.2 hg' (fun q hq => by cases hq; exact h0), (k.1.set h).2.1⟩
theorem new_after {X wk : World} {h : ByteArray} {t : TypeId} (hb : Below (X.alloc (.cells #[.string h] t)).heap.size (X.alloc (.cells #[.string h] t)) wk) : HeldAt wk X.heap.size h := (HeldAt.new X h t).below hb
theorem new_after1 {X wk : World} {h : ByteArray} {t : TypeId} (hb : Below ((X.alloc (.cells #[.string h] t)).drew).heap.size ((X.alloc (.cells #[.string h] t)).drew) wk) : HeldAt wk X.heap.size h := (show HeldAt ((X.alloc (.cells #[.string h] t)).drew) X.heap.size h from HeldAt.new X h t).below hb
theorem specFeed_fk (g : Nat) (v : Value) (xs : List Int) (w0 : World) (B2 B3 : Nat) (h : ByteArray) (b : Int) (W : World) (k : W.cell? ⟨B3, 0, none⟩ = some (.string h) ∧ FK g v xs w0 B2 B3 h W) :
    Calls Try.prog 26 #[.agg #[.string h], .int .u8 b] W fun e w' => ∃ u, e = .returned (.tuple #[.agg #[.string (fedV h b).2], u]) ∧ (w'.cell? ⟨B3, 0, none⟩ = some (.string h) ∧ FK g v xs w0 B2 B3 h w') ∧ Below W.heap.size W w' :=
  (specFeed_any h b W).mono fun _ _ ⟨u, he, hb, _⟩ => ⟨u, he, ⟨(k.2.below hb).2.1.2.1, k.2.below hb⟩, hb⟩

set_option maxHeartbeats 4000000 in
set_option maxRecDepth 20000 in
theorem l1DrawFeeder_a (g : Nat) (v : Value) (xs : List Int) (w : World) (hc : CurAt w g v xs) :
    Calls Try.prog 40 #[.pointer (some ⟨g, 0, none⟩)] w fun e w' => ∃ h : ByteArray, e = .returned (.agg #[.string h]) ∧ h.size ≤ 4 ∧ CurAt w' g v xs ∧ w.grownBy w' (some g) := by
  have hlt := hc.1
  go_enter Try.func40, Try.ntmps40
  go_wp2_with fail
  have hbA : Below w.heap.size w ((w.alloc (Obj.cells #[Value.string ⟨#[]⟩] 38)).alloc (Obj.cells #[Value.string ⟨#[]⟩] 38)) := (bal w _).trans ((bal _ _).mono (by simp))
  have h2A := (HeldAt.new w ⟨#[]⟩ 38).below (bal _ (Obj.cells #[Value.string ⟨#[]⟩] 38))
  have h3A := HeldAt.new (w.alloc (Obj.cells #[Value.string ⟨#[]⟩] 38)) ⟨#[]⟩ 38
  have e3 : (w.alloc (Obj.cells #[Value.string ⟨#[]⟩] 38)).heap.size = w.heap.size + 1 := by simp
  rw [e3] at h3A
  refine (l1DrawBytes_a g v xs _ (hc.below hbA)).mono ?_
  rintro e w1 ⟨s, rfl, hs, hc1, hg1⟩
  have k1 : FK g v xs w w.heap.size (w.heap.size + 1) ⟨#[]⟩ w1 := ⟨h2A.grown hg1 (by simp; omega), h3A.grown hg1 (by simp; omega), hc1, gtr (gbl hbA (some g)) hg1⟩
  clear hbA h2A h3A e3 hc1 hg1
  go_wp2
  go_loopw [5] (fun i wr => ∃ (j : Nat) (h : ByteArray), i = .int .i64 j ∧ j ≤ s.size ∧ h.size ≤ 3 ∧ FK g v xs w w.heap.size (w.heap.size + 1) h wr) (fun i _ => s.size - (intOf i).toNat)
  case atStart => exact ⟨0, ⟨#[]⟩, rfl, Nat.zero_le _, by decide, k1⟩
  case round =>
    clear k1
    obtain ⟨j, h, rfl, hj, hh3, k⟩ := hrel
    have hc3 := k.2.1.2.1
    have hz3 := k.2.1.2.2
    by_cases hlt2 : j < s.size
    · have hji : (j : Int) < (s.size : Int) := by omega
      have hj0 : (0 : Int) ≤ (j : Int) := by omega
      have hl0 := k.2.1.1
      have hn5 : ¬ (w.heap.size + 1 = wr.heap.size) := by omega
      have hn6 : ¬ (wr.heap.size = w.heap.size + 1) := by omega
      go_wp2
      go_region_held3 (fun W => W.cell? ⟨w.heap.size + 1, 0, none⟩ = some (.string h) ∧ FK g v xs w w.heap.size (w.heap.size + 1) h W) (first | assumption | exact FK.drew2 (by assumption) | exact FK.alloc2 (by assumption) _ | exact FK.drew2 (FK.alloc2 (by assumption) _) | exact FK.alloc2 (FK.drew2 (by assumption)) _ | exact FK.drew2 ⟨hc3, k⟩ | exact FK.set2 k (by assumption) _) (first | (go_at_call 26; refine (specFeed_fk g v xs w w.heap.size (w.heap.size + 1) h _ _ (by assumption)).mono ?_; rintro e wk ⟨u, rfl, hk, hbk⟩; have hl3 := hk.2.2.1.1; have hn3 : ¬ (w.heap.size + 1 = wk.heap.size) := (by omega); have hn4 : ¬ (wk.heap.size = w.heap.size + 1) := (by omega); try (have hq : HeldAt wk wr.heap.size ⟨#[]⟩ := new_after1 hbk; obtain ⟨hq1, hq2, hq3⟩ := hq)))
      · have hF := FK.alloc2 hk (Obj.cells #[.string (fedV h s[j].toNat).2] 38)
        have hT := HeldAt.new wk (fedV h s[j].toNat).2 38
        have hx3 := feedOk_small _ (fed_ok h s[j].toNat)
        generalize (fedV h s[j].toNat).2 = x at *
        generalize wk.heap.size = Tb at *
        generalize wk.alloc (Obj.cells #[.string x] 38) = Wf at *
        have hc4 := hF.1
        have hz4 := hF.2.2.1.2.2
        obtain ⟨_, hT2, hT3⟩ := hT
        have hN := hF.2.put (by omega) (by omega) (by omega) x
        clear hF hk hbk hl3 hn3 hn4 hc3 hz3 k hn5 hn6
        go_wp2
        go_roundw
        case rel => exact ⟨j + 1, x, by go_num, by omega, hx3, hN⟩
        case measure => simp [intOf]; omega
      all_goals
        have hF := FK.set2 k hk (.string (fedV h s[j].toNat).2)
        have hT := HeldAt.set (⟨hq1, hq2, hq3⟩ : HeldAt wk wr.heap.size ⟨#[]⟩) (fedV h s[j].toNat).2
        have hx3 := feedOk_small _ (fed_ok h s[j].toNat)
        generalize (fedV h s[j].toNat).2 = x at *
        generalize wr.heap.size = Tb at *
        generalize wk.setCell ⟨Tb, 0, none⟩ (.string x) = Wf at *
        have hc4 := hF.1
        have hz4 := hF.2.2.1.2.2
        obtain ⟨_, hT2, hT3⟩ := hT
        have hN := hF.2.put (by omega) (by omega) (by omega) x
        clear hF hk hbk hl3 hn3 hn4 hc3 hz3 k hn5 hn6 hq1 hq2 hq3
        go_wp2
        go_roundw
        case rel => exact ⟨j + 1, x, by go_num, by omega, hx3, hN⟩
        case measure => simp [intOf]; omega
    · have hji : ¬ (j : Int) < (s.size : Int) := by omega
      clear hc3 hz3
      go_wp2_with fail
      refine (l1Once_a g v xs 12 _ k.2.2.1).mono ?_
      rintro e w2 ⟨b, rfl, hc2, hg2⟩
      have k2 := k.grown (by omega) (by omega) hc2 hg2
      clear k hc2 hg2
      cases b
      · have hc3 := k2.2.1.2.1
        have hz3 := k2.2.1.2.2
        have hc4 := k2.1.2.1
        have hz4 := k2.1.2.2
        obtain ⟨r1, r2, r3⟩ := k2.res hlt (Nat.le_refl _)
        clear k2
        go_wp2
        exact bodyPost_ret (v := .agg #[.string h]) (by simp [results, Try.results40, go_sem, hc4]) rfl ⟨h, rfl, by omega, r1, r2⟩
      · go_wp2_with fail
        have k3 := k2.alloc (Obj.cells (FT.map Value.string).toArray 9)
        refine (l1Below_a g v xs 7 _ k3.2.2.1).mono ?_
        rintro e w3 ⟨x, rfl, hx0, hx1, _, hc5, hg5⟩
        obtain ⟨q, rfl⟩ : ∃ q : Nat, x = q := ⟨x.toNat, by omega⟩
        have hq : q < 7 := by have := hx1 (by omega); omega
        have hqi : (q : Int) < 7 := by omega
        have hg23 : g < w2.heap.size := k2.2.2.1.1
        obtain ⟨y, hy, hcell⟩ := str_pick FT 9 hg5 hg23 q hq
        have hy4 := FT_size y hy
        have k5 := k3.grown (by omega) (by omega) hc5 hg5
        have hc3 := k5.2.1.2.1
        have hz3 := k5.2.1.2.2
        have k6 := k5.put (by omega) (by omega) (by omega) y
        have hc4 := k6.1.2.1
        have hz4 := k6.1.2.2
        have hc4' := k5.1.2.1
        have hz4' := k5.1.2.2
        obtain ⟨r1, r2, r3⟩ := k6.res hlt (Nat.le_refl _)
        clear k2 k3 k5 k6 hx1 hx0 hc5 hg5
        go_wp2
        exact bodyPost_ret (v := .agg #[.string y]) (by simp [results, Try.results40, go_sem, hc4']) rfl ⟨y, rfl, by omega, r1, r2⟩
end Go.Proofs.Yticogomjpefoeaa
