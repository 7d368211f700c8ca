/- The cursor: made, asked, kept. -/
import Derived.Test.YteimcepkoclpbaaDoorDraw0
import Derived.Test.YteimcepkoclpbaaDoorSlDefs
namespace Go.Proofs.YteimcepkoclpbaaDoor
open Go.ChangeShapes Go.WideShapes Go.ChangeAt Go.RowKit

theorem l1Once_a (g : Nat) (v : Value) (xs : List Int) (n : Int) (w : World) (hc : CurAt w g v xs) :
    Calls Tryd.prog 38 #[.pointer (some ⟨g, 0, none⟩), .int .i64 n] w fun e w' => ∃ b : Bool, e = .returned (.bool b) ∧ CurAt w' g v xs ∧ w.grownBy w' (some g) := by
  go_enter Tryd.func38, Tryd.ntmps38
  go_wp2_with fail
  refine (l1Below_a g v xs n _ hc).mono ?_
  rintro e w1 ⟨x, rfl, hx0, _, _, hc1, hg1⟩
  go_wp2
  go_ret
  exact ⟨_, rfl, hc1, hg1⟩

/-- The cursor stays while the world only grows above. -/
theorem CurAt.below {w w' : World} {g : Nat} {v : Value} {xs : List Int} (h : CurAt w g v xs) (hb : Below w.heap.size w w') : CurAt w' g v xs := by
  obtain ⟨hg, z0, z1, z2, c0, ⟨i, hi, c1⟩, ⟨h, c2⟩, a, c, hv, hl, hx, hr⟩ := h
  refine ⟨Nat.lt_of_lt_of_le hg hb.size, (hb.frozen (p := ⟨g, 0, none⟩) hg).trans z0, (hb.frozen (p := ⟨g, 1, none⟩) hg).trans z1, (hb.frozen (p := ⟨g, 2, none⟩) hg).trans z2, (hb.cell (p := ⟨g, 0, none⟩) hg).trans c0, ⟨i, hi, (hb.cell (p := ⟨g, 1, none⟩) hg).trans c1⟩, ⟨h, (hb.cell (p := ⟨g, 2, none⟩) hg).trans c2⟩, a, c, hv, hl, hx, ?_⟩
  rcases hr with hr | ⟨b, off, ha, hb', hr⟩
  · exact .inl hr
  · exact .inr ⟨b, off, ha, hb', fun j hj => (hb.cell (p := ⟨b, off + j, none⟩) (by dsimp only; omega)).trans (hr j hj)⟩
theorem bal (w : World) (o : Obj) : Below w.heap.size w (w.alloc o) := (Below.refl _ _).alloc (Nat.le_refl _) o

theorem lit_cell (w : World) (L : List Int) (K : IntKind) (t : TypeId) (k : Nat) (hk : k < L.length) : (w.alloc (.cells (L.map (Value.int K)).toArray t)).cell? ⟨w.heap.size, k, none⟩ = some (.int K (L.getD k 0)) := by
  rw [cell_of_row _ w.heap.size k _ t (0, 0) (heap_alloc_new w _)]
  simp [hk]
/-- What a drawn number picks out of a row that has just been laid. -/
theorem lit_pick {w w1 : World} {g : Nat} (L : List Int) (K : IntKind) (t : TypeId) (hg : (w.alloc (.cells (L.map (Value.int K)).toArray t)).grownBy w1 (some g)) (hlt : g < w.heap.size) (k : Nat) (hk : k < L.length) : w1.cell? ⟨w.heap.size, k, none⟩ = some (.int K (L.getD k 0)) :=
  hg.cell (lit_cell w L K t k hk) (by simp; omega)
theorem getD_all {p : Int → Prop} (L : List Int) (h : ∀ r ∈ L, p r) (k : Nat) (hk : k < L.length) : p (L.getD k 0) := by
  have e : L.getD k 0 = L[k] := by simp [List.getD, hk]
  rw [e]; exact h _ (List.getElem_mem hk)

theorem CurAt.new (w : World) (a : Option Addr) (c : Nat) (xs : List Int) (h : Int) (T : TypeId) (hs : SlB w (.slice a xs.length c) xs) : CurAt (w.alloc (.cells #[.slice a xs.length c, .int .i64 0, .int .i64 h] T)) w.heap.size (.slice a xs.length c) xs := by
  obtain ⟨a', c', hv, hl, hx, hr⟩ := hs
  refine ⟨by simp, by simp [go_sem], by simp [go_sem], by simp [go_sem], by simp [go_sem], ⟨0, Nat.zero_le _, by simp [go_sem]⟩, ⟨h, by simp [go_sem]⟩, a', c', hv, hl, hx, ?_⟩
  rcases hr with hr | ⟨b, off, ha, hb, hr⟩
  · exact .inl hr
  · exact .inr ⟨b, off, ha, hb, fun j hj => ((bal w _).cell (p := ⟨b, off + j, none⟩) hb).trans (hr j hj)⟩

set_option maxHeartbeats 1000000 in
theorem l1New_a (v : Value) (xs : List Int) (w : World) (hv : SlB w v xs) :
    Calls Tryd.prog 35 #[v] w fun e w' => e = .returned (.pointer (some ⟨w.heap.size, 0, none⟩)) ∧ CurAt w' w.heap.size v xs ∧ Below w.heap.size w w' := by
  have HV : Hid (SlB w v xs) := hv
  obtain ⟨a, c, rfl, hl, hx, hr⟩ := hv
  go_enter Tryd.func35, Tryd.ntmps35
  go_wp2
  go_loop [3, 4] (fun h i => ∃ (k : Nat) (H : Int), k ≤ xs.length ∧ i = .int .i64 k ∧ h = .int .i64 H) (fun _ i => xs.length - (intOf i).toNat)
  case atStart => exact ⟨0, _, Nat.zero_le _, rfl, rfl⟩
  case round =>
    obtain ⟨k, H, hk, rfl, rfl⟩ := hrel
    by_cases hlt : k < xs.length
    · rcases hr with hr | ⟨b, off, rfl, hb, hr⟩
      · rw [hr] at hlt; simp at hlt
      · have hri := hr k hlt
        generalize hy : xs.getD k 0 = y at hri
        clear hy hr hx
        go_wp2
        go_round
        case rel => exact ⟨k + 1, _, by omega, by go_num, rfl⟩
        case measure => simp [intOf]; omega
    · clear hr hx
      go_wp2
      go_ret
      exact ⟨rfl, CurAt.new w a c xs H _ HV.out, bal w _⟩

theorem own_grow {w w' : World} {base : Nat} {e : TypeId} {size : Nat} {v : Value} {n : Nat} {xs : List Value} {g : Nat} (h : w.ownsRow base e size v n xs) (hg : w.grownBy w' (some g)) (hlt : g < base) : w'.ownsRow base e size v n xs :=
  h.kept hg (by
    cases hv : v.ownBlock with
    | none => exact .inl rfl
    | some b => right; intro e; have := (h.lt b hv).1; cases e; omega)

theorem info_int64d : (Tryd.prog.info? 2).map (fun i => (i.zero, i.size, i.bytes)) = some (some (.int .i64 0), 1, 8) := by kernel_rfl
theorem CurAt.grown_own {w w' : World} {g : Nat} {v : Value} {xs : List Int} {row : Option Nat} (h : CurAt w g v xs) (hg : w.grownBy w' row) (hr : ∀ k, row = some k → g < k) : CurAt w' g v xs := by
  have hb : ∀ k, k ≤ g → w'.heap[k]? = w.heap[k]? := fun k hk => hg.block k (by have := h.1; omega) (fun e => by have := hr k e.symm; omega)
  obtain ⟨hlt, z0, z1, z2, c0, ⟨i, hi, c1⟩, ⟨h, c2⟩, a, c, hv, hl, hx, hrr⟩ := h
  have hbg := hb g (Nat.le_refl _)
  refine ⟨Nat.lt_of_lt_of_le hlt hg.size, (World.frozen?_of_block (w := w) hbg).trans z0, (World.frozen?_of_block (w := w) hbg).trans z1, (World.frozen?_of_block (w := w) hbg).trans z2, (World.cell?_of_block (w := w) hbg).trans c0, ⟨i, hi, (World.cell?_of_block (w := w) hbg).trans c1⟩, ⟨h, (World.cell?_of_block (w := w) hbg).trans c2⟩, a, c, hv, hl, hx, ?_⟩
  rcases hrr with hrr | ⟨b, off, ha, hb', hrr⟩
  · exact .inl hrr
  · exact .inr ⟨b, off, ha, hb', fun j hj => (World.cell?_of_block (w := w) (hb b (by omega))).trans (hrr j hj)⟩
theorem grownBy_own {w w' w0 : World} {g : Nat} {row : Option Nat} (h : w0.grownBy w (some g)) (hg : w.grownBy w' row) (hr : ∀ k, row = some k → w0.heap.size ≤ k) : w0.grownBy w' (some g) :=
  ⟨hg.os.trans h.os, hg.tape.trans h.tape, hg.output.trans h.output, Nat.le_trans h.size hg.size, fun i hi hne => (hg.block i (Nat.lt_of_lt_of_le hi h.size) (fun e => by have := hr i e.symm; omega)).trans (h.block i hi hne)⟩

end Go.Proofs.YteimcepkoclpbaaDoor
