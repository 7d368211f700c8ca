/- Runes drawn: what their functions leave. -/
import Derived.Test.YticogomjpefoeaaDraw0
import Derived.Test.YticogomjpefoeaaSlDefs
import Derived.Test.YticogomjpefoeaaM1
namespace Go.Proofs.Yticogomjpefoeaa
open Go.ChangeShapes Go.WideShapes Go.ChangeAt Go.RowKit

theorem l1Once_a (g : Nat) (v : Value) (xs : List Int) (n : Int) (w : World) (hc : CurAt w g v xs) :
    Calls Try.prog 33 #[.pointer (some ⟨g, 0, none⟩), .int .i64 n] w fun e w' => ∃ b : Bool, e = .returned (.bool b) ∧ CurAt w' g v xs ∧ w.grownBy w' (some g) := by
  go_enter Try.func33, Try.ntmps33
  go_wp2_with fail
  refine (l1Below_a g v xs n _ hc).mono ?_
  rintro e w1 ⟨x, rfl, hx0, _, _, hc1, hg1⟩
  go_wp2
  go_ret
  exact ⟨_, rfl, hc1, hg1⟩

/-- The cursor stays while the world only grows above. -/
theorem CurAt.below {w w' : World} {g : Nat} {v : Value} {xs : List Int} (h : CurAt w g v xs) (hb : Below w.heap.size w w') : CurAt w' g v xs := by
  obtain ⟨hg, z0, z1, z2, c0, ⟨i, hi, c1⟩, ⟨h, c2⟩, a, c, hv, hl, hx, hr⟩ := h
  refine ⟨Nat.lt_of_lt_of_le hg hb.size, (hb.frozen (p := ⟨g, 0, none⟩) hg).trans z0, (hb.frozen (p := ⟨g, 1, none⟩) hg).trans z1, (hb.frozen (p := ⟨g, 2, none⟩) hg).trans z2, (hb.cell (p := ⟨g, 0, none⟩) hg).trans c0, ⟨i, hi, (hb.cell (p := ⟨g, 1, none⟩) hg).trans c1⟩, ⟨h, (hb.cell (p := ⟨g, 2, none⟩) hg).trans c2⟩, a, c, hv, hl, hx, ?_⟩
  rcases hr with hr | ⟨b, off, ha, hb', hr⟩
  · exact .inl hr
  · exact .inr ⟨b, off, ha, hb', fun j hj => (hb.cell (p := ⟨b, off + j, none⟩) (by dsimp only; omega)).trans (hr j hj)⟩
theorem bal (w : World) (o : Obj) : Below w.heap.size w (w.alloc o) := (Below.refl _ _).alloc (Nat.le_refl _) o

theorem lit_cell (w : World) (L : List Int) (K : IntKind) (t : TypeId) (k : Nat) (hk : k < L.length) : (w.alloc (.cells (L.map (Value.int K)).toArray t)).cell? ⟨w.heap.size, k, none⟩ = some (.int K (L.getD k 0)) := by
  rw [cell_of_row _ w.heap.size k _ t (0, 0) (heap_alloc_new w _)]
  simp [hk]
/-- What a drawn number picks out of a row that has just been laid. -/
theorem lit_pick {w w1 : World} {g : Nat} (L : List Int) (K : IntKind) (t : TypeId) (hg : (w.alloc (.cells (L.map (Value.int K)).toArray t)).grownBy w1 (some g)) (hlt : g < w.heap.size) (k : Nat) (hk : k < L.length) : w1.cell? ⟨w.heap.size, k, none⟩ = some (.int K (L.getD k 0)) :=
  hg.cell (lit_cell w L K t k hk) (by simp; omega)
theorem getD_all {p : Int → Prop} (L : List Int) (h : ∀ r ∈ L, p r) (k : Nat) (hk : k < L.length) : p (L.getD k 0) := by
  have e : L.getD k 0 = L[k] := by simp [List.getD, hk]
  rw [e]; exact h _ (List.getElem_mem hk)

def RS : List Int := [65, 97, 98, 32, 233, 19968, 128512, 769, 10, 27, 127, 65533]
theorem RS_ok : ∀ r ∈ RS, runeOk r = true := by decide
set_option maxHeartbeats 1000000 in
theorem l1DrawRune_a (g : Nat) (v : Value) (xs : List Int) (w : World) (hc : CurAt w g v xs) :
    Calls Try.prog 43 #[.pointer (some ⟨g, 0, none⟩)] w fun e w' => ∃ r, e = .returned (.int .i64 r) ∧ runeOk r = true ∧ CurAt w' g v xs ∧ w.grownBy w' (some g) := by
  have hlt := hc.1
  go_enter Try.func43, Try.ntmps43
  go_wp2_with fail
  refine (l1Below_a g v xs 12 _ (hc.below (bal w _))).mono ?_
  rintro e w1 ⟨x, rfl, hx0, hx1, _, hc1, hg1⟩
  obtain ⟨k, rfl⟩ : ∃ k : Nat, x = k := ⟨x.toNat, by omega⟩
  have hk : k < 12 := by have := hx1 (by omega); omega
  have hcell := lit_pick RS .i64 2 hg1 hlt k hk
  have hok := getD_all RS RS_ok k hk
  have hki : (k : Int) < 12 := by omega
  have hgr := gtr (World.grownBy_alloc w _ (some g)) hg1
  generalize RS.getD k 0 = r at *
  clear hg1 hc hx1
  go_wp2
  go_ret
  exact ⟨_, rfl, hok, hc1, hgr⟩
end Go.Proofs.Yticogomjpefoeaa
