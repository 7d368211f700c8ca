/- Contract of spec.l1Part. -/
import Derived.Test.YticogomjpefoeaaSGet
namespace Go.Proofs.Yticogomjpefoeaa
open Go.ChangeShapes Go.WideShapes Go.ChangeAt Go.RowKit

def fillB (h : ByteArray) (n : Nat) : Bool := ((getV (h ++ ({ data := #[128, 128, 128] } : ByteArray).extract 0 (n - h.size))).2 == (n : Int)) || ((getV (h ++ ({ data := #[160, 128, 128] } : ByteArray).extract 0 (n - h.size))).2 == (n : Int)) || ((getV (h ++ ({ data := #[144, 128, 128] } : ByteArray).extract 0 (n - h.size))).2 == (n : Int)) || ((getV (h ++ ({ data := #[191, 191, 191] } : ByteArray).extract 0 (n - h.size))).2 == (n : Int)) || ((getV (h ++ ({ data := #[159, 191, 191] } : ByteArray).extract 0 (n - h.size))).2 == (n : Int)) || ((getV (h ++ ({ data := #[143, 191, 191] } : ByteArray).extract 0 (n - h.size))).2 == (n : Int))
def FillAt (g : Nat) (w : World) : Prop :=
  g < w.heap.size ∧ w.cell? ⟨g, 1, none⟩ = some (.string ({ data := #[160, 128, 128] } : ByteArray)) ∧ w.cell? ⟨g, 2, none⟩ = some (.string ({ data := #[144, 128, 128] } : ByteArray)) ∧ w.cell? ⟨g, 3, none⟩ = some (.string ({ data := #[191, 191, 191] } : ByteArray)) ∧ w.cell? ⟨g, 4, none⟩ = some (.string ({ data := #[159, 191, 191] } : ByteArray)) ∧ w.cell? ⟨g, 5, none⟩ = some (.string ({ data := #[143, 191, 191] } : ByteArray))
theorem FillAt.below {g : Nat} {w w' : World} (h : FillAt g w) (hb : Below w.heap.size w w') : FillAt g w' := by
  obtain ⟨hg, q1, q2, q3, q4, q5⟩ := h
  exact ⟨Nat.lt_of_lt_of_le hg hb.size, (hb.cell (p := ⟨g, 1, none⟩) hg).trans q1, (hb.cell (p := ⟨g, 2, none⟩) hg).trans q2, (hb.cell (p := ⟨g, 3, none⟩) hg).trans q3, (hb.cell (p := ⟨g, 4, none⟩) hg).trans q4, (hb.cell (p := ⟨g, 5, none⟩) hg).trans q5⟩
theorem fill_new (w : World) : FillAt w.heap.size (w.alloc (.cells #[(.string ({ data := #[128, 128, 128] } : ByteArray) : Value), (.string ({ data := #[160, 128, 128] } : ByteArray) : Value), (.string ({ data := #[144, 128, 128] } : ByteArray) : Value), (.string ({ data := #[191, 191, 191] } : ByteArray) : Value), (.string ({ data := #[159, 191, 191] } : ByteArray) : Value), (.string ({ data := #[143, 191, 191] } : ByteArray) : Value)] 9)) := by
  refine ⟨by simp, ?_, ?_, ?_, ?_, ?_⟩ <;> simp [go_sem]

set_option maxHeartbeats 2000000 in
set_option maxRecDepth 20000 in
theorem l1Part_long (h : ByteArray) (n : Nat) (w : World) (h0 : 0 < h.size) (hs : h.size ≤ 3) (hn : h.size < n ∧ n ≤ 4) (hx : longV (h[0].toNat : Int) = n) :
    Calls Try.prog 41 #[.string h] w fun e w' => e = .returned (.bool (fillB h n)) ∧ Below w.heap.size w w' := by
  have hl : Hid (longV (h[0].toNat : Int) = n) := hx
  clear hx
  have he := isEmpty_no h h0
  have hb0 : (h[0].toNat : Int) < 256 := by have := h[0].toNat_lt; omega
  have hlt : ¬ ((n : Int) ≤ (h.size : Int)) := by omega
  have hy0 := fun o => (Below.refl w.heap.size w).alloc (Nat.le_refl _) o
  have m0 : (h ++ ({ data := #[128, 128, 128] } : ByteArray).extract 0 (n - h.size)).size ≤ maxLen := by rw [ByteArray.size_append, ByteArray.size_extract]; unfold maxLen; omega
  have m1 : (h ++ ({ data := #[160, 128, 128] } : ByteArray).extract 0 (n - h.size)).size ≤ maxLen := by rw [ByteArray.size_append, ByteArray.size_extract]; unfold maxLen; omega
  have m2 : (h ++ ({ data := #[144, 128, 128] } : ByteArray).extract 0 (n - h.size)).size ≤ maxLen := by rw [ByteArray.size_append, ByteArray.size_extract]; unfold maxLen; omega
  have m3 : (h ++ ({ data := #[191, 191, 191] } : ByteArray).extract 0 (n - h.size)).size ≤ maxLen := by rw [ByteArray.size_append, ByteArray.size_extract]; unfold maxLen; omega
  have m4 : (h ++ ({ data := #[159, 191, 191] } : ByteArray).extract 0 (n - h.size)).size ≤ maxLen := by rw [ByteArray.size_append, ByteArray.size_extract]; unfold maxLen; omega
  have m5 : (h ++ ({ data := #[143, 191, 191] } : ByteArray).extract 0 (n - h.size)).size ≤ maxLen := by rw [ByteArray.size_append, ByteArray.size_extract]; unfold maxLen; omega
  have g0 := fun W => specGet_any (h ++ ({ data := #[128, 128, 128] } : ByteArray).extract 0 (n - h.size)) W m0
  have g1 := fun W => specGet_any (h ++ ({ data := #[160, 128, 128] } : ByteArray).extract 0 (n - h.size)) W m1
  have g2 := fun W => specGet_any (h ++ ({ data := #[144, 128, 128] } : ByteArray).extract 0 (n - h.size)) W m2
  have g3 := fun W => specGet_any (h ++ ({ data := #[191, 191, 191] } : ByteArray).extract 0 (n - h.size)) W m3
  have g4 := fun W => specGet_any (h ++ ({ data := #[159, 191, 191] } : ByteArray).extract 0 (n - h.size)) W m4
  have g5 := fun W => specGet_any (h ++ ({ data := #[143, 191, 191] } : ByteArray).extract 0 (n - h.size)) W m5
  clear m0 m1 m2 m3 m4 m5
  go_enter Try.func41, Try.ntmps41
  go_wp2_with (first | (go_at_call 37; refine (l1Long_any _ _ (by omega)).mono ?_; rw [hl.out]; rintro e w' ⟨rfl, hw⟩; subst w'))
  refine wp_loop_rounds 7 ?_
  rw [rounds_succ]
  go_wp2_with (go_at_call 15; refine (g0 _).mono ?_; rintro e w1 ⟨rfl, hb⟩; obtain ⟨hg, q1, q2, q3, q4, q5⟩ := (fill_new w).below hb; replace hb := (hy0 _).trans (hb.mono (by simp)))
  · go_ret
    exact ⟨ret_bool (by simp only [fillB, *, Bool.true_or]), hb⟩
  rw [rounds_succ]
  go_wp2_with (go_at_call 15; refine (g1 _).mono ?_; rintro e w1 ⟨rfl, hc⟩; replace hb := hb.trans (hc.mono hb.size); obtain ⟨hgx1, q1x1, q2x1, q3x1, q4x1, q5x1⟩ := FillAt.below ⟨hg, q1, q2, q3, q4, q5⟩ hc; clear hg q1 q2 q3 q4 q5)
  · go_ret
    exact ⟨ret_bool (by simp only [fillB, *, Bool.true_or, Bool.or_true]), hb⟩
  rw [rounds_succ]
  go_wp2_with (go_at_call 15; refine (g2 _).mono ?_; rintro e w1 ⟨rfl, hc⟩; replace hb := hb.trans (hc.mono hb.size); obtain ⟨hgx2, q1x2, q2x2, q3x2, q4x2, q5x2⟩ := FillAt.below ⟨hgx1, q1x1, q2x1, q3x1, q4x1, q5x1⟩ hc; clear hgx1 q1x1 q2x1 q3x1 q4x1 q5x1)
  · go_ret
    exact ⟨ret_bool (by simp only [fillB, *, Bool.true_or, Bool.false_or, Bool.or_true]), hb⟩
  rw [rounds_succ]
  go_wp2_with (go_at_call 15; refine (g3 _).mono ?_; rintro e w1 ⟨rfl, hc⟩; replace hb := hb.trans (hc.mono hb.size); obtain ⟨hgx3, q1x3, q2x3, q3x3, q4x3, q5x3⟩ := FillAt.below ⟨hgx2, q1x2, q2x2, q3x2, q4x2, q5x2⟩ hc; clear hgx2 q1x2 q2x2 q3x2 q4x2 q5x2)
  · go_ret
    exact ⟨ret_bool (by simp only [fillB, *, Bool.true_or, Bool.false_or, Bool.or_true]), hb⟩
  rw [rounds_succ]
  go_wp2_with (go_at_call 15; refine (g4 _).mono ?_; rintro e w1 ⟨rfl, hc⟩; replace hb := hb.trans (hc.mono hb.size); obtain ⟨hgx4, q1x4, q2x4, q3x4, q4x4, q5x4⟩ := FillAt.below ⟨hgx3, q1x3, q2x3, q3x3, q4x3, q5x3⟩ hc; clear hgx3 q1x3 q2x3 q3x3 q4x3 q5x3)
  · go_ret
    exact ⟨ret_bool (by simp only [fillB, *, Bool.true_or, Bool.false_or, Bool.or_true]), hb⟩
  rw [rounds_succ]
  go_wp2_with (go_at_call 15; refine (g5 _).mono ?_; rintro e w1 ⟨rfl, hc⟩; replace hb := hb.trans (hc.mono hb.size); obtain ⟨hgx5, q1x5, q2x5, q3x5, q4x5, q5x5⟩ := FillAt.below ⟨hgx4, q1x4, q2x4, q3x4, q4x4, q5x4⟩ hc; clear hgx4 q1x4 q2x4 q3x4 q4x4 q5x4)
  · go_ret
    exact ⟨ret_bool (by simp only [fillB, *, Bool.false_or, Bool.or_true]), hb⟩
  rw [rounds_succ]
  go_wp2
  go_ret
  exact ⟨ret_bool (by simp only [fillB, *, Bool.or_false]), hb⟩

theorem l1Part_no (h : ByteArray) (n : Int) (w : World) (h0 : 0 < h.size) (hn : n ≤ h.size) (hx : longV (h[0].toNat : Int) = n) :
    Calls Try.prog 41 #[.string h] w fun e w' => e = .returned (.bool false) ∧ Below w.heap.size w w' := by
  have hl : Hid (longV (h[0].toNat : Int) = n) := hx
  clear hx
  have he := isEmpty_no h h0
  have hb0 : (h[0].toNat : Int) < 256 := by have := h[0].toNat_lt; omega
  go_enter Try.func41, Try.ntmps41
  go_wp2_with (first | (go_at_call 37; refine (l1Long_any _ _ (by omega)).mono ?_; rw [hl.out]; rintro e w' ⟨rfl, rfl⟩))
  go_ret
  exact ⟨rfl, Below.refl _ _⟩

theorem l1Part_empty (h : ByteArray) (w : World) (h0 : ¬ 0 < h.size) :
    Calls Try.prog 41 #[.string h] w fun e w' => e = .returned (.bool true) ∧ Below w.heap.size w w' := by
  have he := isEmpty_yes h h0
  go_enter Try.func41, Try.ntmps41
  go_wp2
  go_ret
  exact ⟨rfl, Below.refl _ _⟩
end Go.Proofs.Yticogomjpefoeaa
