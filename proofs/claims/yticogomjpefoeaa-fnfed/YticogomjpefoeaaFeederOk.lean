/- Contracts of FeederOk. -/
import Derived.Test.YticogomjpefoeaaShort
namespace Go.Proofs.Yticogomjpefoeaa
open Go.ChangeShapes Go.WideShapes Go.ChangeAt Go.RowKit

def feedOk (h : ByteArray) : Bool := if 0 < h.size then decide (h.size ≤ 3) && cutB h else true
theorem feedOk_0 (h : ByteArray) (h0 : ¬ 0 < h.size) : feedOk h = true := by simp [feedOk, h0]
theorem feedOk_big (h : ByteArray) (h0 : ¬ h.size ≤ 3) : feedOk h = false := by simp [feedOk, h0]; omega
theorem feedOk_cut (h : ByteArray) (h0 : 0 < h.size) (h1 : h.size ≤ 3) : feedOk h = cutB h := by simp [feedOk, h0, h1]

set_option maxHeartbeats 400000 in
theorem implFeederOk_any (h : ByteArray) (w : World) :
    Calls Try.prog 27 #[.agg #[.string h]] w fun e w' => e = .returned (.bool (feedOk h)) ∧ Below w.heap.size w w' := by
  have hy0 := fun o => (Below.refl w.heap.size w).alloc (Nat.le_refl _) o
  by_cases h0 : 0 < h.size
  · have he := isEmpty_no h h0
    by_cases h1 : h.size ≤ 3
    · have hf : Hid (feedOk h = cutB h) := feedOk_cut h h0 h1
      have hi : (h.size : Int) ≤ 3 := by omega
      go_enter Try.func27, Try.ntmps27
      go_wp2_with (go_at_call 42; refine (cutShort_any h _ h1).mono ?_; rintro e w1 ⟨rfl, hb⟩)
      go_ret
      exact ⟨ret_bool hf.out.symm, (hy0 _).trans (hb.mono (by simp))⟩
    · have hf : Hid (feedOk h = false) := feedOk_big h h1
      have hi : ¬ (h.size : Int) ≤ 3 := by omega
      go_enter Try.func27, Try.ntmps27
      go_wp2
      go_ret
      exact ⟨ret_bool hf.out.symm, hy0 _⟩
  · have he := isEmpty_yes h h0
    have hf : Hid (feedOk h = true) := feedOk_0 h h0
    go_enter Try.func27, Try.ntmps27
    go_wp2
    go_ret
    exact ⟨ret_bool hf.out.symm, hy0 _⟩

theorem l1Part_any (h : ByteArray) (w : World) (hs : h.size ≤ 3) :
    Calls Try.prog 41 #[.string h] w fun e w' => e = .returned (.bool (feedOk h)) ∧ Below w.heap.size w w' := by
  by_cases h0 : 0 < h.size
  · rw [feedOk_cut h h0 hs]
    obtain ⟨n, hn, hn4⟩ : ∃ n : Nat, longV (h[0].toNat : Int) = n ∧ n ≤ 4 := by
      have : 0 ≤ longV (h[0].toNat : Int) ∧ longV (h[0].toNat : Int) ≤ 4 := by unfold longV; omega
      exact ⟨(longV (h[0].toNat : Int)).toNat, by omega, by omega⟩
    obtain ⟨s1, s2⟩ := short_same h h0 hs n hn
    by_cases hlt : h.size < n
    · rw [s2 hlt]; exact l1Part_long h n w h0 hs ⟨hlt, hn4⟩ hn
    · rw [s1 (by omega)]; exact l1Part_no h n w h0 (by omega) hn
  · rw [feedOk_0 h h0]; exact l1Part_empty h w h0

set_option maxHeartbeats 400000 in
theorem specFeederOk_any (h : ByteArray) (w : World) :
    Calls Try.prog 28 #[.agg #[.string h]] w fun e w' => e = .returned (.bool (feedOk h)) ∧ Below w.heap.size w w' := by
  have hy0 := fun o => (Below.refl w.heap.size w).alloc (Nat.le_refl _) o
  by_cases h1 : h.size ≤ 3
  · have hi : (h.size : Int) ≤ 3 := by omega
    go_enter Try.func28, Try.ntmps28
    go_wp2_with (go_at_call 41; refine (l1Part_any h _ h1).mono ?_; rintro e w1 ⟨rfl, hb⟩)
    go_ret
    exact ⟨rfl, (hy0 _).trans (hb.mono (by simp))⟩
  · have hf : Hid (feedOk h = false) := feedOk_big h h1
    have hi : ¬ (h.size : Int) ≤ 3 := by omega
    go_enter Try.func28, Try.ntmps28
    go_wp2
    go_ret
    exact ⟨ret_bool hf.out.symm, hy0 _⟩
end Go.Proofs.Yticogomjpefoeaa
