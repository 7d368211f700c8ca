/- Contract of spec.Get. -/
import Derived.Test.YticogomjpefoeaaGet
import Derived.Deep.RegionWith
import Derived.WalkLawsBesides
namespace Go.Proofs.Yticogomjpefoeaa
open Go.ChangeShapes Go.WideShapes Go.ChangeAt Go.RowKit

theorem specGet_0 (s : ByteArray) (w : World) (h0 : ¬ 0 < s.size) :
    Calls Try.prog 15 #[.string s] w fun e w' => e = .returned (.tuple #[.int .i64 (getV s).1, .int .i64 (getV s).2]) ∧ Below w.heap.size w w' := by
  have hz : nums s = [] := List.length_eq_zero_iff.1 (by rw [nums_len]; omega)
  have hv : Hid (getV s = (0, 0)) := by show _ = _; simp [getV, hz, dec]
  have he := isEmpty_yes s h0
  go_enter Try.func15, Try.ntmps15
  go_wp2
  go_ret2
  exact ⟨by rw [hv.out]; rfl, Below.refl _ _⟩

set_option maxRecDepth 20000 in
theorem specGet_none (s : ByteArray) (w : World) (h0 : 0 < s.size) (hx : longV (s[0].toNat : Int) = 0) :
    Calls Try.prog 15 #[.string s] w fun e w' => e = .returned (.tuple #[.int .i64 (getV s).1, .int .i64 (getV s).2]) ∧ Below w.heap.size w w' := by
  have hv : Hid (getV s = (65533, 1)) := getV_short s h0 (Or.inl hx)
  have hl : Hid (longV (s[0].toNat : Int) = 0) := hx
  clear hx
  have he := isEmpty_no s h0
  have hb0 : (s[0].toNat : Int) < 256 := by have := s[0].toNat_lt; omega
  go_enter Try.func15, Try.ntmps15
  go_wp2_with (first | (go_at_call 37; refine (l1Long_any _ _ (by omega)).mono ?_; rw [hl.out]; rintro e w' ⟨rfl, rfl⟩))
  go_ret2
  exact ⟨by rw [hv.out]; rfl, Below.refl _ _⟩

set_option maxRecDepth 20000 in
theorem specGet_short (s : ByteArray) (w : World) (h0 : 0 < s.size) (n : Int) (hn : 1 < n ∧ n ≤ 4) (hs : (s.size : Int) < n) (hx : longV (s[0].toNat : Int) = n) :
    Calls Try.prog 15 #[.string s] w fun e w' => e = .returned (.tuple #[.int .i64 (getV s).1, .int .i64 (getV s).2]) ∧ Below w.heap.size w w' := by
  have hv : Hid (getV s = (65533, 1)) := getV_short s h0 (Or.inr (by omega))
  have hl : Hid (longV (s[0].toNat : Int) = n) := hx
  clear hx
  have he := isEmpty_no s h0
  have hb0 : (s[0].toNat : Int) < 256 := by have := s[0].toNat_lt; omega
  have hn0 : (n == 0) = false := by simp; omega
  go_enter Try.func15, Try.ntmps15
  go_wp2_with (first | (go_at_call 37; refine (l1Long_any _ _ (by omega)).mono ?_; rw [hl.out]; rintro e w' ⟨rfl, rfl⟩))
  go_ret2
  exact ⟨by rw [hv.out]; rfl, Below.refl _ _⟩

set_option maxRecDepth 20000 in
set_option maxHeartbeats 400000 in
theorem specGet_1 (s : ByteArray) (w : World) (h0 : 0 < s.size) (hs : s.size ≤ maxLen) (hx : longV (s[0].toNat : Int) = 1) :
    Calls Try.prog 15 #[.string s] w fun e w' => e = .returned (.tuple #[.int .i64 (getV s).1, .int .i64 (getV s).2]) ∧ Below w.heap.size w w' := by
  have hv : Hid (getV s = _) := getV_long s h0 1 (s[0].toNat : Int) hx (by omega) (by omega) (by rw [nums_take1 s h0]; rfl)
  have hl : Hid (longV (s[0].toNat : Int) = 1) := hx
  have he := isEmpty_no s h0
  have hb0 : (s[0].toNat : Int) < 256 := by have := s[0].toNat_lt; omega
  unfold maxLen at hs
  by_cases hk : ((putS (s[0].toNat : Int)).toList == (s.extract 0 1).toList) = true
  · have hv : Hid (getV s = ((s[0].toNat : Int), 1)) := by have := hv.out; rw [if_pos hk] at this; exact this
    clear hx
    go_enter Try.func15, Try.ntmps15
    go_wp2_with (first | (go_at_call 37; refine (l1Long_any _ _ (by omega)).mono ?_; rw [hl.out]; rintro e w' ⟨rfl, rfl⟩))
    refine wp_loop_rounds 1 ?_
    rw [rounds_succ]
    go_wp2
    go_region_with (go_at_call 16; refine (specPut_any _ _).mono ?_; rintro e w1 ⟨rfl, hb⟩)
    all_goals
      go_wp2
      go_ret2
      exact ⟨by rw [hv.out]; rfl, (Below.refl _ _).drew.trans hb⟩
  · have hk : ((putS (s[0].toNat : Int)).toList == (s.extract 0 1).toList) = false := by simpa using hk
    have hv : Hid (getV s = (65533, 1)) := by have := hv.out; rw [if_neg (by rw [hk]; decide)] at this; exact this
    clear hx
    go_enter Try.func15, Try.ntmps15
    go_wp2_with (first | (go_at_call 37; refine (l1Long_any _ _ (by omega)).mono ?_; rw [hl.out]; rintro e w' ⟨rfl, rfl⟩))
    refine wp_loop_rounds 1 ?_
    rw [rounds_succ]
    go_wp2
    go_region_with (go_at_call 16; refine (specPut_any _ _).mono ?_; rintro e w1 ⟨rfl, hb⟩)
    all_goals
      go_wp2
      go_ret2
      exact ⟨by rw [hv.out]; rfl, (Below.refl _ _).drew.trans hb⟩

set_option maxRecDepth 20000 in
set_option maxHeartbeats 400000 in
theorem specGet_2 (s : ByteArray) (w : World) (h0 : 0 < s.size) (h1 : 1 < s.size) (hs : s.size ≤ maxLen) (hx : longV (s[0].toNat : Int) = 2) :
    Calls Try.prog 15 #[.string s] w fun e w' => e = .returned (.tuple #[.int .i64 (getV s).1, .int .i64 (getV s).2]) ∧ Below w.heap.size w w' := by
  have hv : Hid (getV s = _) := getV_long s h0 2 ((s[0].toNat : Int) % (32 : Int) * (64 : Int) + (s[1].toNat : Int) % (64 : Int)) hx (by omega) (by omega) (by rw [nums_take2 s h1]; rfl)
  have hl : Hid (longV (s[0].toNat : Int) = 2) := hx
  have he := isEmpty_no s h0
  have hb0 : (s[0].toNat : Int) < 256 := by have := s[0].toNat_lt; omega
  have hb1 : (s[1].toNat : Int) < 256 := by have := s[1].toNat_lt; omega
  unfold maxLen at hs
  by_cases hk : ((putS ((s[0].toNat : Int) % (32 : Int) * (64 : Int) + (s[1].toNat : Int) % (64 : Int))).toList == (s.extract 0 2).toList) = true
  · have hv : Hid (getV s = (((s[0].toNat : Int) % (32 : Int) * (64 : Int) + (s[1].toNat : Int) % (64 : Int)), 2)) := by have := hv.out; rw [if_pos hk] at this; exact this
    clear hx
    go_enter Try.func15, Try.ntmps15
    go_wp2_with (first | (go_at_call 37; refine (l1Long_any _ _ (by omega)).mono ?_; rw [hl.out]; rintro e w' ⟨rfl, rfl⟩))
    refine wp_loop_rounds 2 ?_
    rw [rounds_succ]
    go_wp2
    rw [rounds_succ]
    go_wp2
    go_region_with (go_at_call 16; refine (specPut_any _ _).mono ?_; rintro e w1 ⟨rfl, hb⟩)
    all_goals
      go_wp2
      go_ret2
      exact ⟨by rw [hv.out]; rfl, (Below.refl _ _).drew.trans hb⟩
  · have hk : ((putS ((s[0].toNat : Int) % (32 : Int) * (64 : Int) + (s[1].toNat : Int) % (64 : Int))).toList == (s.extract 0 2).toList) = false := by simpa using hk
    have hv : Hid (getV s = (65533, 1)) := by have := hv.out; rw [if_neg (by rw [hk]; decide)] at this; exact this
    clear hx
    go_enter Try.func15, Try.ntmps15
    go_wp2_with (first | (go_at_call 37; refine (l1Long_any _ _ (by omega)).mono ?_; rw [hl.out]; rintro e w' ⟨rfl, rfl⟩))
    refine wp_loop_rounds 2 ?_
    rw [rounds_succ]
    go_wp2
    rw [rounds_succ]
    go_wp2
    go_region_with (go_at_call 16; refine (specPut_any _ _).mono ?_; rintro e w1 ⟨rfl, hb⟩)
    all_goals
      go_wp2
      go_ret2
      exact ⟨by rw [hv.out]; rfl, (Below.refl _ _).drew.trans hb⟩

set_option maxRecDepth 20000 in
set_option maxHeartbeats 400000 in
theorem specGet_3 (s : ByteArray) (w : World) (h0 : 0 < s.size) (h1 : 1 < s.size) (h2 : 2 < s.size) (hs : s.size ≤ maxLen) (hx : longV (s[0].toNat : Int) = 3) :
    Calls Try.prog 15 #[.string s] w fun e w' => e = .returned (.tuple #[.int .i64 (getV s).1, .int .i64 (getV s).2]) ∧ Below w.heap.size w w' := by
  have hv : Hid (getV s = _) := getV_long s h0 3 (((s[0].toNat : Int) % (16 : Int) * (64 : Int) + (s[1].toNat : Int) % (64 : Int)) * (64 : Int) + (s[2].toNat : Int) % (64 : Int)) hx (by omega) (by omega) (by rw [nums_take3 s h2]; rfl)
  have hl : Hid (longV (s[0].toNat : Int) = 3) := hx
  have he := isEmpty_no s h0
  have hb0 : (s[0].toNat : Int) < 256 := by have := s[0].toNat_lt; omega
  have hb1 : (s[1].toNat : Int) < 256 := by have := s[1].toNat_lt; omega
  have hb2 : (s[2].toNat : Int) < 256 := by have := s[2].toNat_lt; omega
  unfold maxLen at hs
  by_cases hk : ((putS (((s[0].toNat : Int) % (16 : Int) * (64 : Int) + (s[1].toNat : Int) % (64 : Int)) * (64 : Int) + (s[2].toNat : Int) % (64 : Int))).toList == (s.extract 0 3).toList) = true
  · have hv : Hid (getV s = ((((s[0].toNat : Int) % (16 : Int) * (64 : Int) + (s[1].toNat : Int) % (64 : Int)) * (64 : Int) + (s[2].toNat : Int) % (64 : Int)), 3)) := by have := hv.out; rw [if_pos hk] at this; exact this
    clear hx
    go_enter Try.func15, Try.ntmps15
    go_wp2_with (first | (go_at_call 37; refine (l1Long_any _ _ (by omega)).mono ?_; rw [hl.out]; rintro e w' ⟨rfl, rfl⟩))
    refine wp_loop_rounds 3 ?_
    rw [rounds_succ]
    go_wp2
    rw [rounds_succ]
    go_wp2
    rw [rounds_succ]
    go_wp2
    go_region_with (go_at_call 16; refine (specPut_any _ _).mono ?_; rintro e w1 ⟨rfl, hb⟩)
    all_goals
      go_wp2
      go_ret2
      exact ⟨by rw [hv.out]; rfl, (Below.refl _ _).drew.trans hb⟩
  · have hk : ((putS (((s[0].toNat : Int) % (16 : Int) * (64 : Int) + (s[1].toNat : Int) % (64 : Int)) * (64 : Int) + (s[2].toNat : Int) % (64 : Int))).toList == (s.extract 0 3).toList) = false := by simpa using hk
    have hv : Hid (getV s = (65533, 1)) := by have := hv.out; rw [if_neg (by rw [hk]; decide)] at this; exact this
    clear hx
    go_enter Try.func15, Try.ntmps15
    go_wp2_with (first | (go_at_call 37; refine (l1Long_any _ _ (by omega)).mono ?_; rw [hl.out]; rintro e w' ⟨rfl, rfl⟩))
    refine wp_loop_rounds 3 ?_
    rw [rounds_succ]
    go_wp2
    rw [rounds_succ]
    go_wp2
    rw [rounds_succ]
    go_wp2
    go_region_with (go_at_call 16; refine (specPut_any _ _).mono ?_; rintro e w1 ⟨rfl, hb⟩)
    all_goals
      go_wp2
      go_ret2
      exact ⟨by rw [hv.out]; rfl, (Below.refl _ _).drew.trans hb⟩

set_option maxRecDepth 20000 in
set_option maxHeartbeats 400000 in
theorem specGet_4 (s : ByteArray) (w : World) (h0 : 0 < s.size) (h1 : 1 < s.size) (h2 : 2 < s.size) (h3 : 3 < s.size) (hs : s.size ≤ maxLen) (hx : longV (s[0].toNat : Int) = 4) :
    Calls Try.prog 15 #[.string s] w fun e w' => e = .returned (.tuple #[.int .i64 (getV s).1, .int .i64 (getV s).2]) ∧ Below w.heap.size w w' := by
  have hv : Hid (getV s = _) := getV_long s h0 4 ((((s[0].toNat : Int) % (8 : Int) * (64 : Int) + (s[1].toNat : Int) % (64 : Int)) * (64 : Int) + (s[2].toNat : Int) % (64 : Int)) * (64 : Int) + (s[3].toNat : Int) % (64 : Int)) hx (by omega) (by omega) (by rw [nums_take4 s h3]; rfl)
  have hl : Hid (longV (s[0].toNat : Int) = 4) := hx
  have he := isEmpty_no s h0
  have hb0 : (s[0].toNat : Int) < 256 := by have := s[0].toNat_lt; omega
  have hb1 : (s[1].toNat : Int) < 256 := by have := s[1].toNat_lt; omega
  have hb2 : (s[2].toNat : Int) < 256 := by have := s[2].toNat_lt; omega
  have hb3 : (s[3].toNat : Int) < 256 := by have := s[3].toNat_lt; omega
  unfold maxLen at hs
  by_cases hk : ((putS ((((s[0].toNat : Int) % (8 : Int) * (64 : Int) + (s[1].toNat : Int) % (64 : Int)) * (64 : Int) + (s[2].toNat : Int) % (64 : Int)) * (64 : Int) + (s[3].toNat : Int) % (64 : Int))).toList == (s.extract 0 4).toList) = true
  · have hv : Hid (getV s = (((((s[0].toNat : Int) % (8 : Int) * (64 : Int) + (s[1].toNat : Int) % (64 : Int)) * (64 : Int) + (s[2].toNat : Int) % (64 : Int)) * (64 : Int) + (s[3].toNat : Int) % (64 : Int)), 4)) := by have := hv.out; rw [if_pos hk] at this; exact this
    clear hx
    go_enter Try.func15, Try.ntmps15
    go_wp2_with (first | (go_at_call 37; refine (l1Long_any _ _ (by omega)).mono ?_; rw [hl.out]; rintro e w' ⟨rfl, rfl⟩))
    refine wp_loop_rounds 4 ?_
    rw [rounds_succ]
    go_wp2
    rw [rounds_succ]
    go_wp2
    rw [rounds_succ]
    go_wp2
    rw [rounds_succ]
    go_wp2
    go_region_with (go_at_call 16; refine (specPut_any _ _).mono ?_; rintro e w1 ⟨rfl, hb⟩)
    all_goals
      go_wp2
      go_ret2
      exact ⟨by rw [hv.out]; rfl, (Below.refl _ _).drew.trans hb⟩
  · have hk : ((putS ((((s[0].toNat : Int) % (8 : Int) * (64 : Int) + (s[1].toNat : Int) % (64 : Int)) * (64 : Int) + (s[2].toNat : Int) % (64 : Int)) * (64 : Int) + (s[3].toNat : Int) % (64 : Int))).toList == (s.extract 0 4).toList) = false := by simpa using hk
    have hv : Hid (getV s = (65533, 1)) := by have := hv.out; rw [if_neg (by rw [hk]; decide)] at this; exact this
    clear hx
    go_enter Try.func15, Try.ntmps15
    go_wp2_with (first | (go_at_call 37; refine (l1Long_any _ _ (by omega)).mono ?_; rw [hl.out]; rintro e w' ⟨rfl, rfl⟩))
    refine wp_loop_rounds 4 ?_
    rw [rounds_succ]
    go_wp2
    rw [rounds_succ]
    go_wp2
    rw [rounds_succ]
    go_wp2
    rw [rounds_succ]
    go_wp2
    go_region_with (go_at_call 16; refine (specPut_any _ _).mono ?_; rintro e w1 ⟨rfl, hb⟩)
    all_goals
      go_wp2
      go_ret2
      exact ⟨by rw [hv.out]; rfl, (Below.refl _ _).drew.trans hb⟩

theorem specGet_any (s : ByteArray) (w : World) (hs : s.size ≤ maxLen) :
    Calls Try.prog 15 #[.string s] w fun e w' => e = .returned (.tuple #[.int .i64 (getV s).1, .int .i64 (getV s).2]) ∧ Below w.heap.size w w' := by
  by_cases h0 : 0 < s.size
  · by_cases l0 : longV (s[0].toNat : Int) = 0
    · exact specGet_none s w h0 l0
    · have hlv : longV (s[0].toNat : Int) = 1 ∨ longV (s[0].toNat : Int) = 2 ∨ longV (s[0].toNat : Int) = 3 ∨ longV (s[0].toNat : Int) = 4 := by
        revert l0; unfold longV; intro l0; omega
      rcases hlv with h | h | h | h
      · exact specGet_1 s w h0 hs h
      · by_cases k : 1 < s.size
        · exact specGet_2 s w h0 k hs h
        · exact specGet_short s w h0 2 (by omega) (by omega) h
      · by_cases k : 2 < s.size
        · exact specGet_3 s w h0 (by omega) k hs h
        · exact specGet_short s w h0 3 (by omega) (by omega) h
      · by_cases k : 3 < s.size
        · exact specGet_4 s w h0 (by omega) (by omega) k hs h
        · exact specGet_short s w h0 4 (by omega) (by omega) h
  · exact specGet_0 s w h0
end Go.Proofs.Yticogomjpefoeaa
