/- Contracts of Get. -/
import Derived.Test.YticogomjpefoeaaPut
import Derived.Test.YticogomjpefoeaaM3
import Derived.WalkSpells
import Derived.Laws.RangeAny
import Derived.Lib.OthersKept
namespace Go.Proofs.Yticogomjpefoeaa
open Go.ChangeShapes Go.WideShapes Go.ChangeAt Go.RowKit

theorem hasPrefixLite (s p : ByteArray) (w : World) (_hs : s.size ≤ maxLen) (_hp : p.size ≤ maxLen) :
    Calls Try.prog 46 #[.string s, .string p] w fun e w' => e = .returned (.bool (pref s p)) ∧ w' = w := by
  unfold maxLen at _hs _hp
  by_cases h : p.size ≤ s.size
  · have hq : Hid (pref s p = ((s.extract 0 p.size).toList == p.toList)) := by show _ = _; simp [pref, h]
    go_enter Try.func46, Try.ntmps46
    go_wp2
    go_ret
    exact ⟨ret_bool hq.out.symm, rfl⟩
  · have hq : Hid (pref s p = false) := by show _ = _; simp [pref, h]
    go_enter Try.func46, Try.ntmps46
    go_wp2
    go_ret
    exact ⟨ret_bool hq.out.symm, rfl⟩
theorem hasPrefix_any (s p : ByteArray) (w : World) (hs : s.size ≤ maxLen) (hp : p.size ≤ maxLen) :
    Calls Try.prog 36 #[.string s, .string p] w fun e w' => e = .returned (.bool (pref s p)) ∧ w' = w := by
  go_enter Try.func36, Try.ntmps36
  go_wp2_with (go_at_call 46; refine (hasPrefixLite _ _ _ hs hp).mono ?_; rintro e w' ⟨rfl, rfl⟩)
  go_ret
  exact ⟨rfl, rfl⟩

theorem ret_int {k : IntKind} {a b : Int} (h : a = b) : Ending.returned (.int k a) = .returned (.int k b) := by rw [h]
theorem l1Long_any (b : Int) (w : World) (hb : 0 ≤ b ∧ b < 256) :
    Calls Try.prog 37 #[.int .u8 b] w fun e w' => e = .returned (.int .i64 (longV b)) ∧ w' = w := by
  go_enter Try.func37, Try.ntmps37
  go_wp2
  all_goals
    go_ret
    refine ⟨?_, rfl⟩
    refine ret_int ?_
    unfold longV
    omega

theorem isEmpty_no (s : ByteArray) (h0 : 0 < s.size) : s.toList.isEmpty = false := by
  rw [ByteArray.toList_eq, List.isEmpty_eq_false_iff]; intro e; have := congrArg List.length e; simp at this; simp [this] at h0
theorem isEmpty_yes (s : ByteArray) (h0 : ¬ 0 < s.size) : s.toList.isEmpty = true := by
  rw [ByteArray.toList_eq, List.isEmpty_iff_length_eq_zero, Array.length_toList]; exact Nat.eq_zero_of_not_pos h0
theorem maxLen_pos (n : Nat) (h : n ≤ 4) : n ≤ maxLen := by unfold maxLen; omega
set_option maxHeartbeats 400000 in
theorem implGet_any (s : ByteArray) (w : World) (hs : s.size ≤ maxLen) :
    Calls Try.prog 13 #[.string s] w fun e w' => e = .returned (.tuple #[.int .i64 (getV s).1, .int .i64 (getV s).2]) ∧ Below w.heap.size w w' := by
  by_cases h0 : 0 < s.size
  · obtain ⟨hc1, hc2⟩ := getV_decode s h0
    have hbd := getV_bd s h0
    have hnx : ∀ ty, (Instr.next (.pointer (some ⟨w.heap.size, 0, none⟩)) true ty).run Try.prog (w.iter s 0) = .ok (.tuple #[.bool true, .int .i64 0, .int .i32 (getV s).1]) (w.iter s (Utf8.decode s 0).2) := by
      intro ty
      rw [run_next_any w s 0 ty h0, hc1]; simp
    have hcs := getV_cases s h0
    have h4 := maxLen_pos _ (putS_size4 (getV s).1)
    have h4' := putS_size4 (getV s).1
    generalize getV s = d at *
    obtain ⟨c, k⟩ := d
    simp only at hcs hbd hnx h4 h4' ⊢
    clear hc1 hc2
    rcases hcs with ⟨hr, hp, hk⟩ | ⟨hk, hp⟩
    · subst hk
      go_enter Try.func13, Try.ntmps13
      go_wp2
      refine wp_loop_rounds 1 ?_
      rw [rounds_succ]
      go_wp2_with (first | (go_at_call 8; refine (implPut_any _ _).mono ?_; rintro e w' ⟨rfl, hb⟩) | (go_at_call 36; refine (hasPrefix_any _ _ _ hs h4).mono ?_; rintro e w' ⟨rfl, rfl⟩))
      go_ret2
      exact ⟨rfl, ((Below.refl _ _).alloc (Nat.le_refl _) _).trans (hb.mono (by simp [World.iter]))⟩
    · simp only [Prod.mk.injEq] at hk
      obtain ⟨rfl, rfl⟩ := hk
      have hp := hp 65533 (by decide)
      go_enter Try.func13, Try.ntmps13
      go_wp2
      refine wp_loop_rounds 1 ?_
      rw [rounds_succ]
      go_wp2_with (first | (go_at_call 8; refine (implPut_any _ _).mono ?_; rintro e w' ⟨rfl, hb⟩) | (go_at_call 36; refine (hasPrefix_any _ _ _ hs h4).mono ?_; rintro e w' ⟨rfl, rfl⟩))
      go_ret2
      exact ⟨rfl, ((Below.refl _ _).alloc (Nat.le_refl _) _).trans (hb.mono (by simp [World.iter]))⟩
  · have hz : nums s = [] := List.length_eq_zero_iff.1 (by rw [nums_len]; omega)
    have hv : Hid (getV s = (0, 0)) := by show _ = _; simp [getV, hz, dec]
    have hnx : ∀ ty, (Instr.next (.pointer (some ⟨w.heap.size, 0, none⟩)) true ty).run Try.prog (w.iter s 0) = .ok (.tuple #[.bool false]) (w.iter s 0) := fun ty => run_next_end w s 0 ty h0
    go_enter Try.func13, Try.ntmps13
    go_wp2
    refine wp_loop_rounds 1 ?_
    rw [rounds_succ]
    go_wp2
    go_ret2
    exact ⟨by rw [hv.out]; rfl, (Below.refl _ _).alloc (Nat.le_refl _) _⟩
end Go.Proofs.Yticogomjpefoeaa
