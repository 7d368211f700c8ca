/- strings.TrimRight at one blank. -/
import Derived.Test.YteimcepkoclpbaaDoorJM2
import Derived.Test.YteimcepkoclpbaaDoorJBase0
namespace Go.Proofs.YteimcepkoclpbaaDoor
open Go.ChangeShapes Go.WideShapes Go.ChangeAt Go.RowKit

/-- How many stay of the first n when blanks at their end go. -/
def tN (l : List Int) : Nat → Nat
  | 0 => 0
  | n + 1 => if l.getD n 0 = 32 then tN l n else n + 1
theorem tN_le (l : List Int) : ∀ n, tN l n ≤ n
  | 0 => Nat.le_refl _
  | n + 1 => by unfold tN; split; have := tN_le l n; omega; exact Nat.le_refl _
def trimV (s : ByteArray) : ByteArray := s.extract 0 (tN (nums s) s.size)
theorem nums_trim (s : ByteArray) : nums (trimV s) = (nums s).take (tN (nums s) s.size) := by
  unfold trimV
  rw [nums_extract]; simp
theorem extract_sub (s : ByteArray) (m k : Nat) (h : k ≤ m) : (s.extract 0 m).extract 0 k = s.extract 0 k := by
  apply nums_inj
  rw [nums_extract, nums_extract, nums_extract]
  simp only [List.drop_zero]
  rw [List.take_take, Nat.min_eq_left h]
set_option maxHeartbeats 1000000 in
set_option maxRecDepth 20000 in
theorem trimByte_any (s : ByteArray) (w : World) (hs : s.size ≤ 1048576) :
    Calls Tryd.prog 75 #[.string s, .int .u8 32] w fun e w' => e = .returned (.string (trimV s)) ∧ w' = w := by
  have hT : Hid (trimV s = s.extract 0 (tN (nums s) s.size)) := rfl
  go_enter Tryd.func75, Tryd.ntmps75
  go_wp2
  go_loopw [0] (fun u wr => ∃ m : Nat, u = .string (s.extract 0 m) ∧ m ≤ s.size ∧ Hid (tN (nums s) m = tN (nums s) s.size) ∧ wr = w) (fun u _ => match u with | .string t => t.size | _ => 0)
  case atStart => exact ⟨s.size, by simp, Nat.le_refl _, rfl, rfl⟩
  case round =>
    obtain ⟨m, rfl, hm, ht, hw⟩ := hrel
    have hw' := hw.symm
    clear hw
    subst hw'
    have hz : (s.extract 0 m).size = m := by rw [ByteArray.size_extract]; omega
    by_cases h0 : m = 0
    · have hfin : Hid (trimV s = s.extract 0 m) := by show _ = _; rw [hT.out, ← ht.out, h0]; rfl
      generalize s.extract 0 m = t at *
      have hz0 : (t.size : Int) = 0 := by omega
      clear ht hT hz
      go_wp2
      go_ret
      exact ⟨by rw [hfin.out]; rfl, rfl⟩
    · obtain ⟨q, rfl⟩ : ∃ q, m = q + 1 := ⟨m - 1, by omega⟩
      have hsub := extract_sub s (q + 1) q (by omega)
      have hnt : nums (s.extract 0 (q + 1)) = (nums s).take (q + 1) := by rw [nums_extract]; simp
      have hstep : tN (nums s) (q + 1) = if (nums s).getD q 0 = 32 then tN (nums s) q else q + 1 := rfl
      generalize hx : s.extract 0 (q + 1) = t at *
      have hqt : q < t.size := by omega
      have hget : (nums s).getD q 0 = ((t[q]'hqt).toNat : Int) := by
        have h1 := nums_get t q hqt
        rw [hnt, List.getElem?_take, if_pos (by omega)] at h1
        simp [List.getD, h1]
      have hq0 : (0 : Int) < (t.size : Int) := by omega
      have hq1 : (0 : Int) ≤ (t.size : Int) - 1 := by omega
      have hw1 : IntKind.i64.wrap ((t.size : Int) - 1) = (t.size : Int) - 1 := by simp [IntKind.wrap_i64]; omega
      rw [hget] at hstep
      by_cases h32 : ((t[q]'hqt).toNat : Int) = 32
      · have hb32 : (((t[q]'hqt).toNat : Int) == 32) = true := beq_iff_eq.2 h32
        have ht2 : Hid (tN (nums s) q = tN (nums s) s.size) := by show _ = _; rw [← ht.out, hstep, if_pos h32]
        have hqs : (s.extract 0 q).size = q := by rw [ByteArray.size_extract]; omega
        clear hget hstep hnt ht hT h32 hx h0
        go_wp2
        go_roundw
        case rel => exact ⟨q, rfl, by omega, ht2, trivial⟩
        case measure => simp only; omega
      · have hb32 : (((t[q]'hqt).toNat : Int) == 32) = false := beq_eq_false_iff_ne.2 h32
        have hfin : Hid (trimV s = t) := by show _ = _; rw [hT.out, ← ht.out, hstep, if_neg h32, hx]
        clear hget hstep hnt ht hT h32 hx h0
        go_wp2
        go_ret
        exact ⟨by rw [hfin.out]; rfl, rfl⟩
theorem emptyNo (s : ByteArray) (h0 : 0 < s.size) : s.toList.isEmpty = false := by
  rw [ByteArray.toList_eq, List.isEmpty_eq_false_iff]; intro e; have := congrArg List.length e; simp at this; simp [this] at h0
set_option maxHeartbeats 1000000 in
set_option maxRecDepth 20000 in
theorem trimRight_any (s : ByteArray) (w : World) (hs : s.size ≤ 1048576) :
    Calls Tryd.prog 57 #[.string s, .string ⟨#[32]⟩] w fun e w' => e = .returned (.string (trimV s)) ∧ w' = w := by
  have hc : (⟨#[32]⟩ : ByteArray).size = 1 := rfl
  by_cases h0 : s.size = 0
  · have he : s = ⟨#[]⟩ := by apply nums_inj; have := nums_len s; rw [h0] at this; rw [List.eq_nil_of_length_eq_zero this]; rfl
    have hfin : Hid (trimV ⟨#[]⟩ = ⟨#[]⟩) := rfl
    subst he
    go_enter Tryd.func57, Tryd.ntmps57
    go_wp2
    go_ret
    exact ⟨by rw [hfin.out]; rfl, rfl⟩
  · have hne : s.toList.isEmpty = false := emptyNo s (by omega)
    have ht := trimByte_any s w hs
    go_enter Tryd.func57, Tryd.ntmps57
    go_wp2_with (go_at_call 75; refine ht.mono ?_; rintro e w2 ⟨rfl, hw⟩; subst hw)
    go_ret
    exact ⟨rfl, rfl⟩
end Go.Proofs.YteimcepkoclpbaaDoor
