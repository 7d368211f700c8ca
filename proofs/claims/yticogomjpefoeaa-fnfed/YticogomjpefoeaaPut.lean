/- Contracts of Put. -/
import Derived.Test.YticogomjpefoeaaBase1
import Derived.Laws.BytesArg
namespace Go.Proofs.Yticogomjpefoeaa
open Go.ChangeShapes Go.WideShapes Go.ChangeAt Go.RowKit
theorem make_1 (w : World) : (Instr.makeSlice 22 (.int .i64 1) (.int .i64 1)).run Try.prog w = .ok (.slice (some ⟨w.heap.size, 0, none⟩) 1 1) (w.alloc (.cells #[.int .u8 0] 5)) := by kernel_rfl
theorem conv_1 (w : World) (g : Nat) (hg : g = w.heap.size) (a : Int) : (convert 22 9 (.slice (some ⟨g, 0, none⟩) 1 1)).run Try.prog (w.alloc (.cells #[.int .u8 a] 5)) = .ok (.string (strOfNums [a])) (w.alloc (.cells #[.int .u8 a] 5))   := by
  subst hg
  refine run_convert_bytes_arg _ 22 5 Try.underlying22 Try.underlying5 _ 0 1 1 [a] rfl ?_ _ Try.underlying9
  intro i hi
  match i, hi with
  | 0, _ => simp [go_sem]
theorem make_2 (w : World) : (Instr.makeSlice 22 (.int .i64 2) (.int .i64 2)).run Try.prog w = .ok (.slice (some ⟨w.heap.size, 0, none⟩) 2 2) (w.alloc (.cells #[.int .u8 0, .int .u8 0] 5)) := by kernel_rfl
theorem conv_2 (w : World) (g : Nat) (hg : g = w.heap.size) (a b : Int) : (convert 22 9 (.slice (some ⟨g, 0, none⟩) 2 2)).run Try.prog (w.alloc (.cells #[.int .u8 a, .int .u8 b] 5)) = .ok (.string (strOfNums [a, b])) (w.alloc (.cells #[.int .u8 a, .int .u8 b] 5))   := by
  subst hg
  refine run_convert_bytes_arg _ 22 5 Try.underlying22 Try.underlying5 _ 0 2 2 [a, b] rfl ?_ _ Try.underlying9
  intro i hi
  match i, hi with
  | 0, _ => simp [go_sem]
  | 1, _ => simp [go_sem]
theorem make_3 (w : World) : (Instr.makeSlice 22 (.int .i64 3) (.int .i64 3)).run Try.prog w = .ok (.slice (some ⟨w.heap.size, 0, none⟩) 3 3) (w.alloc (.cells #[.int .u8 0, .int .u8 0, .int .u8 0] 5)) := by kernel_rfl
theorem conv_3 (w : World) (g : Nat) (hg : g = w.heap.size) (a b c : Int) : (convert 22 9 (.slice (some ⟨g, 0, none⟩) 3 3)).run Try.prog (w.alloc (.cells #[.int .u8 a, .int .u8 b, .int .u8 c] 5)) = .ok (.string (strOfNums [a, b, c])) (w.alloc (.cells #[.int .u8 a, .int .u8 b, .int .u8 c] 5))   := by
  subst hg
  refine run_convert_bytes_arg _ 22 5 Try.underlying22 Try.underlying5 _ 0 3 3 [a, b, c] rfl ?_ _ Try.underlying9
  intro i hi
  match i, hi with
  | 0, _ => simp [go_sem]
  | 1, _ => simp [go_sem]
  | 2, _ => simp [go_sem]
theorem make_4 (w : World) : (Instr.makeSlice 22 (.int .i64 4) (.int .i64 4)).run Try.prog w = .ok (.slice (some ⟨w.heap.size, 0, none⟩) 4 4) (w.alloc (.cells #[.int .u8 0, .int .u8 0, .int .u8 0, .int .u8 0] 5)) := by kernel_rfl
theorem conv_4 (w : World) (g : Nat) (hg : g = w.heap.size) (a b c d : Int) : (convert 22 9 (.slice (some ⟨g, 0, none⟩) 4 4)).run Try.prog (w.alloc (.cells #[.int .u8 a, .int .u8 b, .int .u8 c, .int .u8 d] 5)) = .ok (.string (strOfNums [a, b, c, d])) (w.alloc (.cells #[.int .u8 a, .int .u8 b, .int .u8 c, .int .u8 d] 5))   := by
  subst hg
  refine run_convert_bytes_arg _ 22 5 Try.underlying22 Try.underlying5 _ 0 4 4 [a, b, c, d] rfl ?_ _ Try.underlying9
  intro i hi
  match i, hi with
  | 0, _ => simp [go_sem]
  | 1, _ => simp [go_sem]
  | 2, _ => simp [go_sem]
  | 3, _ => simp [go_sem]

theorem ret_str {a b : ByteArray} (h : a = b) : Ending.returned (.string a) = .returned (.string b) := by rw [h]

set_option maxHeartbeats 400000 in
theorem implPut_1 (r : Int) (w : World) (hk : runeOk r = true) (h : r < 128) :
    Calls Try.prog 8 #[.int .i64 r] w fun e w' => e = .returned (.string (strOfNums (putL r))) ∧ Below w.heap.size w w' := by
  have hbd := runeOk_bd r hk
  have hpl : Hid (putL r = _) := putL_1 r h
  have hmk := make_1
  have hcv := conv_1
  go_enter Try.func8, Try.ntmps8
  go_wp2_with (first | (go_at_call 22; refine (implRuneOk_any _ _).mono ?_; rintro e w' ⟨rfl, rfl⟩) | (go_at_call 30; refine (formOf_1 _ _ (by omega)).mono ?_; rintro e w' ⟨rfl, hb⟩))
  refine wp_loop_rounds 1 ?_
  rw [rounds_succ]
  go_wp2
  go_ret
  exact ⟨ret_str (by rw [hpl.out]), ((hb.alloc hb.size _).alloc (by have := hb.size; simp; omega) _)⟩

theorem l1PutA_1 (r : Int) (w : World) (hb : 0 ≤ r ∧ r ≤ 1114111) (h : r < 128) :
    Calls Try.prog 38 #[.int .i64 r] w fun e w' => e = .returned (.slice (some ⟨w.heap.size, 0, none⟩) 1 1) ∧ w' = w.alloc (.cells #[.int .u8 r] 5) := by
  go_enter Try.func38, Try.ntmps38
  go_wp2
  go_ret
  exact ⟨rfl, rfl⟩

set_option maxHeartbeats 400000 in
theorem specPut_1 (r : Int) (w : World) (hk : runeOk r = true) (h : r < 128) :
    Calls Try.prog 16 #[.int .i64 r] w fun e w' => e = .returned (.string (strOfNums (putL r))) ∧ Below w.heap.size w w' := by
  have hbd := runeOk_bd r hk
  have hcv := conv_1
  go_enter Try.func16, Try.ntmps16
  go_wp2_with (first | (go_at_call 23; refine (specRuneOk_any _ _).mono ?_; rintro e w' ⟨rfl, rfl⟩) | (go_at_call 38; refine (l1PutA_1 _ _ (by omega) (by omega)).mono ?_; rintro e w' ⟨rfl, rfl⟩))
  go_ret
  exact ⟨ret_str (by simp only [putL]; rw [if_pos h]), (Below.refl _ _).alloc (Nat.le_refl _) _⟩

set_option maxHeartbeats 400000 in
theorem implPut_2 (r : Int) (w : World) (hk : runeOk r = true) (h0 : 128 ≤ r) (h : r < 2048) :
    Calls Try.prog 8 #[.int .i64 r] w fun e w' => e = .returned (.string (strOfNums (putL r))) ∧ Below w.heap.size w w' := by
  have hbd := runeOk_bd r hk
  have hpl : Hid (putL r = _) := putL_2 r h0 h
  have hmk := make_2
  have hcv := conv_2
  go_enter Try.func8, Try.ntmps8
  go_wp2_with (first | (go_at_call 22; refine (implRuneOk_any _ _).mono ?_; rintro e w' ⟨rfl, rfl⟩) | (go_at_call 30; refine (formOf_2 _ _ (by omega) (by omega)).mono ?_; rintro e w' ⟨rfl, hb⟩))
  refine wp_loop_rounds 2 ?_
  rw [rounds_succ]
  go_wp2
  rw [rounds_succ]
  go_wp2
  go_ret
  exact ⟨ret_str (by rw [hpl.out]), ((hb.alloc hb.size _).alloc (by have := hb.size; simp; omega) _)⟩

theorem l1PutA_2 (r : Int) (w : World) (hb : 0 ≤ r ∧ r ≤ 1114111) (h0 : 128 ≤ r) (h : r < 2048) :
    Calls Try.prog 38 #[.int .i64 r] w fun e w' => e = .returned (.slice (some ⟨w.heap.size, 0, none⟩) 2 2) ∧ w' = w.alloc (.cells #[.int .u8 (192 + r / 64), .int .u8 (128 + r % 64)] 5) := by
  go_enter Try.func38, Try.ntmps38
  go_wp2
  go_ret
  exact ⟨rfl, rfl⟩

set_option maxHeartbeats 400000 in
theorem specPut_2 (r : Int) (w : World) (hk : runeOk r = true) (h0 : 128 ≤ r) (h : r < 2048) :
    Calls Try.prog 16 #[.int .i64 r] w fun e w' => e = .returned (.string (strOfNums (putL r))) ∧ Below w.heap.size w w' := by
  have hbd := runeOk_bd r hk
  have hcv := conv_2
  go_enter Try.func16, Try.ntmps16
  go_wp2_with (first | (go_at_call 23; refine (specRuneOk_any _ _).mono ?_; rintro e w' ⟨rfl, rfl⟩) | (go_at_call 38; refine (l1PutA_2 _ _ (by omega) (by omega) (by omega)).mono ?_; rintro e w' ⟨rfl, rfl⟩))
  go_ret
  exact ⟨ret_str (by simp only [putL]; rw [if_neg (by omega), if_pos h]), (Below.refl _ _).alloc (Nat.le_refl _) _⟩

set_option maxHeartbeats 400000 in
theorem implPut_3 (r : Int) (w : World) (hk : runeOk r = true) (h0 : 2048 ≤ r) (h : r < 65536) :
    Calls Try.prog 8 #[.int .i64 r] w fun e w' => e = .returned (.string (strOfNums (putL r))) ∧ Below w.heap.size w w' := by
  have hbd := runeOk_bd r hk
  have hpl : Hid (putL r = _) := putL_3 r h0 h
  have hmk := make_3
  have hcv := conv_3
  go_enter Try.func8, Try.ntmps8
  go_wp2_with (first | (go_at_call 22; refine (implRuneOk_any _ _).mono ?_; rintro e w' ⟨rfl, rfl⟩) | (go_at_call 30; refine (formOf_3 _ _ (by omega) (by omega)).mono ?_; rintro e w' ⟨rfl, hb⟩))
  refine wp_loop_rounds 3 ?_
  rw [rounds_succ]
  go_wp2
  rw [rounds_succ]
  go_wp2
  rw [rounds_succ]
  go_wp2
  go_ret
  exact ⟨ret_str (by rw [hpl.out]), ((hb.alloc hb.size _).alloc (by have := hb.size; simp; omega) _)⟩

theorem l1PutA_3 (r : Int) (w : World) (hb : 0 ≤ r ∧ r ≤ 1114111) (h0 : 2048 ≤ r) (h : r < 65536) :
    Calls Try.prog 38 #[.int .i64 r] w fun e w' => e = .returned (.slice (some ⟨w.heap.size, 0, none⟩) 3 3) ∧ w' = w.alloc (.cells #[.int .u8 (224 + r / 4096), .int .u8 (128 + r / 64 % 64), .int .u8 (128 + r % 64)] 5) := by
  go_enter Try.func38, Try.ntmps38
  go_wp2
  go_ret
  exact ⟨rfl, rfl⟩

set_option maxHeartbeats 400000 in
theorem specPut_3 (r : Int) (w : World) (hk : runeOk r = true) (h0 : 2048 ≤ r) (h : r < 65536) :
    Calls Try.prog 16 #[.int .i64 r] w fun e w' => e = .returned (.string (strOfNums (putL r))) ∧ Below w.heap.size w w' := by
  have hbd := runeOk_bd r hk
  have hcv := conv_3
  go_enter Try.func16, Try.ntmps16
  go_wp2_with (first | (go_at_call 23; refine (specRuneOk_any _ _).mono ?_; rintro e w' ⟨rfl, rfl⟩) | (go_at_call 38; refine (l1PutA_3 _ _ (by omega) (by omega) (by omega)).mono ?_; rintro e w' ⟨rfl, rfl⟩))
  go_ret
  exact ⟨ret_str (by simp only [putL]; rw [if_neg (by omega), if_neg (by omega), if_pos h]), (Below.refl _ _).alloc (Nat.le_refl _) _⟩

set_option maxHeartbeats 400000 in
theorem implPut_4 (r : Int) (w : World) (hk : runeOk r = true) (h0 : 65536 ≤ r) :
    Calls Try.prog 8 #[.int .i64 r] w fun e w' => e = .returned (.string (strOfNums (putL r))) ∧ Below w.heap.size w w' := by
  have hbd := runeOk_bd r hk
  have hpl : Hid (putL r = _) := putL_4 r h0
  have hmk := make_4
  have hcv := conv_4
  go_enter Try.func8, Try.ntmps8
  go_wp2_with (first | (go_at_call 22; refine (implRuneOk_any _ _).mono ?_; rintro e w' ⟨rfl, rfl⟩) | (go_at_call 30; refine (formOf_4 _ _ (by omega) (by omega)).mono ?_; rintro e w' ⟨rfl, hb⟩))
  refine wp_loop_rounds 4 ?_
  rw [rounds_succ]
  go_wp2
  rw [rounds_succ]
  go_wp2
  rw [rounds_succ]
  go_wp2
  rw [rounds_succ]
  go_wp2
  go_ret
  exact ⟨ret_str (by rw [hpl.out]), ((hb.alloc hb.size _).alloc (by have := hb.size; simp; omega) _)⟩

theorem l1PutA_4 (r : Int) (w : World) (hb : 0 ≤ r ∧ r ≤ 1114111) (h0 : 65536 ≤ r) :
    Calls Try.prog 38 #[.int .i64 r] w fun e w' => e = .returned (.slice (some ⟨w.heap.size, 0, none⟩) 4 4) ∧ w' = w.alloc (.cells #[.int .u8 (240 + r / 262144), .int .u8 (128 + r / 4096 % 64), .int .u8 (128 + r / 64 % 64), .int .u8 (128 + r % 64)] 5) := by
  go_enter Try.func38, Try.ntmps38
  go_wp2
  go_ret
  exact ⟨rfl, rfl⟩

set_option maxHeartbeats 400000 in
theorem specPut_4 (r : Int) (w : World) (hk : runeOk r = true) (h0 : 65536 ≤ r) :
    Calls Try.prog 16 #[.int .i64 r] w fun e w' => e = .returned (.string (strOfNums (putL r))) ∧ Below w.heap.size w w' := by
  have hbd := runeOk_bd r hk
  have hcv := conv_4
  go_enter Try.func16, Try.ntmps16
  go_wp2_with (first | (go_at_call 23; refine (specRuneOk_any _ _).mono ?_; rintro e w' ⟨rfl, rfl⟩) | (go_at_call 38; refine (l1PutA_4 _ _ (by omega) (by omega)).mono ?_; rintro e w' ⟨rfl, rfl⟩))
  go_ret
  exact ⟨ret_str (by simp only [putL]; rw [if_neg (by omega), if_neg (by omega), if_neg (by omega)]), (Below.refl _ _).alloc (Nat.le_refl _) _⟩

theorem implPut_any (r : Int) (w : World) :
    Calls Try.prog 8 #[.int .i64 r] w fun e w' => e = .returned (.string (putS r)) ∧ Below w.heap.size w w' := by
  by_cases hk : runeOk r = true
  · rw [putS_ok r hk]
    by_cases h1 : r < 128
    · exact implPut_1 r w hk h1
    · by_cases h2 : r < 2048
      · exact implPut_2 r w hk (by omega) h2
      · by_cases h3 : r < 65536
        · exact implPut_3 r w hk (by omega) h3
        · exact implPut_4 r w hk (by omega)
  · have hk' : runeOk r = false := by simpa using hk
    have hp : Hid (putS r = ⟨#[]⟩) := by show _ = _; simp [putS, hk']
    go_enter Try.func8, Try.ntmps8
    go_wp2_with (go_at_call 22; refine (implRuneOk_any _ _).mono ?_; rintro e w' ⟨rfl, rfl⟩)
    go_ret
    exact ⟨ret_str hp.out.symm, Below.refl _ _⟩

theorem specPut_any (r : Int) (w : World) :
    Calls Try.prog 16 #[.int .i64 r] w fun e w' => e = .returned (.string (putS r)) ∧ Below w.heap.size w w' := by
  by_cases hk : runeOk r = true
  · rw [putS_ok r hk]
    by_cases h1 : r < 128
    · exact specPut_1 r w hk h1
    · by_cases h2 : r < 2048
      · exact specPut_2 r w hk (by omega) h2
      · by_cases h3 : r < 65536
        · exact specPut_3 r w hk (by omega) h3
        · exact specPut_4 r w hk (by omega)
  · have hk' : runeOk r = false := by simpa using hk
    have hp : Hid (putS r = ⟨#[]⟩) := by show _ = _; simp [putS, hk']
    go_enter Try.func16, Try.ntmps16
    go_wp2_with (go_at_call 23; refine (specRuneOk_any _ _).mono ?_; rintro e w' ⟨rfl, rfl⟩)
    go_ret
    exact ⟨ret_str hp.out.symm, Below.refl _ _⟩
end Go.Proofs.Yticogomjpefoeaa
