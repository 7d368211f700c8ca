/- Contract of the program's Width: its table lies in a package's variable. -/
import Derived.Test.YteimcepkoclpbaaDoorW0
import Derived.WalkMore
namespace Go.Proofs.YteimcepkoclpbaaDoor
open Go.ChangeShapes Go.WideShapes Go.ChangeAt Go.RowKit

def spansC : Array Value := #[.int .i64 0, .int .i64 31, .int .i64 0, .int .i64 127, .int .i64 159, .int .i64 0, .int .i64 768, .int .i64 879, .int .i64 0, .int .i64 4352, .int .i64 4447, .int .i64 2, .int .i64 12288, .int .i64 55295, .int .i64 2, .int .i64 127744, .int .i64 131071, .int .i64 2]
/-- The table lies where the program lays it. -/
def SpansAt (w : World) : Prop := ∃ t fr, w.heap[0]? = some (.cells spansC t fr)
theorem SpansAt.below {B : Nat} {w w' : World} (h : SpansAt w) (hb : Below B w w') (hB : 0 < B) : SpansAt w' := by
  obtain ⟨t, fr, h⟩ := h
  exact ⟨t, fr, by rw [hb.block _ hB]; exact h⟩
theorem SpansAt.lt {w : World} (h : SpansAt w) : 0 < w.heap.size := by
  obtain ⟨t, fr, h⟩ := h
  exact (Array.getElem?_eq_some_iff.1 h).1

theorem span_0 : ∀ w, (Instr.index 78 (.agg #[.int .i64 0, .int .i64 31, .int .i64 0, .int .i64 127, .int .i64 159, .int .i64 0, .int .i64 768, .int .i64 879, .int .i64 0, .int .i64 4352, .int .i64 4447, .int .i64 2, .int .i64 12288, .int .i64 55295, .int .i64 2, .int .i64 127744, .int .i64 131071, .int .i64 2]) (.int .i64 0)).run Tryd.prog w = .ok (.agg #[.int .i64 0, .int .i64 31, .int .i64 0]) w := fun _ => by kernel_rfl
theorem span_1 : ∀ w, (Instr.index 78 (.agg #[.int .i64 0, .int .i64 31, .int .i64 0, .int .i64 127, .int .i64 159, .int .i64 0, .int .i64 768, .int .i64 879, .int .i64 0, .int .i64 4352, .int .i64 4447, .int .i64 2, .int .i64 12288, .int .i64 55295, .int .i64 2, .int .i64 127744, .int .i64 131071, .int .i64 2]) (.int .i64 1)).run Tryd.prog w = .ok (.agg #[.int .i64 127, .int .i64 159, .int .i64 0]) w := fun _ => by kernel_rfl
theorem span_2 : ∀ w, (Instr.index 78 (.agg #[.int .i64 0, .int .i64 31, .int .i64 0, .int .i64 127, .int .i64 159, .int .i64 0, .int .i64 768, .int .i64 879, .int .i64 0, .int .i64 4352, .int .i64 4447, .int .i64 2, .int .i64 12288, .int .i64 55295, .int .i64 2, .int .i64 127744, .int .i64 131071, .int .i64 2]) (.int .i64 2)).run Tryd.prog w = .ok (.agg #[.int .i64 768, .int .i64 879, .int .i64 0]) w := fun _ => by kernel_rfl
theorem span_3 : ∀ w, (Instr.index 78 (.agg #[.int .i64 0, .int .i64 31, .int .i64 0, .int .i64 127, .int .i64 159, .int .i64 0, .int .i64 768, .int .i64 879, .int .i64 0, .int .i64 4352, .int .i64 4447, .int .i64 2, .int .i64 12288, .int .i64 55295, .int .i64 2, .int .i64 127744, .int .i64 131071, .int .i64 2]) (.int .i64 3)).run Tryd.prog w = .ok (.agg #[.int .i64 4352, .int .i64 4447, .int .i64 2]) w := fun _ => by kernel_rfl
theorem span_4 : ∀ w, (Instr.index 78 (.agg #[.int .i64 0, .int .i64 31, .int .i64 0, .int .i64 127, .int .i64 159, .int .i64 0, .int .i64 768, .int .i64 879, .int .i64 0, .int .i64 4352, .int .i64 4447, .int .i64 2, .int .i64 12288, .int .i64 55295, .int .i64 2, .int .i64 127744, .int .i64 131071, .int .i64 2]) (.int .i64 4)).run Tryd.prog w = .ok (.agg #[.int .i64 12288, .int .i64 55295, .int .i64 2]) w := fun _ => by kernel_rfl
theorem span_5 : ∀ w, (Instr.index 78 (.agg #[.int .i64 0, .int .i64 31, .int .i64 0, .int .i64 127, .int .i64 159, .int .i64 0, .int .i64 768, .int .i64 879, .int .i64 0, .int .i64 4352, .int .i64 4447, .int .i64 2, .int .i64 12288, .int .i64 55295, .int .i64 2, .int .i64 127744, .int .i64 131071, .int .i64 2]) (.int .i64 5)).run Tryd.prog w = .ok (.agg #[.int .i64 127744, .int .i64 131071, .int .i64 2]) w := fun _ => by kernel_rfl
set_option maxHeartbeats 1000000 in
theorem implWidth_1b (r : Int) (w : World) (hr : runeOk r = true) (hs : SpansAt w) (h0 : r ≤ 31) :
    Calls Tryd.prog 42 #[.int .i64 r] w fun e w' => e = .returned (.int .i64 0) ∧ Below w.heap.size w w' := by
  have hb := (runeOk_iff r).1 hr
  obtain ⟨tt, fr, hg⟩ := hs
  go_enter Tryd.func42, Tryd.ntmps42
  go_wp2
  go_step3
  go_wp2_with (go_at_call 69; refine (implRuneOk_any _ _).mono ?_; rw [hr]; rintro e w' ⟨rfl, hw⟩; subst hw)
  go_step3
  go_wp2_with (refine wpList_load_row rfl 78 _ rfl 0 rfl tt _ fr _ hg Tryd.underlying78 rfl (by kernel_rfl) ?_)
  unfold spansC
  have i0 := span_0
  have i1 := span_1
  have i2 := span_2
  have i3 := span_3
  have i4 := span_4
  have i5 := span_5
  refine wp_loop_rounds 1 ?_
  rw [rounds_succ]
  go_wp2
  rw [Exit.noGoto_ret]
  go_ret
  exact ⟨rfl, (by repeat (first | exact Below.refl _ _ | refine Below.alloc ?_ (by simp <;> omega) _))⟩
set_option maxHeartbeats 1000000 in
theorem implWidth_2a (r : Int) (w : World) (hr : runeOk r = true) (hs : SpansAt w) (h0 : 31 < r) (h1 : r < 127) :
    Calls Tryd.prog 42 #[.int .i64 r] w fun e w' => e = .returned (.int .i64 1) ∧ Below w.heap.size w w' := by
  have hb := (runeOk_iff r).1 hr
  obtain ⟨tt, fr, hg⟩ := hs
  go_enter Tryd.func42, Tryd.ntmps42
  go_wp2
  go_step3
  go_wp2_with (go_at_call 69; refine (implRuneOk_any _ _).mono ?_; rw [hr]; rintro e w' ⟨rfl, hw⟩; subst hw)
  go_step3
  go_wp2_with (refine wpList_load_row rfl 78 _ rfl 0 rfl tt _ fr _ hg Tryd.underlying78 rfl (by kernel_rfl) ?_)
  unfold spansC
  have i0 := span_0
  have i1 := span_1
  have i2 := span_2
  have i3 := span_3
  have i4 := span_4
  have i5 := span_5
  refine wp_loop_rounds 2 ?_
  rw [rounds_succ]
  go_wp2
  rw [rounds_succ]
  go_wp2
  rw [Exit.noGoto_ret]
  go_ret
  exact ⟨rfl, (by repeat (first | exact Below.refl _ _ | refine Below.alloc ?_ (by simp <;> omega) _))⟩
set_option maxHeartbeats 1000000 in
theorem implWidth_2b (r : Int) (w : World) (hr : runeOk r = true) (hs : SpansAt w) (h0 : 127 ≤ r) (h1 : r ≤ 159) :
    Calls Tryd.prog 42 #[.int .i64 r] w fun e w' => e = .returned (.int .i64 0) ∧ Below w.heap.size w w' := by
  have hb := (runeOk_iff r).1 hr
  obtain ⟨tt, fr, hg⟩ := hs
  go_enter Tryd.func42, Tryd.ntmps42
  go_wp2
  go_step3
  go_wp2_with (go_at_call 69; refine (implRuneOk_any _ _).mono ?_; rw [hr]; rintro e w' ⟨rfl, hw⟩; subst hw)
  go_step3
  go_wp2_with (refine wpList_load_row rfl 78 _ rfl 0 rfl tt _ fr _ hg Tryd.underlying78 rfl (by kernel_rfl) ?_)
  unfold spansC
  have i0 := span_0
  have i1 := span_1
  have i2 := span_2
  have i3 := span_3
  have i4 := span_4
  have i5 := span_5
  refine wp_loop_rounds 2 ?_
  rw [rounds_succ]
  go_wp2
  rw [rounds_succ]
  go_wp2
  rw [Exit.noGoto_ret]
  go_ret
  exact ⟨rfl, (by repeat (first | exact Below.refl _ _ | refine Below.alloc ?_ (by simp <;> omega) _))⟩
set_option maxHeartbeats 1000000 in
theorem implWidth_3a (r : Int) (w : World) (hr : runeOk r = true) (hs : SpansAt w) (h0 : 159 < r) (h1 : r < 768) :
    Calls Tryd.prog 42 #[.int .i64 r] w fun e w' => e = .returned (.int .i64 1) ∧ Below w.heap.size w w' := by
  have hb := (runeOk_iff r).1 hr
  obtain ⟨tt, fr, hg⟩ := hs
  go_enter Tryd.func42, Tryd.ntmps42
  go_wp2
  go_step3
  go_wp2_with (go_at_call 69; refine (implRuneOk_any _ _).mono ?_; rw [hr]; rintro e w' ⟨rfl, hw⟩; subst hw)
  go_step3
  go_wp2_with (refine wpList_load_row rfl 78 _ rfl 0 rfl tt _ fr _ hg Tryd.underlying78 rfl (by kernel_rfl) ?_)
  unfold spansC
  have i0 := span_0
  have i1 := span_1
  have i2 := span_2
  have i3 := span_3
  have i4 := span_4
  have i5 := span_5
  refine wp_loop_rounds 3 ?_
  rw [rounds_succ]
  go_wp2
  rw [rounds_succ]
  go_wp2
  rw [rounds_succ]
  go_wp2
  rw [Exit.noGoto_ret]
  go_ret
  exact ⟨rfl, (by repeat (first | exact Below.refl _ _ | refine Below.alloc ?_ (by simp <;> omega) _))⟩
set_option maxHeartbeats 1000000 in
theorem implWidth_3b (r : Int) (w : World) (hr : runeOk r = true) (hs : SpansAt w) (h0 : 768 ≤ r) (h1 : r ≤ 879) :
    Calls Tryd.prog 42 #[.int .i64 r] w fun e w' => e = .returned (.int .i64 0) ∧ Below w.heap.size w w' := by
  have hb := (runeOk_iff r).1 hr
  obtain ⟨tt, fr, hg⟩ := hs
  go_enter Tryd.func42, Tryd.ntmps42
  go_wp2
  go_step3
  go_wp2_with (go_at_call 69; refine (implRuneOk_any _ _).mono ?_; rw [hr]; rintro e w' ⟨rfl, hw⟩; subst hw)
  go_step3
  go_wp2_with (refine wpList_load_row rfl 78 _ rfl 0 rfl tt _ fr _ hg Tryd.underlying78 rfl (by kernel_rfl) ?_)
  unfold spansC
  have i0 := span_0
  have i1 := span_1
  have i2 := span_2
  have i3 := span_3
  have i4 := span_4
  have i5 := span_5
  refine wp_loop_rounds 3 ?_
  rw [rounds_succ]
  go_wp2
  rw [rounds_succ]
  go_wp2
  rw [rounds_succ]
  go_wp2
  rw [Exit.noGoto_ret]
  go_ret
  exact ⟨rfl, (by repeat (first | exact Below.refl _ _ | refine Below.alloc ?_ (by simp <;> omega) _))⟩
set_option maxHeartbeats 1000000 in
theorem implWidth_4a (r : Int) (w : World) (hr : runeOk r = true) (hs : SpansAt w) (h0 : 879 < r) (h1 : r < 4352) :
    Calls Tryd.prog 42 #[.int .i64 r] w fun e w' => e = .returned (.int .i64 1) ∧ Below w.heap.size w w' := by
  have hb := (runeOk_iff r).1 hr
  obtain ⟨tt, fr, hg⟩ := hs
  go_enter Tryd.func42, Tryd.ntmps42
  go_wp2
  go_step3
  go_wp2_with (go_at_call 69; refine (implRuneOk_any _ _).mono ?_; rw [hr]; rintro e w' ⟨rfl, hw⟩; subst hw)
  go_step3
  go_wp2_with (refine wpList_load_row rfl 78 _ rfl 0 rfl tt _ fr _ hg Tryd.underlying78 rfl (by kernel_rfl) ?_)
  unfold spansC
  have i0 := span_0
  have i1 := span_1
  have i2 := span_2
  have i3 := span_3
  have i4 := span_4
  have i5 := span_5
  refine wp_loop_rounds 4 ?_
  rw [rounds_succ]
  go_wp2
  rw [rounds_succ]
  go_wp2
  rw [rounds_succ]
  go_wp2
  rw [rounds_succ]
  go_wp2
  rw [Exit.noGoto_ret]
  go_ret
  exact ⟨rfl, (by repeat (first | exact Below.refl _ _ | refine Below.alloc ?_ (by simp <;> omega) _))⟩
set_option maxHeartbeats 1000000 in
theorem implWidth_4b (r : Int) (w : World) (hr : runeOk r = true) (hs : SpansAt w) (h0 : 4352 ≤ r) (h1 : r ≤ 4447) :
    Calls Tryd.prog 42 #[.int .i64 r] w fun e w' => e = .returned (.int .i64 2) ∧ Below w.heap.size w w' := by
  have hb := (runeOk_iff r).1 hr
  obtain ⟨tt, fr, hg⟩ := hs
  go_enter Tryd.func42, Tryd.ntmps42
  go_wp2
  go_step3
  go_wp2_with (go_at_call 69; refine (implRuneOk_any _ _).mono ?_; rw [hr]; rintro e w' ⟨rfl, hw⟩; subst hw)
  go_step3
  go_wp2_with (refine wpList_load_row rfl 78 _ rfl 0 rfl tt _ fr _ hg Tryd.underlying78 rfl (by kernel_rfl) ?_)
  unfold spansC
  have i0 := span_0
  have i1 := span_1
  have i2 := span_2
  have i3 := span_3
  have i4 := span_4
  have i5 := span_5
  refine wp_loop_rounds 4 ?_
  rw [rounds_succ]
  go_wp2
  rw [rounds_succ]
  go_wp2
  rw [rounds_succ]
  go_wp2
  rw [rounds_succ]
  go_wp2
  rw [Exit.noGoto_ret]
  go_ret
  exact ⟨rfl, (by repeat (first | exact Below.refl _ _ | refine Below.alloc ?_ (by simp <;> omega) _))⟩
set_option maxHeartbeats 1000000 in
theorem implWidth_5a (r : Int) (w : World) (hr : runeOk r = true) (hs : SpansAt w) (h0 : 4447 < r) (h1 : r < 12288) :
    Calls Tryd.prog 42 #[.int .i64 r] w fun e w' => e = .returned (.int .i64 1) ∧ Below w.heap.size w w' := by
  have hb := (runeOk_iff r).1 hr
  obtain ⟨tt, fr, hg⟩ := hs
  go_enter Tryd.func42, Tryd.ntmps42
  go_wp2
  go_step3
  go_wp2_with (go_at_call 69; refine (implRuneOk_any _ _).mono ?_; rw [hr]; rintro e w' ⟨rfl, hw⟩; subst hw)
  go_step3
  go_wp2_with (refine wpList_load_row rfl 78 _ rfl 0 rfl tt _ fr _ hg Tryd.underlying78 rfl (by kernel_rfl) ?_)
  unfold spansC
  have i0 := span_0
  have i1 := span_1
  have i2 := span_2
  have i3 := span_3
  have i4 := span_4
  have i5 := span_5
  refine wp_loop_rounds 5 ?_
  rw [rounds_succ]
  go_wp2
  rw [rounds_succ]
  go_wp2
  rw [rounds_succ]
  go_wp2
  rw [rounds_succ]
  go_wp2
  rw [rounds_succ]
  go_wp2
  rw [Exit.noGoto_ret]
  go_ret
  exact ⟨rfl, (by repeat (first | exact Below.refl _ _ | refine Below.alloc ?_ (by simp <;> omega) _))⟩
set_option maxHeartbeats 1000000 in
theorem implWidth_5b (r : Int) (w : World) (hr : runeOk r = true) (hs : SpansAt w) (h0 : 12288 ≤ r) (h1 : r ≤ 55295) :
    Calls Tryd.prog 42 #[.int .i64 r] w fun e w' => e = .returned (.int .i64 2) ∧ Below w.heap.size w w' := by
  have hb := (runeOk_iff r).1 hr
  obtain ⟨tt, fr, hg⟩ := hs
  go_enter Tryd.func42, Tryd.ntmps42
  go_wp2
  go_step3
  go_wp2_with (go_at_call 69; refine (implRuneOk_any _ _).mono ?_; rw [hr]; rintro e w' ⟨rfl, hw⟩; subst hw)
  go_step3
  go_wp2_with (refine wpList_load_row rfl 78 _ rfl 0 rfl tt _ fr _ hg Tryd.underlying78 rfl (by kernel_rfl) ?_)
  unfold spansC
  have i0 := span_0
  have i1 := span_1
  have i2 := span_2
  have i3 := span_3
  have i4 := span_4
  have i5 := span_5
  refine wp_loop_rounds 5 ?_
  rw [rounds_succ]
  go_wp2
  rw [rounds_succ]
  go_wp2
  rw [rounds_succ]
  go_wp2
  rw [rounds_succ]
  go_wp2
  rw [rounds_succ]
  go_wp2
  rw [Exit.noGoto_ret]
  go_ret
  exact ⟨rfl, (by repeat (first | exact Below.refl _ _ | refine Below.alloc ?_ (by simp <;> omega) _))⟩
set_option maxHeartbeats 1000000 in
theorem implWidth_6a (r : Int) (w : World) (hr : runeOk r = true) (hs : SpansAt w) (h0 : 55295 < r) (h1 : r < 127744) :
    Calls Tryd.prog 42 #[.int .i64 r] w fun e w' => e = .returned (.int .i64 1) ∧ Below w.heap.size w w' := by
  have hb := (runeOk_iff r).1 hr
  obtain ⟨tt, fr, hg⟩ := hs
  go_enter Tryd.func42, Tryd.ntmps42
  go_wp2
  go_step3
  go_wp2_with (go_at_call 69; refine (implRuneOk_any _ _).mono ?_; rw [hr]; rintro e w' ⟨rfl, hw⟩; subst hw)
  go_step3
  go_wp2_with (refine wpList_load_row rfl 78 _ rfl 0 rfl tt _ fr _ hg Tryd.underlying78 rfl (by kernel_rfl) ?_)
  unfold spansC
  have i0 := span_0
  have i1 := span_1
  have i2 := span_2
  have i3 := span_3
  have i4 := span_4
  have i5 := span_5
  refine wp_loop_rounds 6 ?_
  rw [rounds_succ]
  go_wp2
  rw [rounds_succ]
  go_wp2
  rw [rounds_succ]
  go_wp2
  rw [rounds_succ]
  go_wp2
  rw [rounds_succ]
  go_wp2
  rw [rounds_succ]
  go_wp2
  rw [Exit.noGoto_ret]
  go_ret
  exact ⟨rfl, (by repeat (first | exact Below.refl _ _ | refine Below.alloc ?_ (by simp <;> omega) _))⟩
set_option maxHeartbeats 1000000 in
theorem implWidth_6b (r : Int) (w : World) (hr : runeOk r = true) (hs : SpansAt w) (h0 : 127744 ≤ r) (h1 : r ≤ 131071) :
    Calls Tryd.prog 42 #[.int .i64 r] w fun e w' => e = .returned (.int .i64 2) ∧ Below w.heap.size w w' := by
  have hb := (runeOk_iff r).1 hr
  obtain ⟨tt, fr, hg⟩ := hs
  go_enter Tryd.func42, Tryd.ntmps42
  go_wp2
  go_step3
  go_wp2_with (go_at_call 69; refine (implRuneOk_any _ _).mono ?_; rw [hr]; rintro e w' ⟨rfl, hw⟩; subst hw)
  go_step3
  go_wp2_with (refine wpList_load_row rfl 78 _ rfl 0 rfl tt _ fr _ hg Tryd.underlying78 rfl (by kernel_rfl) ?_)
  unfold spansC
  have i0 := span_0
  have i1 := span_1
  have i2 := span_2
  have i3 := span_3
  have i4 := span_4
  have i5 := span_5
  refine wp_loop_rounds 6 ?_
  rw [rounds_succ]
  go_wp2
  rw [rounds_succ]
  go_wp2
  rw [rounds_succ]
  go_wp2
  rw [rounds_succ]
  go_wp2
  rw [rounds_succ]
  go_wp2
  rw [rounds_succ]
  go_wp2
  rw [Exit.noGoto_ret]
  go_ret
  exact ⟨rfl, (by repeat (first | exact Below.refl _ _ | refine Below.alloc ?_ (by simp <;> omega) _))⟩
set_option maxHeartbeats 1000000 in
theorem implWidth_7a (r : Int) (w : World) (hr : runeOk r = true) (hs : SpansAt w) (h0 : 131071 < r) :
    Calls Tryd.prog 42 #[.int .i64 r] w fun e w' => e = .returned (.int .i64 1) ∧ Below w.heap.size w w' := by
  have hb := (runeOk_iff r).1 hr
  obtain ⟨tt, fr, hg⟩ := hs
  go_enter Tryd.func42, Tryd.ntmps42
  go_wp2
  go_step3
  go_wp2_with (go_at_call 69; refine (implRuneOk_any _ _).mono ?_; rw [hr]; rintro e w' ⟨rfl, hw⟩; subst hw)
  go_step3
  go_wp2_with (refine wpList_load_row rfl 78 _ rfl 0 rfl tt _ fr _ hg Tryd.underlying78 rfl (by kernel_rfl) ?_)
  unfold spansC
  have i0 := span_0
  have i1 := span_1
  have i2 := span_2
  have i3 := span_3
  have i4 := span_4
  have i5 := span_5
  refine wp_loop_rounds 7 ?_
  rw [rounds_succ]
  go_wp2
  rw [rounds_succ]
  go_wp2
  rw [rounds_succ]
  go_wp2
  rw [rounds_succ]
  go_wp2
  rw [rounds_succ]
  go_wp2
  rw [rounds_succ]
  go_wp2
  rw [rounds_succ]
  go_wp2
  rw [Exit.noGoto_ret]
  go_ret
  exact ⟨rfl, (by repeat (first | exact Below.refl _ _ | refine Below.alloc ?_ (by simp <;> omega) _))⟩

theorem implWidth_no (r : Int) (w : World) (hr : runeOk r = false) :
    Calls Tryd.prog 42 #[.int .i64 r] w fun e w' => e = .returned (.int .i64 0) ∧ Below w.heap.size w w' := by
  go_enter Tryd.func42, Tryd.ntmps42
  go_wp2
  go_step3
  go_wp2_with (go_at_call 69; refine (implRuneOk_any _ _).mono ?_; rw [hr]; rintro e w' ⟨rfl, hw⟩; subst hw)
  rw [Exit.noGoto_ret]
  go_ret
  exact ⟨rfl, Below.refl _ _⟩

theorem implWidth_any (r : Int) (w : World) (hs : SpansAt w) :
    Calls Tryd.prog 42 #[.int .i64 r] w fun e w' => e = .returned (.int .i64 (widthV r)) ∧ Below w.heap.size w w' := by
  by_cases hr : runeOk r = true
  · have hb := (runeOk_iff r).1 hr
    have hw : widthV r = if r < 32 ∨ (127 ≤ r ∧ r ≤ 159) ∨ (768 ≤ r ∧ r ≤ 879) then 0 else if (4352 ≤ r ∧ r ≤ 4447) ∨ (12288 ≤ r ∧ r ≤ 55295) ∨ (127744 ≤ r ∧ r ≤ 131071) then 2 else 1 := by simp [widthV, hr]
    have key : ∀ c : Int, widthV r = c → (Calls Tryd.prog 42 #[.int .i64 r] w fun e w' => e = .returned (.int .i64 c) ∧ Below w.heap.size w w') → Calls Tryd.prog 42 #[.int .i64 r] w fun e w' => e = .returned (.int .i64 (widthV r)) ∧ Below w.heap.size w w' := fun c e h => by rw [e]; exact h
    by_cases h1 : r ≤ 31
    · exact key 0 (by rw [hw]; omega) (implWidth_1b r w hr hs h1)
    by_cases a2 : r < 127
    · exact key 1 (by rw [hw]; omega) (implWidth_2a r w hr hs (by omega) a2)
    by_cases b2 : r ≤ 159
    · exact key 0 (by rw [hw]; omega) (implWidth_2b r w hr hs (by omega) b2)
    by_cases a3 : r < 768
    · exact key 1 (by rw [hw]; omega) (implWidth_3a r w hr hs (by omega) a3)
    by_cases b3 : r ≤ 879
    · exact key 0 (by rw [hw]; omega) (implWidth_3b r w hr hs (by omega) b3)
    by_cases a4 : r < 4352
    · exact key 1 (by rw [hw]; omega) (implWidth_4a r w hr hs (by omega) a4)
    by_cases b4 : r ≤ 4447
    · exact key 2 (by rw [hw]; omega) (implWidth_4b r w hr hs (by omega) b4)
    by_cases a5 : r < 12288
    · exact key 1 (by rw [hw]; omega) (implWidth_5a r w hr hs (by omega) a5)
    by_cases b5 : r ≤ 55295
    · exact key 2 (by rw [hw]; omega) (implWidth_5b r w hr hs (by omega) b5)
    by_cases a6 : r < 127744
    · exact key 1 (by rw [hw]; omega) (implWidth_6a r w hr hs (by omega) a6)
    by_cases b6 : r ≤ 131071
    · exact key 2 (by rw [hw]; omega) (implWidth_6b r w hr hs (by omega) b6)
    exact key 1 (by rw [hw]; omega) (implWidth_7a r w hr hs (by omega))
  · have hr : runeOk r = false := by simpa using hr
    have e : widthV r = 0 := by simp [widthV, hr]
    rw [e]
    exact implWidth_no r w hr
end Go.Proofs.YteimcepkoclpbaaDoor
