/- Runes as numbers: what a text's first bytes are read to. Plain mathematics, no program. Contract of l1In alone. Contracts of the rune functions. Widths, and what fits into some cells. Plain mathematics. Contracts of Width. Contract of the program's Width: its table lies in a package's variable. The table of the program's Width as the row lists it: what lies in memory. Parsers as numbers: what a rune makes of one, and what is told of it. Plain mathematics, no program. Slices of int64 that can be read, and rows that stay. What a contract leaves, as growth. Lists of numbers that one call owns, apart from one another; parsers and actions in memory. Contracts: the specification's tests on parsers. The walk of the program's parser: what it tells, what comes next. The laws' own helper that copies a list of int64. The walk of the program's parser: its parameters. The walk of the program's parser: past controls, letters, parameters, a title. The walk of the program's parser: past parameters and a title. -/
import Derived.Laws.BytesArg
import GoSem.Core.Utf8
import Derived.Test.YtkcekacnebhcgaaDoorRows
import Derived.WalkKit
import Derived.ProofKit
import Derived.OpenShut
import Derived.ShutString
import Derived.LoopN
import Derived.Laws.Rows
import Derived.WalkMore
import Derived.LaidMore
import Derived.OpenVars
import Derived.ChangeVars
import Derived.Deep.Strs
import Derived.Stop.Joined
import Derived.WalkSpells
import Derived.Deep.QuietTactic
import Derived.BigQuiet
import Derived.Deep.AppendLies
import Derived.LoopTactic
import Derived.Deep.RegionHeld3
import Derived.OneCell
import Derived.Deep.RegionLaw
import Derived.WalkLawsBesides
import Derived.Deep.LoopGhost
namespace Go.Proofs.YtkcekacnebhcgaaDoor
def runeOk (r : Int) : Bool := decide (0 ≤ r ∧ r ≤ 1114111 ∧ (r < 55296 ∨ 57343 < r))

theorem runeOk_is (r : Int) (b : Bool) (h : b = true ↔ (0 ≤ r ∧ r ≤ 1114111 ∧ (r < 55296 ∨ 57343 < r))) : b = runeOk r := by
  rw [Bool.eq_iff_iff, h]; simp [runeOk]
theorem runeOk_iff (r : Int) : runeOk r = true ↔ (0 ≤ r ∧ r ≤ 1114111 ∧ (r < 55296 ∨ 57343 < r)) := by simp [runeOk]
theorem runeOk_bd (r : Int) (h : runeOk r = true) : 0 ≤ r ∧ r ≤ 1114111 := by simp [runeOk] at h; omega

end Go.Proofs.YtkcekacnebhcgaaDoor
namespace Go.Proofs.YtkcekacnebhcgaaDoor
open Go.ChangeShapes Go.WideShapes Go.ChangeAt Go.RowKit
theorem ret_bool {a b : Bool} (h : a = b) : Ending.returned (.bool a) = .returned (.bool b) := by rw [h]

theorem l1In_any (x lo hi : Int) (w : World) :
    Calls Tryd.prog 46 #[.int .i64 x, .int .i64 lo, .int .i64 hi] w fun e w' => e = .returned (.bool (decide (lo ≤ x ∧ x ≤ hi))) ∧ w' = w := by
  by_cases h1 : lo ≤ x
  · go_enter Tryd.func46, Tryd.ntmps46
    go_wp2
    go_ret
    exact ⟨ret_bool (by simp [h1]), rfl⟩
  · go_enter Tryd.func46, Tryd.ntmps46
    go_wp2
    go_ret
    exact ⟨ret_bool (by simp; omega), rfl⟩

end Go.Proofs.YtkcekacnebhcgaaDoor
namespace Go.Proofs.YtkcekacnebhcgaaDoor
open Go.ChangeShapes Go.WideShapes Go.ChangeAt Go.RowKit
theorem implRuneOk_any (r : Int) (w : World) :
    Calls Tryd.prog 56 #[.int .i64 r] w fun e w' => e = .returned (.bool (runeOk r)) ∧ w' = w := by
  go_enter Tryd.func56, Tryd.ntmps56
  go_wp2
  all_goals
    go_ret
    exact ⟨ret_bool (runeOk_is _ _ (by simp <;> omega)), rfl⟩

set_option maxHeartbeats 400000 in
theorem specRuneOk_any (r : Int) (w : World) :
    Calls Tryd.prog 17 #[.int .i64 r] w fun e w' => e = .returned (.bool (runeOk r)) ∧ w' = w := by
  go_enter Tryd.func17, Tryd.ntmps17
  go_wp2_with (go_at_call 46; refine (l1In_any _ _ _ _).mono ?_; rintro e w' ⟨rfl, rfl⟩)
  all_goals
    go_ret
    exact ⟨ret_bool (runeOk_is _ _ (by simp <;> omega)), rfl⟩

end Go.Proofs.YtkcekacnebhcgaaDoor
namespace Go.Proofs.YtkcekacnebhcgaaDoor
def widthV (r : Int) : Int :=
  if r < 32 ∨ runeOk r = false ∨ (127 ≤ r ∧ r ≤ 159) ∨ (768 ≤ r ∧ r ≤ 879) then 0
  else if (4352 ≤ r ∧ r ≤ 4447) ∨ (12288 ≤ r ∧ r ≤ 55295) ∨ (127744 ≤ r ∧ r ≤ 131071) then 2 else 1
end Go.Proofs.YtkcekacnebhcgaaDoor
namespace Go.Proofs.YtkcekacnebhcgaaDoor
open Go.ChangeShapes Go.WideShapes Go.ChangeAt Go.RowKit
theorem ret_i {a b : Int} (h : a = b) : Ending.returned (.int .i64 a) = .returned (.int .i64 b) := by rw [h]
set_option maxHeartbeats 1000000 in
theorem specWidth_any (r : Int) (w : World) :
    Calls Tryd.prog 67 #[.int .i64 r] w fun e w' => e = .returned (.int .i64 (widthV r)) ∧ w' = w := by
  by_cases hr : runeOk r = true
  · have hb := (runeOk_iff r).1 hr
    have hw : Hid (widthV r = if r < 32 ∨ (127 ≤ r ∧ r ≤ 159) ∨ (768 ≤ r ∧ r ≤ 879) then 0 else if (4352 ≤ r ∧ r ≤ 4447) ∨ (12288 ≤ r ∧ r ≤ 55295) ∨ (127744 ≤ r ∧ r ≤ 131071) then 2 else 1) := by show _ = _; simp [widthV, hr]
    go_enter Tryd.func67, Tryd.ntmps67
    go_wp2_with (first | (go_at_call 17; refine (specRuneOk_any _ _).mono ?_; rw [hr]; rintro e w' ⟨rfl, rfl⟩) | (go_at_call 46; refine (l1In_any _ _ _ _).mono ?_; rintro e w' ⟨rfl, rfl⟩))
    all_goals
      go_ret
      refine ⟨ret_i ?_, rfl⟩
      rw [hw.out]
      clear hw hr
      (try simp at *)
      omega
  · have hr : runeOk r = false := by simpa using hr
    have hw : Hid (widthV r = 0) := by show _ = _; simp [widthV, hr]
    go_enter Tryd.func67, Tryd.ntmps67
    go_wp2_with (first | (go_at_call 17; refine (specRuneOk_any _ _).mono ?_; rw [hr]; rintro e w' ⟨rfl, rfl⟩) | (go_at_call 46; refine (l1In_any _ _ _ _).mono ?_; rintro e w' ⟨rfl, rfl⟩))
    all_goals
      go_ret
      exact ⟨ret_i hw.out.symm, rfl⟩
end Go.Proofs.YtkcekacnebhcgaaDoor
namespace Go.Proofs.YtkcekacnebhcgaaDoor
open Go.ChangeShapes Go.WideShapes Go.ChangeAt Go.RowKit
def spansC : Array Value := #[.int .i64 0, .int .i64 31, .int .i64 0, .int .i64 127, .int .i64 159, .int .i64 0, .int .i64 768, .int .i64 879, .int .i64 0, .int .i64 4352, .int .i64 4447, .int .i64 2, .int .i64 12288, .int .i64 55295, .int .i64 2, .int .i64 127744, .int .i64 131071, .int .i64 2]
/-- The table lies where the program lays it. -/
def SpansAt (w : World) : Prop := ∃ t fr, w.heap[0]? = some (.cells spansC t fr)
theorem SpansAt.below {B : Nat} {w w' : World} (h : SpansAt w) (hb : Below B w w') (hB : 0 < B) : SpansAt w' := by
  obtain ⟨t, fr, h⟩ := h
  exact ⟨t, fr, by rw [hb.block _ hB]; exact h⟩
theorem SpansAt.lt {w : World} (h : SpansAt w) : 0 < w.heap.size := by
  obtain ⟨t, fr, h⟩ := h
  exact (Array.getElem?_eq_some_iff.1 h).1

theorem span_0 : ∀ w, (Instr.index 87 (.agg #[.int .i64 0, .int .i64 31, .int .i64 0, .int .i64 127, .int .i64 159, .int .i64 0, .int .i64 768, .int .i64 879, .int .i64 0, .int .i64 4352, .int .i64 4447, .int .i64 2, .int .i64 12288, .int .i64 55295, .int .i64 2, .int .i64 127744, .int .i64 131071, .int .i64 2]) (.int .i64 0)).run Tryd.prog w = .ok (.agg #[.int .i64 0, .int .i64 31, .int .i64 0]) w := fun _ => by kernel_rfl
theorem span_1 : ∀ w, (Instr.index 87 (.agg #[.int .i64 0, .int .i64 31, .int .i64 0, .int .i64 127, .int .i64 159, .int .i64 0, .int .i64 768, .int .i64 879, .int .i64 0, .int .i64 4352, .int .i64 4447, .int .i64 2, .int .i64 12288, .int .i64 55295, .int .i64 2, .int .i64 127744, .int .i64 131071, .int .i64 2]) (.int .i64 1)).run Tryd.prog w = .ok (.agg #[.int .i64 127, .int .i64 159, .int .i64 0]) w := fun _ => by kernel_rfl
theorem span_2 : ∀ w, (Instr.index 87 (.agg #[.int .i64 0, .int .i64 31, .int .i64 0, .int .i64 127, .int .i64 159, .int .i64 0, .int .i64 768, .int .i64 879, .int .i64 0, .int .i64 4352, .int .i64 4447, .int .i64 2, .int .i64 12288, .int .i64 55295, .int .i64 2, .int .i64 127744, .int .i64 131071, .int .i64 2]) (.int .i64 2)).run Tryd.prog w = .ok (.agg #[.int .i64 768, .int .i64 879, .int .i64 0]) w := fun _ => by kernel_rfl
theorem span_3 : ∀ w, (Instr.index 87 (.agg #[.int .i64 0, .int .i64 31, .int .i64 0, .int .i64 127, .int .i64 159, .int .i64 0, .int .i64 768, .int .i64 879, .int .i64 0, .int .i64 4352, .int .i64 4447, .int .i64 2, .int .i64 12288, .int .i64 55295, .int .i64 2, .int .i64 127744, .int .i64 131071, .int .i64 2]) (.int .i64 3)).run Tryd.prog w = .ok (.agg #[.int .i64 4352, .int .i64 4447, .int .i64 2]) w := fun _ => by kernel_rfl
theorem span_4 : ∀ w, (Instr.index 87 (.agg #[.int .i64 0, .int .i64 31, .int .i64 0, .int .i64 127, .int .i64 159, .int .i64 0, .int .i64 768, .int .i64 879, .int .i64 0, .int .i64 4352, .int .i64 4447, .int .i64 2, .int .i64 12288, .int .i64 55295, .int .i64 2, .int .i64 127744, .int .i64 131071, .int .i64 2]) (.int .i64 4)).run Tryd.prog w = .ok (.agg #[.int .i64 12288, .int .i64 55295, .int .i64 2]) w := fun _ => by kernel_rfl
theorem span_5 : ∀ w, (Instr.index 87 (.agg #[.int .i64 0, .int .i64 31, .int .i64 0, .int .i64 127, .int .i64 159, .int .i64 0, .int .i64 768, .int .i64 879, .int .i64 0, .int .i64 4352, .int .i64 4447, .int .i64 2, .int .i64 12288, .int .i64 55295, .int .i64 2, .int .i64 127744, .int .i64 131071, .int .i64 2]) (.int .i64 5)).run Tryd.prog w = .ok (.agg #[.int .i64 127744, .int .i64 131071, .int .i64 2]) w := fun _ => by kernel_rfl
set_option maxHeartbeats 1000000 in
theorem implWidth_1b (r : Int) (w : World) (hr : runeOk r = true) (hs : SpansAt w) (h0 : r ≤ 31) :
    Calls Tryd.prog 70 #[.int .i64 r] w fun e w' => e = .returned (.int .i64 0) ∧ Below w.heap.size w w' := by
  have hb := (runeOk_iff r).1 hr
  obtain ⟨tt, fr, hg⟩ := hs
  go_enter Tryd.func70, Tryd.ntmps70
  go_wp2
  go_step3
  go_wp2_with (go_at_call 56; refine (implRuneOk_any _ _).mono ?_; rw [hr]; rintro e w' ⟨rfl, hw⟩; subst hw)
  go_step3
  go_wp2_with (refine wpList_load_row rfl 87 _ rfl 0 rfl tt _ fr _ hg Tryd.underlying87 rfl (by kernel_rfl) ?_)
  unfold spansC
  have i0 := span_0
  have i1 := span_1
  have i2 := span_2
  have i3 := span_3
  have i4 := span_4
  have i5 := span_5
  refine wp_loop_rounds 1 ?_
  rw [rounds_succ]
  go_wp2
  rw [Exit.noGoto_ret]
  go_ret
  exact ⟨rfl, (by repeat (first | exact Below.refl _ _ | refine Below.alloc ?_ (by simp <;> omega) _))⟩
set_option maxHeartbeats 1000000 in
theorem implWidth_2a (r : Int) (w : World) (hr : runeOk r = true) (hs : SpansAt w) (h0 : 31 < r) (h1 : r < 127) :
    Calls Tryd.prog 70 #[.int .i64 r] w fun e w' => e = .returned (.int .i64 1) ∧ Below w.heap.size w w' := by
  have hb := (runeOk_iff r).1 hr
  obtain ⟨tt, fr, hg⟩ := hs
  go_enter Tryd.func70, Tryd.ntmps70
  go_wp2
  go_step3
  go_wp2_with (go_at_call 56; refine (implRuneOk_any _ _).mono ?_; rw [hr]; rintro e w' ⟨rfl, hw⟩; subst hw)
  go_step3
  go_wp2_with (refine wpList_load_row rfl 87 _ rfl 0 rfl tt _ fr _ hg Tryd.underlying87 rfl (by kernel_rfl) ?_)
  unfold spansC
  have i0 := span_0
  have i1 := span_1
  have i2 := span_2
  have i3 := span_3
  have i4 := span_4
  have i5 := span_5
  refine wp_loop_rounds 2 ?_
  rw [rounds_succ]
  go_wp2
  rw [rounds_succ]
  go_wp2
  rw [Exit.noGoto_ret]
  go_ret
  exact ⟨rfl, (by repeat (first | exact Below.refl _ _ | refine Below.alloc ?_ (by simp <;> omega) _))⟩
set_option maxHeartbeats 1000000 in
theorem implWidth_2b (r : Int) (w : World) (hr : runeOk r = true) (hs : SpansAt w) (h0 : 127 ≤ r) (h1 : r ≤ 159) :
    Calls Tryd.prog 70 #[.int .i64 r] w fun e w' => e = .returned (.int .i64 0) ∧ Below w.heap.size w w' := by
  have hb := (runeOk_iff r).1 hr
  obtain ⟨tt, fr, hg⟩ := hs
  go_enter Tryd.func70, Tryd.ntmps70
  go_wp2
  go_step3
  go_wp2_with (go_at_call 56; refine (implRuneOk_any _ _).mono ?_; rw [hr]; rintro e w' ⟨rfl, hw⟩; subst hw)
  go_step3
  go_wp2_with (refine wpList_load_row rfl 87 _ rfl 0 rfl tt _ fr _ hg Tryd.underlying87 rfl (by kernel_rfl) ?_)
  unfold spansC
  have i0 := span_0
  have i1 := span_1
  have i2 := span_2
  have i3 := span_3
  have i4 := span_4
  have i5 := span_5
  refine wp_loop_rounds 2 ?_
  rw [rounds_succ]
  go_wp2
  rw [rounds_succ]
  go_wp2
  rw [Exit.noGoto_ret]
  go_ret
  exact ⟨rfl, (by repeat (first | exact Below.refl _ _ | refine Below.alloc ?_ (by simp <;> omega) _))⟩
set_option maxHeartbeats 1000000 in
theorem implWidth_3a (r : Int) (w : World) (hr : runeOk r = true) (hs : SpansAt w) (h0 : 159 < r) (h1 : r < 768) :
    Calls Tryd.prog 70 #[.int .i64 r] w fun e w' => e = .returned (.int .i64 1) ∧ Below w.heap.size w w' := by
  have hb := (runeOk_iff r).1 hr
  obtain ⟨tt, fr, hg⟩ := hs
  go_enter Tryd.func70, Tryd.ntmps70
  go_wp2
  go_step3
  go_wp2_with (go_at_call 56; refine (implRuneOk_any _ _).mono ?_; rw [hr]; rintro e w' ⟨rfl, hw⟩; subst hw)
  go_step3
  go_wp2_with (refine wpList_load_row rfl 87 _ rfl 0 rfl tt _ fr _ hg Tryd.underlying87 rfl (by kernel_rfl) ?_)
  unfold spansC
  have i0 := span_0
  have i1 := span_1
  have i2 := span_2
  have i3 := span_3
  have i4 := span_4
  have i5 := span_5
  refine wp_loop_rounds 3 ?_
  rw [rounds_succ]
  go_wp2
  rw [rounds_succ]
  go_wp2
  rw [rounds_succ]
  go_wp2
  rw [Exit.noGoto_ret]
  go_ret
  exact ⟨rfl, (by repeat (first | exact Below.refl _ _ | refine Below.alloc ?_ (by simp <;> omega) _))⟩
set_option maxHeartbeats 1000000 in
theorem implWidth_3b (r : Int) (w : World) (hr : runeOk r = true) (hs : SpansAt w) (h0 : 768 ≤ r) (h1 : r ≤ 879) :
    Calls Tryd.prog 70 #[.int .i64 r] w fun e w' => e = .returned (.int .i64 0) ∧ Below w.heap.size w w' := by
  have hb := (runeOk_iff r).1 hr
  obtain ⟨tt, fr, hg⟩ := hs
  go_enter Tryd.func70, Tryd.ntmps70
  go_wp2
  go_step3
  go_wp2_with (go_at_call 56; refine (implRuneOk_any _ _).mono ?_; rw [hr]; rintro e w' ⟨rfl, hw⟩; subst hw)
  go_step3
  go_wp2_with (refine wpList_load_row rfl 87 _ rfl 0 rfl tt _ fr _ hg Tryd.underlying87 rfl (by kernel_rfl) ?_)
  unfold spansC
  have i0 := span_0
  have i1 := span_1
  have i2 := span_2
  have i3 := span_3
  have i4 := span_4
  have i5 := span_5
  refine wp_loop_rounds 3 ?_
  rw [rounds_succ]
  go_wp2
  rw [rounds_succ]
  go_wp2
  rw [rounds_succ]
  go_wp2
  rw [Exit.noGoto_ret]
  go_ret
  exact ⟨rfl, (by repeat (first | exact Below.refl _ _ | refine Below.alloc ?_ (by simp <;> omega) _))⟩
set_option maxHeartbeats 1000000 in
theorem implWidth_4a (r : Int) (w : World) (hr : runeOk r = true) (hs : SpansAt w) (h0 : 879 < r) (h1 : r < 4352) :
    Calls Tryd.prog 70 #[.int .i64 r] w fun e w' => e = .returned (.int .i64 1) ∧ Below w.heap.size w w' := by
  have hb := (runeOk_iff r).1 hr
  obtain ⟨tt, fr, hg⟩ := hs
  go_enter Tryd.func70, Tryd.ntmps70
  go_wp2
  go_step3
  go_wp2_with (go_at_call 56; refine (implRuneOk_any _ _).mono ?_; rw [hr]; rintro e w' ⟨rfl, hw⟩; subst hw)
  go_step3
  go_wp2_with (refine wpList_load_row rfl 87 _ rfl 0 rfl tt _ fr _ hg Tryd.underlying87 rfl (by kernel_rfl) ?_)
  unfold spansC
  have i0 := span_0
  have i1 := span_1
  have i2 := span_2
  have i3 := span_3
  have i4 := span_4
  have i5 := span_5
  refine wp_loop_rounds 4 ?_
  rw [rounds_succ]
  go_wp2
  rw [rounds_succ]
  go_wp2
  rw [rounds_succ]
  go_wp2
  rw [rounds_succ]
  go_wp2
  rw [Exit.noGoto_ret]
  go_ret
  exact ⟨rfl, (by repeat (first | exact Below.refl _ _ | refine Below.alloc ?_ (by simp <;> omega) _))⟩
set_option maxHeartbeats 1000000 in
theorem implWidth_4b (r : Int) (w : World) (hr : runeOk r = true) (hs : SpansAt w) (h0 : 4352 ≤ r) (h1 : r ≤ 4447) :
    Calls Tryd.prog 70 #[.int .i64 r] w fun e w' => e = .returned (.int .i64 2) ∧ Below w.heap.size w w' := by
  have hb := (runeOk_iff r).1 hr
  obtain ⟨tt, fr, hg⟩ := hs
  go_enter Tryd.func70, Tryd.ntmps70
  go_wp2
  go_step3
  go_wp2_with (go_at_call 56; refine (implRuneOk_any _ _).mono ?_; rw [hr]; rintro e w' ⟨rfl, hw⟩; subst hw)
  go_step3
  go_wp2_with (refine wpList_load_row rfl 87 _ rfl 0 rfl tt _ fr _ hg Tryd.underlying87 rfl (by kernel_rfl) ?_)
  unfold spansC
  have i0 := span_0
  have i1 := span_1
  have i2 := span_2
  have i3 := span_3
  have i4 := span_4
  have i5 := span_5
  refine wp_loop_rounds 4 ?_
  rw [rounds_succ]
  go_wp2
  rw [rounds_succ]
  go_wp2
  rw [rounds_succ]
  go_wp2
  rw [rounds_succ]
  go_wp2
  rw [Exit.noGoto_ret]
  go_ret
  exact ⟨rfl, (by repeat (first | exact Below.refl _ _ | refine Below.alloc ?_ (by simp <;> omega) _))⟩
set_option maxHeartbeats 1000000 in
theorem implWidth_5a (r : Int) (w : World) (hr : runeOk r = true) (hs : SpansAt w) (h0 : 4447 < r) (h1 : r < 12288) :
    Calls Tryd.prog 70 #[.int .i64 r] w fun e w' => e = .returned (.int .i64 1) ∧ Below w.heap.size w w' := by
  have hb := (runeOk_iff r).1 hr
  obtain ⟨tt, fr, hg⟩ := hs
  go_enter Tryd.func70, Tryd.ntmps70
  go_wp2
  go_step3
  go_wp2_with (go_at_call 56; refine (implRuneOk_any _ _).mono ?_; rw [hr]; rintro e w' ⟨rfl, hw⟩; subst hw)
  go_step3
  go_wp2_with (refine wpList_load_row rfl 87 _ rfl 0 rfl tt _ fr _ hg Tryd.underlying87 rfl (by kernel_rfl) ?_)
  unfold spansC
  have i0 := span_0
  have i1 := span_1
  have i2 := span_2
  have i3 := span_3
  have i4 := span_4
  have i5 := span_5
  refine wp_loop_rounds 5 ?_
  rw [rounds_succ]
  go_wp2
  rw [rounds_succ]
  go_wp2
  rw [rounds_succ]
  go_wp2
  rw [rounds_succ]
  go_wp2
  rw [rounds_succ]
  go_wp2
  rw [Exit.noGoto_ret]
  go_ret
  exact ⟨rfl, (by repeat (first | exact Below.refl _ _ | refine Below.alloc ?_ (by simp <;> omega) _))⟩
set_option maxHeartbeats 1000000 in
theorem implWidth_5b (r : Int) (w : World) (hr : runeOk r = true) (hs : SpansAt w) (h0 : 12288 ≤ r) (h1 : r ≤ 55295) :
    Calls Tryd.prog 70 #[.int .i64 r] w fun e w' => e = .returned (.int .i64 2) ∧ Below w.heap.size w w' := by
  have hb := (runeOk_iff r).1 hr
  obtain ⟨tt, fr, hg⟩ := hs
  go_enter Tryd.func70, Tryd.ntmps70
  go_wp2
  go_step3
  go_wp2_with (go_at_call 56; refine (implRuneOk_any _ _).mono ?_; rw [hr]; rintro e w' ⟨rfl, hw⟩; subst hw)
  go_step3
  go_wp2_with (refine wpList_load_row rfl 87 _ rfl 0 rfl tt _ fr _ hg Tryd.underlying87 rfl (by kernel_rfl) ?_)
  unfold spansC
  have i0 := span_0
  have i1 := span_1
  have i2 := span_2
  have i3 := span_3
  have i4 := span_4
  have i5 := span_5
  refine wp_loop_rounds 5 ?_
  rw [rounds_succ]
  go_wp2
  rw [rounds_succ]
  go_wp2
  rw [rounds_succ]
  go_wp2
  rw [rounds_succ]
  go_wp2
  rw [rounds_succ]
  go_wp2
  rw [Exit.noGoto_ret]
  go_ret
  exact ⟨rfl, (by repeat (first | exact Below.refl _ _ | refine Below.alloc ?_ (by simp <;> omega) _))⟩
set_option maxHeartbeats 1000000 in
theorem implWidth_6a (r : Int) (w : World) (hr : runeOk r = true) (hs : SpansAt w) (h0 : 55295 < r) (h1 : r < 127744) :
    Calls Tryd.prog 70 #[.int .i64 r] w fun e w' => e = .returned (.int .i64 1) ∧ Below w.heap.size w w' := by
  have hb := (runeOk_iff r).1 hr
  obtain ⟨tt, fr, hg⟩ := hs
  go_enter Tryd.func70, Tryd.ntmps70
  go_wp2
  go_step3
  go_wp2_with (go_at_call 56; refine (implRuneOk_any _ _).mono ?_; rw [hr]; rintro e w' ⟨rfl, hw⟩; subst hw)
  go_step3
  go_wp2_with (refine wpList_load_row rfl 87 _ rfl 0 rfl tt _ fr _ hg Tryd.underlying87 rfl (by kernel_rfl) ?_)
  unfold spansC
  have i0 := span_0
  have i1 := span_1
  have i2 := span_2
  have i3 := span_3
  have i4 := span_4
  have i5 := span_5
  refine wp_loop_rounds 6 ?_
  rw [rounds_succ]
  go_wp2
  rw [rounds_succ]
  go_wp2
  rw [rounds_succ]
  go_wp2
  rw [rounds_succ]
  go_wp2
  rw [rounds_succ]
  go_wp2
  rw [rounds_succ]
  go_wp2
  rw [Exit.noGoto_ret]
  go_ret
  exact ⟨rfl, (by repeat (first | exact Below.refl _ _ | refine Below.alloc ?_ (by simp <;> omega) _))⟩
set_option maxHeartbeats 1000000 in
theorem implWidth_6b (r : Int) (w : World) (hr : runeOk r = true) (hs : SpansAt w) (h0 : 127744 ≤ r) (h1 : r ≤ 131071) :
    Calls Tryd.prog 70 #[.int .i64 r] w fun e w' => e = .returned (.int .i64 2) ∧ Below w.heap.size w w' := by
  have hb := (runeOk_iff r).1 hr
  obtain ⟨tt, fr, hg⟩ := hs
  go_enter Tryd.func70, Tryd.ntmps70
  go_wp2
  go_step3
  go_wp2_with (go_at_call 56; refine (implRuneOk_any _ _).mono ?_; rw [hr]; rintro e w' ⟨rfl, hw⟩; subst hw)
  go_step3
  go_wp2_with (refine wpList_load_row rfl 87 _ rfl 0 rfl tt _ fr _ hg Tryd.underlying87 rfl (by kernel_rfl) ?_)
  unfold spansC
  have i0 := span_0
  have i1 := span_1
  have i2 := span_2
  have i3 := span_3
  have i4 := span_4
  have i5 := span_5
  refine wp_loop_rounds 6 ?_
  rw [rounds_succ]
  go_wp2
  rw [rounds_succ]
  go_wp2
  rw [rounds_succ]
  go_wp2
  rw [rounds_succ]
  go_wp2
  rw [rounds_succ]
  go_wp2
  rw [rounds_succ]
  go_wp2
  rw [Exit.noGoto_ret]
  go_ret
  exact ⟨rfl, (by repeat (first | exact Below.refl _ _ | refine Below.alloc ?_ (by simp <;> omega) _))⟩
set_option maxHeartbeats 1000000 in
theorem implWidth_7a (r : Int) (w : World) (hr : runeOk r = true) (hs : SpansAt w) (h0 : 131071 < r) :
    Calls Tryd.prog 70 #[.int .i64 r] w fun e w' => e = .returned (.int .i64 1) ∧ Below w.heap.size w w' := by
  have hb := (runeOk_iff r).1 hr
  obtain ⟨tt, fr, hg⟩ := hs
  go_enter Tryd.func70, Tryd.ntmps70
  go_wp2
  go_step3
  go_wp2_with (go_at_call 56; refine (implRuneOk_any _ _).mono ?_; rw [hr]; rintro e w' ⟨rfl, hw⟩; subst hw)
  go_step3
  go_wp2_with (refine wpList_load_row rfl 87 _ rfl 0 rfl tt _ fr _ hg Tryd.underlying87 rfl (by kernel_rfl) ?_)
  unfold spansC
  have i0 := span_0
  have i1 := span_1
  have i2 := span_2
  have i3 := span_3
  have i4 := span_4
  have i5 := span_5
  refine wp_loop_rounds 7 ?_
  rw [rounds_succ]
  go_wp2
  rw [rounds_succ]
  go_wp2
  rw [rounds_succ]
  go_wp2
  rw [rounds_succ]
  go_wp2
  rw [rounds_succ]
  go_wp2
  rw [rounds_succ]
  go_wp2
  rw [rounds_succ]
  go_wp2
  rw [Exit.noGoto_ret]
  go_ret
  exact ⟨rfl, (by repeat (first | exact Below.refl _ _ | refine Below.alloc ?_ (by simp <;> omega) _))⟩

theorem implWidth_no (r : Int) (w : World) (hr : runeOk r = false) :
    Calls Tryd.prog 70 #[.int .i64 r] w fun e w' => e = .returned (.int .i64 0) ∧ Below w.heap.size w w' := by
  go_enter Tryd.func70, Tryd.ntmps70
  go_wp2
  go_step3
  go_wp2_with (go_at_call 56; refine (implRuneOk_any _ _).mono ?_; rw [hr]; rintro e w' ⟨rfl, hw⟩; subst hw)
  rw [Exit.noGoto_ret]
  go_ret
  exact ⟨rfl, Below.refl _ _⟩

theorem implWidth_any (r : Int) (w : World) (hs : SpansAt w) :
    Calls Tryd.prog 70 #[.int .i64 r] w fun e w' => e = .returned (.int .i64 (widthV r)) ∧ Below w.heap.size w w' := by
  by_cases hr : runeOk r = true
  · have hb := (runeOk_iff r).1 hr
    have hw : widthV r = if r < 32 ∨ (127 ≤ r ∧ r ≤ 159) ∨ (768 ≤ r ∧ r ≤ 879) then 0 else if (4352 ≤ r ∧ r ≤ 4447) ∨ (12288 ≤ r ∧ r ≤ 55295) ∨ (127744 ≤ r ∧ r ≤ 131071) then 2 else 1 := by simp [widthV, hr]
    have key : ∀ c : Int, widthV r = c → (Calls Tryd.prog 70 #[.int .i64 r] w fun e w' => e = .returned (.int .i64 c) ∧ Below w.heap.size w w') → Calls Tryd.prog 70 #[.int .i64 r] w fun e w' => e = .returned (.int .i64 (widthV r)) ∧ Below w.heap.size w w' := fun c e h => by rw [e]; exact h
    by_cases h1 : r ≤ 31
    · exact key 0 (by rw [hw]; omega) (implWidth_1b r w hr hs h1)
    by_cases a2 : r < 127
    · exact key 1 (by rw [hw]; omega) (implWidth_2a r w hr hs (by omega) a2)
    by_cases b2 : r ≤ 159
    · exact key 0 (by rw [hw]; omega) (implWidth_2b r w hr hs (by omega) b2)
    by_cases a3 : r < 768
    · exact key 1 (by rw [hw]; omega) (implWidth_3a r w hr hs (by omega) a3)
    by_cases b3 : r ≤ 879
    · exact key 0 (by rw [hw]; omega) (implWidth_3b r w hr hs (by omega) b3)
    by_cases a4 : r < 4352
    · exact key 1 (by rw [hw]; omega) (implWidth_4a r w hr hs (by omega) a4)
    by_cases b4 : r ≤ 4447
    · exact key 2 (by rw [hw]; omega) (implWidth_4b r w hr hs (by omega) b4)
    by_cases a5 : r < 12288
    · exact key 1 (by rw [hw]; omega) (implWidth_5a r w hr hs (by omega) a5)
    by_cases b5 : r ≤ 55295
    · exact key 2 (by rw [hw]; omega) (implWidth_5b r w hr hs (by omega) b5)
    by_cases a6 : r < 127744
    · exact key 1 (by rw [hw]; omega) (implWidth_6a r w hr hs (by omega) a6)
    by_cases b6 : r ≤ 131071
    · exact key 2 (by rw [hw]; omega) (implWidth_6b r w hr hs (by omega) b6)
    exact key 1 (by rw [hw]; omega) (implWidth_7a r w hr hs (by omega))
  · have hr : runeOk r = false := by simpa using hr
    have e : widthV r = 0 := by simp [widthV, hr]
    rw [e]
    exact implWidth_no r w hr
end Go.Proofs.YtkcekacnebhcgaaDoor
namespace Go.Proofs.YtkcekacnebhcgaaDoor
open Go.ChangeShapes Go.WideShapes Go.ChangeAt Go.WideElems Go.RowKit
theorem gSpans : Tryd.prog.globalNamed "loop.example/g00215/impl.spans" = some 0 := by kernel_rfl
theorem tSpans : (Tryd.prog.globals[0]?).map (·.type) = some 87 := by kernel_rfl
theorem c_i64 : Tryd.prog.cellsOf 2 = 1 := by kernel_rfl
theorem c_span : Tryd.prog.cellsOf 86 = 3 := by kernel_rfl
theorem c_spans : Tryd.prog.cellsOf 87 = 18 := by kernel_rfl

section
variable {H : Type} {enc : TypeId × Value → H} {w : World} {base : Nat} {spare : Nat → Bool} {held : Bool}
set_option maxRecDepth 20000 in
theorem span_open {fuel : Nat} {cs : List Value} {a b c : Int} {p : List MemPlace}
    (h : DataW.trod enc Tryd.prog w base spare held fuel 86 cs = some (.agg [.lit (.int .i64 a), .lit (.int .i64 b), .lit (.int .i64 c)], p)) : cs = [.int .i64 a, .int .i64 b, .int .i64 c] := by
  obtain ⟨y0, y1, y2, n, e, hl, h0, h1, h2⟩ := Go.Deep.trod_struct3 Tryd.underlying86 h
  rw [c_span] at hl
  simp only [Prod.mk.injEq, DataW.agg.injEq, List.cons.injEq, and_true] at e
  obtain ⟨⟨e0, e1, e2⟩, _⟩ := e
  match cs, hl with
  | [x0, x1, x2], _ =>
    obtain ⟨k0, q0, r0, _⟩ := DataW.trod_int Tryd.underlying2 h0
    obtain ⟨k1, q1, r1, _⟩ := DataW.trod_int Tryd.underlying2 h1
    obtain ⟨k2, q2, r2, _⟩ := DataW.trod_int Tryd.underlying2 h2
    subst r0; subst r1; subst r2
    simp only [DataW.lit.injEq, Lit.int.injEq, true_and] at e0 e1 e2
    subst e0; subst e1; subst e2
    rw [c_i64] at q0 q1 q2
    simp at q0 q1 q2
    subst q0; subst q1; subst q2
    rfl
set_option maxRecDepth 20000 in
theorem spans_open {fuel : Nat} {cs : List Value} {p : List MemPlace}
    (h : DataW.trod enc Tryd.prog w base spare held fuel 87 cs = some (Rows.laid_loop_example_g00215_impl_spans, p)) : cs = spansC.toList := by
  obtain ⟨xs, m, rfl, e, hl, hn, hel⟩ := DataW.trod_array Tryd.underlying87 h
  rw [c_spans] at hl
  simp only [Rows.laid_loop_example_g00215_impl_spans, Prod.mk.injEq, DataW.agg.injEq] at e
  obtain ⟨e, _⟩ := e
  match xs, hn with
  | [x0, x1, x2, x3, x4, x5], _ =>
    simp only [List.map_cons, List.map_nil, List.cons.injEq, and_true] at e
    obtain ⟨e0, e1, e2, e3, e4, e5⟩ := e
    have go : ∀ (i : Nat) (x : DataW H × List MemPlace) (a b c : Int), i < 6 → [x0, x1, x2, x3, x4, x5][i]? = some x → DataW.agg [.lit (.int .i64 a), .lit (.int .i64 b), .lit (.int .i64 c)] = x.1 → (cs.drop (i * 3)).take 3 = [.int .i64 a, .int .i64 b, .int .i64 c] := by
      intro i x a b c hi hx he
      have := hel i hi
      rw [c_span, hx] at this
      obtain ⟨x1, x2⟩ := x
      simp only at he
      rw [← he] at this
      exact span_open this
    have g0 := go 0 x0 _ _ _ (by decide) rfl e0
    have g1 := go 1 x1 _ _ _ (by decide) rfl e1
    have g2 := go 2 x2 _ _ _ (by decide) rfl e2
    have g3 := go 3 x3 _ _ _ (by decide) rfl e3
    have g4 := go 4 x4 _ _ _ (by decide) rfl e4
    have g5 := go 5 x5 _ _ _ (by decide) rfl e5
    match cs, hl with
    | [a0, a1, a2, a3, a4, a5, a6, a7, a8, a9, b0, b1, b2, b3, b4, b5, b6, b7], _ =>
      simp at g0 g1 g2 g3 g4 g5
      simp [spansC, g0, g1, g2, g3, g4, g5]
end
/-- What the row lists of the table is what the walks ask. -/
theorem spans_of_laid {W : World} (h : laidMetH Tryd.prog [("loop.example/g00215/impl.spans", Rows.laid_loop_example_g00215_impl_spans)] W) : SpansAt W := by
  rw [MakeChecks.laidMetH_plain _ _ _ (by kernel_rfl)] at h
  obtain ⟨ps, ⟨g0, t0, cs0, f0, p0, q0, hg0, ht0, hv0, hd0, _⟩, _⟩ := h
  obtain rfl := Option.some.inj (gSpans.symm.trans hg0)
  obtain rfl := Option.some.inj (tSpans.symm.trans ht0)
  have hcs := spans_open hd0
  have e : cs0 = spansC := by cases cs0; simp at hcs; rw [hcs]
  subst e
  unfold World.var? at hv0
  rw [gSpans] at hv0
  simp only [Option.bind_some] at hv0
  cases hh : W.heap[0]? with
  | none => rw [hh] at hv0; cases hv0
  | some o =>
    rw [hh] at hv0
    cases o with
    | cells c t fr => simp at hv0; subst hv0; exact ⟨t, fr, hh⟩
    | _ => simp at hv0
/-- The program's own start lays the table so. -/
theorem spans_door (os : Os) (args : Array Value) : laidMetH Tryd.prog [("loop.example/g00215/impl.spans", Rows.laid_loop_example_g00215_impl_spans)] ((World.doorLaid Tryd.prog 400 os).forCall (fun _ _ => 0) ⟨#[], args, []⟩).memory :=
  laidMetH_of_parts3 (fuel := 8) (laidMet_of_run' 8 (by kernel_rfl) (by kernel_rfl)) (by kernel_rfl) (by kernel_rfl)
end Go.Proofs.YtkcekacnebhcgaaDoor
namespace Go.Proofs.YtkcekacnebhcgaaDoor
structure Pa where
  state : Int
  params : List Int
  mark : Int
  text : List Int
structure Ac where
  kind : Int
  rune : Int
  params : List Int
  mark : Int
  text : List Int
def st0 (s : Int) : Pa := ⟨s, [], 0, []⟩
def paZ : Pa := ⟨0, [], 0, []⟩
def one0 (ps : List Int) : List Int := if ps.length = 0 then [0] else ps
def digitP (ps : List Int) (d : Int) : List Int := (one0 ps).set ((one0 ps).length - 1) (min 9999 (10 * (one0 ps).getD ((one0 ps).length - 1) 0 + d))
def semiP (ps : List Int) : List Int := if (one0 ps).length < 16 then one0 ps ++ [0] else one0 ps
def acR (k r : Int) : Ac := ⟨k, r, [], 0, []⟩
def escM (r : Int) : Pa × List Ac :=
  if r = 91 then (st0 3, []) else if r = 93 then (st0 4, []) else if 48 ≤ r ∧ r ≤ 126 then (st0 1, [acR 3 r]) else (st0 1, [])
/-- Whether a list takes a rune in. -/
def takes (ps : List Int) (m r : Int) : Bool := decide (r = 63 ∧ ps.length = 0 ∧ m = 0 ∨ 48 ≤ r ∧ r ≤ 57 ∨ r = 59)
def takenP (p : Pa) (r : Int) : Pa :=
  if r = 63 ∧ p.params.length = 0 ∧ p.mark = 0 then ⟨p.state, p.params, 63, p.text⟩
  else if 48 ≤ r ∧ r ≤ 57 then ⟨p.state, digitP p.params (r - 48), p.mark, p.text⟩
  else ⟨p.state, semiP p.params, p.mark, p.text⟩
def listM (p : Pa) (r : Int) : Pa × List Ac :=
  if takes p.params p.mark r = true then (takenP p r, [])
  else if 64 ≤ r ∧ r ≤ 126 then (st0 1, [⟨4, r, p.params, p.mark, []⟩]) else (st0 1, [])
def titleM (p : Pa) (r : Int) : Pa × List Ac :=
  if r = 7 then (st0 1, [⟨5, 0, [], 0, p.text⟩])
  else if r = 27 then (⟨5, p.params, p.mark, p.text⟩, [])
  else if p.text.length < 40 then (⟨p.state, p.params, p.mark, p.text ++ [r]⟩, []) else (p, [])
def endM (p : Pa) (r : Int) : Pa × List Ac := if r = 92 then (st0 1, [⟨5, 0, [], 0, p.text⟩]) else (st0 1, [])
/-- A control that leaves the state as it is. -/
def stays (r : Int) : Bool := decide ((r < 32 ∨ r = 127) ∧ r ≠ -1 ∧ r ≠ 24 ∧ r ≠ 26 ∧ r ≠ 27)
def stepM (p : Pa) (r : Int) : Pa × List Ac :=
  if p.state = 4 then titleM p r
  else if p.state = 5 then endM p r
  else if r = 27 then (st0 2, [])
  else if r = 24 ∨ r = 26 then (st0 1, [])
  else if r < 32 ∨ r = 127 then (p, [acR 2 r])
  else if p.state = 2 then escM r
  else if p.state = 3 then listM p r
  else if 0 < widthV r then (p, [acR 1 r]) else (p, [])
def parsedM : Pa → List Int → Pa × List Ac
  | p, [] => (p, [])
  | p, r :: l => ((parsedM (stepM p r).1 l).1, (stepM p r).2 ++ (parsedM (stepM p r).1 l).2)
theorem parsedM_app (p : Pa) (a b : List Int) : parsedM p (a ++ b) = ((parsedM (parsedM p a).1 b).1, (parsedM p a).2 ++ (parsedM (parsedM p a).1 b).2) := by
  induction a generalizing p with
  | nil => simp [parsedM]
  | cons r a ih => simp [parsedM, ih]
theorem parsedM_one (p : Pa) (r : Int) : parsedM p [r] = stepM p r := by simp [parsedM]
theorem parsedM_snoc (p : Pa) (a : List Int) (r : Int) : parsedM p (a ++ [r]) = ((stepM (parsedM p a).1 r).1, (parsedM p a).2 ++ (stepM (parsedM p a).1 r).2) := by
  rw [parsedM_app, parsedM_one]
/-- What comes of a parser, of what is left and of what was told. -/
def Fin (p : Pa) (l : List Int) (t : List Ac) : Pa × List Ac := ((parsedM p l).1, t ++ (parsedM p l).2)
theorem Fin_nil (p : Pa) (t : List Ac) : Fin p [] t = (p, t) := by simp [Fin, parsedM]
theorem Fin_cons (p : Pa) (r : Int) (l : List Int) (t : List Ac) : Fin p (r :: l) t = Fin (stepM p r).1 l (t ++ (stepM p r).2) := by simp [Fin, parsedM]
/-- Bounds that a parser keeps. -/
def PB (p : Pa) : Prop := (∀ x ∈ p.params, 0 ≤ x ∧ x ≤ 9999) ∧ p.params.length ≤ 16 ∧ p.text.length ≤ 40
theorem one0_le (ps : List Int) (h : ps.length ≤ 16) : (one0 ps).length ≤ 16 := by unfold one0; split <;> simp_all
theorem one0_bd (ps : List Int) (h : ∀ x ∈ ps, 0 ≤ x ∧ x ≤ 9999) : ∀ x ∈ one0 ps, 0 ≤ x ∧ x ≤ 9999 := by
  unfold one0; split
  · intro x hx; simp at hx; omega
  · exact h
theorem digitP_len (ps : List Int) (d : Int) : (digitP ps d).length = (one0 ps).length := by simp [digitP]
theorem getD_bd {ps : List Int} (h : ∀ x ∈ ps, 0 ≤ x ∧ x ≤ 9999) (i : Nat) : 0 ≤ ps.getD i 0 ∧ ps.getD i 0 ≤ 9999 := by
  by_cases hi : i < ps.length
  · have : ps.getD i 0 = ps[i] := by simp [List.getD, hi]
    rw [this]; exact h _ (List.getElem_mem hi)
  · have : ps.getD i 0 = 0 := by simp [List.getD, List.getElem?_eq_none (Nat.le_of_not_lt hi)]
    rw [this]; omega
theorem digitP_bd (ps : List Int) (d : Int) (h : ∀ x ∈ ps, 0 ≤ x ∧ x ≤ 9999) (hd : 0 ≤ d) : ∀ x ∈ digitP ps d, 0 ≤ x ∧ x ≤ 9999 := by
  intro x hx
  have h1 := one0_bd ps h
  rcases List.mem_or_eq_of_mem_set hx with hx | hx
  · exact h1 x hx
  · have h2 := getD_bd h1 ((one0 ps).length - 1)
    subst hx
    omega
theorem semiP_bd (ps : List Int) (h : ∀ x ∈ ps, 0 ≤ x ∧ x ≤ 9999) : ∀ x ∈ semiP ps, 0 ≤ x ∧ x ≤ 9999 := by
  unfold semiP
  split
  · intro x hx
    rcases List.mem_append.1 hx with hx | hx
    · exact one0_bd ps h x hx
    · simp at hx; omega
  · exact one0_bd ps h
theorem semiP_len (ps : List Int) (h : ps.length ≤ 16) : (semiP ps).length ≤ 16 := by
  unfold semiP
  have := one0_le ps h
  split <;> simp <;> omega
theorem st0_pb (s : Int) : PB (st0 s) := ⟨by simp [st0], by simp [st0], by simp [st0]⟩
theorem taken_pb (p : Pa) (r : Int) (h : PB p) : PB (takenP p r) := by
  unfold takenP
  split
  · exact ⟨h.1, h.2.1, h.2.2⟩
  · split
    · exact ⟨digitP_bd _ _ h.1 (by omega), by rw [digitP_len]; exact one0_le _ h.2.1, h.2.2⟩
    · exact ⟨semiP_bd _ h.1, semiP_len _ h.2.1, h.2.2⟩
theorem title_pb (p : Pa) (r : Int) (h : PB p) : PB (titleM p r).1 := by
  unfold titleM
  split
  · exact st0_pb _
  · split
    · exact ⟨h.1, h.2.1, h.2.2⟩
    · split
      · exact ⟨h.1, h.2.1, by simp; omega⟩
      · exact h
theorem list_pb (p : Pa) (r : Int) (h : PB p) : PB (listM p r).1 := by
  unfold listM
  split
  · exact taken_pb p r h
  · split <;> exact st0_pb _
theorem esc_pb (r : Int) : PB (escM r).1 := by
  unfold escM
  split
  · exact st0_pb _
  · split
    · exact st0_pb _
    · split <;> exact st0_pb _
theorem step_pb (p : Pa) (r : Int) (h : PB p) : PB (stepM p r).1 := by
  unfold stepM
  split
  · exact title_pb p r h
  split
  · unfold endM; split <;> exact st0_pb _
  split
  · exact st0_pb _
  split
  · exact st0_pb _
  split
  · exact h
  split
  · exact esc_pb r
  split
  · exact list_pb p r h
  split <;> exact h
theorem parsed_pb (p : Pa) (l : List Int) (h : PB p) : PB (parsedM p l).1 := by
  induction l generalizing p with
  | nil => exact h
  | cons r l ih => exact ih _ (step_pb p r h)
/-- Sizes of what one rune tells. -/
def Told1 (x : Pa × List Ac) : Prop := x.2.length ≤ 1 ∧ ∀ a ∈ x.2, a.params.length ≤ 16 ∧ a.text.length ≤ 40
theorem told_no (q : Pa) : Told1 (q, []) := ⟨Nat.zero_le _, fun _ h => absurd h (List.not_mem_nil)⟩
theorem told_one (q : Pa) (a : Ac) (h1 : a.params.length ≤ 16) (h2 : a.text.length ≤ 40) : Told1 (q, [a]) :=
  ⟨Nat.le_refl _, fun b h => by rw [List.mem_singleton] at h; subst h; exact ⟨h1, h2⟩⟩
theorem told_acR (q : Pa) (k r : Int) : Told1 (q, [acR k r]) := told_one q _ (by simp [acR]) (by simp [acR])
theorem step_told (p : Pa) (r : Int) (h : PB p) : Told1 (stepM p r) := by
  unfold stepM
  have h1 := h.2.1
  have h2 := h.2.2
  split
  · unfold titleM
    split
    · exact told_one _ _ (by simp) h2
    split
    · exact told_no _
    split <;> exact told_no _
  split
  · unfold endM
    split
    · exact told_one _ _ (by simp) h2
    · exact told_no _
  split
  · exact told_no _
  split
  · exact told_no _
  split
  · exact told_acR _ _ _
  split
  · unfold escM
    split
    · exact told_no _
    split
    · exact told_no _
    split
    · exact told_acR _ _ _
    · exact told_no _
  split
  · unfold listM
    split
    · exact told_no _
    split
    · exact told_one _ _ h1 (by simp)
    · exact told_no _
  split
  · exact told_acR _ _ _
  · exact told_no _
theorem parsed_told (p : Pa) (l : List Int) (h : PB p) : (parsedM p l).2.length ≤ l.length ∧ ∀ a ∈ (parsedM p l).2, a.params.length ≤ 16 ∧ a.text.length ≤ 40 := by
  induction l generalizing p with
  | nil => simp [parsedM]
  | cons r l ih =>
    obtain ⟨h1, h1b⟩ := step_told p r h
    have h2 := ih _ (step_pb p r h)
    refine ⟨by simp [parsedM]; omega, fun a ha => ?_⟩
    simp only [parsedM] at ha
    rcases List.mem_append.1 ha with ha | ha
    · exact h1b a ha
    · exact h2.2 a ha

/-- Whether a list's numbers are all runes. -/
def runesB (l : List Int) : Bool := l.all runeOk
def paramsB (l : List Int) : Bool := l.all (fun x => decide (0 ≤ x ∧ x ≤ 9999))
def okV (p : Pa) : Bool := decide (1 ≤ p.state ∧ p.state ≤ 5 ∧ p.params.length ≤ 16 ∧ (p.mark = 0 ∨ p.mark = 63) ∧ p.text.length ≤ 40 ∧ (p.state = 3 ∨ p.params.length = 0 ∧ p.mark = 0) ∧ (4 ≤ p.state ∨ p.text.length = 0)) && runesB p.text && paramsB p.params
theorem runesB_at {l : List Int} (h : runesB l = true) (i : Nat) (hi : i < l.length) : runeOk (l.getD i 0) = true := by
  have : l.getD i 0 = l[i] := by simp [List.getD, hi]
  rw [this]; exact List.all_eq_true.1 h _ (List.getElem_mem hi)
theorem runesB_no {l : List Int} (i : Nat) (hi : i < l.length) (h : runeOk (l.getD i 0) = false) : runesB l = false := by
  rw [Bool.eq_false_iff]; intro hh
  rw [runesB_at hh i hi] at h; cases h
theorem runesB_yes {l : List Int} (h : ∀ i, i < l.length → runeOk (l.getD i 0) = true) : runesB l = true := by
  refine List.all_eq_true.2 fun x hx => ?_
  obtain ⟨i, hi, rfl⟩ := List.getElem_of_mem hx
  have := h i hi
  simpa [List.getD, hi] using this
theorem paramsB_at {l : List Int} (h : paramsB l = true) (i : Nat) (hi : i < l.length) : 0 ≤ l.getD i 0 ∧ l.getD i 0 ≤ 9999 := by
  have : l.getD i 0 = l[i] := by simp [List.getD, hi]
  rw [this]; exact of_decide_eq_true (List.all_eq_true.1 h _ (List.getElem_mem hi))
theorem paramsB_no {l : List Int} (i : Nat) (hi : i < l.length) (h : ¬ (0 ≤ l.getD i 0 ∧ l.getD i 0 ≤ 9999)) : paramsB l = false := by
  rw [Bool.eq_false_iff]; intro hh
  exact h (paramsB_at hh i hi)
theorem paramsB_yes {l : List Int} (h : ∀ i, i < l.length → 0 ≤ l.getD i 0 ∧ l.getD i 0 ≤ 9999) : paramsB l = true := by
  refine List.all_eq_true.2 fun x hx => decide_eq_true ?_
  obtain ⟨i, hi, rfl⟩ := List.getElem_of_mem hx
  have := h i hi
  simpa [List.getD, hi] using this
theorem okV_pb {p : Pa} (h : okV p = true) : PB p := by
  unfold okV at h
  rw [Bool.and_eq_true, Bool.and_eq_true, decide_eq_true_eq] at h
  obtain ⟨⟨h1, _⟩, h3⟩ := h
  exact ⟨fun x hx => of_decide_eq_true (List.all_eq_true.1 h3 x hx), h1.2.2.1, h1.2.2.2.2.1⟩
def parsedA (p : Pa) (l : List Int) : Pa × List Ac := if (okV p && decide (l.length ≤ 2000) && runesB l) = true then parsedM p l else (paZ, [])
end Go.Proofs.YtkcekacnebhcgaaDoor
namespace Go.Proofs.YtkcekacnebhcgaaDoor
open Go.ChangeShapes Go.WideShapes Go.ChangeAt Go.RowKit
/-- What is owned stays owned while the world only grows above. -/
theorem _root_.Go.World.ownsRow.below {w w' : World} {base : Nat} {e : TypeId} {size : Nat} {v : Value} {n : Nat} {xs : List Value} (h : w.ownsRow base e size v n xs) (hb : Below w.heap.size w w') : w'.ownsRow base e size v n xs := by
  refine ⟨h.1, ?_⟩
  rcases h.2 with h2 | ⟨g, cap, cur, hv, hbg, hg, r⟩
  · exact .inl h2
  · exact .inr ⟨g, cap, cur, hv, hbg, by rw [hb.block g (Array.getElem?_eq_some_iff.1 hg).1]; exact hg, r⟩
/-- A slice that can be read: of no element, or a row of cells that hold the numbers. -/
def SlI (w : World) (v : Value) (xs : List Int) : Prop :=
  ∃ a c, v = .slice a xs.length c ∧ (xs = [] ∨ ∃ b off, a = some ⟨b, off, none⟩ ∧ b < w.heap.size ∧ ∀ i, i < xs.length → w.cell? ⟨b, off + i, none⟩ = some (.int .i64 (xs.getD i 0)))
theorem SlI.of_own {w : World} {base : Nat} {e : TypeId} {v : Value} {xs : List Int} (h : w.ownsRow base e 1 v xs.length (xs.map (Value.int .i64))) : SlI w v xs := by
  rcases h.2 with ⟨rfl, h2⟩ | ⟨g, cap, cur, rfl, hb, hg, hr⟩
  · exact ⟨none, 0, by rw [h2], .inl (List.eq_nil_of_length_eq_zero h2)⟩
  · refine ⟨_, cap, rfl, .inr ⟨g, 0, rfl, (Array.getElem?_eq_some_iff.1 hg).1, fun i hi => ?_⟩⟩
    have := h.cellAt i (by simpa using hi)
    rw [Nat.zero_add, this]
    simp [hi]
theorem SlI.below {w w' : World} {v : Value} {xs : List Int} (h : SlI w v xs) (hb : Below w.heap.size w w') : SlI w' v xs := by
  obtain ⟨a, c, hv, h | ⟨b, off, ha, hlt, hc⟩⟩ := h
  · exact ⟨a, c, hv, .inl h⟩
  · exact ⟨a, c, hv, .inr ⟨b, off, ha, Nat.lt_of_lt_of_le hlt hb.size, fun i hi => (hb.cell (p := ⟨b, off + i, none⟩) hlt).trans (hc i hi)⟩⟩
theorem SlI.drewN {w : World} {v : Value} {xs : List Int} (h : SlI w v xs) (n : Nat) : SlI (w.drewN n) v xs := h

/-- What a law is told of a slice of integers that came in: nil; or a row of cap cells, the numbers zs (the first len are its elements), each fitting its kind. -/
def IsRow (k : IntKind) (w : World) (a : Option Addr) (len cap : Nat) (zs : List Int) : Prop :=
  (a = none ∧ len = 0 ∧ cap = 0 ∧ zs = []) ∨
  ∃ x, a = some x ∧ len ≤ cap ∧ cap ≤ maxLen ∧ zs.length = cap ∧ (∀ i, i < zs.length → w.cell? (x.add i) = some (.int k (zs.getD i 0))) ∧ ∀ n ∈ zs, (Lit.int k n).wf = true
theorem SlI.of_row {w : World} {a : Option Addr} {len cap : Nat} {zs : List Int} (h : IsRow .i64 w a len cap zs) : SlI w (.slice a len cap) (zs.take len) ∧ (zs.take len).length = len := by
  rcases h with ⟨rfl, rfl, rfl, rfl⟩ | ⟨x, rfl, hl, hm, hz, hc, hw⟩
  · exact ⟨⟨none, 0, rfl, .inl rfl⟩, rfl⟩
  · have hlen : (zs.take len).length = len := by rw [List.length_take]; omega
    refine ⟨⟨some x, cap, by rw [hlen], ?_⟩, hlen⟩
    by_cases h0 : len = 0
    · left; subst h0; simp
    · right
      obtain ⟨b, off, spot⟩ := x
      have h1 := hc 0 (by omega)
      have hspot : spot = none := by simpa [Addr.add] using World.cell?_spot h1
      subst hspot
      refine ⟨b, off, rfl, World.block_lt_of_cell? w _ h1, fun i hi => ?_⟩
      rw [hlen] at hi
      have h2 := hc i (by omega)
      have e : (zs.take len).getD i 0 = zs.getD i 0 := by simp [List.getD, hi]
      rw [e, ← h2]
      by_cases hi0 : i = 0
      · subst hi0; simp [Addr.add]
      · simp [Addr.add, hi0]

end Go.Proofs.YtkcekacnebhcgaaDoor
namespace Go.Proofs.YtkcekacnebhcgaaDoor
open Go.ChangeShapes Go.WideShapes Go.ChangeAt Go.RowKit
theorem gbl {w w' : World} (h : Below w.heap.size w w') (row : Option Nat) : w.grownBy w' row := ⟨h.os, h.tape, h.output, h.size, fun k hk _ => h.block k hk⟩
theorem setCell_gr (w : World) (B o : Nat) (u : Value) : w.grownBy (w.setCell ⟨B, o, none⟩ u) (some B) :=
  ⟨rfl, rfl, rfl, by simp, fun k _ hk => heap_setCell_other w ⟨B, o, none⟩ k _ (fun e => hk (by simp [e]))⟩
theorem grown_tr {a b c : World} {row : Option Nat} (h : a.grownBy b row) (k : b.grownBy c row) : a.grownBy c row :=
  ⟨k.os.trans h.os, k.tape.trans h.tape, k.output.trans h.output, Nat.le_trans h.size k.size, fun i hi hr => (k.block i (Nat.lt_of_lt_of_le hi h.size) hr).trans (h.block i hi hr)⟩
theorem bal' (w : World) (o : Obj) : Below w.heap.size w (w.alloc o) := (Below.refl _ _).alloc (Nat.le_refl _) o
theorem bdr (w : World) : Below w.heap.size w w.drew := ⟨rfl, rfl, rfl, Nat.le_refl _, fun _ _ => rfl⟩
end Go.Proofs.YtkcekacnebhcgaaDoor
namespace Go.Proofs.YtkcekacnebhcgaaDoor
open Go.ChangeShapes Go.WideShapes Go.ChangeAt Go.RowKit
theorem own_low' {w : World} {base base' : Nat} {e : TypeId} {size : Nat} {v : Value} {n : Nat} {xs : List Value} (h : w.ownsRow base e size v n xs) (hb : base' ≤ base) : w.ownsRow base' e size v n xs := by
  refine ⟨h.1, ?_⟩
  rcases h.2 with h2 | ⟨g, cap, cur, hv, hbg, r⟩
  · exact .inl h2
  · exact .inr ⟨g, cap, cur, hv, Nat.le_trans hb hbg, r⟩
/-- A list of numbers of this call's own. -/
def OwnI (w : World) (base : Nat) (v : Value) (xs : List Int) : Prop := w.ownsRow base 2 1 v xs.length (xs.map (Value.int .i64))
theorem OwnI.below {w w' : World} {base : Nat} {v : Value} {xs : List Int} (h : OwnI w base v xs) (hb : Below w.heap.size w w') : OwnI w' base v xs := World.ownsRow.below h hb
theorem OwnI.kept {w w' : World} {base : Nat} {v : Value} {xs : List Int} {row : Option Nat} (h : OwnI w base v xs) (hg : w.grownBy w' row) (hne : v.ownBlock = none ∨ v.ownBlock ≠ row) : OwnI w' base v xs := World.ownsRow.kept (show w.ownsRow _ _ _ _ _ _ from h) hg hne
theorem OwnI.low {w : World} {base base' : Nat} {v : Value} {xs : List Int} (h : OwnI w base v xs) (hb : base' ≤ base) : OwnI w base' v xs := own_low' h hb
theorem OwnI.lt {w : World} {base : Nat} {v : Value} {xs : List Int} (h : OwnI w base v xs) : ∀ g, v.ownBlock = some g → base ≤ g ∧ g < w.heap.size := fun g e => World.ownsRow.lt h g e
theorem OwnI.sl {w : World} {base : Nat} {v : Value} {xs : List Int} (h : OwnI w base v xs) : SlI w v xs := SlI.of_own h
theorem OwnI.shape {w : World} {base : Nat} {v : Value} {xs : List Int} (h : OwnI w base v xs) : ∃ a n c, v = .slice a n c := by
  obtain ⟨a, c, hv, _⟩ := h.sl
  exact ⟨a, _, c, hv⟩
theorem ownI_nil (w : World) (base : Nat) : OwnI w base (.slice none 0 0) [] := World.ownsRow_nil _ _ _ _
/-- Two slices over no common block. -/
def ApV (u v : Value) : Prop := ∀ g, u.ownBlock = some g → v.ownBlock ≠ some g
theorem ApV.symm {u v : Value} (h : ApV u v) : ApV v u := fun g e1 e2 => h g e2 e1
theorem ApV.nil_l (v : Value) : ApV (.slice none 0 0) v := fun g e => by simp [Value.ownBlock] at e
theorem ApV.ne {u v : Value} (h : ApV u v) : u.ownBlock = none ∨ u.ownBlock ≠ v.ownBlock := by
  cases hu : u.ownBlock with
  | none => exact .inl rfl
  | some g => right; intro e; exact h g hu e.symm
/-- Lists of numbers of this call's own, no two over one block. -/
def LiOk (w : World) (base : Nat) (L : List (Value × List Int)) : Prop := (∀ p ∈ L, OwnI w base p.1 p.2) ∧ L.Pairwise fun p q => ApV p.1 q.1
theorem LiOk.below {w w' : World} {base : Nat} {L : List (Value × List Int)} (h : LiOk w base L) (hb : Below w.heap.size w w') : LiOk w' base L := ⟨fun p hp => (h.1 p hp).below hb, h.2⟩
theorem LiOk.low {w : World} {base base' : Nat} {L : List (Value × List Int)} (h : LiOk w base L) (hb : base' ≤ base) : LiOk w base' L := ⟨fun p hp => (h.1 p hp).low hb, h.2⟩
theorem LiOk.perm {w : World} {base : Nat} {L M : List (Value × List Int)} (h : LiOk w base L) (hp : L.Perm M) : LiOk w base M :=
  ⟨fun _ hm => h.1 _ (hp.mem_iff.2 hm), (hp.pairwise_iff (fun {_ _} h => ApV.symm h)).1 h.2⟩
theorem LiOk.sub {w : World} {base : Nat} {L M : List (Value × List Int)} (h : LiOk w base L) (hp : M.Sublist L) : LiOk w base M :=
  ⟨fun _ hm => h.1 _ (hp.subset hm), h.2.sublist hp⟩
theorem LiOk.nil (w : World) (base : Nat) : LiOk w base [] := ⟨fun _ h => absurd h (List.not_mem_nil), List.Pairwise.nil⟩
theorem LiOk.tail {w : World} {base : Nat} {x : Value × List Int} {L : List (Value × List Int)} (h : LiOk w base (x :: L)) : LiOk w base L := h.sub (List.sublist_cons_self _ _)
theorem LiOk.head {w : World} {base : Nat} {x : Value × List Int} {L : List (Value × List Int)} (h : LiOk w base (x :: L)) : OwnI w base x.1 x.2 := h.1 x (List.mem_cons_self)
theorem LiOk.nilc {w : World} {base : Nat} {L : List (Value × List Int)} (h : LiOk w base L) : LiOk w base ((.slice none 0 0, []) :: L) :=
  ⟨fun p hp => by
    rcases List.mem_cons.1 hp with rfl | hp
    · exact ownI_nil _ _
    · exact h.1 p hp, List.Pairwise.cons (fun q _ => ApV.nil_l _) h.2⟩
/-- One list more, over a block that is new. -/
theorem LiOk.new {w w' : World} {base : Nat} {L : List (Value × List Int)} (h : LiOk w base L) (hb : Below w.heap.size w w') {v : Value} {xs : List Int} (ho : OwnI w' base v xs) (hn : ∀ g, v.ownBlock = some g → w.heap.size ≤ g) : LiOk w' base ((v, xs) :: L) :=
  ⟨fun p hp => by
    rcases List.mem_cons.1 hp with rfl | hp
    · exact ho
    · exact (h.1 p hp).below hb, List.Pairwise.cons (fun q hq g e1 e2 => by have := hn g e1; have := ((h.1 q hq).lt g e2).2; omega) h.2⟩
/-- The first list grows, in its own block or a new one. -/
theorem LiOk.grow {w w' : World} {base : Nat} {v v' : Value} {xs ys : List Int} {L : List (Value × List Int)} (h : LiOk w base ((v, xs) :: L)) (hg : w.grownBy w' v.ownBlock) (ho : OwnI w' base v' ys) (hat : ∀ g, v'.ownBlock = some g → v.ownBlock = some g ∨ w.heap.size ≤ g) : LiOk w' base ((v', ys) :: L) := by
  have hp := List.pairwise_cons.1 h.2
  refine ⟨fun p hm => ?_, List.Pairwise.cons (fun q hq g e1 e2 => ?_) hp.2⟩
  · rcases List.mem_cons.1 hm with rfl | hm
    · exact ho
    · exact (h.1 p (List.mem_cons_of_mem _ hm)).kept hg ((hp.1 p hm).symm.ne)
  · rcases hat g e1 with e | e
    · exact hp.1 q hq g e e2
    · have := ((h.1 q (List.mem_cons_of_mem _ hq)).lt g e2).2; omega
/-- What is not among them changes. -/
theorem LiOk.kept {w w' : World} {base : Nat} {L : List (Value × List Int)} {row : Option Nat} (h : LiOk w base L) (hg : w.grownBy w' row) (hne : ∀ p ∈ L, p.1.ownBlock = none ∨ p.1.ownBlock ≠ row) : LiOk w' base L :=
  ⟨fun p hp => (h.1 p hp).kept hg (hne p hp), h.2⟩
/-- No list of numbers lies in a block of another kind. -/
theorem OwnI.not_block {w : World} {base : Nat} {v : Value} {xs : List Int} (h : OwnI w base v xs) {B : Nat} {cs : Array Value} {t : TypeId} {fr : Nat × Nat} (hB : w.heap[B]? = some (.cells cs t fr)) (ht : t ≠ 2) : v.ownBlock ≠ some B := by
  intro e
  rcases h.2 with ⟨hv, _⟩ | ⟨g, cap, cur, hv, _, hg, _⟩
  · rw [hv] at e; simp [Value.ownBlock] at e
  · rw [hv] at e
    simp only [Value.ownBlock, Option.some.injEq] at e
    subst e
    rw [hB] at hg
    simp only [Option.some.injEq, Obj.cells.injEq] at hg
    exact ht hg.2.1

/-- An action with the values of its lists. -/
structure Ax where
  a : Ac
  pv : Value
  tv : Value
def axC (x : Ax) : List Value := [.int .i64 x.a.kind, .int .i64 x.a.rune, x.pv, .int .i64 x.a.mark, x.tv]
def axL (x : Ax) : List (Value × List Int) := [(x.pv, x.a.params), (x.tv, x.a.text)]
def axV (x : Ax) : Value := .agg #[.int .i64 x.a.kind, .int .i64 x.a.rune, x.pv, .int .i64 x.a.mark, x.tv]
def axZ : Ax := ⟨⟨0, 0, [], 0, []⟩, .slice none 0 0, .slice none 0 0⟩
/-- A list of actions of this call's own: its row alone. -/
def OwnX (w : World) (base : Nat) (v : Value) (X : List Ax) : Prop := w.ownsRow base 63 5 v X.length (X.flatMap axC)
theorem OwnX.below {w w' : World} {base : Nat} {v : Value} {X : List Ax} (h : OwnX w base v X) (hb : Below w.heap.size w w') : OwnX w' base v X := World.ownsRow.below h hb
theorem OwnX.kept {w w' : World} {base : Nat} {v : Value} {X : List Ax} {row : Option Nat} (h : OwnX w base v X) (hg : w.grownBy w' row) (hne : v.ownBlock = none ∨ v.ownBlock ≠ row) : OwnX w' base v X := World.ownsRow.kept (show w.ownsRow _ _ _ _ _ _ from h) hg hne
theorem OwnX.low {w : World} {base base' : Nat} {v : Value} {X : List Ax} (h : OwnX w base v X) (hb : base' ≤ base) : OwnX w base' v X := own_low' h hb
theorem OwnX.lt {w : World} {base : Nat} {v : Value} {X : List Ax} (h : OwnX w base v X) : ∀ g, v.ownBlock = some g → base ≤ g ∧ g < w.heap.size := fun g e => World.ownsRow.lt h g e
theorem OwnX.shape {w : World} {base : Nat} {v : Value} {X : List Ax} (h : OwnX w base v X) : ∃ a c, v = .slice a X.length c := by
  rcases h.2 with ⟨hv, hn⟩ | ⟨g, cap, cur, hv, _⟩
  · exact ⟨none, 0, by rw [hv, hn]⟩
  · exact ⟨_, cap, hv⟩
theorem OwnX.ap {w : World} {base base' : Nat} {v u : Value} {X : List Ax} {xs : List Int} (h : OwnX w base v X) (k : OwnI w base' u xs) : ApV u v := by
  intro g e1 e2
  rcases h.2 with ⟨hv, _⟩ | ⟨g', cap, cur, hv, _, hg, _⟩
  · rw [hv] at e2; simp [Value.ownBlock] at e2
  · rw [hv] at e2
    simp only [Value.ownBlock, Option.some.injEq] at e2
    subst e2
    exact k.not_block hg (by decide) e1
theorem OwnX.not_block {w : World} {base : Nat} {v : Value} {X : List Ax} (h : OwnX w base v X) {B : Nat} {cs : Array Value} {t : TypeId} {fr : Nat × Nat} (hB : w.heap[B]? = some (.cells cs t fr)) (ht : t ≠ 63) : v.ownBlock ≠ some B := by
  intro e
  rcases h.2 with ⟨hv, _⟩ | ⟨g, cap, cur, hv, _, hg, _⟩
  · rw [hv] at e; simp [Value.ownBlock] at e
  · rw [hv] at e
    simp only [Value.ownBlock, Option.some.injEq] at e
    subst e
    rw [hB] at hg
    simp only [Option.some.injEq, Obj.cells.injEq] at hg
    exact ht hg.2.1
theorem ownX_nil (w : World) (base : Nat) : OwnX w base (.slice none 0 0) [] := World.ownsRow_nil _ _ _ _
theorem ownX_lit (w : World) (base : Nat) (hb : base ≤ w.heap.size) : OwnX (w.alloc (.cells #[] 63)) base (.slice (some ⟨w.heap.size, 0, none⟩) 0 0) [] := by
  have := World.ownsRow_lit (base := base) (e := 63) (size := 5) w #[] 0 hb (Nat.zero_le _) rfl
  simpa [OwnX] using this
theorem ownX_one (w : World) (base : Nat) (x : Ax) (hb : base ≤ w.heap.size) : OwnX (w.alloc (.cells (axC x).toArray 63)) base (.slice (some ⟨w.heap.size, 0, none⟩) 1 1) [x] := by
  have := World.ownsRow_lit (base := base) (e := 63) (size := 5) w (axC x).toArray 1 hb (by unfold maxLen; omega) rfl
  simpa [OwnX] using this
/-- The lists of actions, one behind the other. -/
def axLs (X : List Ax) : List (Value × List Int) := X.flatMap axL
/-- A parser's and actions' memory of this call's own. -/
def AnsOk (w : World) (base : Nat) (pv tv : Value) (p : Pa) (av : Value) (A : List Ac) : Prop :=
  ∃ X : List Ax, X.map (·.a) = A ∧ OwnX w base av X ∧ LiOk w base ((pv, p.params) :: (tv, p.text) :: axLs X)
theorem AnsOk.below {w w' : World} {base : Nat} {pv tv av : Value} {p : Pa} {A : List Ac} (h : AnsOk w base pv tv p av A) (hb : Below w.heap.size w w') : AnsOk w' base pv tv p av A := by
  obtain ⟨X, h1, h2, h3⟩ := h
  exact ⟨X, h1, h2.below hb, h3.below hb⟩
theorem AnsOk.low {w : World} {base base' : Nat} {pv tv av : Value} {p : Pa} {A : List Ac} (h : AnsOk w base pv tv p av A) (hb : base' ≤ base) : AnsOk w base' pv tv p av A := by
  obtain ⟨X, h1, h2, h3⟩ := h
  exact ⟨X, h1, h2.low hb, h3.low hb⟩
/-- A parser in a block of its own. -/
def paV (p : Pa) (pv tv : Value) : Value := .agg #[.int .i64 p.state, pv, .int .i64 p.mark, tv]
def PaC (w : World) (B : Nat) (s : Int) (pv : Value) (m : Int) (tv : Value) : Prop :=
  B < w.heap.size ∧ (w.cell? ⟨B, 0, none⟩ = some (.int .i64 s) ∧ w.cell? ⟨B, 1, none⟩ = some pv ∧ w.cell? ⟨B, 2, none⟩ = some (.int .i64 m) ∧ w.cell? ⟨B, 3, none⟩ = some tv) ∧
    (w.frozen? ⟨B, 0, none⟩ = false ∧ w.frozen? ⟨B, 1, none⟩ = false ∧ w.frozen? ⟨B, 2, none⟩ = false ∧ w.frozen? ⟨B, 3, none⟩ = false)
theorem PaC.grown {w w' : World} {B : Nat} {s m : Int} {pv tv : Value} {row : Option Nat} (h : PaC w B s pv m tv) (hg : w.grownBy w' row) (hr : row ≠ some B) : PaC w' B s pv m tv := by
  have hb := hg.block B h.1 (Ne.symm hr)
  have hc : ∀ k, w'.cell? ⟨B, k, none⟩ = w.cell? ⟨B, k, none⟩ := fun k => World.cell?_of_block (w := w) hb
  have hz : ∀ k, w'.frozen? ⟨B, k, none⟩ = w.frozen? ⟨B, k, none⟩ := fun k => World.frozen?_of_block (w := w) hb
  refine ⟨Nat.lt_of_lt_of_le h.1 hg.size, ?_, ?_⟩
  · rw [hc, hc, hc, hc]; exact h.2.1
  · rw [hz, hz, hz, hz]; exact h.2.2
theorem PaC.below {w w' : World} {B : Nat} {s m : Int} {pv tv : Value} (h : PaC w B s pv m tv) (hb : Below w.heap.size w w') : PaC w' B s pv m tv := h.grown (gbl hb none) (by simp)
theorem PaC.new (w : World) (s m : Int) (pv tv : Value) (t : TypeId) : PaC (w.alloc (.cells #[.int .i64 s, pv, .int .i64 m, tv] t)) w.heap.size s pv m tv :=
  ⟨by simp, ⟨by simp [go_sem], by simp [go_sem], by simp [go_sem], by simp [go_sem]⟩, ⟨by simp [go_sem], by simp [go_sem], by simp [go_sem], by simp [go_sem]⟩⟩
end Go.Proofs.YtkcekacnebhcgaaDoor
namespace Go.Proofs.YtkcekacnebhcgaaDoor
open Go.ChangeShapes Go.WideShapes Go.ChangeAt Go.RowKit
theorem SlI.cons {w : World} {v : Value} {xs : List Int} (h : SlI w v xs) : ∃ a c, v = .slice a xs.length c ∧ ∀ j, j < xs.length → ∃ b off, a = some ⟨b, off, none⟩ ∧ w.cell? ⟨b, off + j, none⟩ = some (.int .i64 (xs.getD j 0)) := by
  obtain ⟨a, c, hv, h | ⟨b, off, ha, hlt, hc⟩⟩ := h
  · exact ⟨a, c, hv, fun j hj => by rw [h] at hj; simp at hj⟩
  · exact ⟨a, c, hv, fun j hj => ⟨b, off, ha, hc j hj⟩⟩
theorem SlI.shp {w : World} {v : Value} {xs : List Int} (h : SlI w v xs) : ∃ a c, v = .slice a xs.length c := by
  obtain ⟨a, c, hv, _⟩ := h
  exact ⟨a, c, hv⟩
set_option maxHeartbeats 1000000 in
theorem specRunes6_any (v : Value) (xs : List Int) (most : Nat) (w : World) (hv : SlI w v xs) (_hl : xs.length ≤ 1073741824) (_hm : most ≤ 1073741824) :
    Calls Tryd.prog 47 #[v, .int .i64 most] w fun e w' => e = .returned (.bool (decide (xs.length ≤ most) && runesB xs)) ∧ w' = w := by
  obtain ⟨a, c, rfl, hc⟩ := hv.cons
  clear hv
  by_cases h : most < xs.length
  · have hi : (most : Int) < (xs.length : Int) := by omega
    have hV : Hid ((decide (xs.length ≤ most) && runesB xs) = false) := by show _ = _; rw [decide_eq_false (by omega), Bool.false_and]
    clear hc
    go_enter Tryd.func47, Tryd.ntmps47
    go_wp2
    go_ret
    exact ⟨by rw [hV.out]; rfl, rfl⟩
  · have hi : ¬ (most : Int) < (xs.length : Int) := by omega
    have hV : Hid ((decide (xs.length ≤ most) && runesB xs) = runesB xs) := by show _ = _; rw [decide_eq_true (by omega), Bool.true_and]
    rw [hV.out]
    clear hV
    go_enter Tryd.func47, Tryd.ntmps47
    go_wp2
    go_loop [5] (fun i => ∃ j : Nat, i = .int .i64 j ∧ j ≤ xs.length ∧ Hid (∀ k, k < j → runeOk (xs.getD k 0) = true)) (fun i => xs.length - (intOf i).toNat)
    case atStart => exact ⟨0, rfl, Nat.zero_le _, (fun k hk => absurd hk (Nat.not_lt_zero k))⟩
    case round =>
      obtain ⟨j, rfl, hj, hall⟩ := hrel
      by_cases hlt : j < xs.length
      · have hji : (j : Int) < (xs.length : Int) := by omega
        have hj0 : (0 : Int) ≤ (j : Int) := by omega
        obtain ⟨b, off, rfl, hcj⟩ := hc j hlt
        have hno : runeOk (xs.getD j 0) = false → Hid (runesB xs = false) := fun h => runesB_no j hlt h
        have hstep : runeOk (xs.getD j 0) = true → Hid (∀ k, k < j + 1 → runeOk (xs.getD k 0) = true) := fun h => (show ∀ k, k < j + 1 → runeOk (xs.getD k 0) = true from fun k hk => by
          by_cases e : k = j
          · rw [e]; exact h
          · exact hall.out k (by omega))
        have hok := specRuneOk_any (xs.getD j 0) w
        clear hc hall
        generalize xs.getD j 0 = x at *
        generalize runeOk x = ok at *
        go_wp2_with fail
        refine hok.mono ?_
        rintro e w2 ⟨rfl, hw⟩
        subst hw
        clear hok
        cases ok
        · have hV := hno rfl
          clear hno hstep
          go_wp2
          go_ret
          exact ⟨by rw [hV.out]; rfl, rfl⟩
        · have hall2 := hstep rfl
          clear hno hstep
          go_wp2
          go_round
          case rel => exact ⟨j + 1, by go_num, by omega, hall2⟩
          case measure => simp [intOf]; omega
      · have hjn : j = xs.length := by omega
        have hji : ¬ (j : Int) < (xs.length : Int) := by omega
        have hV : Hid (runesB xs = true) := runesB_yes (by rw [← hjn]; exact hall.out)
        clear hc hall
        subst hjn
        go_wp2
        go_ret
        exact ⟨by rw [hV.out]; rfl, rfl⟩
set_option maxHeartbeats 4000000 in
set_option maxRecDepth 20000 in
theorem specParserOk_m0 (s : Int) (ps ts : List Int) (pv tv : Value) (w : World) (hp : SlI w pv ps) (ht : SlI w tv ts) (hpl : ps.length ≤ 1073741824) (htl : ts.length ≤ 1073741824)
    (h1a : 1 ≤ s) (h1b : s ≤ 5) (h2 : ps.length ≤ 16) (hrt : (decide (ts.length ≤ 40) && runesB ts) = true) :
    Calls Tryd.prog 15 #[paV ⟨s, ps, 0, ts⟩ pv tv] w fun e w' => e = .returned (.bool (paramsB ps && (decide (s = 3) || decide (ps.length = 0) && decide ((0 : Int) = 0)) && (decide (4 ≤ s) || decide (ts.length = 0)))) ∧ Below w.heap.size w w' := by
  have hb0 := bal' w (Obj.cells #[.int .i64 s, pv, .int .i64 0, tv] 26)
  have hP := PaC.new w s 0 pv tv 26
  have hp1 := hp.below hb0
  have ht1 := ht.below hb0
  have hR1 := specRunes6_any tv ts 40 _ ht1 htl (by decide)
  rw [hrt] at hR1
  obtain ⟨pa, pc, rfl, hpc⟩ := hp1.cons
  obtain ⟨ta, tc, rfl⟩ := ht1.shp
  have h2i : ¬ (16 : Int) < (ps.length : Int) := by omega
  obtain ⟨rv, hrv⟩ : ∃ rv, Hid (rv = (paramsB ps && (decide (s = 3) || decide (ps.length = 0) && decide ((0 : Int) = 0)) && (decide (4 ≤ s) || decide (ts.length = 0)))) := ⟨_, rfl⟩
  rw [← hrv.out]
  unfold paV
  obtain ⟨_, ⟨c0, c1, c2, c3⟩, _⟩ := id hP
  clear hP hp ht hp1 ht1 hrt hpl htl
  go_enter Tryd.func15, Tryd.ntmps15
  go_wp2_with (first | (go_at_call 46; refine (l1In_any _ _ _ _).mono ?_; rintro e w' ⟨rfl, rfl⟩) | (go_at_call 47; refine hR1.mono ?_; rintro e w' ⟨rfl, rfl⟩))
  clear hR1
  go_loop [3] (fun i => ∃ j : Nat, i = .int .i64 j ∧ j ≤ ps.length ∧ Hid (∀ k, k < j → 0 ≤ ps.getD k 0 ∧ ps.getD k 0 ≤ 9999)) (fun i => ps.length - (intOf i).toNat)
  case atStart => exact ⟨0, rfl, Nat.zero_le _, (fun k hk => absurd hk (Nat.not_lt_zero k))⟩
  case round =>
    obtain ⟨j, rfl, hj, hall⟩ := hrel
    by_cases hlt : j < ps.length
    · have hji : (j : Int) < (ps.length : Int) := by omega
      have hj0 : (0 : Int) ≤ (j : Int) := by omega
      obtain ⟨b, off, rfl, hcj⟩ := hpc j hlt
      have hno : ¬ (0 ≤ ps.getD j 0 ∧ ps.getD j 0 ≤ 9999) → Hid (paramsB ps = false) := fun h => paramsB_no j hlt h
      have hstep : (0 ≤ ps.getD j 0 ∧ ps.getD j 0 ≤ 9999) → Hid (∀ k, k < j + 1 → 0 ≤ ps.getD k 0 ∧ ps.getD k 0 ≤ 9999) := fun h => (show ∀ k, k < j + 1 → 0 ≤ ps.getD k 0 ∧ ps.getD k 0 ≤ 9999 from fun k hk => by
        by_cases e : k = j
        · rw [e]; exact h
        · exact hall.out k (by omega))
      have hin := fun W => l1In_any (ps.getD j 0) 0 9999 W
      clear hpc hall
      generalize ps.getD j 0 = x at *
      by_cases hx : 0 ≤ x ∧ x ≤ 9999
      · have hall2 := hstep hx
        rw [decide_eq_true hx] at hin
        clear hno hstep hx
        go_wp2_with (go_at_call 46; refine (hin _).mono ?_; rintro e w' ⟨rfl, rfl⟩)
        go_round
        case rel => exact ⟨j + 1, by go_num, by omega, hall2⟩
        case measure => simp [intOf]; omega
      · have hV : Hid (rv = false) := by show _ = _; rw [hrv.out, (hno hx).out, Bool.false_and, Bool.false_and]
        rw [decide_eq_false hx] at hin
        clear hno hstep hx
        go_wp2_with (go_at_call 46; refine (hin _).mono ?_; rintro e w' ⟨rfl, rfl⟩)
        go_ret
        exact ⟨by rw [hV.out]; rfl, hb0⟩
    · have hjn : j = ps.length := by omega
      have hji : ¬ (j : Int) < (ps.length : Int) := by omega
      have hV : Hid (paramsB ps = true) := paramsB_yes (by rw [← hjn]; exact hall.out)
      have hr1 : Hid (rv = ((decide (s = 3) || decide (ps.length = 0) && decide ((0 : Int) = 0)) && (decide (4 ≤ s) || decide (ts.length = 0)))) := by show _ = _; rw [hrv.out, hV.out, Bool.true_and]; try simp
      clear hpc hall hjn hrv hV
      generalize ps.length = np at *
      generalize ts.length = nt at *
      by_cases q1 : s = 3
      · subst q1
        by_cases q3 : nt = 0
        · subst q3
          have hv : Hid (rv = true) := by show _ = _; rw [hr1.out]; rfl
          clear hr1
          go_wp2
          go_ret
          exact ⟨by rw [hv.out]; first | rfl | simp [*], hb0⟩
        · have q3i : ((nt : Int) == 0) = false := by simp; omega
          have hv : Hid (rv = false) := by show _ = _; rw [hr1.out, decide_eq_false q3]; rfl
          clear hr1 q3
          go_wp2
          go_ret
          exact ⟨by rw [hv.out]; first | rfl | simp [*], hb0⟩
      · have q1i : (s == 3) = false := by simp [q1]
        have hr2 : Hid (rv = ((decide (np = 0) && decide ((0 : Int) = 0)) && (decide (4 ≤ s) || decide (nt = 0)))) := by show _ = _; rw [hr1.out, decide_eq_false q1, Bool.false_or]
        clear hr1 q1
        by_cases q2 : np = 0
        · subst q2
          by_cases q4 : 4 ≤ s
          · have hv : Hid (rv = decide ((0 : Int) = 0)) := by show _ = _; rw [hr2.out, decide_eq_true q4]; rfl
            clear hr2
            go_wp2
            go_ret
            exact ⟨by rw [hv.out]; first | rfl | simp [*], hb0⟩
          · have q4i : s < 4 := by omega
            have q4b : decide (4 ≤ s) = false := decide_eq_false q4
            by_cases q3 : nt = 0
            · subst q3
              have hv : Hid (rv = decide ((0 : Int) = 0)) := by show _ = _; rw [hr2.out, decide_eq_false q4]; rfl
              clear hr2 q4
              go_wp2
              go_ret
              exact ⟨by rw [hv.out]; first | rfl | simp [*], hb0⟩
            · have q3i : ((nt : Int) == 0) = false := by simp; omega
              have hv : Hid (rv = false) := by show _ = _; rw [hr2.out, decide_eq_false q4, decide_eq_false q3]; rfl
              clear hr2 q3 q4
              go_wp2
              go_ret
              exact ⟨by rw [hv.out]; first | rfl | simp [*], hb0⟩
        · have q2i : ((np : Int) == 0) = false := by simp; omega
          have hv : Hid (rv = false) := by show _ = _; rw [hr2.out, decide_eq_false q2]; rfl
          clear hr2 q2
          by_cases q4 : 4 ≤ s
          · go_wp2
            go_ret
            exact ⟨by rw [hv.out]; first | rfl | simp [*], hb0⟩
          · have q4i : s < 4 := by omega
            have q4b : decide (4 ≤ s) = false := decide_eq_false q4
            by_cases q3 : nt = 0
            · subst q3
              go_wp2
              go_ret
              exact ⟨by rw [hv.out]; first | rfl | simp [*], hb0⟩
            · have q3i : ((nt : Int) == 0) = false := by simp; omega
              clear q3
              go_wp2
              go_ret
              exact ⟨by rw [hv.out]; first | rfl | simp [*], hb0⟩
set_option maxHeartbeats 4000000 in
set_option maxRecDepth 20000 in
theorem specParserOk_m63 (s : Int) (ps ts : List Int) (pv tv : Value) (w : World) (hp : SlI w pv ps) (ht : SlI w tv ts) (hpl : ps.length ≤ 1073741824) (htl : ts.length ≤ 1073741824)
    (h1a : 1 ≤ s) (h1b : s ≤ 5) (h2 : ps.length ≤ 16) (hrt : (decide (ts.length ≤ 40) && runesB ts) = true) :
    Calls Tryd.prog 15 #[paV ⟨s, ps, 63, ts⟩ pv tv] w fun e w' => e = .returned (.bool (paramsB ps && (decide (s = 3) || decide (ps.length = 0) && decide ((63 : Int) = 0)) && (decide (4 ≤ s) || decide (ts.length = 0)))) ∧ Below w.heap.size w w' := by
  have hb0 := bal' w (Obj.cells #[.int .i64 s, pv, .int .i64 63, tv] 26)
  have hP := PaC.new w s 63 pv tv 26
  have hp1 := hp.below hb0
  have ht1 := ht.below hb0
  have hR1 := specRunes6_any tv ts 40 _ ht1 htl (by decide)
  rw [hrt] at hR1
  obtain ⟨pa, pc, rfl, hpc⟩ := hp1.cons
  obtain ⟨ta, tc, rfl⟩ := ht1.shp
  have h2i : ¬ (16 : Int) < (ps.length : Int) := by omega
  obtain ⟨rv, hrv⟩ : ∃ rv, Hid (rv = (paramsB ps && (decide (s = 3) || decide (ps.length = 0) && decide ((63 : Int) = 0)) && (decide (4 ≤ s) || decide (ts.length = 0)))) := ⟨_, rfl⟩
  rw [← hrv.out]
  unfold paV
  obtain ⟨_, ⟨c0, c1, c2, c3⟩, _⟩ := id hP
  clear hP hp ht hp1 ht1 hrt hpl htl
  go_enter Tryd.func15, Tryd.ntmps15
  go_wp2_with (first | (go_at_call 46; refine (l1In_any _ _ _ _).mono ?_; rintro e w' ⟨rfl, rfl⟩) | (go_at_call 47; refine hR1.mono ?_; rintro e w' ⟨rfl, rfl⟩))
  clear hR1
  go_loop [3] (fun i => ∃ j : Nat, i = .int .i64 j ∧ j ≤ ps.length ∧ Hid (∀ k, k < j → 0 ≤ ps.getD k 0 ∧ ps.getD k 0 ≤ 9999)) (fun i => ps.length - (intOf i).toNat)
  case atStart => exact ⟨0, rfl, Nat.zero_le _, (fun k hk => absurd hk (Nat.not_lt_zero k))⟩
  case round =>
    obtain ⟨j, rfl, hj, hall⟩ := hrel
    by_cases hlt : j < ps.length
    · have hji : (j : Int) < (ps.length : Int) := by omega
      have hj0 : (0 : Int) ≤ (j : Int) := by omega
      obtain ⟨b, off, rfl, hcj⟩ := hpc j hlt
      have hno : ¬ (0 ≤ ps.getD j 0 ∧ ps.getD j 0 ≤ 9999) → Hid (paramsB ps = false) := fun h => paramsB_no j hlt h
      have hstep : (0 ≤ ps.getD j 0 ∧ ps.getD j 0 ≤ 9999) → Hid (∀ k, k < j + 1 → 0 ≤ ps.getD k 0 ∧ ps.getD k 0 ≤ 9999) := fun h => (show ∀ k, k < j + 1 → 0 ≤ ps.getD k 0 ∧ ps.getD k 0 ≤ 9999 from fun k hk => by
        by_cases e : k = j
        · rw [e]; exact h
        · exact hall.out k (by omega))
      have hin := fun W => l1In_any (ps.getD j 0) 0 9999 W
      clear hpc hall
      generalize ps.getD j 0 = x at *
      by_cases hx : 0 ≤ x ∧ x ≤ 9999
      · have hall2 := hstep hx
        rw [decide_eq_true hx] at hin
        clear hno hstep hx
        go_wp2_with (go_at_call 46; refine (hin _).mono ?_; rintro e w' ⟨rfl, rfl⟩)
        go_round
        case rel => exact ⟨j + 1, by go_num, by omega, hall2⟩
        case measure => simp [intOf]; omega
      · have hV : Hid (rv = false) := by show _ = _; rw [hrv.out, (hno hx).out, Bool.false_and, Bool.false_and]
        rw [decide_eq_false hx] at hin
        clear hno hstep hx
        go_wp2_with (go_at_call 46; refine (hin _).mono ?_; rintro e w' ⟨rfl, rfl⟩)
        go_ret
        exact ⟨by rw [hV.out]; rfl, hb0⟩
    · have hjn : j = ps.length := by omega
      have hji : ¬ (j : Int) < (ps.length : Int) := by omega
      have hV : Hid (paramsB ps = true) := paramsB_yes (by rw [← hjn]; exact hall.out)
      have hr1 : Hid (rv = ((decide (s = 3) || decide (ps.length = 0) && decide ((63 : Int) = 0)) && (decide (4 ≤ s) || decide (ts.length = 0)))) := by show _ = _; rw [hrv.out, hV.out, Bool.true_and]; try simp
      clear hpc hall hjn hrv hV
      generalize ps.length = np at *
      generalize ts.length = nt at *
      by_cases q1 : s = 3
      · subst q1
        by_cases q3 : nt = 0
        · subst q3
          have hv : Hid (rv = true) := by show _ = _; rw [hr1.out]; rfl
          clear hr1
          go_wp2
          go_ret
          exact ⟨by rw [hv.out]; first | rfl | simp [*], hb0⟩
        · have q3i : ((nt : Int) == 0) = false := by simp; omega
          have hv : Hid (rv = false) := by show _ = _; rw [hr1.out, decide_eq_false q3]; rfl
          clear hr1 q3
          go_wp2
          go_ret
          exact ⟨by rw [hv.out]; first | rfl | simp [*], hb0⟩
      · have q1i : (s == 3) = false := by simp [q1]
        have hr2 : Hid (rv = ((decide (np = 0) && decide ((63 : Int) = 0)) && (decide (4 ≤ s) || decide (nt = 0)))) := by show _ = _; rw [hr1.out, decide_eq_false q1, Bool.false_or]
        clear hr1 q1
        by_cases q2 : np = 0
        · subst q2
          by_cases q4 : 4 ≤ s
          · have hv : Hid (rv = decide ((63 : Int) = 0)) := by show _ = _; rw [hr2.out, decide_eq_true q4]; rfl
            clear hr2
            go_wp2
            go_ret
            exact ⟨by rw [hv.out]; first | rfl | simp [*], hb0⟩
          · have q4i : s < 4 := by omega
            have q4b : decide (4 ≤ s) = false := decide_eq_false q4
            by_cases q3 : nt = 0
            · subst q3
              have hv : Hid (rv = decide ((63 : Int) = 0)) := by show _ = _; rw [hr2.out, decide_eq_false q4]; rfl
              clear hr2 q4
              go_wp2
              go_ret
              exact ⟨by rw [hv.out]; first | rfl | simp [*], hb0⟩
            · have q3i : ((nt : Int) == 0) = false := by simp; omega
              have hv : Hid (rv = false) := by show _ = _; rw [hr2.out, decide_eq_false q4, decide_eq_false q3]; rfl
              clear hr2 q3 q4
              go_wp2
              go_ret
              exact ⟨by rw [hv.out]; first | rfl | simp [*], hb0⟩
        · have q2i : ((np : Int) == 0) = false := by simp; omega
          have hv : Hid (rv = false) := by show _ = _; rw [hr2.out, decide_eq_false q2]; rfl
          clear hr2 q2
          by_cases q4 : 4 ≤ s
          · go_wp2
            go_ret
            exact ⟨by rw [hv.out]; first | rfl | simp [*], hb0⟩
          · have q4i : s < 4 := by omega
            have q4b : decide (4 ≤ s) = false := decide_eq_false q4
            by_cases q3 : nt = 0
            · subst q3
              go_wp2
              go_ret
              exact ⟨by rw [hv.out]; first | rfl | simp [*], hb0⟩
            · have q3i : ((nt : Int) == 0) = false := by simp; omega
              clear q3
              go_wp2
              go_ret
              exact ⟨by rw [hv.out]; first | rfl | simp [*], hb0⟩
set_option maxHeartbeats 4000000 in
set_option maxRecDepth 20000 in
theorem specParserOk_any (p : Pa) (pv tv : Value) (w : World) (hp : SlI w pv p.params) (ht : SlI w tv p.text) (hpl : p.params.length ≤ 1073741824) (htl : p.text.length ≤ 1073741824) :
    Calls Tryd.prog 15 #[paV p pv tv] w fun e w' => e = .returned (.bool (okV p)) ∧ Below w.heap.size w w' := by
  obtain ⟨s, ps, m, ts⟩ := p
  have hb0 := bal' w (Obj.cells #[.int .i64 s, pv, .int .i64 m, tv] 26)
  have hP := PaC.new w s m pv tv 26
  have hp1 := hp.below hb0
  have ht1 := ht.below hb0
  have hR := fun W h => specRunes6_any tv ts 40 W h htl (by decide)
  obtain ⟨pa, pc, rfl, hpc⟩ := hp1.cons
  obtain ⟨ta, tc, rfl⟩ := ht1.shp
  simp only at *
  have hval : ∀ b, b = (decide (1 ≤ s ∧ s ≤ 5) && decide (ps.length ≤ 16) && decide (m = 0 ∨ m = 63) && (decide (ts.length ≤ 40) && runesB ts) && paramsB ps && (decide (s = 3) || decide (ps.length = 0) && decide (m = 0)) && (decide (4 ≤ s) || decide (ts.length = 0))) → Hid (okV ⟨s, ps, m, ts⟩ = b) := fun b h => by
    show _ = _
    rw [h]
    unfold okV
    rw [Bool.eq_iff_iff]
    simp only [Bool.and_eq_true, Bool.or_eq_true, decide_eq_true_eq]
    constructor
    · rintro ⟨⟨⟨a1, a2, a3, a4, a5, a6, a7⟩, a8⟩, a9⟩; exact ⟨⟨⟨⟨⟨⟨⟨a1, a2⟩, a3⟩, a4⟩, a5, a8⟩, a9⟩, a6⟩, a7⟩
    · rintro ⟨⟨⟨⟨⟨⟨⟨a1, a2⟩, a3⟩, a4⟩, a5, a8⟩, a9⟩, a6⟩, a7⟩; exact ⟨⟨⟨a1, a2, a3, a4, a5, a6, a7⟩, a8⟩, a9⟩
  unfold paV at *
  obtain ⟨_, ⟨c0, c1, c2, c3⟩, _⟩ := id hP
  clear hP hp1
  have hR1 := hR _ ht1
  clear hR ht1
  generalize hrt0 : (decide (ts.length ≤ 40) && runesB ts) = rt at *
  by_cases h1 : 1 ≤ s ∧ s ≤ 5
  · obtain ⟨h1a, h1b⟩ := h1
    by_cases h2 : ps.length ≤ 16
    · have h2i : ¬ (16 : Int) < (ps.length : Int) := by omega
      by_cases h3 : m = 0 ∨ m = 63
      · have hm : ∃ x : Bool, (m != 0) = x := ⟨_, rfl⟩
        cases rt
        · have hV := hval false (by simp)
          clear hval hpc
          go_enter Tryd.func15, Tryd.ntmps15
          rcases h3 with rfl | rfl
          all_goals
            go_wp2_with (first | (go_at_call 46; refine (l1In_any _ _ _ _).mono ?_; rintro e w' ⟨rfl, rfl⟩) | (go_at_call 47; refine hR1.mono ?_; rintro e w' ⟨rfl, rfl⟩))
            go_ret
            exact ⟨by rw [hV.out]; rfl, hb0⟩
        · have hv2 : ∀ b, b = (paramsB ps && (decide (s = 3) || decide (ps.length = 0) && decide (m = 0)) && (decide (4 ≤ s) || decide (ts.length = 0))) → Hid (okV ⟨s, ps, m, ts⟩ = b) := fun b h => hval b (by rw [h, decide_eq_true (show 1 ≤ s ∧ s ≤ 5 from ⟨h1a, h1b⟩), decide_eq_true h2, decide_eq_true h3]; try simp)
          have hrt : (decide (ts.length ≤ 40) && runesB ts) = true := hrt0.symm ▸ rfl
          rcases h3 with rfl | rfl
          · exact (specParserOk_m0 s ps ts _ _ w hp ht hpl htl h1a h1b h2 hrt).mono fun _ _ ⟨he, hb⟩ => ⟨by rw [he, (hv2 _ rfl).out], hb⟩
          · exact (specParserOk_m63 s ps ts _ _ w hp ht hpl htl h1a h1b h2 hrt).mono fun _ _ ⟨he, hb⟩ => ⟨by rw [he, (hv2 _ rfl).out], hb⟩
      · have hV := hval false (by rw [decide_eq_false h3]; simp)
        have h3a : ¬ m = 0 := fun e => h3 (.inl e)
        have h3b : ¬ m = 63 := fun e => h3 (.inr e)
        clear hval hpc h3
        go_enter Tryd.func15, Tryd.ntmps15
        go_wp2_with (go_at_call 46; refine (l1In_any _ _ _ _).mono ?_; rintro e w' ⟨rfl, rfl⟩)
        all_goals go_ret
        exact ⟨by rw [hV.out]; rfl, hb0⟩
    · have h2i : (16 : Int) < (ps.length : Int) := by omega
      have hV := hval false (by rw [decide_eq_false h2]; simp)
      clear hval hpc
      go_enter Tryd.func15, Tryd.ntmps15
      go_wp2_with (go_at_call 46; refine (l1In_any _ _ _ _).mono ?_; rintro e w' ⟨rfl, rfl⟩)
      go_ret
      exact ⟨by rw [hV.out]; rfl, hb0⟩
  · have hV := hval false (by rw [decide_eq_false h1]; simp)
    have h1i : Hid ((decide (1 ≤ s ∧ s ≤ 5)) = false) := decide_eq_false h1
    clear hval hpc
    have hin := fun W => l1In_any s 1 5 W
    rw [h1i.out] at hin
    clear h1
    go_enter Tryd.func15, Tryd.ntmps15
    go_wp2_with (go_at_call 46; refine (hin _).mono ?_; rintro e w' ⟨rfl, rfl⟩)
    go_ret
    exact ⟨by rw [hV.out]; rfl, hb0⟩
end Go.Proofs.YtkcekacnebhcgaaDoor
namespace Go.Proofs.YtkcekacnebhcgaaDoor
open Go.ChangeShapes Go.WideShapes Go.ChangeAt Go.RowKit
/-- A slice that can be read and cut at its head. -/
def SlL (w : World) (v : Value) (xs : List Int) : Prop :=
  ∃ a c, v = .slice a xs.length c ∧ xs.length ≤ c ∧ (xs = [] ∨ ∃ b off, a = some ⟨b, off, none⟩ ∧ b < w.heap.size ∧ ∀ i, i < xs.length → w.cell? ⟨b, off + i, none⟩ = some (.int .i64 (xs.getD i 0)))
theorem SlL.sl {w : World} {v : Value} {xs : List Int} (h : SlL w v xs) : SlI w v xs := by
  obtain ⟨a, c, hv, _, hr⟩ := h
  exact ⟨a, c, hv, hr⟩
theorem SlL.below {w w' : World} {v : Value} {xs : List Int} (h : SlL w v xs) (hb : Below w.heap.size w w') : SlL w' v xs := by
  obtain ⟨a, c, hv, hc0, h | ⟨b, off, ha, hlt, hc⟩⟩ := h
  · exact ⟨a, c, hv, hc0, .inl h⟩
  · exact ⟨a, c, hv, hc0, .inr ⟨b, off, ha, Nat.lt_of_lt_of_le hlt hb.size, fun i hi => (hb.cell (p := ⟨b, off + i, none⟩) hlt).trans (hc i hi)⟩⟩
theorem SlL.of_own {w : World} {base : Nat} {v : Value} {xs : List Int} (h : OwnI w base v xs) : SlL w v xs := by
  rcases h.2 with ⟨rfl, h2⟩ | ⟨g, cap, cur, rfl, hb, hg, hn, hr⟩
  · exact ⟨none, 0, by rw [h2], by omega, .inl (List.eq_nil_of_length_eq_zero h2)⟩
  · refine ⟨_, cap, rfl, hn, .inr ⟨g, 0, rfl, (Array.getElem?_eq_some_iff.1 hg).1, fun i hi => ?_⟩⟩
    have := World.ownsRow.cellAt h i (by omega)
    rw [Nat.zero_add, this]
    simp [hi]
theorem SlL.tail {w : World} {a : Option Addr} {n c : Nat} {r : Int} {xs : List Int} (h : SlL w (.slice a n c) (r :: xs)) :
    ∃ b off, a = some ⟨b, off, none⟩ ∧ b < w.heap.size ∧ n = xs.length + 1 ∧ n ≤ c ∧ w.cell? ⟨b, off + 0, none⟩ = some (.int .i64 r) ∧ ∀ a' c', xs.length ≤ c' → (0 < xs.length → a' = some ⟨b, off + 1, none⟩) → SlL w (.slice a' xs.length c') xs := by
  obtain ⟨a0, c0, hv, hc0, h | ⟨b, off, ha, hlt, hc⟩⟩ := h
  · cases h
  · simp only [Value.slice.injEq] at hv
    obtain ⟨rfl, rfl, rfl⟩ := hv
    refine ⟨b, off, ha, hlt, rfl, hc0, by simpa using hc 0 (by simp), fun a' c' h1 h2 => ⟨a', c', rfl, h1, ?_⟩⟩
    by_cases h0 : xs = []
    · exact .inl h0
    · refine .inr ⟨b, off + 1, h2 (List.length_pos_iff.2 h0), hlt, fun i hi => ?_⟩
      have := hc (i + 1) (by simp; omega)
      rw [show off + 1 + i = off + (i + 1) by omega, this]
      simp
/-- A walk's block, whole. -/
def WkB (w : World) (B : Nat) (s : Int) (pv : Value) (m : Int) (tv lv av : Value) : Prop := w.heap[B]? = some (.cells #[.int .i64 s, pv, .int .i64 m, tv, lv, av] 60 (0, 0))
theorem WkB.lt {w : World} {B : Nat} {s m : Int} {pv tv lv av : Value} (h : WkB w B s pv m tv lv av) : B < w.heap.size := (Array.getElem?_eq_some_iff.1 h).1
theorem WkB.cells {w : World} {B : Nat} {s m : Int} {pv tv lv av : Value} (h : WkB w B s pv m tv lv av) :
    w.cell? ⟨B, 0, none⟩ = some (.int .i64 s) ∧ w.cell? ⟨B, 1, none⟩ = some pv ∧ w.cell? ⟨B, 2, none⟩ = some (.int .i64 m) ∧ w.cell? ⟨B, 3, none⟩ = some tv ∧ w.cell? ⟨B, 4, none⟩ = some lv ∧ w.cell? ⟨B, 5, none⟩ = some av := by
  refine ⟨?_, ?_, ?_, ?_, ?_, ?_⟩ <;> (rw [cell_of_row w B _ _ _ (0, 0) h]; rfl)
theorem WkB.frozen {w : World} {B : Nat} {s m : Int} {pv tv lv av : Value} (h : WkB w B s pv m tv lv av) (j : Nat) : w.frozen? ⟨B, j, none⟩ = false := frozen_of_row w B j _ _ h
theorem WkB.set {w : World} {B : Nat} {s m : Int} {pv tv lv av : Value} (h : WkB w B s pv m tv lv av) (j : Nat) (u : Value) : (w.setCell ⟨B, j, none⟩ u).heap[B]? = some (.cells ((#[.int .i64 s, pv, .int .i64 m, tv, lv, av] : Array Value).setIfInBounds j u) 60 (0, 0)) := heap_setCell_same w B j _ _ u h
theorem WkB.kept {w w' : World} {B : Nat} {s m : Int} {pv tv lv av : Value} {row : Option Nat} (h : WkB w B s pv m tv lv av) (hg : w.grownBy w' row) (hne : row ≠ some B) : WkB w' B s pv m tv lv av := by
  unfold WkB
  rw [hg.block B h.lt (Ne.symm hne)]
  exact h
theorem WkB.below {w w' : World} {B : Nat} {s m : Int} {pv tv lv av : Value} (h : WkB w B s pv m tv lv av) (hb : Below w.heap.size w w') : WkB w' B s pv m tv lv av := h.kept (gbl hb none) (by simp)

/-- What a walk holds. -/
def Wo (w0 w : World) (B : Nat) (s : Int) (pv : Value) (m : Int) (tv lv av : Value) (X : List Ax) (L : List (Value × List Int)) (l : List Int) : Prop :=
  WkB w B s pv m tv lv av ∧ OwnX w w0.heap.size av X ∧ LiOk w w0.heap.size L ∧ SlL w0 lv l ∧ Below w0.heap.size w0 w ∧ w0.heap.size ≤ B
/-- The walk's own block changes. -/
theorem Wo.self {w0 w w' : World} {B : Nat} {s s' m m' : Int} {pv pv' tv tv' lv lv' av : Value} {X : List Ax} {L L' : List (Value × List Int)} {l l' : List Int} (h : Wo w0 w B s pv m tv lv av X L l) (hg : w.grownBy w' (some B)) (hB : WkB w' B s' pv' m' tv' lv' av) (hl : SlL w0 lv' l')
    (hL : LiOk w' w0.heap.size L → LiOk w' w0.heap.size L') : Wo w0 w' B s' pv' m' tv' lv' av X L' l' := by
  obtain ⟨h1, h2, h3, h4, h5, h6⟩ := h
  refine ⟨hB, h2.kept hg (.inr (h2.not_block h1 (by decide))), hL (h3.kept hg fun p hp => .inr ((h3.1 p hp).not_block h1 (by decide))), hl, h5.grown hg (Nat.le_trans h5.size (Nat.le_refl _)) (fun k hk => by cases hk; exact h6), h6⟩
theorem Wo.below {w0 w w' : World} {B : Nat} {s m : Int} {pv tv lv av : Value} {X : List Ax} {L : List (Value × List Int)} {l : List Int} (h : Wo w0 w B s pv m tv lv av X L l) (hb : Below w.heap.size w w') : Wo w0 w' B s pv m tv lv av X L l := by
  obtain ⟨h1, h2, h3, h4, h5, h6⟩ := h
  exact ⟨h1.below hb, h2.below hb, h3.below hb, h4, h5.trans (hb.mono h5.size), h6⟩
theorem Wo.relist {w0 w : World} {B : Nat} {s m : Int} {pv tv lv av : Value} {X : List Ax} {L L' : List (Value × List Int)} {l : List Int} (h : Wo w0 w B s pv m tv lv av X L l) (hL : LiOk w w0.heap.size L → LiOk w w0.heap.size L') : Wo w0 w B s pv m tv lv av X L' l :=
  ⟨h.1, h.2.1, hL h.2.2.1, h.2.2.2⟩
theorem info_act : (Tryd.prog.info? 63).map (fun i => (i.zero, i.size, i.bytes)) = some (some (.agg #[.int .i64 0, .int .i64 0, .slice none 0 0, .int .i64 0, .slice none 0 0]), 5, 72) := by kernel_rfl
theorem under_act : Tryd.prog.underlying 29 = some (.slice 63) := by kernel_rfl
theorem axC_one (x : Ax) (hp : ∃ a n c, x.pv = .slice a n c) (ht : ∃ a n c, x.tv = .slice a n c) : ∀ u ∈ axC x, u.oneCell' = true := by
  obtain ⟨a, n, c, hp⟩ := hp
  obtain ⟨a', n', c', ht⟩ := ht
  intro u hu
  simp [axC, hp, ht] at hu
  rcases hu with rfl | rfl | rfl | rfl | rfl <;> rfl
set_option maxHeartbeats 4000000 in
set_option maxRecDepth 20000 in
theorem tell_any (x : Ax) (w0 w : World) (B : Nat) (s m : Int) (pv tv lv av : Value) (X : List Ax) (L : List (Value × List Int)) (l : List Int) (h : Wo w0 w B s pv m tv lv av X L l) (hX : X.length ≤ 1000000)
    (hxp : ∃ a n c, x.pv = .slice a n c) (hxt : ∃ a n c, x.tv = .slice a n c) :
    Calls Tryd.prog 60 #[.pointer (some ⟨B, 0, none⟩), axV x] w fun e w' => e = .returned (.tuple #[]) ∧ ∃ av', Wo w0 w' B s pv m tv lv av' (X ++ [x]) L l := by
  obtain ⟨i0, hi, hz0, hz1, hz2⟩ := info_parts info_act
  have hone := axC_one x hxp hxt
  obtain ⟨ra, rn, rc, e1⟩ := hxp
  obtain ⟨ta, tn, tc, e2⟩ := hxt
  obtain ⟨⟨k, r, ps, mk, ts⟩, xp, xt⟩ := x
  simp only at e1 e2
  subst e1; subst e2
  have hb0 := bal' w (Obj.cells #[.int .i64 k, .int .i64 r, .slice ra rn rc, .int .i64 mk, .slice ta tn tc] 63)
  have h0 := h.below hb0
  have hb1 : Below w.heap.size w ((w.alloc (Obj.cells #[.int .i64 k, .int .i64 r, .slice ra rn rc, .int .i64 mk, .slice ta tn tc] 63)).alloc (Obj.cells #[.int .i64 k, .int .i64 r, .slice ra rn rc, .int .i64 mk, .slice ta tn tc] 63)).drew := ((hb0.trans ((bal' _ (Obj.cells #[.int .i64 k, .int .i64 r, .slice ra rn rc, .int .i64 mk, .slice ta tn tc] 63)).mono hb0.size)).drew)
  have h1 := h.below hb1
  have hbase := h1.2.2.2.2.1.size
  have hS : ∀ W, Below w.heap.size w W → W.cell? ⟨B, 5, none⟩ = some av := fun W hb => (h.below hb).1.cells.2.2.2.2.2
  have hc := h0.1.cells
  have hlt := h.1.lt
  unfold axV
  simp only [axC] at hone
  clear h
  obtain ⟨c0, c1, c2, c3, c4, c5⟩ := hc
  have hlen : ([{ a := { kind := k, rune := r, params := ps, mark := mk, text := ts }, pv := .slice ra rn rc, tv := .slice ta tn tc }] : List Ax).flatMap axC = [.int .i64 k, .int .i64 r, .slice ra rn rc, .int .i64 mk, .slice ta tn tc] := rfl
  go_enter Tryd.func60, Tryd.ntmps60
  go_wp2
  have hnews := World.news_of_block (heap_alloc_new (w.alloc (Obj.cells #[.int .i64 k, .int .i64 r, .slice ra rn rc, .int .i64 mk, .slice ta tn tc] 63)) (Obj.cells #[.int .i64 k, .int .i64 r, .slice ra rn rc, .int .i64 mk, .slice ta tn tc] 63))
  have hown : ((w.alloc (Obj.cells #[.int .i64 k, .int .i64 r, .slice ra rn rc, .int .i64 mk, .slice ta tn tc] 63)).alloc (Obj.cells #[.int .i64 k, .int .i64 r, .slice ra rn rc, .int .i64 mk, .slice ta tn tc] 63)).drew.ownsRow w0.heap.size 63 5 av X.length (X.flatMap axC) := h1.2.1
  obtain ⟨xa, xc, rfl⟩ := h1.2.1.shape
  have hs0 : (w.alloc (Obj.cells #[.int .i64 k, .int .i64 r, .slice ra rn rc, .int .i64 mk, .slice ta tn tc] 63)).heap.size = w.heap.size + 1 := by simp
  rw [hs0] at hnews
  have hHid : Hid (∀ g cap w', w'.ownsRow w0.heap.size 63 5 (.slice (some ⟨g, 0, none⟩) (X.length + 1) cap) (X.length + 1) (X.flatMap axC ++ [.int .i64 k, .int .i64 r, .slice ra rn rc, .int .i64 mk, .slice ta tn tc]) → ((w.alloc (Obj.cells #[.int .i64 k, .int .i64 r, .slice ra rn rc, .int .i64 mk, .slice ta tn tc] 63)).alloc (Obj.cells #[.int .i64 k, .int .i64 r, .slice ra rn rc, .int .i64 mk, .slice ta tn tc] 63)).drew.grownBy w' (Value.ownBlock (.slice xa X.length xc)) →
      w'.cell? ⟨B, 5, none⟩ = some (.slice xa X.length xc) ∧ w'.frozen? ⟨B, 5, none⟩ = false ∧ Wo w0 (w'.setCell ⟨B, 5, none⟩ (.slice (some ⟨g, 0, none⟩) (X.length + 1) cap)) B s pv m tv lv (.slice (some ⟨g, 0, none⟩) (X.length + 1) cap) (X ++ [{ a := { kind := k, rune := r, params := ps, mark := mk, text := ts }, pv := .slice ra rn rc, tv := .slice ta tn tc }]) L l) := by
    show ∀ g cap w', _ → _ → _
    intro g cap w' ho hg
    have hne := h1.2.1.not_block h1.1 (by decide)
    have hB' := h1.1.kept hg hne
    have hX' : OwnX w' w0.heap.size (.slice (some ⟨g, 0, none⟩) (X.length + 1) cap) (X ++ [{ a := { kind := k, rune := r, params := ps, mark := mk, text := ts }, pv := .slice ra rn rc, tv := .slice ta tn tc }]) := by
      unfold OwnX
      rw [List.length_append, List.length_singleton, List.flatMap_append, hlen]
      exact ho
    have hL' : LiOk w' w0.heap.size L := h1.2.2.1.kept hg fun p hp => by
      have := h1.2.1.ap (h1.2.2.1.1 p hp)
      exact this.ne
    have hg2 := setCell_gr w' B 5 (.slice (some ⟨g, 0, none⟩) (X.length + 1) cap)
    refine ⟨hB'.cells.2.2.2.2.2, hB'.frozen 5, ?_, hX'.kept hg2 (.inr (hX'.not_block hB' (by decide))), hL'.kept hg2 (fun p hp => .inr ((hL'.1 p hp).not_block hB' (by decide))), h1.2.2.2.1, ?_, h1.2.2.2.2.2⟩
    · have := hB'.set 5 (.slice (some ⟨g, 0, none⟩) (X.length + 1) cap)
      exact this
    · exact (h1.2.2.2.2.1.grown hg h1.2.2.2.2.1.size (fun k e => (h1.2.1.lt k e).1)).grown hg2 (Nat.le_trans h1.2.2.2.2.1.size hg.size) (fun k hk => by cases hk; exact h1.2.2.2.2.2)
  clear h1 h0
  go_region_law (refine step_append_lies _ (by rfl) _ _ _ (by rfl) w0.heap.size 63 i0 (.agg #[.int .i64 0, .int .i64 0, .slice none 0 0, .int .i64 0, .slice none 0 0]) 5 72 under_act hi hz0 hz1 hz2 rfl (by decide) _ _ _ (by rfl) hown _ 1 1 _ (by rfl) (by rfl) (by exact hnews) hone (by decide) (by unfold maxLen; omega) (by omega) (by exact hbase) _ rfl ?_; intro g cap w3 ho3 hg3 hat3 hlt3; obtain ⟨d5, z5, hfin⟩ := hHid.out g cap w3 ho3 hg3)
  all_goals
    go_wp2
    refine bodyPost_end (results_none rfl _ _ _) rfl ?_
    exact ⟨rfl, _, hfin⟩
set_option maxHeartbeats 2000000 in
theorem forget_any (w0 w : World) (B : Nat) (s m : Int) (pv tv lv av : Value) (X : List Ax) (L : List (Value × List Int)) (l : List Int) (h : Wo w0 w B s pv m tv lv av X L l) :
    Calls Tryd.prog 57 #[.pointer (some ⟨B, 0, none⟩)] w fun e w' => e = .returned (.tuple #[]) ∧ Wo w0 w' B s (.slice none 0 0) 0 (.slice none 0 0) lv av X L l := by
  obtain ⟨c0, c1, c2, c3, c4, c5⟩ := h.1.cells
  have z0 := h.1.frozen 0
  have z1 := h.1.frozen 1
  have z2 := h.1.frozen 2
  have z3 := h.1.frozen 3
  have g1 := setCell_gr w B 0 (.int .i64 s)
  have k1 : WkB (w.setCell ⟨B, 0, none⟩ (.int .i64 s)) B s pv m tv lv av := h.1.set 0 _
  have g2 := setCell_gr (w.setCell ⟨B, 0, none⟩ (.int .i64 s)) B 1 (.slice none 0 0)
  have k2 : WkB ((w.setCell ⟨B, 0, none⟩ (.int .i64 s)).setCell ⟨B, 1, none⟩ (.slice none 0 0)) B s (.slice none 0 0) m tv lv av := k1.set 1 _
  have g3 := setCell_gr ((w.setCell ⟨B, 0, none⟩ (.int .i64 s)).setCell ⟨B, 1, none⟩ (.slice none 0 0)) B 2 (.int .i64 0)
  have k3 : WkB (((w.setCell ⟨B, 0, none⟩ (.int .i64 s)).setCell ⟨B, 1, none⟩ (.slice none 0 0)).setCell ⟨B, 2, none⟩ (.int .i64 0)) B s (.slice none 0 0) 0 tv lv av := k2.set 2 _
  have g4 := setCell_gr (((w.setCell ⟨B, 0, none⟩ (.int .i64 s)).setCell ⟨B, 1, none⟩ (.slice none 0 0)).setCell ⟨B, 2, none⟩ (.int .i64 0)) B 3 (.slice none 0 0)
  have k4 : WkB ((((w.setCell ⟨B, 0, none⟩ (.int .i64 s)).setCell ⟨B, 1, none⟩ (.slice none 0 0)).setCell ⟨B, 2, none⟩ (.int .i64 0)).setCell ⟨B, 3, none⟩ (.slice none 0 0)) B s (.slice none 0 0) 0 (.slice none 0 0) lv av := k3.set 3 _
  have hfin := h.self (grown_tr (grown_tr (grown_tr g1 g2) g3) g4) k4 h.2.2.2.1 (fun h => h)
  clear h g1 k1 g2 k2 g3 k3 g4 k4
  go_enter Tryd.func57, Tryd.ntmps57
  go_wp2
  refine bodyPost_end (results_none rfl _ _ _) rfl ?_
  exact ⟨rfl, hfin⟩
set_option maxHeartbeats 2000000 in
theorem next_any (st : Int) (w0 w : World) (B : Nat) (s m : Int) (pv tv lv av : Value) (X : List Ax) (L : List (Value × List Int)) (l : List Int) (h : Wo w0 w B s pv m tv lv av X L l) :
    Calls Tryd.prog 63 #[.pointer (some ⟨B, 0, none⟩), .int .i64 st] w fun e w' => e = .returned (.int .i64 (l.headD (-1))) ∧ ∃ lv', Wo w0 w' B st pv m tv lv' av X L l.tail := by
  obtain ⟨c0, c1, c2, c3, c4, c5⟩ := h.1.cells
  have z0 := h.1.frozen 0
  have z4 := h.1.frozen 4
  have g1 := setCell_gr w B 0 (.int .i64 st)
  have k1 : WkB (w.setCell ⟨B, 0, none⟩ (.int .i64 st)) B st pv m tv lv av := h.1.set 0 _
  cases l with
  | nil =>
    have hfin := h.self g1 k1 h.2.2.2.1 (fun h => h)
    obtain ⟨la, lc, rfl, _⟩ := h.2.2.2.1
    clear h g1 k1
    go_enter Tryd.func63, Tryd.ntmps63
    go_wp2
    go_ret
    exact ⟨rfl, _, hfin⟩
  | cons r l =>
    obtain ⟨la, lc, rfl, _⟩ := id h.2.2.2.1
    obtain ⟨b, off, rfl, hbl, hn, hnc, hcl, htl⟩ := h.2.2.2.1.tail
    rw [List.length_cons] at *
    have hlb : b < w.heap.size := Nat.lt_of_lt_of_le hbl h.2.2.2.2.1.size
    have hbB : b ≠ B := by have := h.2.2.2.2.2; omega
    have hcl1 : (w.setCell ⟨B, 0, none⟩ (.int .i64 st)).cell? ⟨b, off, none⟩ = some (.int .i64 r) := by
      rw [World.cell?_of_block (w := w) (g1.block b hlb (by simp; exact hbB)), World.cell?_of_block (w := w0) (h.2.2.2.2.1.block b hbl)]
      exact hcl
    have hi1 : (1 : Int) ≤ ((l.length + 1 : Nat) : Int) := by omega
    have hi2 : ((l.length + 1 : Nat) : Int) ≤ (lc : Int) := by omega
    have hi3 : (0 : Int) < ((l.length + 1 : Nat) : Int) := by omega
    have hi4 : (((l.length + 1 : Nat) : Int) == 0) = false := by simp; omega
    have hfin : ∀ a' c', l.length ≤ c' → (0 < l.length → a' = some ⟨b, off + 1, none⟩) → Wo w0 ((w.setCell ⟨B, 0, none⟩ (.int .i64 st)).setCell ⟨B, 4, none⟩ (.slice a' l.length c')) B st pv m tv (.slice a' l.length c') av X L l := fun a' c' h1 h2 =>
      h.self (grown_tr g1 (setCell_gr _ B 4 _)) (k1.set 4 _) (htl a' c' h1 h2) (fun h => h)
    have hf2 : Hid (∀ a' c', l.length ≤ c' → (0 < l.length → a' = some ⟨b, off + 1, none⟩) → Wo w0 ((w.setCell ⟨B, 0, none⟩ (.int .i64 st)).setCell ⟨B, 4, none⟩ (.slice a' l.length c')) B st pv m tv (.slice a' l.length c') av X L l) := hfin
    clear h g1 k1 hcl htl hfin hbl hn
    by_cases hc1 : lc = 1
    · subst hc1
      have hl0 : l = [] := List.eq_nil_of_length_eq_zero (by omega)
      subst hl0
      have hff := hf2.out (some ⟨b, off, none⟩) 0 (Nat.le_refl _) (fun h => absurd h (Nat.lt_irrefl 0))
      clear hf2
      go_enter Tryd.func63, Tryd.ntmps63
      go_wp2
      go_ret
      exact ⟨rfl, _, hff⟩
    · have hff := hf2.out (some ⟨b, off + 1, none⟩) (lc - 1) (by omega) (fun _ => rfl)
      clear hf2
      go_enter Tryd.func63, Tryd.ntmps63
      go_wp2
      go_ret
      exact ⟨rfl, _, hff⟩
theorem staysAt_any (r : Int) (w : World) :
    Calls Tryd.prog 71 #[.int .i64 r] w fun e w' => e = .returned (.bool (stays r)) ∧ w' = w := by
  by_cases h : r = -1 ∨ r = 24 ∨ r = 26 ∨ r = 27
  · rcases h with rfl | rfl | rfl | rfl
    all_goals
      go_enter Tryd.func71, Tryd.ntmps71
      go_wp2
      go_ret
      exact ⟨rfl, rfl⟩
  · have h1 : (r == -1) = false := by simp; omega
    have h2 : (r == 24) = false := by simp; omega
    have h3 : (r == 26) = false := by simp; omega
    have h4 : (r == 27) = false := by simp; omega
    by_cases h5 : r < 32
    · have hV : Hid (stays r = true) := decide_eq_true ⟨.inl h5, by omega⟩
      clear h
      go_enter Tryd.func71, Tryd.ntmps71
      go_wp2
      go_ret
      exact ⟨by rw [hV.out]; rfl, rfl⟩
    · by_cases h6 : r = 127
      · subst h6
        clear h h1 h2 h3 h4
        go_enter Tryd.func71, Tryd.ntmps71
        go_wp2
        go_ret
        exact ⟨rfl, rfl⟩
      · have h7 : (r == 127) = false := by simp [h6]
        have hV : Hid (stays r = false) := decide_eq_false (by omega)
        clear h h6
        go_enter Tryd.func71, Tryd.ntmps71
        go_wp2
        go_ret
        exact ⟨by rw [hV.out]; rfl, rfl⟩
end Go.Proofs.YtkcekacnebhcgaaDoor
namespace Go.Proofs.YtkcekacnebhcgaaDoor
open Go.ChangeShapes Go.WideShapes Go.ChangeAt Go.RowKit
theorem info_i64 : (Tryd.prog.info? 2).map (fun i => (i.zero, i.size, i.bytes)) = some (some (.int .i64 0), 1, 8) := by kernel_rfl
set_option maxHeartbeats 400000 in
theorem toI_copy (v : Value) (xs : List Int) (w : World) (hv : SlI w v xs) (hl : xs.length ≤ 1073741824) :
    Calls Tryd.prog 27 #[v] w fun e w' => ∃ u, e = .returned u ∧ w'.ownsRow w.heap.size 2 1 u xs.length (xs.map (Value.int .i64)) ∧ Below w.heap.size w w' := by
  obtain ⟨i0, hi, hz0, hz1, hz2⟩ := info_parts info_i64
  obtain ⟨a, c, rfl, hc⟩ := hv
  generalize hn : xs.length = n at *
  go_enter Tryd.func27, Tryd.ntmps27
  go_wp2_with (refine wpList_make_full _ rfl _ _ 24 rfl w.heap.size 2 i0 (.int .i64 0) 1 Tryd.underlying24 hi hz0 hz1 .i64 .i64 (n : Int) (n : Int) n rfl rfl rfl rfl ?c1 ?c2 ?c3 ?_)
  case c1 => rw [hz2]; omega
  case c2 => unfold maxLen; omega
  case c3 => exact Nat.le_refl _
  intro w1 ho hg
  have hb1 : Below w.heap.size w w1 := (Below.refl _ _).grown hg (Nat.le_refl _) (fun k hk => by cases hk)
  clear hg
  go_wp2
  go_loopw [4] (fun i wr => ∃ (j : Nat) (ys : List Value), j ≤ n ∧ i = .int .i64 j ∧ wr.ownsRow w.heap.size 2 1 (.slice (some ⟨w.heap.size, 0, none⟩) n n) n ys ∧ ys.length = n ∧ (∀ t, t < j → ys[t]? = some (.int .i64 (xs.getD t 0))) ∧ Below w.heap.size w wr) (fun i _ => n - (intOf i).toNat)
  case atStart => exact ⟨0, _, Nat.zero_le _, rfl, ho, by simpa using ho.1, by simp, hb1⟩
  case round =>
    obtain ⟨j, ys, hj, rfl, ho, hyl, hys, hbel⟩ := hrel
    by_cases hlt : j < n
    · rcases hc with hc | ⟨b, off, rfl, hb, hc⟩
      · rw [hc] at hn; simp at hn; omega
      · have h0 : wr.cell? ⟨b, off + j, none⟩ = some (.int .i64 (xs.getD j 0)) := (hbel.cell (p := ⟨b, off + j, none⟩) hb).trans (hc j hlt)
        have h1 : ∃ u, wr.cell? ⟨w.heap.size, j, none⟩ = some u := by
          rw [ho.cellAt j (by omega)]; exact ⟨_, List.getElem?_eq_getElem (by omega)⟩
        obtain ⟨u, h1⟩ := h1
        have h2 := ho.frozenAt j
        obtain ⟨hst1, hst2⟩ := ho.stored j (.int .i64 (xs.getD j 0))
        have hy2 : ∀ t, t < j + 1 → (ys.set j (.int .i64 (xs.getD j 0)))[t]? = some (.int .i64 (xs.getD t 0)) := by
          intro t ht
          by_cases e : t = j
          · subst e; rw [List.getElem?_set_self (by omega)]
          · rw [List.getElem?_set_ne (by omega)]; exact hys t (by omega)
        clear ho hc hys
        generalize xs.getD j 0 = x at *
        have hbs := hbel.size
        go_wp2
        go_roundw
        case rel =>
          exact ⟨j + 1, ys.set j (.int .i64 x), by omega, by go_num, hst1, by simpa using hyl, hy2, hbel.grown hst2 hbs (fun k hk => by cases hk; exact Nat.le_refl _)⟩
        case measure => simp [intOf]; omega
    · have hjn : j = n := by omega
      subst hjn
      have hye : ys = xs.map (Value.int .i64) := by
        apply List.ext_getElem?
        intro i
        by_cases hi : i < j
        · rw [hys i hi]; simp [show i < xs.length by omega]
        · rw [List.getElem?_eq_none (by omega), List.getElem?_eq_none (by simp; omega)]
      go_wp2
      go_ret
      exact ⟨_, rfl, by rw [← hye]; exact ho, hbel⟩
end Go.Proofs.YtkcekacnebhcgaaDoor
namespace Go.Proofs.YtkcekacnebhcgaaDoor
open Go.ChangeShapes Go.WideShapes Go.ChangeAt Go.RowKit
theorem under_ints : Tryd.prog.underlying 24 = some (.slice 2) := by kernel_rfl
theorem grown_at {w w1 w2 : World} {r1 r2 : Option Nat} (h : w.grownBy w1 r1) (k : w1.grownBy w2 r2) (hat : ∀ g, r2 = some g → r1 = some g ∨ w.heap.size ≤ g) : w.grownBy w2 r1 :=
  ⟨k.os.trans h.os, k.tape.trans h.tape, k.output.trans h.output, Nat.le_trans h.size k.size, fun i hi hr => (k.block i (Nat.lt_of_lt_of_le hi h.size) (fun e => by
    rcases hat i e.symm with h2 | h2
    · exact hr h2.symm
    · omega)).trans (h.block i hi hr)⟩
/-- One number more: what is asked at the append and what holds behind it. -/
theorem append_i {w : World} {ops : Array Oper} {rest : List Oper} {o : Oper} {ac : Act} {Q : Exit → Act → World → Prop} (hgd : o.guard = none) (s x : Operand)
    (ho : o.op = .call { callee := .builtin .append, args := #[s, x], argTypes := #[24, 24] })
    (base : Nat) (v : Value) (xs : List Int) (L : List (Value × List Int)) (y : Int) (hs : ac.eval s = v) (k : LiOk w base ((v, xs) :: L)) (hb : base ≤ w.heap.size) (hl : xs.length < 2000000)
    (hx : ac.eval x = .slice (some ⟨w.heap.size, 0, none⟩) 1 1)
    (h : ∀ g cap w', LiOk w' base ((.slice (some ⟨g, 0, none⟩) (xs.length + 1) cap, xs ++ [y]) :: L) → w.grownBy w' v.ownBlock → (v.ownBlock = some g ∨ w.heap.size ≤ g) → wpList Tryd.prog ops Q rest (ac.put o.dst (.slice (some ⟨g, 0, none⟩) (xs.length + 1) cap)) w') :
    wpList Tryd.prog ops Q (o :: rest) ac (w.alloc (.cells #[.int .i64 y] 2)) := by
  obtain ⟨i0, hi, hz0, hz1, hz2⟩ := info_parts info_i64
  have hba := bal' w (Obj.cells #[.int .i64 y] 2)
  have k2 := k.below hba
  have hown : (w.alloc (.cells #[.int .i64 y] 2)).ownsRow base 2 1 v xs.length (xs.map (Value.int .i64)) := k2.head
  refine wpList_append_lies _ hgd s x _ ho base 2 i0 (.int .i64 0) 1 8 under_ints hi hz0 hz1 hz2 rfl (by decide) v xs.length _ hs hown ⟨w.heap.size, 0, none⟩ 1 1 [.int .i64 y] hx rfl (cell_one_new _ _ _) (by intro u hu; simp at hu; subst hu; rfl) (by decide) (by unfold maxLen; omega) (by omega) (by simp; omega) _ rfl (fun g cap w' ho' hg' hat _ => ?_)
  have hg2 : w.grownBy w' v.ownBlock := grown_tr (World.grownBy_alloc w _ v.ownBlock) hg'
  have hat2 : v.ownBlock = some g ∨ w.heap.size ≤ g := by
    rcases hat with h | h
    · exact .inl h
    · right; rw [h]; simp
  refine h g cap w' (k2.grow hg' ?_ ?_) hg2 hat2
  · unfold OwnI
    rw [List.length_append, List.length_singleton, List.map_append]
    exact ho'
  · intro q e
    have : g = q := by simpa [Value.ownBlock] using e
    subst this
    rcases hat with h | h
    · exact .inl h
    · right; rw [h]; exact Nat.le_refl _
set_option maxHeartbeats 2000000 in
theorem withParam_any (base : Nat) (v : Value) (ps : List Int) (L : List (Value × List Int)) (w : World) (k : LiOk w base ((v, ps) :: L)) (hb : base ≤ w.heap.size) (hl : ps.length ≤ 16) :
    Calls Tryd.prog 76 #[v] w fun e w' => ∃ v', e = .returned v' ∧ LiOk w' base ((v', semiP ps) :: L) ∧ w.grownBy w' v.ownBlock := by
  obtain ⟨a, n, c, e⟩ := k.head.shape
  have e' := k.head.sl.shp
  obtain ⟨a', c', e'⟩ := e'
  simp only at e e'
  subst e
  simp only [Value.slice.injEq] at e'
  obtain ⟨rfl, rfl, rfl⟩ := e'
  by_cases h0 : ps.length = 0
  · have hp : ps = [] := List.eq_nil_of_length_eq_zero h0
    subst hp
    have hV : Hid (semiP [] = [0, 0]) := rfl
    go_enter Tryd.func76, Tryd.ntmps76
    go_wp2_with (refine append_i (by rfl) _ _ (by rfl) base _ _ L 0 (by rfl) k hb (by simp) (by rfl) ?_)
    intro g cap w1 k1 hg1 hat1
    simp only [List.length_nil] at *
    have hb1 : base ≤ w1.heap.size := Nat.le_trans hb hg1.size
    clear k
    go_wp2_with (refine append_i (by rfl) _ _ (by rfl) base _ _ L 0 (by rfl) k1 hb1 (by simp) (by rfl) ?_)
    intro g2 cap2 w2 k2 hg2 hat2
    have hgg := grown_at hg1 hg2 (fun q e => by
      have : g = q := by simpa [Value.ownBlock] using e
      subst this; exact hat1)
    clear k1 hg1 hat1 hg2 hat2
    go_wp2
    go_ret
    exact ⟨_, rfl, by rw [hV.out]; exact k2, hgg⟩
  · have hi0 : ((ps.length : Int) == 0) = false := by simp; exact fun e => h0 (by rw [e]; rfl)
    have ho0 : Hid (one0 ps = ps) := by show _ = _; unfold one0; rw [if_neg h0]
    by_cases h1 : ps.length < 16
    · have h1i : (ps.length : Int) < 16 := by omega
      have hV : Hid (semiP ps = ps ++ [0]) := by show _ = _; unfold semiP; rw [ho0.out, if_pos h1]
      clear h0
      go_enter Tryd.func76, Tryd.ntmps76
      go_wp2_with (refine append_i (by rfl) _ _ (by rfl) base _ _ L 0 (by rfl) k hb (by omega) (by rfl) ?_)
      intro g cap w1 k1 hg1 hat1
      go_wp2
      go_ret
      exact ⟨_, rfl, by rw [hV.out]; exact k1, hg1⟩
    · have h1i : ¬ (ps.length : Int) < 16 := by omega
      have hV : Hid (semiP ps = ps) := by show _ = _; unfold semiP; rw [ho0.out, if_neg h1]
      clear h0
      go_enter Tryd.func76, Tryd.ntmps76
      go_wp2
      go_ret
      exact ⟨_, rfl, by rw [hV.out]; exact k, World.grownBy.refl _ _⟩
set_option maxHeartbeats 2000000 in
theorem withDigit_any (base : Nat) (v : Value) (ps : List Int) (d : Int) (L : List (Value × List Int)) (w : World) (k : LiOk w base ((v, ps) :: L)) (hb : base ≤ w.heap.size) (hl : ps.length ≤ 16) (hp : ∀ x ∈ ps, 0 ≤ x ∧ x ≤ 9999) (hd : 0 ≤ d ∧ d ≤ 9) :
    Calls Tryd.prog 75 #[v, .int .i64 d] w fun e w' => ∃ v', e = .returned v' ∧ LiOk w' base ((v', digitP ps d) :: L) ∧ w.grownBy w' v.ownBlock := by
  obtain ⟨a, n, c, e⟩ := k.head.shape
  have e' := k.head.sl.shp
  obtain ⟨a', c', e'⟩ := e'
  simp only at e e'
  subst e
  simp only [Value.slice.injEq] at e'
  obtain ⟨rfl, rfl, rfl⟩ := e'
  obtain ⟨hd0, hd1⟩ := hd
  by_cases h0 : ps.length = 0
  · have hp0 : ps = [] := List.eq_nil_of_length_eq_zero h0
    subst hp0
    have hV : Hid (digitP [] d = [d]) := by
      show _ = _
      simp [digitP, one0]; omega
    go_enter Tryd.func75, Tryd.ntmps75
    go_wp2_with (refine append_i (by rfl) _ _ (by rfl) base _ _ L 0 (by rfl) k hb (by simp) (by rfl) ?_)
    intro g cap w1 k1 hg1 hat1
    simp only [List.length_nil] at *
    have hown : w1.ownsRow base 2 1 (.slice (some ⟨g, 0, none⟩) 1 cap) 1 [.int .i64 0] := k1.head
    have hc := World.ownsRow.cellAt hown 0 (by decide)
    have hz := World.ownsRow.frozenAt hown 0
    obtain ⟨hs1, hs2⟩ := World.ownsRow.stored hown 0 (.int .i64 d)
    have k2 := k1.grow (v' := .slice (some ⟨g, 0, none⟩) 1 cap) (ys := [d]) hs2 hs1 (fun q e => .inl (by simpa [Value.ownBlock] using e))
    have hgg := grown_at hg1 hs2 (fun q e => by cases e; exact hat1)
    simp only [List.getElem?_cons_zero] at hc
    clear k k1 hg1 hat1 hown hs1 hs2
    go_wp2
    go_ret
    exact ⟨_, rfl, by rw [hV.out]; exact k2, hgg⟩
  · have hi0 : ((ps.length : Int) == 0) = false := by simp; exact fun e => h0 (by rw [e]; rfl)
    have ho0 : Hid (one0 ps = ps) := by show _ = _; unfold one0; rw [if_neg h0]
    obtain ⟨n, hn⟩ : ∃ n, ps.length = n + 1 := ⟨ps.length - 1, by omega⟩
    have hV : Hid (digitP ps d = ps.set n (min 9999 (10 * ps.getD n 0 + d))) := by show _ = _; unfold digitP; rw [ho0.out, hn]; rfl
    have hown : w.ownsRow base 2 1 (.slice a (n + 1) c) (n + 1) (ps.map (Value.int .i64)) := by rw [← hn]; exact k.head
    obtain ⟨g, cap, hv, hbg, hlg⟩ := hown.form (by omega)
    simp only [Value.slice.injEq] at hv
    obtain ⟨rfl, _, rfl⟩ := hv
    have hx := getD_bd hp n
    have hc : w.cell? ⟨g, n, none⟩ = some (.int .i64 (ps.getD n 0)) := by
      rw [World.ownsRow.cellAt hown n (by omega)]
      simp [List.getD, show n < ps.length by omega]
    have hz := World.ownsRow.frozenAt hown n
    have hfin : ∀ y, y = min 9999 (10 * ps.getD n 0 + d) → Hid (LiOk (w.setCell ⟨g, n, none⟩ (.int .i64 y)) base ((.slice (some ⟨g, 0, none⟩) (n + 1) c, digitP ps d) :: L) ∧ w.grownBy (w.setCell ⟨g, n, none⟩ (.int .i64 y)) (some g)) := fun y hy => by
      obtain ⟨hs1, hs2⟩ := World.ownsRow.stored hown n (.int .i64 y)
      refine ⟨?_, hs2⟩
      rw [hV.out]
      refine (hn ▸ k).grow (v' := .slice (some ⟨g, 0, none⟩) (n + 1) c) (ys := ps.set n (min 9999 (10 * ps.getD n 0 + d))) hs2 ?_ (fun q e => .inl (by simpa [Value.ownBlock] using e))
      unfold OwnI
      rw [List.length_set, hn, List.map_set, ← hy]
      exact hs1
    have hnl : ((n + 1 : Nat) : Int) - 1 = (n : Int) := by omega
    have hn0 : (0 : Int) ≤ (n : Int) := by omega
    have hn1 : (n : Int) < ((n + 1 : Nat) : Int) := by omega
    have hn2 : (n : Int) ≤ 15 := by omega
    rw [hn] at hi0 ⊢
    clear k hV ho0 h0 hown hp hn hl
    generalize ps.getD n 0 = x at *
    by_cases hm : x * 10 + d ≤ 9999
    · obtain ⟨q1, q2⟩ := (hfin (x * 10 + d) (by omega)).out
      have q := (show Hid _ from (⟨q1, q2⟩ : _ ∧ _))
      clear hfin q1 q2
      go_enter Tryd.func75, Tryd.ntmps75
      go_wp2
      go_ret
      exact ⟨_, rfl, q.out⟩
    · obtain ⟨q1, q2⟩ := (hfin 9999 (by omega)).out
      have q := (show Hid _ from (⟨q1, q2⟩ : _ ∧ _))
      clear hfin q1 q2
      go_enter Tryd.func75, Tryd.ntmps75
      go_wp2
      go_ret
      exact ⟨_, rfl, q.out⟩
end Go.Proofs.YtkcekacnebhcgaaDoor
namespace Go.Proofs.YtkcekacnebhcgaaDoor
open Go.ChangeShapes Go.WideShapes Go.ChangeAt Go.RowKit
/-- What a walk holds, its lists with it. -/
def Wp (w0 w : World) (B : Nat) (s : Int) (ps : List Int) (m : Int) (ts : List Int) (X : List Ax) (l : List Int) : Prop :=
  ∃ pv tv lv av, Wo w0 w B s pv m tv lv av X ((pv, ps) :: (tv, ts) :: axLs X) l
/-- The same, whatever its parser is. -/
def Wg (w0 w : World) (B : Nat) (X : List Ax) (l : List Int) : Prop :=
  ∃ s pv m tv lv av, Wo w0 w B s pv m tv lv av X (axLs X) l
theorem Wp.g {w0 w : World} {B : Nat} {s m : Int} {ps ts : List Int} {X : List Ax} {l : List Int} (h : Wp w0 w B s ps m ts X l) : Wg w0 w B X l := by
  obtain ⟨pv, tv, lv, av, h⟩ := h
  exact ⟨s, pv, m, tv, lv, av, h.relist fun k => k.tail.tail⟩
def axP (k r : Int) : Ax := ⟨acR k r, .slice none 0 0, .slice none 0 0⟩
theorem axLs_snoc (X : List Ax) (x : Ax) : axLs (X ++ [x]) = axLs X ++ axL x := by simp [axLs]
theorem LiOk.plain {w : World} {base : Nat} {X : List Ax} {pv tv : Value} {ps ts : List Int} (h : LiOk w base ((pv, ps) :: (tv, ts) :: axLs X)) (k r : Int) : LiOk w base ((pv, ps) :: (tv, ts) :: axLs (X ++ [axP k r])) := by
  refine h.nilc.nilc.perm ?_
  rw [axLs_snoc]
  have e : axL (axP k r) = [(.slice none 0 0, []), (.slice none 0 0, [])] := rfl
  rw [e]
  have h1 : ((Value.slice none 0 0, ([] : List Int)) :: (Value.slice none 0 0, []) :: (pv, ps) :: (tv, ts) :: axLs X) = [(Value.slice none 0 0, []), (Value.slice none 0 0, [])] ++ ((pv, ps) :: (tv, ts) :: axLs X) := rfl
  have h2 : ((pv, ps) :: (tv, ts) :: (axLs X ++ [(Value.slice none 0 0, []), (Value.slice none 0 0, [])])) = ((pv, ps) :: (tv, ts) :: axLs X) ++ [(Value.slice none 0 0, ([] : List Int)), (Value.slice none 0 0, [])] := rfl
  rw [h1, h2]
  exact List.perm_append_comm
theorem tell_plain (k r : Int) (w0 w : World) (B : Nat) (s m : Int) (ps ts : List Int) (X : List Ax) (l : List Int) (h : Wp w0 w B s ps m ts X l) (hX : X.length ≤ 1000000) :
    Calls Tryd.prog 60 #[.pointer (some ⟨B, 0, none⟩), .agg #[.int .i64 k, .int .i64 r, .slice none 0 0, .int .i64 0, .slice none 0 0]] w fun e w' => e = .returned (.tuple #[]) ∧ Wp w0 w' B s ps m ts (X ++ [axP k r]) l := by
  obtain ⟨pv, tv, lv, av, h⟩ := h
  exact (tell_any (axP k r) w0 w B s m pv tv lv av X _ l h hX ⟨_, _, _, rfl⟩ ⟨_, _, _, rfl⟩).mono fun e w' ⟨he, av', k'⟩ => ⟨he, pv, tv, lv, av', k'.relist fun q => q.plain k r⟩
theorem next_p (st : Int) (w0 w : World) (B : Nat) (s m : Int) (ps ts : List Int) (X : List Ax) (l : List Int) (h : Wp w0 w B s ps m ts X l) :
    Calls Tryd.prog 63 #[.pointer (some ⟨B, 0, none⟩), .int .i64 st] w fun e w' => e = .returned (.int .i64 (l.headD (-1))) ∧ Wp w0 w' B st ps m ts X l.tail := by
  obtain ⟨pv, tv, lv, av, h⟩ := h
  exact (next_any st w0 w B s m pv tv lv av X _ l h).mono fun e w' ⟨he, lv', k⟩ => ⟨he, pv, tv, lv', av, k⟩
theorem forget_g (w0 w : World) (B : Nat) (X : List Ax) (l : List Int) (h : Wg w0 w B X l) :
    Calls Tryd.prog 57 #[.pointer (some ⟨B, 0, none⟩)] w fun e w' => e = .returned (.tuple #[]) ∧ ∃ s, Wp w0 w' B s [] 0 [] X l := by
  obtain ⟨s, pv, m, tv, lv, av, h⟩ := h
  exact (forget_any w0 w B s m pv tv lv av X _ l h).mono fun e w' ⟨he, k⟩ => ⟨he, s, _, _, lv, av, k.relist fun q => q.nilc.nilc⟩

def Runes6 (l : List Int) : Prop := ∀ x ∈ l, runeOk x = true
theorem Runes6.tail {l : List Int} (h : Runes6 l) : Runes6 l.tail := fun x hx => h x (List.mem_of_mem_tail hx)
theorem Runes6.head {r : Int} {l : List Int} (h : Runes6 (r :: l)) : 0 ≤ r ∧ r ≤ 1114111 := runeOk_bd r (h r (List.mem_cons_self))
def acs (X : List Ax) : List Ac := X.map (·.a)
theorem acs_snoc (X : List Ax) (x : Ax) : acs (X ++ [x]) = acs X ++ [x.a] := by simp [acs]
/-- The rune that comes next, of which nothing is done yet. -/
def NextR (p q : Pa) (l l' : List Int) (X X' : List Ax) (r : Int) : Prop :=
  (r = -1 ∧ l' = [] ∧ Fin p l (acs X) = Fin q [] (acs X')) ∨ (0 ≤ r ∧ runeOk r = true ∧ l'.length < l.length ∧ Fin p l (acs X) = Fin q (r :: l') (acs X'))
def Room (l l' : List Int) (X X' : List Ax) (r : Int) : Prop := (r = -1 → X'.length + l'.length ≤ X.length + l.length) ∧ (r ≠ -1 → X'.length + l'.length < X.length + l.length) ∧ Runes6 l'
def leftN (r : Int) (l : List Int) : Nat := l.length + if r = -1 then 0 else 1
theorem stays_step {p : Pa} {r : Int} (h4 : p.state ≠ 4) (h5 : p.state ≠ 5) (h : stays r = true) : stepM p r = (p, [acR 2 r]) := by
  have := of_decide_eq_true h
  unfold stepM
  rw [if_neg h4, if_neg h5, if_neg (by omega), if_neg (by omega), if_pos this.1]
theorem next_nextR (p : Pa) (l : List Int) (X : List Ax) (hr : Runes6 l) : NextR p p l l.tail X X (l.headD (-1)) ∧ Room l l.tail X X (l.headD (-1)) := by
  cases l with
  | nil => exact ⟨.inl ⟨rfl, rfl, rfl⟩, fun _ => Nat.le_refl _, fun h => absurd rfl h, hr⟩
  | cons r l => exact ⟨.inr ⟨hr.head.1, hr r (List.mem_cons_self), by simp, rfl⟩, fun _ => by simp, fun _ => by simp, hr.tail⟩
theorem leftN_tail (r : Int) (l : List Int) (hr : Runes6 l) (h : r ≠ -1) : leftN (l.headD (-1)) l.tail < leftN r l := by
  unfold leftN
  rw [if_neg h]
  cases l with
  | nil => simp
  | cons a l =>
    have := hr.head.1
    show l.length + (if a = -1 then 0 else 1) < l.length + 1 + 1
    split <;> omega
/-- One rune is done with, and the next one comes. -/
theorem NextR.go {p q q' : Pa} {l l' : List Int} {X X' Y : List Ax} {r : Int} (h : NextR p q l l' X X' r) (hR : Room l l' X X' r) (h1 : r ≠ -1) (hs : (stepM q r).1 = q') (ha : acs Y = acs X' ++ (stepM q r).2) (hY : Y.length ≤ X'.length + 1) :
    NextR p q' l l'.tail X Y (l'.headD (-1)) ∧ Room l l'.tail X Y (l'.headD (-1)) := by
  obtain ⟨_, hR2, hR3⟩ := hR
  have hR2 := hR2 h1
  rcases h with ⟨h, _⟩ | ⟨h0, hk, hlt, he⟩
  · exact absurd h h1
  · rw [Fin_cons, hs, ← ha] at he
    cases l' with
    | nil => exact ⟨.inl ⟨rfl, rfl, he⟩, fun _ => by simp at hR2 ⊢; omega, fun h => absurd rfl h, hR3⟩
    | cons a l' =>
      have hl : (a :: l').length = l'.length + 1 := rfl
      exact ⟨.inr ⟨hR3.head.1, hR3 a (List.mem_cons_self), by simp; omega, he⟩, fun _ => by simp at hR2 ⊢; omega, fun _ => by simp at hR2 ⊢; omega, hR3.tail⟩
theorem NextR.end {p q : Pa} {l l' : List Int} {X X' : List Ax} (h : NextR p q l l' X X' (-1)) : l' = [] ∧ Fin p l (acs X) = Fin q [] (acs X') := by
  rcases h with ⟨_, h⟩ | ⟨h0, _⟩
  · exact h
  · omega
theorem NextR.more {p q : Pa} {l l' : List Int} {X X' : List Ax} {r : Int} (h : NextR p q l l' X X' r) (hr : r ≠ -1) : 0 ≤ r ∧ runeOk r = true ∧ l'.length < l.length ∧ Fin p l (acs X) = Fin q (r :: l') (acs X') := by
  rcases h with ⟨h, _⟩ | h
  · exact absurd h hr
  · exact h
theorem NextR.trans {p q q2 : Pa} {l l' l2 : List Int} {X X' X2 : List Ax} {r r2 : Int} (h : NextR p q l l' X X' r) (hR : Room l l' X X' r) (h1 : r ≠ -1) {Y : List Ax} (hs : (stepM q r).1 = q2) (ha : acs Y = acs X' ++ (stepM q r).2) (hY : Y.length ≤ X'.length + 1) {q3 : Pa}
    (k : NextR q2 q3 l' l2 Y X2 r2) (kR : Room l' l2 Y X2 r2) : NextR p q3 l l2 X X2 r2 ∧ Room l l2 X X2 r2 := by
  obtain ⟨h0, hk, hlt, he⟩ := h.more h1
  rw [Fin_cons, hs, ← ha] at he
  obtain ⟨_, hR2, hR3⟩ := hR
  have hR2 := hR2 h1
  obtain ⟨k1, k2, k3⟩ := kR
  refine ⟨?_, fun e => by have := k1 e; omega, fun e => by have := k2 e; omega, k3⟩
  rcases k with ⟨a, b, c⟩ | ⟨a, b, c, d⟩
  · exact .inl ⟨a, b, he.trans c⟩
  · exact .inr ⟨a, b, by omega, he.trans d⟩
set_option maxHeartbeats 2000000 in
theorem pastControls_any (st : Int) (w0 w : World) (B : Nat) (s m : Int) (ps ts : List Int) (X : List Ax) (l : List Int) (h : Wp w0 w B s ps m ts X l) (h4 : st ≠ 4) (h5 : st ≠ 5) (hr : Runes6 l) (hX : X.length + l.length ≤ 1000000) :
    Calls Tryd.prog 59 #[.pointer (some ⟨B, 0, none⟩), .int .i64 st] w fun e w' => ∃ r X' l', e = .returned (.int .i64 r) ∧ Wp w0 w' B st ps m ts X' l' ∧ Room l l' X X' r ∧ stays r = false ∧ NextR ⟨st, ps, m, ts⟩ ⟨st, ps, m, ts⟩ l l' X X' r := by
  have hn := next_p st w0 w B s m ps ts X l h
  have hs := fun r W => staysAt_any r W
  clear h
  go_enter Tryd.func59, Tryd.ntmps59
  go_wp2_with fail
  refine hn.mono ?_
  rintro e w1 ⟨rfl, k⟩
  have hN := next_nextR ⟨st, ps, m, ts⟩ l X hr
  generalize l.headD (-1) = r0 at *
  generalize l.tail = l0 at *
  clear hn
  go_wp2
  go_loopg [5] (leftN r0 l0) (fun n i wr => ∃ (r : Int) (X' : List Ax) (l' : List Int), i = .int .i64 r ∧ n = leftN r l' ∧ Wp w0 wr B st ps m ts X' l' ∧ NextR ⟨st, ps, m, ts⟩ ⟨st, ps, m, ts⟩ l l' X X' r ∧ Room l l' X X' r)
  case atStart => exact ⟨r0, X, l0, rfl, rfl, k, hN⟩
  case round =>
    clear k hN
    obtain ⟨r, X', l', rfl, hgk, k, hN, hR⟩ := hrel
    have hsr := hs r wr
    clear hs
    cases hst : stays r
    · rw [hst] at hsr
      have hfin : Hid (Room l l' X X' r ∧ stays r = false ∧ NextR ⟨st, ps, m, ts⟩ ⟨st, ps, m, ts⟩ l l' X X' r) := ⟨hR, hst, hN⟩
      clear hR hst hN hgk
      go_wp2_with fail
      refine hsr.mono ?_
      rintro e w2 ⟨rfl, hw⟩
      subst hw
      go_wp2
      go_ret
      exact ⟨r, X', l', rfl, k, hfin.out⟩
    · rw [hst] at hsr
      have hr1 : r ≠ -1 := (of_decide_eq_true hst).2.1
      have hXl : X'.length ≤ 1000000 := by have := hR.2.1 hr1; omega
      have hgo := hN.go (Y := X' ++ [axP 2 r]) hR hr1 (by rw [stays_step h4 h5 hst]) (by rw [stays_step h4 h5 hst, acs_snoc]; rfl) (by simp)
      have hlt := leftN_tail r l' hR.2.2 hr1
      rw [← hgk] at hlt
      have hte := tell_plain 2 r w0 wr B st m ps ts X' l' k hXl
      clear k hN hR hst hr1 hgk hXl
      go_wp2_with fail
      refine hsr.mono ?_
      rintro e w2 ⟨rfl, hw⟩
      subst hw
      clear hsr
      go_wp2_with fail
      refine hte.mono ?_
      rintro e w3 ⟨rfl, k⟩
      have hn := next_p st w0 w3 B st m ps ts (X' ++ [axP 2 r]) l' k
      clear k hte
      go_wp2_with fail
      refine hn.mono ?_
      rintro e w4 ⟨rfl, k⟩
      clear hn
      generalize l'.headD (-1) = r2 at *
      generalize l'.tail = l2 at *
      go_wp2
      go_roundg (leftN r2 l2)
      case measure => exact hlt
      case rel => exact ⟨r2, _, l2, rfl, rfl, k, hgo⟩
theorem widthOk {r : Int} (p : Pa) (hp : p.state = 1) (h27 : r ≠ 27) (hs : stays r = false) (h1 : r ≠ -1) : stepM p r = (if 0 < widthV r then (p, [acR 1 r]) else (p, [])) ∨ ((r = 24 ∨ r = 26) ∧ stepM p r = (st0 1, [])) := by
  have h2 : ¬ ((r < 32 ∨ r = 127) ∧ r ≠ -1 ∧ r ≠ 24 ∧ r ≠ 26 ∧ r ≠ 27) := of_decide_eq_false hs
  unfold stepM
  rw [hp, if_neg (by decide), if_neg (by decide), if_neg h27]
  by_cases h : r = 24 ∨ r = 26
  · right; exact ⟨h, by rw [if_pos h]⟩
  · left
    rw [if_neg h, if_neg (by omega), if_neg (by decide), if_neg (by decide)]
theorem letter_step {r : Int} (h27 : r ≠ 27) (hs : stays r = false) (h1 : r ≠ -1) : stepM (st0 1) r = (if 0 < widthV r then (st0 1, [acR 1 r]) else (st0 1, [])) := by
  rcases widthOk (st0 1) rfl h27 hs h1 with h | ⟨h, h2⟩
  · exact h
  · rw [h2]
    rcases h with rfl | rfl <;> rfl
theorem Wp.bel {w0 w : World} {B : Nat} {s m : Int} {ps ts : List Int} {X : List Ax} {l : List Int} (h : Wp w0 w B s ps m ts X l) : Below w0.heap.size w0 w := by
  obtain ⟨pv, tv, lv, av, h⟩ := h
  exact h.2.2.2.2.1
theorem Wp.below {w0 w w' : World} {B : Nat} {s m : Int} {ps ts : List Int} {X : List Ax} {l : List Int} (h : Wp w0 w B s ps m ts X l) (hb : Below w.heap.size w w') : Wp w0 w' B s ps m ts X l := by
  obtain ⟨pv, tv, lv, av, h⟩ := h
  exact ⟨pv, tv, lv, av, h.below hb⟩
set_option maxHeartbeats 4000000 in
theorem pastLetters_any (w0 w : World) (B : Nat) (s : Int) (X : List Ax) (l : List Int) (h : Wp w0 w B s [] 0 [] X l) (hr : Runes6 l) (hX : X.length + l.length ≤ 1000000) (hsp : ∀ W, Below w0.heap.size w0 W → SpansAt W) :
    Calls Tryd.prog 58 #[.pointer (some ⟨B, 0, none⟩)] w fun e w' => ∃ r X' l', e = .returned (.int .i64 r) ∧ Wp w0 w' B 1 [] 0 [] X' l' ∧ Room l l' X X' r ∧ (r = -1 ∨ r = 27) ∧ NextR (st0 1) (st0 1) l l' X X' r := by
  have hn := pastControls_any 1 w0 w B s 0 [] [] X l h (by decide) (by decide) hr hX
  clear h
  go_enter Tryd.func58, Tryd.ntmps58
  go_wp2_with fail
  refine hn.mono ?_
  rintro e w1 ⟨r0, X0, l0, rfl, k, hR, hs, hN⟩
  clear hn
  go_wp2
  go_loopg [3] (leftN r0 l0) (fun n i wr => ∃ (r : Int) (X' : List Ax) (l' : List Int), i = .int .i64 r ∧ n = leftN r l' ∧ Wp w0 wr B 1 [] 0 [] X' l' ∧ Room l l' X X' r ∧ stays r = false ∧ NextR (st0 1) (st0 1) l l' X X' r)
  case atStart => exact ⟨r0, X0, l0, rfl, rfl, k, hR, hs, hN⟩
  case round =>
    clear k hN hR hs
    obtain ⟨r, X', l', rfl, hgk, k, hR, hs, hN⟩ := hrel
    by_cases h1 : r = -1
    · have hfin : Hid (Room l l' X X' r ∧ (r = -1 ∨ r = 27) ∧ NextR (st0 1) (st0 1) l l' X X' r) := ⟨hR, .inl h1, hN⟩
      have i1 : (r != -1) = false := by simp [h1]
      clear hR hs hN hgk h1
      go_wp2
      go_ret
      exact ⟨r, X', l', rfl, k, hfin.out⟩
    · by_cases h27 : r = 27
      · have hfin : Hid (Room l l' X X' r ∧ (r = -1 ∨ r = 27) ∧ NextR (st0 1) (st0 1) l l' X X' r) := ⟨hR, .inr h27, hN⟩
        have i1 : (r != -1) = true := by simp [h1]
        have i2 : (r != 27) = false := by simp [h27]
        clear hR hs hN hgk h1 h27
        go_wp2
        go_ret
        exact ⟨r, X', l', rfl, k, hfin.out⟩
      · have i1 : (r != -1) = true := by simp [h1]
        have i2 : (r != 27) = true := by simp [h27]
        have hst := letter_step h27 hs h1
        have hW := implWidth_any r wr (hsp _ k.bel)
        have hXl : X'.length ≤ 1000000 := by have := hR.2.1 h1; omega
        have hXl2 : X'.length + l'.length + 1 ≤ 1000000 := by have := hR.2.1 h1; omega
        by_cases hw : 0 < widthV r
        · rw [if_pos hw] at hst
          have hlt : ∀ {l2 r2 X2}, NextR (st0 1) (st0 1) l' l2 (X' ++ [axP 1 r]) X2 r2 → Hid (leftN r2 l2 < gk) := fun {l2 r2 X2} q => (show leftN r2 l2 < gk from by
            rw [hgk]
            unfold leftN
            rw [if_neg h1]
            rcases q with ⟨a, b, _⟩ | ⟨a, _, b, _⟩
            · rw [b, if_pos a]; simp
            · rw [if_neg (by omega)]; omega)
          have hjoin : ∀ {l2 r2 X2}, NextR (st0 1) (st0 1) l' l2 (X' ++ [axP 1 r]) X2 r2 → Room l' l2 (X' ++ [axP 1 r]) X2 r2 → Hid (NextR (st0 1) (st0 1) l l2 X X2 r2 ∧ Room l l2 X X2 r2) := fun {l2 r2 X2} q q2 => hN.trans hR h1 (by rw [hst]) (by rw [hst, acs_snoc]; rfl) (by simp) q q2
          have hr3 := hR.2.2
          have hte := fun W (q : Wp w0 W B 1 [] 0 [] X' l') => tell_plain 1 r w0 W B 1 0 [] [] X' l' q hXl
          have hpc := fun W (q : Wp w0 W B 1 [] 0 [] (X' ++ [axP 1 r]) l') => pastControls_any 1 w0 W B 1 0 [] [] _ l' q (by decide) (by decide) hr3 (by simp; omega)
          clear hN hR hs hst hgk h1 h27 hXl hXl2 hsp
          generalize widthV r = wd at *
          go_wp2_with fail
          refine hW.mono ?_
          rintro e w2 ⟨rfl, hb⟩
          have k2 := k.below hb
          clear k hb hW
          go_wp2_with fail
          refine (hte _ k2).mono ?_
          rintro e w3 ⟨rfl, k3⟩
          clear k2 hte
          go_wp2_with fail
          refine (hpc _ k3).mono ?_
          rintro e w4 ⟨r2, X2, l2, rfl, k4, hR2, hs2, hN2⟩
          have hl := hlt hN2
          have hj := hjoin hN2 hR2
          clear hpc k3 hN2 hR2 hlt hjoin
          go_wp2
          go_roundg (leftN r2 l2)
          case measure => exact hl.out
          case rel => exact ⟨r2, X2, l2, rfl, rfl, k4, hj.out.2, hs2, hj.out.1⟩
        · rw [if_neg hw] at hst
          have hlt : ∀ {l2 r2 X2}, NextR (st0 1) (st0 1) l' l2 X' X2 r2 → Hid (leftN r2 l2 < gk) := fun {l2 r2 X2} q => (show leftN r2 l2 < gk from by
            rw [hgk]
            unfold leftN
            rw [if_neg h1]
            rcases q with ⟨a, b, _⟩ | ⟨a, _, b, _⟩
            · rw [b, if_pos a]; simp
            · rw [if_neg (by omega)]; omega)
          have hjoin : ∀ {l2 r2 X2}, NextR (st0 1) (st0 1) l' l2 X' X2 r2 → Room l' l2 X' X2 r2 → Hid (NextR (st0 1) (st0 1) l l2 X X2 r2 ∧ Room l l2 X X2 r2) := fun {l2 r2 X2} q q2 => hN.trans hR h1 (by rw [hst]) (by rw [hst]; simp) (by simp) q q2
          have hr3 := hR.2.2
          have hpc := fun W (q : Wp w0 W B 1 [] 0 [] X' l') => pastControls_any 1 w0 W B 1 0 [] [] _ l' q (by decide) (by decide) hr3 (by omega)
          clear hN hR hs hst hgk h1 h27 hXl hXl2 hsp
          generalize widthV r = wd at *
          go_wp2_with fail
          refine hW.mono ?_
          rintro e w2 ⟨rfl, hb⟩
          have k2 := k.below hb
          clear k hb hW
          go_wp2_with fail
          refine (hpc _ k2).mono ?_
          rintro e w4 ⟨r2, X2, l2, rfl, k4, hR2, hs2, hN2⟩
          have hl := hlt hN2
          have hj := hjoin hN2 hR2
          clear hpc k2 hN2 hR2 hlt hjoin
          go_wp2
          go_roundg (leftN r2 l2)
          case measure => exact hl.out
          case rel => exact ⟨r2, X2, l2, rfl, rfl, k4, hj.out.2, hs2, hj.out.1⟩

theorem Wo.row {w0 w w' : World} {B : Nat} {s m : Int} {pv tv lv av v : Value} {X : List Ax} {L L' : List (Value × List Int)} {l xs : List Int} (h : Wo w0 w B s pv m tv lv av X L l) (hv : OwnI w w0.heap.size v xs) (hg : w.grownBy w' v.ownBlock) (hL : LiOk w' w0.heap.size L') : Wo w0 w' B s pv m tv lv av X L' l := by
  obtain ⟨h1, h2, _, h4, h5, h6⟩ := h
  exact ⟨h1.kept hg (hv.not_block h1 (by decide)), h2.kept hg (h2.ap hv).symm.ne, hL, h4, h5.grown hg h5.size (fun k e => (hv.lt k e).1), h6⟩
/-- What holds behind a rune that was taken in or not. -/
def GatR (w0 w w' : World) (B : Nat) (s : Int) (ps : List Int) (m : Int) (ts : List Int) (X : List Ax) (l : List Int) (r : Int) (b : Bool) : Prop :=
  b = takes ps m r ∧ (b = true → Wp w0 w' B s (takenP ⟨s, ps, m, ts⟩ r).params (takenP ⟨s, ps, m, ts⟩ r).mark ts X l) ∧ (b = false → w' = w)
set_option maxHeartbeats 4000000 in
theorem gathers_any (r : Int) (w0 w : World) (B : Nat) (s m : Int) (ps ts : List Int) (X : List Ax) (l : List Int) (h : Wp w0 w B s ps m ts X l) (hl : ps.length ≤ 16) (hp : ∀ x ∈ ps, 0 ≤ x ∧ x ≤ 9999) :
    Calls Tryd.prog 72 #[.pointer (some ⟨B, 0, none⟩), .int .i64 r] w fun e w' => e = .returned (.bool (takes ps m r)) ∧ GatR w0 w w' B s ps m ts X l r (takes ps m r) := by
  obtain ⟨rv, hrv⟩ : ∃ rv, Hid (rv = takes ps m r) := ⟨_, rfl⟩
  rw [← hrv.out]
  obtain ⟨pv, tv, lv, av, h⟩ := h
  obtain ⟨c0, c1, c2, c3, c4, c5⟩ := h.1.cells
  have z1 := h.1.frozen 1
  have z2 := h.1.frozen 2
  obtain ⟨pa, pc, hpv⟩ := h.2.2.1.head.sl.shp
  simp only at hpv
  subst hpv
  have hbase := h.2.2.2.2.1.size
  by_cases h63 : r = 63 ∧ ps.length = 0 ∧ m = 0
  · have ht : takes ps m r = true := decide_eq_true (.inl h63)
    have hT : takenP ⟨s, ps, m, ts⟩ r = ⟨s, ps, 63, ts⟩ := by unfold takenP; rw [if_pos h63]
    have hfin : Wo w0 (w.setCell ⟨B, 2, none⟩ (.int .i64 63)) B s (.slice pa ps.length pc) 63 tv lv av X ((.slice pa ps.length pc, ps) :: (tv, ts) :: axLs X) l := h.self (setCell_gr w B 2 _) (h.1.set 2 _) h.2.2.2.1 (fun h => h)
    have hg : Hid (∀ w', Wo w0 w' B s (.slice pa ps.length pc) 63 tv lv av X ((.slice pa ps.length pc, ps) :: (tv, ts) :: axLs X) l → GatR w0 w w' B s ps m ts X l r true) := (show ∀ w', _ from fun w' k => ⟨ht.symm, fun _ => by rw [hT]; exact ⟨_, _, _, _, k⟩, fun h => by cases h⟩)
    obtain ⟨rfl, h0, rfl⟩ := h63
    have hps : ps = [] := List.eq_nil_of_length_eq_zero h0
    subst hps
    have hv : Hid (rv = true) := hrv.out.trans ht
    clear ht hT h h0 hrv
    go_enter Tryd.func72, Tryd.ntmps72
    go_wp2
    go_ret
    exact ⟨by rw [hv.out]; rfl, by rw [hv.out]; exact hg.out _ hfin⟩
  · have q1 : ¬ (r = 63 ∧ ps.length = 0 ∧ m = 0) := h63
    by_cases hd : 48 ≤ r ∧ r ≤ 57
    · have ht : takes ps m r = true := decide_eq_true (.inr (.inl hd))
      have hT : takenP ⟨s, ps, m, ts⟩ r = ⟨s, digitP ps (r - 48), m, ts⟩ := by unfold takenP; rw [if_neg h63, if_pos hd]
      obtain ⟨hd0, hd1⟩ := hd
      have i0 : (r == 63) = false := by simp; omega
      have hwd := withDigit_any w0.heap.size _ ps (r - 48) ((tv, ts) :: axLs X) w h.2.2.1 hbase hl hp ⟨by omega, by omega⟩
      have hfin : ∀ w' v', LiOk w' w0.heap.size ((v', digitP ps (r - 48)) :: (tv, ts) :: axLs X) → w.grownBy w' (Value.slice pa ps.length pc).ownBlock → Hid (w'.frozen? ⟨B, 1, none⟩ = false ∧ (∃ u, w'.cell? ⟨B, 1, none⟩ = some u) ∧ Wo w0 (w'.setCell ⟨B, 1, none⟩ v') B s v' m tv lv av X ((v', digitP ps (r - 48)) :: (tv, ts) :: axLs X) l) := fun w' v' k hg => by
        have k2 := h.row h.2.2.1.head hg k
        exact ⟨k2.1.frozen 1, ⟨_, k2.1.cells.2.1⟩, k2.self (setCell_gr w' B 1 _) (k2.1.set 1 _) k2.2.2.2.1 (fun h => h)⟩
      have hg : Hid (∀ w' v', Wo w0 w' B s v' m tv lv av X ((v', digitP ps (r - 48)) :: (tv, ts) :: axLs X) l → GatR w0 w w' B s ps m ts X l r true) := (show ∀ w' v', _ from fun w' v' k => ⟨ht.symm, fun _ => by rw [hT]; exact ⟨_, _, _, _, k⟩, fun h => by cases h⟩)
      have hv : Hid (rv = true) := hrv.out.trans ht
      clear ht hT h h63 q1 hp hrv
      go_enter Tryd.func72, Tryd.ntmps72
      go_wp2_with fail
      refine hwd.mono ?_
      rintro e w2 ⟨v', rfl, k, hgr⟩
      obtain ⟨y1, ⟨u, y2⟩, y3⟩ := (hfin w2 v' k hgr).out
      obtain ⟨va, vn, vc, hv'⟩ := k.head.shape
      simp only at hv'
      subst hv'
      clear hfin k hgr c0 c1 c2 c3 c4 c5 z1 z2 hwd
      go_wp2
      go_ret
      exact ⟨by rw [hv.out]; rfl, by rw [hv.out]; exact hg.out _ _ y3⟩
    · by_cases h59 : r = 59
      · have ht : takes ps m r = true := decide_eq_true (.inr (.inr h59))
        have hT : takenP ⟨s, ps, m, ts⟩ r = ⟨s, semiP ps, m, ts⟩ := by unfold takenP; rw [if_neg h63, if_neg hd]
        have hg0 : Hid (∀ w' v', Wo w0 w' B s v' m tv lv av X ((v', semiP ps) :: (tv, ts) :: axLs X) l → GatR w0 w w' B s ps m ts X l r true) := (show ∀ w' v', _ from fun w' v' k => ⟨ht.symm, fun _ => by rw [hT]; exact ⟨_, _, _, _, k⟩, fun h => by cases h⟩)
        subst h59
        have hwd := withParam_any w0.heap.size _ ps ((tv, ts) :: axLs X) w h.2.2.1 hbase hl
        have hfin : ∀ w' v', LiOk w' w0.heap.size ((v', semiP ps) :: (tv, ts) :: axLs X) → w.grownBy w' (Value.slice pa ps.length pc).ownBlock → Hid (w'.frozen? ⟨B, 1, none⟩ = false ∧ (∃ u, w'.cell? ⟨B, 1, none⟩ = some u) ∧ Wo w0 (w'.setCell ⟨B, 1, none⟩ v') B s v' m tv lv av X ((v', semiP ps) :: (tv, ts) :: axLs X) l) := fun w' v' k hg => by
          have k2 := h.row h.2.2.1.head hg k
          exact ⟨k2.1.frozen 1, ⟨_, k2.1.cells.2.1⟩, k2.self (setCell_gr w' B 1 _) (k2.1.set 1 _) k2.2.2.2.1 (fun h => h)⟩
        have hv : Hid (rv = true) := hrv.out.trans ht
        clear ht hT h h63 q1 hp hd hrv
        go_enter Tryd.func72, Tryd.ntmps72
        go_wp2_with fail
        refine hwd.mono ?_
        rintro e w2 ⟨v', rfl, k, hgr⟩
        obtain ⟨y1, ⟨u, y2⟩, y3⟩ := (hfin w2 v' k hgr).out
        obtain ⟨va, vn, vc, hv'⟩ := k.head.shape
        simp only at hv'
        subst hv'
        clear hfin k hgr c0 c1 c2 c3 c4 c5 z1 z2 hwd
        go_wp2
        go_ret
        exact ⟨by rw [hv.out]; rfl, by rw [hv.out]; exact hg0.out _ _ y3⟩
      · have hg : Hid (GatR w0 w w B s ps m ts X l r false) := (show GatR _ _ _ _ _ _ _ _ _ _ _ _ from ⟨(decide_eq_false (by omega)).symm, (fun h => absurd h (by decide)), fun _ => rfl⟩)
        have hv : Hid (rv = false) := hrv.out.trans (decide_eq_false (by omega))
        have i3 : (r == 59) = false := by simp [h59]
        clear h hp hrv
        by_cases ha : r = 63
        · subst ha
          by_cases hb : m = 0
          · subst hb
            have i2 : ((ps.length : Int) == 0) = false := by simp; intro e; exact h63 ⟨rfl, by rw [e]; rfl, rfl⟩
            clear h63 q1 hd h59 i3
            go_enter Tryd.func72, Tryd.ntmps72
            go_wp2
            go_ret
            exact ⟨by rw [hv.out]; rfl, by rw [hv.out]; exact hg.out⟩
          · have i2 : (m == 0) = false := by simp [hb]
            clear h63 q1 hd h59 hb i3
            go_enter Tryd.func72, Tryd.ntmps72
            go_wp2
            go_ret
            exact ⟨by rw [hv.out]; rfl, by rw [hv.out]; exact hg.out⟩
        · have i2 : (r == 63) = false := by simp [ha]
          by_cases hb : 48 ≤ r
          · have hc : ¬ r ≤ 57 := fun h => hd ⟨hb, h⟩
            clear h63 q1 hd h59 ha
            go_enter Tryd.func72, Tryd.ntmps72
            go_wp2
            go_ret
            exact ⟨by rw [hv.out]; rfl, by rw [hv.out]; exact hg.out⟩
          · clear h63 q1 hd h59 ha
            go_enter Tryd.func72, Tryd.ntmps72
            go_wp2
            go_ret
            exact ⟨by rw [hv.out]; rfl, by rw [hv.out]; exact hg.out⟩
end Go.Proofs.YtkcekacnebhcgaaDoor
namespace Go.Proofs.YtkcekacnebhcgaaDoor
open Go.ChangeShapes Go.WideShapes Go.ChangeAt Go.RowKit
theorem taken_eta (ps : List Int) (m r : Int) : takenP ⟨3, ps, m, []⟩ r = ⟨3, (takenP ⟨3, ps, m, []⟩ r).params, (takenP ⟨3, ps, m, []⟩ r).mark, []⟩ := by
  unfold takenP
  split
  · rfl
  split <;> rfl
theorem takes_rune {ps : List Int} {m r : Int} (h : takes ps m r = true) : 48 ≤ r ∧ r ≤ 63 := by
  have := of_decide_eq_true h
  omega
theorem take_step {ps : List Int} {m r : Int} (h : takes ps m r = true) : stepM ⟨3, ps, m, []⟩ r = (takenP ⟨3, ps, m, []⟩ r, []) := by
  have := takes_rune h
  unfold stepM
  rw [if_neg (show ¬ (3 : Int) = 4 by decide), if_neg (show ¬ (3 : Int) = 5 by decide), if_neg (by omega), if_neg (by omega), if_neg (by omega), if_neg (show ¬ (3 : Int) = 2 by decide), if_pos rfl]
  unfold listM
  rw [if_pos h]
set_option maxHeartbeats 4000000 in
theorem pastParams_any (w0 w : World) (B : Nat) (s m : Int) (ps : List Int) (X : List Ax) (l : List Int) (h : Wp w0 w B s ps m [] X l) (hr : Runes6 l) (hX : X.length + l.length ≤ 1000000) (hl : ps.length ≤ 16) (hp : ∀ x ∈ ps, 0 ≤ x ∧ x ≤ 9999) :
    Calls Tryd.prog 61 #[.pointer (some ⟨B, 0, none⟩)] w fun e w' => ∃ r ps' m' X' l', e = .returned (.int .i64 r) ∧ Wp w0 w' B 3 ps' m' [] X' l' ∧ Room l l' X X' r ∧ stays r = false ∧ takes ps' m' r = false ∧ NextR ⟨3, ps, m, []⟩ ⟨3, ps', m', []⟩ l l' X X' r ∧ ps'.length ≤ 16 := by
  have hn := pastControls_any 3 w0 w B s m ps [] X l h (by decide) (by decide) hr hX
  clear h
  go_enter Tryd.func61, Tryd.ntmps61
  go_wp2_with fail
  refine hn.mono ?_
  rintro e w1 ⟨r0, X0, l0, rfl, k, hR, hs, hN⟩
  clear hn
  go_wp2
  go_loopg [3] (leftN r0 l0) (fun n i wr => ∃ (r : Int) (ps' : List Int) (m' : Int) (X' : List Ax) (l' : List Int), i = .int .i64 r ∧ n = leftN r l' ∧ Wp w0 wr B 3 ps' m' [] X' l' ∧ Room l l' X X' r ∧ stays r = false ∧ NextR ⟨3, ps, m, []⟩ ⟨3, ps', m', []⟩ l l' X X' r ∧ ps'.length ≤ 16 ∧ ∀ x ∈ ps', 0 ≤ x ∧ x ≤ 9999)
  case atStart => exact ⟨r0, ps, m, X0, l0, rfl, rfl, k, hR, hs, hN, hl, hp⟩
  case round =>
    clear k hN hR hs hl hp
    obtain ⟨r, ps', m', X', l', rfl, hgk, k, hR, hs, hN, hl, hp⟩ := hrel
    have hga := gathers_any r w0 wr B 3 m' ps' [] X' l' k hl hp
    cases ht : takes ps' m' r
    · rw [ht] at hga
      have hfin : Hid (Room l l' X X' r ∧ stays r = false ∧ takes ps' m' r = false ∧ NextR ⟨3, ps, m, []⟩ ⟨3, ps', m', []⟩ l l' X X' r ∧ ps'.length ≤ 16) := ⟨hR, hs, ht, hN, hl⟩
      clear hR hs ht hN hl hgk hp
      go_wp2_with fail
      refine hga.mono ?_
      rintro e w2 ⟨rfl, hg⟩
      have hw := hg.2.2 rfl
      subst hw
      clear hg hga
      go_wp2
      go_ret
      exact ⟨r, ps', m', X', l', rfl, k, hfin.out⟩
    · rw [ht] at hga
      have h1 : r ≠ -1 := by have := takes_rune ht; omega
      have hst := take_step ht
      have hpb := taken_pb ⟨3, ps', m', []⟩ r ⟨hp, hl, by simp⟩
      have hXl : X'.length + l'.length + 1 ≤ 1000000 := by have := hR.2.1 h1; omega
      have hlt : ∀ {l2 r2 X2 q}, NextR (takenP ⟨3, ps', m', []⟩ r) q l' l2 X' X2 r2 → Hid (leftN r2 l2 < gk) := fun {l2 r2 X2 q} q => (show leftN r2 l2 < gk from by
        rw [hgk]
        unfold leftN
        rw [if_neg h1]
        rcases q with ⟨a, b, _⟩ | ⟨a, _, b, _⟩
        · rw [b, if_pos a]; simp
        · rw [if_neg (by omega)]; omega)
      have hjoin : ∀ {l2 r2 X2 q3}, NextR (takenP ⟨3, ps', m', []⟩ r) q3 l' l2 X' X2 r2 → Room l' l2 X' X2 r2 → Hid (NextR ⟨3, ps, m, []⟩ q3 l l2 X X2 r2 ∧ Room l l2 X X2 r2) := fun {l2 r2 X2 q3} q q2 => hN.trans hR h1 (by rw [hst]) (by rw [hst]; simp) (by simp) q q2
      have hr3 := hR.2.2
      have het := taken_eta ps' m' r
      rw [het] at hlt hjoin
      generalize (takenP ⟨3, ps', m', []⟩ r).params = ps2 at *
      generalize (takenP ⟨3, ps', m', []⟩ r).mark = m2 at *
      have hpc := fun W (q : Wp w0 W B 3 ps2 m2 [] X' l') => pastControls_any 3 w0 W B 3 m2 ps2 [] X' l' q (by decide) (by decide) hr3 (by omega)
      have hp2 : ps2.length ≤ 16 ∧ ∀ x ∈ ps2, 0 ≤ x ∧ x ≤ 9999 := by rw [het] at hpb; exact ⟨hpb.2.1, hpb.1⟩
      clear hR hs hN hl hgk hp h1 hst hpb hXl hr3 k
      go_wp2_with fail
      refine hga.mono ?_
      rintro e w2 ⟨rfl, hg⟩
      have k2 := hg.2.1 rfl
      rw [het] at k2
      simp only at k2
      clear hg hga het ht
      go_wp2_with fail
      refine (hpc _ k2).mono ?_
      rintro e w4 ⟨r2, X2, l2, rfl, k4, hR2, hs2, hN2⟩
      have hl := hlt hN2
      have hj := hjoin hN2 hR2
      clear hpc k2 hN2 hR2 hlt hjoin
      go_wp2
      go_roundg (leftN r2 l2)
      case measure => exact hl.out
      case rel => exact ⟨r2, ps2, m2, X2, l2, rfl, rfl, k4, hj.out.2, hs2, hj.out.1, hp2.1, hp2.2⟩
theorem title_step {ts : List Int} {r : Int} (h7 : r ≠ 7) (h27 : r ≠ 27) : stepM ⟨4, [], 0, ts⟩ r = (⟨4, [], 0, if ts.length < 40 then ts ++ [r] else ts⟩, []) := by
  unfold stepM titleM
  rw [if_pos rfl, if_neg h7, if_neg h27]
  split <;> rfl
set_option maxHeartbeats 4000000 in
theorem pastTitle_any (w0 w : World) (B : Nat) (s : Int) (ts : List Int) (X : List Ax) (l : List Int) (h : Wp w0 w B s [] 0 ts X l) (hr : Runes6 l) (_hX : X.length + l.length ≤ 1000000) (htl : ts.length ≤ 40) :
    Calls Tryd.prog 62 #[.pointer (some ⟨B, 0, none⟩)] w fun e w' => ∃ r ts' l', e = .returned (.int .i64 r) ∧ Wp w0 w' B 4 [] 0 ts' X l' ∧ Room l l' X X r ∧ (r = -1 ∨ r = 7 ∨ r = 27) ∧ NextR ⟨4, [], 0, ts⟩ ⟨4, [], 0, ts'⟩ l l' X X r ∧ ts'.length ≤ 40 := by
  have hn := next_p 4 w0 w B s 0 [] ts X l h
  clear h
  go_enter Tryd.func62, Tryd.ntmps62
  go_wp2_with fail
  refine hn.mono ?_
  rintro e w1 ⟨rfl, k⟩
  have hN := next_nextR ⟨4, [], 0, ts⟩ l X hr
  generalize l.headD (-1) = r0 at *
  generalize l.tail = l0 at *
  clear hn
  go_wp2
  go_loopg [3] (leftN r0 l0) (fun n i wr => ∃ (r : Int) (ts' : List Int) (l' : List Int), i = .int .i64 r ∧ n = leftN r l' ∧ Wp w0 wr B 4 [] 0 ts' X l' ∧ Room l l' X X r ∧ NextR ⟨4, [], 0, ts⟩ ⟨4, [], 0, ts'⟩ l l' X X r ∧ ts'.length ≤ 40)
  case atStart => exact ⟨r0, ts, l0, rfl, rfl, k, hN.2, hN.1, htl⟩
  case round =>
    clear k hN htl
    obtain ⟨r, ts', l', rfl, hgk, k, hR, hN, htl⟩ := hrel
    by_cases hend : r = -1 ∨ r = 7 ∨ r = 27
    · have hfin : Hid (Room l l' X X r ∧ (r = -1 ∨ r = 7 ∨ r = 27) ∧ NextR ⟨4, [], 0, ts⟩ ⟨4, [], 0, ts'⟩ l l' X X r ∧ ts'.length ≤ 40) := ⟨hR, hend, hN, htl⟩
      clear hR hN htl hgk
      by_cases h1 : r = -1
      · have i1 : (r != -1) = false := by simp [h1]
        clear h1 hend
        go_wp2
        go_ret
        exact ⟨r, ts', l', rfl, k, hfin.out⟩
      · have i1 : (r != -1) = true := by simp [h1]
        by_cases h7 : r = 7
        · have i2 : (r != 7) = false := by simp [h7]
          clear h1 hend h7
          go_wp2
          go_ret
          exact ⟨r, ts', l', rfl, k, hfin.out⟩
        · have i2 : (r != 7) = true := by simp [h7]
          have i3 : (r != 27) = false := by simp; omega
          clear h1 hend h7
          go_wp2
          go_ret
          exact ⟨r, ts', l', rfl, k, hfin.out⟩
    · have h1 : r ≠ -1 := fun h => hend (.inl h)
      have i1 : (r != -1) = true := by simp; omega
      have i2 : (r != 7) = true := by simp; omega
      have i3 : (r != 27) = true := by simp; omega
      have hst := title_step (ts := ts') (r := r) (by omega) (by omega)
      have hgo := hN.go (Y := X) hR h1 (by rw [hst]) (by rw [hst]; simp) (by simp)
      have hlt := leftN_tail r l' hR.2.2 h1
      rw [← hgk] at hlt
      have hgo2 := (show Hid _ from hgo)
      clear hN hR hst h1 hend hgk hgo
      by_cases h40 : ts'.length < 40
      · have h40i : (ts'.length : Int) < 40 := by omega
        rw [if_pos h40] at hgo2
        obtain ⟨pv, tv, lv, av, h⟩ := k
        obtain ⟨c0, c1, c2, c3, c4, c5⟩ := h.1.cells
        have hLs : LiOk wr w0.heap.size ((tv, ts') :: (pv, []) :: axLs X) := h.2.2.1.perm (List.Perm.swap _ _ _)
        obtain ⟨ta, tc, htv⟩ := hLs.head.sl.shp
        simp only at htv
        subst htv
        have hbase := h.2.2.2.2.1.size
        have hfin : ∀ w' g cap, LiOk w' w0.heap.size ((.slice (some ⟨g, 0, none⟩) (ts'.length + 1) cap, ts' ++ [r]) :: (pv, []) :: axLs X) → wr.grownBy w' (Value.slice ta ts'.length tc).ownBlock → Hid (w'.frozen? ⟨B, 3, none⟩ = false ∧ (∃ u, w'.cell? ⟨B, 3, none⟩ = some u) ∧ Wp w0 (w'.setCell ⟨B, 3, none⟩ (.slice (some ⟨g, 0, none⟩) (ts'.length + 1) cap)) B 4 [] 0 (ts' ++ [r]) X l') := fun w' g cap k hg => by
          have k2 := h.row hLs.head hg (k.perm (List.Perm.swap _ _ _))
          exact ⟨k2.1.frozen 3, ⟨_, k2.1.cells.2.2.2.1⟩, pv, _, lv, av, k2.self (setCell_gr w' B 3 _) (k2.1.set 3 _) k2.2.2.2.1 (fun h => h)⟩
        have htl2 : (ts' ++ [r]).length ≤ 40 := by simp; omega
        clear h htl h40
        go_wp2_with (refine append_i (by rfl) _ _ (by rfl) w0.heap.size _ ts' ((pv, []) :: axLs X) r (by rfl) hLs hbase (by omega) (by rfl) ?_)
        intro g cap w2 k2 hg2 _
        obtain ⟨y1, ⟨u, y2⟩, y3⟩ := (hfin w2 g cap k2 hg2).out
        have hn := next_p 4 w0 _ B 4 0 [] (ts' ++ [r]) X l' y3
        clear hfin k2 hg2 hLs c0 c1 c2 c3 c4 c5 hbase y3
        go_wp2_with fail
        refine hn.mono ?_
        rintro e w4 ⟨rfl, k⟩
        generalize l'.headD (-1) = r2 at *
        generalize l'.tail = l2 at *
        clear hn
        go_wp2
        go_roundg (leftN r2 l2)
        case measure => exact hlt
        case rel => exact ⟨r2, _, l2, rfl, rfl, k, hgo2.out.2, hgo2.out.1, htl2⟩
      · have h40i : ¬ (ts'.length : Int) < 40 := by omega
        rw [if_neg h40] at hgo2
        have hn := next_p 4 w0 wr B 4 0 [] ts' X l' k
        obtain ⟨pv, tv, lv, av, h⟩ := k
        have c3 := h.1.cells.2.2.2.1
        obtain ⟨ta, tc, htv⟩ := h.2.2.1.tail.head.sl.shp
        simp only at htv
        subst htv
        clear h h40
        go_wp2_with fail
        refine hn.mono ?_
        rintro e w4 ⟨rfl, k⟩
        generalize l'.headD (-1) = r2 at *
        generalize l'.tail = l2 at *
        clear hn
        go_wp2
        go_roundg (leftN r2 l2)
        case measure => exact hlt
        case rel => exact ⟨r2, ts', l2, rfl, rfl, k, hgo2.out.2, hgo2.out.1, htl⟩
end Go.Proofs.YtkcekacnebhcgaaDoor
