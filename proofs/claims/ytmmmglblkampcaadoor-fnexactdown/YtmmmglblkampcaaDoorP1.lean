/- Runes as numbers: what a text's first bytes are read to. Plain mathematics, no program. Contract of l1In alone. Contracts of the rune functions. Widths, and what fits into some cells. Plain mathematics. Contracts of Width. Contract of the program's Width: its table lies in a package's variable. The table of the program's Width as the row lists it: what lies in memory. Styles: their params and signs. Plain mathematics. A style as a value; StyleOk as the specification has it. What an argument that is a style is, once it can be read. Rows of cells. Plain mathematics. Slices of int64 that can be read, and rows that stay. What a contract leaves, as growth. A style in memory. Rows of cells in memory. What an argument that is a row of cells is, once it can be read. Contracts of the specification's blank rows. Rows of rows in memory. Right rows. Plain mathematics. Grids. Plain mathematics. A grid in a block of its own. What an argument that is a grid is, once it can be read. A style is like itself. A cell whole in a block of its own. The laws' own helpers on rows: two cells alike. The laws' own copy of a style. The laws' own helpers on rows: size, copy. The laws' own helpers on grids: size, likeness. Contracts of the specification's new grids. What changes within a range of blocks alone; a grid's rows within a range. The laws' own helpers on rows: two rows alike. The laws' own helpers on rows: marked and held. The laws' own helpers on grids: marked and held. Sizes of grids that the laws reckon with; what stays within a range. Right rows: what keeps them right. Plain mathematics. The program's way with rows: cleared, pushed, pulled. Plain mathematics. -/
import Derived.Laws.BytesArg
import GoSem.Core.Utf8
import Derived.Test.YtmmmglblkampcaaDoorRows
import Derived.WalkKit
import Derived.ProofKit
import Derived.OpenShut
import Derived.ShutString
import Derived.LoopN
import Derived.Laws.Rows
import Derived.WalkMore
import Derived.LaidMore
import Derived.OpenVars
import Derived.ChangeVars
import Derived.Deep.Strs
import Derived.Stop.Joined
import Derived.ChangeOld
import Derived.Below
import Derived.WalkSpells
import Derived.Deep.QuietTactic
import Derived.BigQuiet
import Derived.Laws.OwnMore
import Derived.Laws.AppendOwn
import Derived.OwnWalk
import Derived.Laws.AppendOwnNone
import Derived.Deep.MidRow
import Derived.Deep.Slices
import Derived.Deep.RegionHeld3
import Derived.Deep.RegionWith
namespace Go.Proofs.YtmmmglblkampcaaDoor
def runeOk (r : Int) : Bool := decide (0 ≤ r ∧ r ≤ 1114111 ∧ (r < 55296 ∨ 57343 < r))

theorem runeOk_is (r : Int) (b : Bool) (h : b = true ↔ (0 ≤ r ∧ r ≤ 1114111 ∧ (r < 55296 ∨ 57343 < r))) : b = runeOk r := by
  rw [Bool.eq_iff_iff, h]; simp [runeOk]
theorem runeOk_iff (r : Int) : runeOk r = true ↔ (0 ≤ r ∧ r ≤ 1114111 ∧ (r < 55296 ∨ 57343 < r)) := by simp [runeOk]
end Go.Proofs.YtmmmglblkampcaaDoor
namespace Go.Proofs.YtmmmglblkampcaaDoor
open Go.ChangeShapes Go.WideShapes Go.ChangeAt Go.RowKit
theorem ret_bool {a b : Bool} (h : a = b) : Ending.returned (.bool a) = .returned (.bool b) := by rw [h]

theorem l1In_any (x lo hi : Int) (w : World) :
    Calls Tryd.prog 43 #[.int .i64 x, .int .i64 lo, .int .i64 hi] w fun e w' => e = .returned (.bool (decide (lo ≤ x ∧ x ≤ hi))) ∧ w' = w := by
  by_cases h1 : lo ≤ x
  · go_enter Tryd.func43, Tryd.ntmps43
    go_wp2
    go_ret
    exact ⟨ret_bool (by simp [h1]), rfl⟩
  · go_enter Tryd.func43, Tryd.ntmps43
    go_wp2
    go_ret
    exact ⟨ret_bool (by simp; omega), rfl⟩

end Go.Proofs.YtmmmglblkampcaaDoor
namespace Go.Proofs.YtmmmglblkampcaaDoor
open Go.ChangeShapes Go.WideShapes Go.ChangeAt Go.RowKit
theorem implRuneOk_any (r : Int) (w : World) :
    Calls Tryd.prog 89 #[.int .i64 r] w fun e w' => e = .returned (.bool (runeOk r)) ∧ w' = w := by
  go_enter Tryd.func89, Tryd.ntmps89
  go_wp2
  all_goals
    go_ret
    exact ⟨ret_bool (runeOk_is _ _ (by simp <;> omega)), rfl⟩

set_option maxHeartbeats 400000 in
theorem specRuneOk_any (r : Int) (w : World) :
    Calls Tryd.prog 88 #[.int .i64 r] w fun e w' => e = .returned (.bool (runeOk r)) ∧ w' = w := by
  go_enter Tryd.func88, Tryd.ntmps88
  go_wp2_with (go_at_call 43; refine (l1In_any _ _ _ _).mono ?_; rintro e w' ⟨rfl, rfl⟩)
  all_goals
    go_ret
    exact ⟨ret_bool (runeOk_is _ _ (by simp <;> omega)), rfl⟩

end Go.Proofs.YtmmmglblkampcaaDoor
namespace Go.Proofs.YtmmmglblkampcaaDoor
def widthV (r : Int) : Int :=
  if r < 32 ∨ runeOk r = false ∨ (127 ≤ r ∧ r ≤ 159) ∨ (768 ≤ r ∧ r ≤ 879) then 0
  else if (4352 ≤ r ∧ r ≤ 4447) ∨ (12288 ≤ r ∧ r ≤ 55295) ∨ (127744 ≤ r ∧ r ≤ 131071) then 2 else 1
end Go.Proofs.YtmmmglblkampcaaDoor
namespace Go.Proofs.YtmmmglblkampcaaDoor
open Go.ChangeShapes Go.WideShapes Go.ChangeAt Go.RowKit
theorem ret_i {a b : Int} (h : a = b) : Ending.returned (.int .i64 a) = .returned (.int .i64 b) := by rw [h]
set_option maxHeartbeats 1000000 in
theorem specWidth_any (r : Int) (w : World) :
    Calls Tryd.prog 73 #[.int .i64 r] w fun e w' => e = .returned (.int .i64 (widthV r)) ∧ w' = w := by
  by_cases hr : runeOk r = true
  · have hb := (runeOk_iff r).1 hr
    have hw : Hid (widthV r = if r < 32 ∨ (127 ≤ r ∧ r ≤ 159) ∨ (768 ≤ r ∧ r ≤ 879) then 0 else if (4352 ≤ r ∧ r ≤ 4447) ∨ (12288 ≤ r ∧ r ≤ 55295) ∨ (127744 ≤ r ∧ r ≤ 131071) then 2 else 1) := by show _ = _; simp [widthV, hr]
    go_enter Tryd.func73, Tryd.ntmps73
    go_wp2_with (first | (go_at_call 88; refine (specRuneOk_any _ _).mono ?_; rw [hr]; rintro e w' ⟨rfl, rfl⟩) | (go_at_call 43; refine (l1In_any _ _ _ _).mono ?_; rintro e w' ⟨rfl, rfl⟩))
    all_goals
      go_ret
      refine ⟨ret_i ?_, rfl⟩
      rw [hw.out]
      clear hw hr
      (try simp at *)
      omega
  · have hr : runeOk r = false := by simpa using hr
    have hw : Hid (widthV r = 0) := by show _ = _; simp [widthV, hr]
    go_enter Tryd.func73, Tryd.ntmps73
    go_wp2_with (first | (go_at_call 88; refine (specRuneOk_any _ _).mono ?_; rw [hr]; rintro e w' ⟨rfl, rfl⟩) | (go_at_call 43; refine (l1In_any _ _ _ _).mono ?_; rintro e w' ⟨rfl, rfl⟩))
    all_goals
      go_ret
      exact ⟨ret_i hw.out.symm, rfl⟩
end Go.Proofs.YtmmmglblkampcaaDoor
namespace Go.Proofs.YtmmmglblkampcaaDoor
open Go.ChangeShapes Go.WideShapes Go.ChangeAt Go.RowKit
def spansC : Array Value := #[.int .i64 0, .int .i64 31, .int .i64 0, .int .i64 127, .int .i64 159, .int .i64 0, .int .i64 768, .int .i64 879, .int .i64 0, .int .i64 4352, .int .i64 4447, .int .i64 2, .int .i64 12288, .int .i64 55295, .int .i64 2, .int .i64 127744, .int .i64 131071, .int .i64 2]
/-- The table lies where the program lays it. -/
def SpansAt (w : World) : Prop := ∃ t fr, w.heap[0]? = some (.cells spansC t fr)
theorem SpansAt.below {B : Nat} {w w' : World} (h : SpansAt w) (hb : Below B w w') (hB : 0 < B) : SpansAt w' := by
  obtain ⟨t, fr, h⟩ := h
  exact ⟨t, fr, by rw [hb.block _ hB]; exact h⟩
theorem SpansAt.lt {w : World} (h : SpansAt w) : 0 < w.heap.size := by
  obtain ⟨t, fr, h⟩ := h
  exact (Array.getElem?_eq_some_iff.1 h).1

theorem span_0 : ∀ w, (Instr.index 126 (.agg #[.int .i64 0, .int .i64 31, .int .i64 0, .int .i64 127, .int .i64 159, .int .i64 0, .int .i64 768, .int .i64 879, .int .i64 0, .int .i64 4352, .int .i64 4447, .int .i64 2, .int .i64 12288, .int .i64 55295, .int .i64 2, .int .i64 127744, .int .i64 131071, .int .i64 2]) (.int .i64 0)).run Tryd.prog w = .ok (.agg #[.int .i64 0, .int .i64 31, .int .i64 0]) w := fun _ => by kernel_rfl
theorem span_1 : ∀ w, (Instr.index 126 (.agg #[.int .i64 0, .int .i64 31, .int .i64 0, .int .i64 127, .int .i64 159, .int .i64 0, .int .i64 768, .int .i64 879, .int .i64 0, .int .i64 4352, .int .i64 4447, .int .i64 2, .int .i64 12288, .int .i64 55295, .int .i64 2, .int .i64 127744, .int .i64 131071, .int .i64 2]) (.int .i64 1)).run Tryd.prog w = .ok (.agg #[.int .i64 127, .int .i64 159, .int .i64 0]) w := fun _ => by kernel_rfl
theorem span_2 : ∀ w, (Instr.index 126 (.agg #[.int .i64 0, .int .i64 31, .int .i64 0, .int .i64 127, .int .i64 159, .int .i64 0, .int .i64 768, .int .i64 879, .int .i64 0, .int .i64 4352, .int .i64 4447, .int .i64 2, .int .i64 12288, .int .i64 55295, .int .i64 2, .int .i64 127744, .int .i64 131071, .int .i64 2]) (.int .i64 2)).run Tryd.prog w = .ok (.agg #[.int .i64 768, .int .i64 879, .int .i64 0]) w := fun _ => by kernel_rfl
theorem span_3 : ∀ w, (Instr.index 126 (.agg #[.int .i64 0, .int .i64 31, .int .i64 0, .int .i64 127, .int .i64 159, .int .i64 0, .int .i64 768, .int .i64 879, .int .i64 0, .int .i64 4352, .int .i64 4447, .int .i64 2, .int .i64 12288, .int .i64 55295, .int .i64 2, .int .i64 127744, .int .i64 131071, .int .i64 2]) (.int .i64 3)).run Tryd.prog w = .ok (.agg #[.int .i64 4352, .int .i64 4447, .int .i64 2]) w := fun _ => by kernel_rfl
theorem span_4 : ∀ w, (Instr.index 126 (.agg #[.int .i64 0, .int .i64 31, .int .i64 0, .int .i64 127, .int .i64 159, .int .i64 0, .int .i64 768, .int .i64 879, .int .i64 0, .int .i64 4352, .int .i64 4447, .int .i64 2, .int .i64 12288, .int .i64 55295, .int .i64 2, .int .i64 127744, .int .i64 131071, .int .i64 2]) (.int .i64 4)).run Tryd.prog w = .ok (.agg #[.int .i64 12288, .int .i64 55295, .int .i64 2]) w := fun _ => by kernel_rfl
theorem span_5 : ∀ w, (Instr.index 126 (.agg #[.int .i64 0, .int .i64 31, .int .i64 0, .int .i64 127, .int .i64 159, .int .i64 0, .int .i64 768, .int .i64 879, .int .i64 0, .int .i64 4352, .int .i64 4447, .int .i64 2, .int .i64 12288, .int .i64 55295, .int .i64 2, .int .i64 127744, .int .i64 131071, .int .i64 2]) (.int .i64 5)).run Tryd.prog w = .ok (.agg #[.int .i64 127744, .int .i64 131071, .int .i64 2]) w := fun _ => by kernel_rfl
set_option maxHeartbeats 1000000 in
theorem implWidth_1b (r : Int) (w : World) (hr : runeOk r = true) (hs : SpansAt w) (h0 : r ≤ 31) :
    Calls Tryd.prog 87 #[.int .i64 r] w fun e w' => e = .returned (.int .i64 0) ∧ Below w.heap.size w w' := by
  have hb := (runeOk_iff r).1 hr
  obtain ⟨tt, fr, hg⟩ := hs
  go_enter Tryd.func87, Tryd.ntmps87
  go_wp2
  go_step3
  go_wp2_with (go_at_call 89; refine (implRuneOk_any _ _).mono ?_; rw [hr]; rintro e w' ⟨rfl, hw⟩; subst hw)
  go_step3
  go_wp2_with (refine wpList_load_row rfl 126 _ rfl 0 rfl tt _ fr _ hg Tryd.underlying126 rfl (by kernel_rfl) ?_)
  unfold spansC
  have i0 := span_0
  have i1 := span_1
  have i2 := span_2
  have i3 := span_3
  have i4 := span_4
  have i5 := span_5
  refine wp_loop_rounds 1 ?_
  rw [rounds_succ]
  go_wp2
  rw [Exit.noGoto_ret]
  go_ret
  exact ⟨rfl, (by repeat (first | exact Below.refl _ _ | refine Below.alloc ?_ (by simp <;> omega) _))⟩
set_option maxHeartbeats 1000000 in
theorem implWidth_2a (r : Int) (w : World) (hr : runeOk r = true) (hs : SpansAt w) (h0 : 31 < r) (h1 : r < 127) :
    Calls Tryd.prog 87 #[.int .i64 r] w fun e w' => e = .returned (.int .i64 1) ∧ Below w.heap.size w w' := by
  have hb := (runeOk_iff r).1 hr
  obtain ⟨tt, fr, hg⟩ := hs
  go_enter Tryd.func87, Tryd.ntmps87
  go_wp2
  go_step3
  go_wp2_with (go_at_call 89; refine (implRuneOk_any _ _).mono ?_; rw [hr]; rintro e w' ⟨rfl, hw⟩; subst hw)
  go_step3
  go_wp2_with (refine wpList_load_row rfl 126 _ rfl 0 rfl tt _ fr _ hg Tryd.underlying126 rfl (by kernel_rfl) ?_)
  unfold spansC
  have i0 := span_0
  have i1 := span_1
  have i2 := span_2
  have i3 := span_3
  have i4 := span_4
  have i5 := span_5
  refine wp_loop_rounds 2 ?_
  rw [rounds_succ]
  go_wp2
  rw [rounds_succ]
  go_wp2
  rw [Exit.noGoto_ret]
  go_ret
  exact ⟨rfl, (by repeat (first | exact Below.refl _ _ | refine Below.alloc ?_ (by simp <;> omega) _))⟩
set_option maxHeartbeats 1000000 in
theorem implWidth_2b (r : Int) (w : World) (hr : runeOk r = true) (hs : SpansAt w) (h0 : 127 ≤ r) (h1 : r ≤ 159) :
    Calls Tryd.prog 87 #[.int .i64 r] w fun e w' => e = .returned (.int .i64 0) ∧ Below w.heap.size w w' := by
  have hb := (runeOk_iff r).1 hr
  obtain ⟨tt, fr, hg⟩ := hs
  go_enter Tryd.func87, Tryd.ntmps87
  go_wp2
  go_step3
  go_wp2_with (go_at_call 89; refine (implRuneOk_any _ _).mono ?_; rw [hr]; rintro e w' ⟨rfl, hw⟩; subst hw)
  go_step3
  go_wp2_with (refine wpList_load_row rfl 126 _ rfl 0 rfl tt _ fr _ hg Tryd.underlying126 rfl (by kernel_rfl) ?_)
  unfold spansC
  have i0 := span_0
  have i1 := span_1
  have i2 := span_2
  have i3 := span_3
  have i4 := span_4
  have i5 := span_5
  refine wp_loop_rounds 2 ?_
  rw [rounds_succ]
  go_wp2
  rw [rounds_succ]
  go_wp2
  rw [Exit.noGoto_ret]
  go_ret
  exact ⟨rfl, (by repeat (first | exact Below.refl _ _ | refine Below.alloc ?_ (by simp <;> omega) _))⟩
set_option maxHeartbeats 1000000 in
theorem implWidth_3a (r : Int) (w : World) (hr : runeOk r = true) (hs : SpansAt w) (h0 : 159 < r) (h1 : r < 768) :
    Calls Tryd.prog 87 #[.int .i64 r] w fun e w' => e = .returned (.int .i64 1) ∧ Below w.heap.size w w' := by
  have hb := (runeOk_iff r).1 hr
  obtain ⟨tt, fr, hg⟩ := hs
  go_enter Tryd.func87, Tryd.ntmps87
  go_wp2
  go_step3
  go_wp2_with (go_at_call 89; refine (implRuneOk_any _ _).mono ?_; rw [hr]; rintro e w' ⟨rfl, hw⟩; subst hw)
  go_step3
  go_wp2_with (refine wpList_load_row rfl 126 _ rfl 0 rfl tt _ fr _ hg Tryd.underlying126 rfl (by kernel_rfl) ?_)
  unfold spansC
  have i0 := span_0
  have i1 := span_1
  have i2 := span_2
  have i3 := span_3
  have i4 := span_4
  have i5 := span_5
  refine wp_loop_rounds 3 ?_
  rw [rounds_succ]
  go_wp2
  rw [rounds_succ]
  go_wp2
  rw [rounds_succ]
  go_wp2
  rw [Exit.noGoto_ret]
  go_ret
  exact ⟨rfl, (by repeat (first | exact Below.refl _ _ | refine Below.alloc ?_ (by simp <;> omega) _))⟩
set_option maxHeartbeats 1000000 in
theorem implWidth_3b (r : Int) (w : World) (hr : runeOk r = true) (hs : SpansAt w) (h0 : 768 ≤ r) (h1 : r ≤ 879) :
    Calls Tryd.prog 87 #[.int .i64 r] w fun e w' => e = .returned (.int .i64 0) ∧ Below w.heap.size w w' := by
  have hb := (runeOk_iff r).1 hr
  obtain ⟨tt, fr, hg⟩ := hs
  go_enter Tryd.func87, Tryd.ntmps87
  go_wp2
  go_step3
  go_wp2_with (go_at_call 89; refine (implRuneOk_any _ _).mono ?_; rw [hr]; rintro e w' ⟨rfl, hw⟩; subst hw)
  go_step3
  go_wp2_with (refine wpList_load_row rfl 126 _ rfl 0 rfl tt _ fr _ hg Tryd.underlying126 rfl (by kernel_rfl) ?_)
  unfold spansC
  have i0 := span_0
  have i1 := span_1
  have i2 := span_2
  have i3 := span_3
  have i4 := span_4
  have i5 := span_5
  refine wp_loop_rounds 3 ?_
  rw [rounds_succ]
  go_wp2
  rw [rounds_succ]
  go_wp2
  rw [rounds_succ]
  go_wp2
  rw [Exit.noGoto_ret]
  go_ret
  exact ⟨rfl, (by repeat (first | exact Below.refl _ _ | refine Below.alloc ?_ (by simp <;> omega) _))⟩
set_option maxHeartbeats 1000000 in
theorem implWidth_4a (r : Int) (w : World) (hr : runeOk r = true) (hs : SpansAt w) (h0 : 879 < r) (h1 : r < 4352) :
    Calls Tryd.prog 87 #[.int .i64 r] w fun e w' => e = .returned (.int .i64 1) ∧ Below w.heap.size w w' := by
  have hb := (runeOk_iff r).1 hr
  obtain ⟨tt, fr, hg⟩ := hs
  go_enter Tryd.func87, Tryd.ntmps87
  go_wp2
  go_step3
  go_wp2_with (go_at_call 89; refine (implRuneOk_any _ _).mono ?_; rw [hr]; rintro e w' ⟨rfl, hw⟩; subst hw)
  go_step3
  go_wp2_with (refine wpList_load_row rfl 126 _ rfl 0 rfl tt _ fr _ hg Tryd.underlying126 rfl (by kernel_rfl) ?_)
  unfold spansC
  have i0 := span_0
  have i1 := span_1
  have i2 := span_2
  have i3 := span_3
  have i4 := span_4
  have i5 := span_5
  refine wp_loop_rounds 4 ?_
  rw [rounds_succ]
  go_wp2
  rw [rounds_succ]
  go_wp2
  rw [rounds_succ]
  go_wp2
  rw [rounds_succ]
  go_wp2
  rw [Exit.noGoto_ret]
  go_ret
  exact ⟨rfl, (by repeat (first | exact Below.refl _ _ | refine Below.alloc ?_ (by simp <;> omega) _))⟩
set_option maxHeartbeats 1000000 in
theorem implWidth_4b (r : Int) (w : World) (hr : runeOk r = true) (hs : SpansAt w) (h0 : 4352 ≤ r) (h1 : r ≤ 4447) :
    Calls Tryd.prog 87 #[.int .i64 r] w fun e w' => e = .returned (.int .i64 2) ∧ Below w.heap.size w w' := by
  have hb := (runeOk_iff r).1 hr
  obtain ⟨tt, fr, hg⟩ := hs
  go_enter Tryd.func87, Tryd.ntmps87
  go_wp2
  go_step3
  go_wp2_with (go_at_call 89; refine (implRuneOk_any _ _).mono ?_; rw [hr]; rintro e w' ⟨rfl, hw⟩; subst hw)
  go_step3
  go_wp2_with (refine wpList_load_row rfl 126 _ rfl 0 rfl tt _ fr _ hg Tryd.underlying126 rfl (by kernel_rfl) ?_)
  unfold spansC
  have i0 := span_0
  have i1 := span_1
  have i2 := span_2
  have i3 := span_3
  have i4 := span_4
  have i5 := span_5
  refine wp_loop_rounds 4 ?_
  rw [rounds_succ]
  go_wp2
  rw [rounds_succ]
  go_wp2
  rw [rounds_succ]
  go_wp2
  rw [rounds_succ]
  go_wp2
  rw [Exit.noGoto_ret]
  go_ret
  exact ⟨rfl, (by repeat (first | exact Below.refl _ _ | refine Below.alloc ?_ (by simp <;> omega) _))⟩
set_option maxHeartbeats 1000000 in
theorem implWidth_5a (r : Int) (w : World) (hr : runeOk r = true) (hs : SpansAt w) (h0 : 4447 < r) (h1 : r < 12288) :
    Calls Tryd.prog 87 #[.int .i64 r] w fun e w' => e = .returned (.int .i64 1) ∧ Below w.heap.size w w' := by
  have hb := (runeOk_iff r).1 hr
  obtain ⟨tt, fr, hg⟩ := hs
  go_enter Tryd.func87, Tryd.ntmps87
  go_wp2
  go_step3
  go_wp2_with (go_at_call 89; refine (implRuneOk_any _ _).mono ?_; rw [hr]; rintro e w' ⟨rfl, hw⟩; subst hw)
  go_step3
  go_wp2_with (refine wpList_load_row rfl 126 _ rfl 0 rfl tt _ fr _ hg Tryd.underlying126 rfl (by kernel_rfl) ?_)
  unfold spansC
  have i0 := span_0
  have i1 := span_1
  have i2 := span_2
  have i3 := span_3
  have i4 := span_4
  have i5 := span_5
  refine wp_loop_rounds 5 ?_
  rw [rounds_succ]
  go_wp2
  rw [rounds_succ]
  go_wp2
  rw [rounds_succ]
  go_wp2
  rw [rounds_succ]
  go_wp2
  rw [rounds_succ]
  go_wp2
  rw [Exit.noGoto_ret]
  go_ret
  exact ⟨rfl, (by repeat (first | exact Below.refl _ _ | refine Below.alloc ?_ (by simp <;> omega) _))⟩
set_option maxHeartbeats 1000000 in
theorem implWidth_5b (r : Int) (w : World) (hr : runeOk r = true) (hs : SpansAt w) (h0 : 12288 ≤ r) (h1 : r ≤ 55295) :
    Calls Tryd.prog 87 #[.int .i64 r] w fun e w' => e = .returned (.int .i64 2) ∧ Below w.heap.size w w' := by
  have hb := (runeOk_iff r).1 hr
  obtain ⟨tt, fr, hg⟩ := hs
  go_enter Tryd.func87, Tryd.ntmps87
  go_wp2
  go_step3
  go_wp2_with (go_at_call 89; refine (implRuneOk_any _ _).mono ?_; rw [hr]; rintro e w' ⟨rfl, hw⟩; subst hw)
  go_step3
  go_wp2_with (refine wpList_load_row rfl 126 _ rfl 0 rfl tt _ fr _ hg Tryd.underlying126 rfl (by kernel_rfl) ?_)
  unfold spansC
  have i0 := span_0
  have i1 := span_1
  have i2 := span_2
  have i3 := span_3
  have i4 := span_4
  have i5 := span_5
  refine wp_loop_rounds 5 ?_
  rw [rounds_succ]
  go_wp2
  rw [rounds_succ]
  go_wp2
  rw [rounds_succ]
  go_wp2
  rw [rounds_succ]
  go_wp2
  rw [rounds_succ]
  go_wp2
  rw [Exit.noGoto_ret]
  go_ret
  exact ⟨rfl, (by repeat (first | exact Below.refl _ _ | refine Below.alloc ?_ (by simp <;> omega) _))⟩
set_option maxHeartbeats 1000000 in
theorem implWidth_6a (r : Int) (w : World) (hr : runeOk r = true) (hs : SpansAt w) (h0 : 55295 < r) (h1 : r < 127744) :
    Calls Tryd.prog 87 #[.int .i64 r] w fun e w' => e = .returned (.int .i64 1) ∧ Below w.heap.size w w' := by
  have hb := (runeOk_iff r).1 hr
  obtain ⟨tt, fr, hg⟩ := hs
  go_enter Tryd.func87, Tryd.ntmps87
  go_wp2
  go_step3
  go_wp2_with (go_at_call 89; refine (implRuneOk_any _ _).mono ?_; rw [hr]; rintro e w' ⟨rfl, hw⟩; subst hw)
  go_step3
  go_wp2_with (refine wpList_load_row rfl 126 _ rfl 0 rfl tt _ fr _ hg Tryd.underlying126 rfl (by kernel_rfl) ?_)
  unfold spansC
  have i0 := span_0
  have i1 := span_1
  have i2 := span_2
  have i3 := span_3
  have i4 := span_4
  have i5 := span_5
  refine wp_loop_rounds 6 ?_
  rw [rounds_succ]
  go_wp2
  rw [rounds_succ]
  go_wp2
  rw [rounds_succ]
  go_wp2
  rw [rounds_succ]
  go_wp2
  rw [rounds_succ]
  go_wp2
  rw [rounds_succ]
  go_wp2
  rw [Exit.noGoto_ret]
  go_ret
  exact ⟨rfl, (by repeat (first | exact Below.refl _ _ | refine Below.alloc ?_ (by simp <;> omega) _))⟩
set_option maxHeartbeats 1000000 in
theorem implWidth_6b (r : Int) (w : World) (hr : runeOk r = true) (hs : SpansAt w) (h0 : 127744 ≤ r) (h1 : r ≤ 131071) :
    Calls Tryd.prog 87 #[.int .i64 r] w fun e w' => e = .returned (.int .i64 2) ∧ Below w.heap.size w w' := by
  have hb := (runeOk_iff r).1 hr
  obtain ⟨tt, fr, hg⟩ := hs
  go_enter Tryd.func87, Tryd.ntmps87
  go_wp2
  go_step3
  go_wp2_with (go_at_call 89; refine (implRuneOk_any _ _).mono ?_; rw [hr]; rintro e w' ⟨rfl, hw⟩; subst hw)
  go_step3
  go_wp2_with (refine wpList_load_row rfl 126 _ rfl 0 rfl tt _ fr _ hg Tryd.underlying126 rfl (by kernel_rfl) ?_)
  unfold spansC
  have i0 := span_0
  have i1 := span_1
  have i2 := span_2
  have i3 := span_3
  have i4 := span_4
  have i5 := span_5
  refine wp_loop_rounds 6 ?_
  rw [rounds_succ]
  go_wp2
  rw [rounds_succ]
  go_wp2
  rw [rounds_succ]
  go_wp2
  rw [rounds_succ]
  go_wp2
  rw [rounds_succ]
  go_wp2
  rw [rounds_succ]
  go_wp2
  rw [Exit.noGoto_ret]
  go_ret
  exact ⟨rfl, (by repeat (first | exact Below.refl _ _ | refine Below.alloc ?_ (by simp <;> omega) _))⟩
set_option maxHeartbeats 1000000 in
theorem implWidth_7a (r : Int) (w : World) (hr : runeOk r = true) (hs : SpansAt w) (h0 : 131071 < r) :
    Calls Tryd.prog 87 #[.int .i64 r] w fun e w' => e = .returned (.int .i64 1) ∧ Below w.heap.size w w' := by
  have hb := (runeOk_iff r).1 hr
  obtain ⟨tt, fr, hg⟩ := hs
  go_enter Tryd.func87, Tryd.ntmps87
  go_wp2
  go_step3
  go_wp2_with (go_at_call 89; refine (implRuneOk_any _ _).mono ?_; rw [hr]; rintro e w' ⟨rfl, hw⟩; subst hw)
  go_step3
  go_wp2_with (refine wpList_load_row rfl 126 _ rfl 0 rfl tt _ fr _ hg Tryd.underlying126 rfl (by kernel_rfl) ?_)
  unfold spansC
  have i0 := span_0
  have i1 := span_1
  have i2 := span_2
  have i3 := span_3
  have i4 := span_4
  have i5 := span_5
  refine wp_loop_rounds 7 ?_
  rw [rounds_succ]
  go_wp2
  rw [rounds_succ]
  go_wp2
  rw [rounds_succ]
  go_wp2
  rw [rounds_succ]
  go_wp2
  rw [rounds_succ]
  go_wp2
  rw [rounds_succ]
  go_wp2
  rw [rounds_succ]
  go_wp2
  rw [Exit.noGoto_ret]
  go_ret
  exact ⟨rfl, (by repeat (first | exact Below.refl _ _ | refine Below.alloc ?_ (by simp <;> omega) _))⟩

theorem implWidth_no (r : Int) (w : World) (hr : runeOk r = false) :
    Calls Tryd.prog 87 #[.int .i64 r] w fun e w' => e = .returned (.int .i64 0) ∧ Below w.heap.size w w' := by
  go_enter Tryd.func87, Tryd.ntmps87
  go_wp2
  go_step3
  go_wp2_with (go_at_call 89; refine (implRuneOk_any _ _).mono ?_; rw [hr]; rintro e w' ⟨rfl, hw⟩; subst hw)
  rw [Exit.noGoto_ret]
  go_ret
  exact ⟨rfl, Below.refl _ _⟩

theorem implWidth_any (r : Int) (w : World) (hs : SpansAt w) :
    Calls Tryd.prog 87 #[.int .i64 r] w fun e w' => e = .returned (.int .i64 (widthV r)) ∧ Below w.heap.size w w' := by
  by_cases hr : runeOk r = true
  · have hb := (runeOk_iff r).1 hr
    have hw : widthV r = if r < 32 ∨ (127 ≤ r ∧ r ≤ 159) ∨ (768 ≤ r ∧ r ≤ 879) then 0 else if (4352 ≤ r ∧ r ≤ 4447) ∨ (12288 ≤ r ∧ r ≤ 55295) ∨ (127744 ≤ r ∧ r ≤ 131071) then 2 else 1 := by simp [widthV, hr]
    have key : ∀ c : Int, widthV r = c → (Calls Tryd.prog 87 #[.int .i64 r] w fun e w' => e = .returned (.int .i64 c) ∧ Below w.heap.size w w') → Calls Tryd.prog 87 #[.int .i64 r] w fun e w' => e = .returned (.int .i64 (widthV r)) ∧ Below w.heap.size w w' := fun c e h => by rw [e]; exact h
    by_cases h1 : r ≤ 31
    · exact key 0 (by rw [hw]; omega) (implWidth_1b r w hr hs h1)
    by_cases a2 : r < 127
    · exact key 1 (by rw [hw]; omega) (implWidth_2a r w hr hs (by omega) a2)
    by_cases b2 : r ≤ 159
    · exact key 0 (by rw [hw]; omega) (implWidth_2b r w hr hs (by omega) b2)
    by_cases a3 : r < 768
    · exact key 1 (by rw [hw]; omega) (implWidth_3a r w hr hs (by omega) a3)
    by_cases b3 : r ≤ 879
    · exact key 0 (by rw [hw]; omega) (implWidth_3b r w hr hs (by omega) b3)
    by_cases a4 : r < 4352
    · exact key 1 (by rw [hw]; omega) (implWidth_4a r w hr hs (by omega) a4)
    by_cases b4 : r ≤ 4447
    · exact key 2 (by rw [hw]; omega) (implWidth_4b r w hr hs (by omega) b4)
    by_cases a5 : r < 12288
    · exact key 1 (by rw [hw]; omega) (implWidth_5a r w hr hs (by omega) a5)
    by_cases b5 : r ≤ 55295
    · exact key 2 (by rw [hw]; omega) (implWidth_5b r w hr hs (by omega) b5)
    by_cases a6 : r < 127744
    · exact key 1 (by rw [hw]; omega) (implWidth_6a r w hr hs (by omega) a6)
    by_cases b6 : r ≤ 131071
    · exact key 2 (by rw [hw]; omega) (implWidth_6b r w hr hs (by omega) b6)
    exact key 1 (by rw [hw]; omega) (implWidth_7a r w hr hs (by omega))
  · have hr : runeOk r = false := by simpa using hr
    have e : widthV r = 0 := by simp [widthV, hr]
    rw [e]
    exact implWidth_no r w hr
end Go.Proofs.YtmmmglblkampcaaDoor
namespace Go.Proofs.YtmmmglblkampcaaDoor
open Go.ChangeShapes Go.WideShapes Go.ChangeAt Go.WideElems Go.RowKit
theorem gSpans : Tryd.prog.globalNamed "loop.example/g00215/impl.spans" = some 0 := by kernel_rfl
theorem tSpans : (Tryd.prog.globals[0]?).map (·.type) = some 126 := by kernel_rfl
theorem c_i64 : Tryd.prog.cellsOf 2 = 1 := by kernel_rfl
theorem c_span : Tryd.prog.cellsOf 125 = 3 := by kernel_rfl
theorem c_spans : Tryd.prog.cellsOf 126 = 18 := by kernel_rfl

section
variable {H : Type} {enc : TypeId × Value → H} {w : World} {base : Nat} {spare : Nat → Bool} {held : Bool}
set_option maxRecDepth 20000 in
theorem span_open {fuel : Nat} {cs : List Value} {a b c : Int} {p : List MemPlace}
    (h : DataW.trod enc Tryd.prog w base spare held fuel 125 cs = some (.agg [.lit (.int .i64 a), .lit (.int .i64 b), .lit (.int .i64 c)], p)) : cs = [.int .i64 a, .int .i64 b, .int .i64 c] := by
  obtain ⟨y0, y1, y2, n, e, hl, h0, h1, h2⟩ := Go.Deep.trod_struct3 Tryd.underlying125 h
  rw [c_span] at hl
  simp only [Prod.mk.injEq, DataW.agg.injEq, List.cons.injEq, and_true] at e
  obtain ⟨⟨e0, e1, e2⟩, _⟩ := e
  match cs, hl with
  | [x0, x1, x2], _ =>
    obtain ⟨k0, q0, r0, _⟩ := DataW.trod_int Tryd.underlying2 h0
    obtain ⟨k1, q1, r1, _⟩ := DataW.trod_int Tryd.underlying2 h1
    obtain ⟨k2, q2, r2, _⟩ := DataW.trod_int Tryd.underlying2 h2
    subst r0; subst r1; subst r2
    simp only [DataW.lit.injEq, Lit.int.injEq, true_and] at e0 e1 e2
    subst e0; subst e1; subst e2
    rw [c_i64] at q0 q1 q2
    simp at q0 q1 q2
    subst q0; subst q1; subst q2
    rfl
set_option maxRecDepth 20000 in
theorem spans_open {fuel : Nat} {cs : List Value} {p : List MemPlace}
    (h : DataW.trod enc Tryd.prog w base spare held fuel 126 cs = some (Rows.laid_loop_example_g00215_impl_spans, p)) : cs = spansC.toList := by
  obtain ⟨xs, m, rfl, e, hl, hn, hel⟩ := DataW.trod_array Tryd.underlying126 h
  rw [c_spans] at hl
  simp only [Rows.laid_loop_example_g00215_impl_spans, Prod.mk.injEq, DataW.agg.injEq] at e
  obtain ⟨e, _⟩ := e
  match xs, hn with
  | [x0, x1, x2, x3, x4, x5], _ =>
    simp only [List.map_cons, List.map_nil, List.cons.injEq, and_true] at e
    obtain ⟨e0, e1, e2, e3, e4, e5⟩ := e
    have go : ∀ (i : Nat) (x : DataW H × List MemPlace) (a b c : Int), i < 6 → [x0, x1, x2, x3, x4, x5][i]? = some x → DataW.agg [.lit (.int .i64 a), .lit (.int .i64 b), .lit (.int .i64 c)] = x.1 → (cs.drop (i * 3)).take 3 = [.int .i64 a, .int .i64 b, .int .i64 c] := by
      intro i x a b c hi hx he
      have := hel i hi
      rw [c_span, hx] at this
      obtain ⟨x1, x2⟩ := x
      simp only at he
      rw [← he] at this
      exact span_open this
    have g0 := go 0 x0 _ _ _ (by decide) rfl e0
    have g1 := go 1 x1 _ _ _ (by decide) rfl e1
    have g2 := go 2 x2 _ _ _ (by decide) rfl e2
    have g3 := go 3 x3 _ _ _ (by decide) rfl e3
    have g4 := go 4 x4 _ _ _ (by decide) rfl e4
    have g5 := go 5 x5 _ _ _ (by decide) rfl e5
    match cs, hl with
    | [a0, a1, a2, a3, a4, a5, a6, a7, a8, a9, b0, b1, b2, b3, b4, b5, b6, b7], _ =>
      simp at g0 g1 g2 g3 g4 g5
      simp [spansC, g0, g1, g2, g3, g4, g5]
end
/-- What the row lists of the table is what the walks ask. -/
theorem spans_of_laid {W : World} (h : laidMetH Tryd.prog [("loop.example/g00215/impl.spans", Rows.laid_loop_example_g00215_impl_spans)] W) : SpansAt W := by
  rw [MakeChecks.laidMetH_plain _ _ _ (by kernel_rfl)] at h
  obtain ⟨ps, ⟨g0, t0, cs0, f0, p0, q0, hg0, ht0, hv0, hd0, _⟩, _⟩ := h
  obtain rfl := Option.some.inj (gSpans.symm.trans hg0)
  obtain rfl := Option.some.inj (tSpans.symm.trans ht0)
  have hcs := spans_open hd0
  have e : cs0 = spansC := by cases cs0; simp at hcs; rw [hcs]
  subst e
  unfold World.var? at hv0
  rw [gSpans] at hv0
  simp only [Option.bind_some] at hv0
  cases hh : W.heap[0]? with
  | none => rw [hh] at hv0; cases hv0
  | some o =>
    rw [hh] at hv0
    cases o with
    | cells c t fr => simp at hv0; subst hv0; exact ⟨t, fr, hh⟩
    | _ => simp at hv0
/-- The program's own start lays the table so. -/
theorem spans_door (os : Os) (args : Array Value) : laidMetH Tryd.prog [("loop.example/g00215/impl.spans", Rows.laid_loop_example_g00215_impl_spans)] ((World.doorLaid Tryd.prog 400 os).forCall (fun _ _ => 0) ⟨#[], args, []⟩).memory :=
  laidMetH_of_parts3 (fuel := 8) (laidMet_of_run' 8 (by kernel_rfl) (by kernel_rfl)) (by kernel_rfl) (by kernel_rfl)
end Go.Proofs.YtmmmglblkampcaaDoor
namespace Go.Proofs.YtmmmglblkampcaaDoor
structure St where
  fore : Int
  back : Int
  bold : Bool
  under : Bool
  turned : Bool
deriving DecidableEq
def St.zero : St := ⟨0, 0, false, false, false⟩
def St.ok (s : St) : Bool := decide (0 ≤ s.fore ∧ s.fore ≤ 8 ∧ 0 ≤ s.back ∧ s.back ≤ 8)
end Go.Proofs.YtmmmglblkampcaaDoor
namespace Go.Proofs.YtmmmglblkampcaaDoor
open Go.ChangeShapes Go.WideShapes Go.ChangeAt Go.RowKit
def stV (s : St) : Value := .agg #[.int .i64 s.fore, .int .i64 s.back, .bool s.bold, .bool s.under, .bool s.turned]
set_option maxHeartbeats 400000 in
theorem specStyleOk_any (s : St) (w : World) :
    Calls Tryd.prog 68 #[stV s] w fun e w' => e = .returned (.bool s.ok) ∧ Below w.heap.size w w' := by
  obtain ⟨f, b, bo, un, tu⟩ := s
  have hok : Hid ((St.mk f b bo un tu).ok = decide (0 ≤ f ∧ f ≤ 8 ∧ 0 ≤ b ∧ b ≤ 8)) := rfl
  unfold stV
  simp only
  go_enter Tryd.func68, Tryd.ntmps68
  go_wp2_with (go_at_call 43; refine (l1In_any _ _ _ _).mono ?_; rintro e w' ⟨rfl, hw⟩; subst hw)
  all_goals
    go_ret
    refine ⟨ret_bool ?_, (Below.refl _ _).alloc (Nat.le_refl _) _⟩
    rw [hok.out]
    clear hok
    by_cases h1 : 0 ≤ f ∧ f ≤ 8
    · by_cases h2 : 0 ≤ b ∧ b ≤ 8
      · have h3 : 0 ≤ f ∧ f ≤ 8 ∧ 0 ≤ b ∧ b ≤ 8 := ⟨h1.1, h1.2, h2⟩
        simp_all
      · have h3 : ¬ (0 ≤ f ∧ f ≤ 8 ∧ 0 ≤ b ∧ b ≤ 8) := fun h => h2 h.2.2
        simp_all
        try omega
    · have h3 : ¬ (0 ≤ f ∧ f ≤ 8 ∧ 0 ≤ b ∧ b ≤ 8) := fun h => h1 ⟨h.1, h.2.1⟩
      simp_all
end Go.Proofs.YtmmmglblkampcaaDoor
namespace Go.Proofs.YtmmmglblkampcaaDoor
open Go.ChangeShapes Go.WideShapes Go.ChangeAt Go.RowKit
set_option maxRecDepth 20000 in
theorem style_view {H : Type} {enc : TypeId × Value → H} {w : World} {base b0 : Nat} {spare : Nat → Bool} {held : Bool} {r : Reach} {v : Value} {d : DataW H} {p : List MemPlace} (hv : Value.okWide Tryd.prog w r b0 47 v) (h : DataW.Trod enc Tryd.prog w base spare held 47 v d p) :
    ∃ s : St, v = stV s := by
  obtain ⟨cs, rfl, hsz⟩ := okWide_struct Tryd.underlying47 hv
  obtain ⟨fuel, hf⟩ := h
  obtain ⟨xs, n, _, _, hl, hlen, hfs⟩ := DataW.trod_struct Tryd.underlying47 hf
  have e : Tryd.prog.cellsOf 47 = 5 := by kernel_rfl
  have ei : Tryd.prog.cellsOf 2 = 1 := by kernel_rfl
  have eb : Tryd.prog.cellsOf 4 = 1 := by kernel_rfl
  obtain ⟨l⟩ := cs
  match l, hsz.trans e, xs, hlen with
  | [c0, c1, c2, c3, c4], _, [x0, x1, x2, x3, x4], _ =>
    have h0 := hfs 0 _ rfl
    have h1 := hfs 1 _ rfl
    have h2 := hfs 2 _ rfl
    have h3 := hfs 3 _ rfl
    have h4 := hfs 4 _ rfl
    simp [Value.cells, ei, eb] at h0 h1 h2 h3 h4
    obtain ⟨k0, q0, _, _⟩ := DataW.trod_int Tryd.underlying2 h0
    obtain ⟨k1, q1, _, _⟩ := DataW.trod_int Tryd.underlying2 h1
    obtain ⟨k2, q2, _⟩ := DataW.trod_bool Tryd.underlying4 h2
    obtain ⟨k3, q3, _⟩ := DataW.trod_bool Tryd.underlying4 h3
    obtain ⟨k4, q4, _⟩ := DataW.trod_bool Tryd.underlying4 h4
    simp at q0 q1 q2 q3 q4
    subst q0; subst q1; subst q2; subst q3; subst q4
    exact ⟨⟨k0, k1, k2, k3, k4⟩, rfl⟩
end Go.Proofs.YtmmmglblkampcaaDoor
namespace Go.Proofs.YtmmmglblkampcaaDoor
structure Ce where
  rune : Int
  st : St
  part : Int
deriving DecidableEq
def Ce.zero : Ce := ⟨0, St.zero, 0⟩
def blankC (s : St) : Ce := ⟨32, s, 0⟩
def atC (l : List Ce) (i : Nat) : Ce := l.getD i Ce.zero
theorem atC_lt {l : List Ce} {i : Nat} (h : i < l.length) : atC l i = l[i] := by simp [atC, List.getD, h]
theorem atC_append_left (l m : List Ce) (i : Nat) (h : i < l.length) : atC (l ++ m) i = atC l i := by
  simp [atC, List.getD, List.getElem?_append_left h]
theorem atC_append_right (l m : List Ce) (i : Nat) : atC (l ++ m) (l.length + i) = atC m i := by
  simp [atC, List.getD, List.getElem?_append_right]
theorem atC_set (l : List Ce) (j i : Nat) (c : Ce) : atC (l.set j c) i = if i = j ∧ j < l.length then c else atC l i := by
  simp only [atC, List.getD, List.getElem?_set]
  by_cases h : j = i
  · subst h
    by_cases h2 : j < l.length
    · simp [h2]
    · simp [h2]
  · rw [if_neg h, if_neg (fun e => h e.1.symm)]
theorem ext_atC (l m : List Ce) (hl : l.length = m.length) (h : ∀ i, i < l.length → atC l i = atC m i) : l = m := by
  apply List.ext_getElem hl
  intro i h1 h2
  have := h i h1
  rwa [atC_lt h1, atC_lt h2] at this
theorem atC_take (l : List Ce) (n i : Nat) (h : i < n) : atC (l.take n) i = atC l i := by simp [atC, List.getD, h]
theorem atC_drop (l : List Ce) (n i : Nat) : atC (l.drop n) i = atC l (n + i) := by simp [atC, List.getD, List.getElem?_drop]

/-- Cells from a to b blank. -/
def fillUp (l : List Ce) (a b : Nat) (s : St) : List Ce := (List.range l.length).map fun i => if a ≤ i ∧ i < b then blankC s else atC l i
theorem fillUp_len (l : List Ce) (a b : Nat) (s : St) : (fillUp l a b s).length = l.length := by simp [fillUp]
theorem fillUp_at (l : List Ce) (a b : Nat) (s : St) (i : Nat) (h : i < l.length) : atC (fillUp l a b s) i = if a ≤ i ∧ i < b then blankC s else atC l i := by
  rw [atC_lt (by rw [fillUp_len]; exact h)]
  simp [fillUp]
def rowL (n : Nat) (s : St) : List Ce := List.replicate n (blankC s)
end Go.Proofs.YtmmmglblkampcaaDoor
namespace Go.Proofs.YtmmmglblkampcaaDoor
open Go.ChangeShapes Go.WideShapes Go.ChangeAt Go.RowKit
/-- What is owned stays owned while the world only grows above. -/
theorem _root_.Go.World.ownsRow.below {w w' : World} {base : Nat} {e : TypeId} {size : Nat} {v : Value} {n : Nat} {xs : List Value} (h : w.ownsRow base e size v n xs) (hb : Below w.heap.size w w') : w'.ownsRow base e size v n xs := by
  refine ⟨h.1, ?_⟩
  rcases h.2 with h2 | ⟨g, cap, cur, hv, hbg, hg, r⟩
  · exact .inl h2
  · exact .inr ⟨g, cap, cur, hv, hbg, by rw [hb.block g (Array.getElem?_eq_some_iff.1 hg).1]; exact hg, r⟩
/-- A slice that can be read: of no element, or a row of cells that hold the numbers. -/
def SlI (w : World) (v : Value) (xs : List Int) : Prop :=
  ∃ a c, v = .slice a xs.length c ∧ (xs = [] ∨ ∃ b off, a = some ⟨b, off, none⟩ ∧ b < w.heap.size ∧ ∀ i, i < xs.length → w.cell? ⟨b, off + i, none⟩ = some (.int .i64 (xs.getD i 0)))
theorem SlI.of_own {w : World} {base : Nat} {e : TypeId} {v : Value} {xs : List Int} (h : w.ownsRow base e 1 v xs.length (xs.map (Value.int .i64))) : SlI w v xs := by
  rcases h.2 with ⟨rfl, h2⟩ | ⟨g, cap, cur, rfl, hb, hg, hr⟩
  · exact ⟨none, 0, by rw [h2], .inl (List.eq_nil_of_length_eq_zero h2)⟩
  · refine ⟨_, cap, rfl, .inr ⟨g, 0, rfl, (Array.getElem?_eq_some_iff.1 hg).1, fun i hi => ?_⟩⟩
    have := h.cellAt i (by simpa using hi)
    rw [Nat.zero_add, this]
    simp [hi]
theorem SlI.below {w w' : World} {v : Value} {xs : List Int} (h : SlI w v xs) (hb : Below w.heap.size w w') : SlI w' v xs := by
  obtain ⟨a, c, hv, h | ⟨b, off, ha, hlt, hc⟩⟩ := h
  · exact ⟨a, c, hv, .inl h⟩
  · exact ⟨a, c, hv, .inr ⟨b, off, ha, Nat.lt_of_lt_of_le hlt hb.size, fun i hi => (hb.cell (p := ⟨b, off + i, none⟩) hlt).trans (hc i hi)⟩⟩
end Go.Proofs.YtmmmglblkampcaaDoor
namespace Go.Proofs.YtmmmglblkampcaaDoor
open Go.ChangeShapes Go.WideShapes Go.ChangeAt Go.RowKit
theorem gbl {w w' : World} (h : Below w.heap.size w w') (row : Option Nat) : w.grownBy w' row := ⟨h.os, h.tape, h.output, h.size, fun k hk _ => h.block k hk⟩
theorem setCell_gr (w : World) (B o : Nat) (u : Value) : w.grownBy (w.setCell ⟨B, o, none⟩ u) (some B) :=
  ⟨rfl, rfl, rfl, by simp, fun k _ hk => heap_setCell_other w ⟨B, o, none⟩ k _ (fun e => hk (by simp [e]))⟩
theorem grown_tr {a b c : World} {row : Option Nat} (h : a.grownBy b row) (k : b.grownBy c row) : a.grownBy c row :=
  ⟨k.os.trans h.os, k.tape.trans h.tape, k.output.trans h.output, Nat.le_trans h.size k.size, fun i hi hr => (k.block i (Nat.lt_of_lt_of_le hi h.size) hr).trans (h.block i hi hr)⟩
theorem bal' (w : World) (o : Obj) : Below w.heap.size w (w.alloc o) := (Below.refl _ _).alloc (Nat.le_refl _) o
theorem bdr (w : World) : Below w.heap.size w w.drew := ⟨rfl, rfl, rfl, Nat.le_refl _, fun _ _ => rfl⟩
end Go.Proofs.YtmmmglblkampcaaDoor
namespace Go.Proofs.YtmmmglblkampcaaDoor
open Go.ChangeShapes Go.WideShapes Go.ChangeAt Go.RowKit
/-- A style lies in block B. -/
def StAt (w : World) (B : Nat) (s : St) : Prop :=
  B < w.heap.size ∧ (w.cell? ⟨B, 0, none⟩ = some (.int .i64 s.fore) ∧ w.cell? ⟨B, 1, none⟩ = some (.int .i64 s.back) ∧ w.cell? ⟨B, 2, none⟩ = some (.bool s.bold) ∧ w.cell? ⟨B, 3, none⟩ = some (.bool s.under) ∧ w.cell? ⟨B, 4, none⟩ = some (.bool s.turned)) ∧
    (w.frozen? ⟨B, 0, none⟩ = false ∧ w.frozen? ⟨B, 1, none⟩ = false ∧ w.frozen? ⟨B, 2, none⟩ = false ∧ w.frozen? ⟨B, 3, none⟩ = false ∧ w.frozen? ⟨B, 4, none⟩ = false)
theorem StAt.grown {w w' : World} {B : Nat} {s : St} {row : Option Nat} (h : StAt w B s) (hg : w.grownBy w' row) (hr : row ≠ some B) : StAt w' B s := by
  have hb := hg.block B h.1 (Ne.symm hr)
  have hc : ∀ k, w'.cell? ⟨B, k, none⟩ = w.cell? ⟨B, k, none⟩ := fun k => World.cell?_of_block (w := w) hb
  have hz : ∀ k, w'.frozen? ⟨B, k, none⟩ = w.frozen? ⟨B, k, none⟩ := fun k => World.frozen?_of_block (w := w) hb
  refine ⟨Nat.lt_of_lt_of_le h.1 hg.size, ?_, ?_⟩
  · rw [hc, hc, hc, hc, hc]; exact h.2.1
  · rw [hz, hz, hz, hz, hz]; exact h.2.2
theorem StAt.below {w w' : World} {B : Nat} {s : St} (h : StAt w B s) (hb : Below w.heap.size w w') : StAt w' B s := h.grown (gbl hb none) (by simp)
theorem StAt.new (w : World) (s : St) (t : TypeId) : StAt (w.alloc (.cells #[.int .i64 s.fore, .int .i64 s.back, .bool s.bold, .bool s.under, .bool s.turned] t)) w.heap.size s :=
  ⟨by simp, ⟨by simp [go_sem], by simp [go_sem], by simp [go_sem], by simp [go_sem], by simp [go_sem]⟩, ⟨by simp [go_sem], by simp [go_sem], by simp [go_sem], by simp [go_sem], by simp [go_sem]⟩⟩
/-- Another style is written there whole. -/
def putSt (w : World) (B : Nat) (s : St) : World :=
  ((((w.setCell ⟨B, 0, none⟩ (.int .i64 s.fore)).setCell ⟨B, 1, none⟩ (.int .i64 s.back)).setCell ⟨B, 2, none⟩ (.bool s.bold)).setCell ⟨B, 3, none⟩ (.bool s.under)).setCell ⟨B, 4, none⟩ (.bool s.turned)

theorem setCell_ne' (w : World) (B a b : Nat) (u : Value) (h : a ≠ b) : (w.setCell ⟨B, b, none⟩ u).cell? ⟨B, a, none⟩ = w.cell? ⟨B, a, none⟩ := by
  simp [World.setCell, World.cell?, Array.getElem?_modify]
  cases hh : w.heap[B]? with
  | none => simp
  | some o => cases o <;> simp [Ne.symm h]
theorem StAt.put {w : World} {B : Nat} {s : St} (h : StAt w B s) (s' : St) : StAt (putSt w B s') B s' := by
  obtain ⟨hlt, ⟨c0, c1, c2, c3, c4⟩, ⟨z0, z1, z2, z3, z4⟩⟩ := h
  refine ⟨by simpa [putSt] using hlt, ⟨?_, ?_, ?_, ?_, ?_⟩, ⟨?_, ?_, ?_, ?_, ?_⟩⟩
  all_goals simp only [putSt]
  · rw [setCell_ne' _ _ _ _ _ (by decide), setCell_ne' _ _ _ _ _ (by decide), setCell_ne' _ _ _ _ _ (by decide), setCell_ne' _ _ _ _ _ (by decide)]; simp [go_sem, c0]
  · rw [setCell_ne' _ _ _ _ _ (by decide), setCell_ne' _ _ _ _ _ (by decide), setCell_ne' _ _ _ _ _ (by decide)]; simp [go_sem, c1]
  · rw [setCell_ne' _ _ _ _ _ (by decide), setCell_ne' _ _ _ _ _ (by decide)]; simp [go_sem, c2]
  · rw [setCell_ne' _ _ _ _ _ (by decide)]; simp [go_sem, c3]
  · simp [go_sem, c4]
  · simp [go_sem, z0]
  · simp [go_sem, z1]
  · simp [go_sem, z2]
  · simp [go_sem, z3]
  · simp [go_sem, z4]
end Go.Proofs.YtmmmglblkampcaaDoor
namespace Go.Proofs.YtmmmglblkampcaaDoor
open Go.ChangeShapes Go.WideShapes Go.ChangeAt Go.RowKit
def ceL (c : Ce) : List Value := [.int .i64 c.rune, .int .i64 c.st.fore, .int .i64 c.st.back, .bool c.st.bold, .bool c.st.under, .bool c.st.turned, .int .i64 c.part]
def ceV (c : Ce) : Value := .agg #[.int .i64 c.rune, .int .i64 c.st.fore, .int .i64 c.st.back, .bool c.st.bold, .bool c.st.under, .bool c.st.turned, .int .i64 c.part]
def CeAt (w : World) (b o : Nat) (c : Ce) : Prop :=
  w.cell? ⟨b, o, none⟩ = some (.int .i64 c.rune) ∧ w.cell? ⟨b, o + 1, none⟩ = some (.int .i64 c.st.fore) ∧ w.cell? ⟨b, o + 2, none⟩ = some (.int .i64 c.st.back) ∧ w.cell? ⟨b, o + 3, none⟩ = some (.bool c.st.bold) ∧ w.cell? ⟨b, o + 4, none⟩ = some (.bool c.st.under) ∧ w.cell? ⟨b, o + 5, none⟩ = some (.bool c.st.turned) ∧ w.cell? ⟨b, o + 6, none⟩ = some (.int .i64 c.part)
theorem CeAt.below {w w' : World} {b o : Nat} {c : Ce} (h : CeAt w b o c) (hb : Below w.heap.size w w') (hlt : b < w.heap.size) : CeAt w' b o c := by
  have e : ∀ k, w'.cell? ⟨b, k, none⟩ = w.cell? ⟨b, k, none⟩ := fun k => hb.cell (p := ⟨b, k, none⟩) hlt
  unfold CeAt
  rw [e, e, e, e, e, e, e]
  exact h
theorem CeAt.grown {w w' : World} {b o : Nat} {c : Ce} {row : Option Nat} (h : CeAt w b o c) (hg : w.grownBy w' row) (hlt : b < w.heap.size) (hr : row ≠ some b) : CeAt w' b o c := by
  have hb := hg.block b hlt (Ne.symm hr)
  have e : ∀ k, w'.cell? ⟨b, k, none⟩ = w.cell? ⟨b, k, none⟩ := fun k => World.cell?_of_block (w := w) hb
  unfold CeAt
  rw [e, e, e, e, e, e, e]
  exact h
/-- A slice of cells that can be read. -/
def SlC (w : World) (v : Value) (xs : List Ce) : Prop :=
  ∃ a c, v = .slice a xs.length c ∧ xs.length ≤ c ∧ (a = none → c = 0) ∧ (xs = [] ∨ ∃ b off, a = some ⟨b, off, none⟩ ∧ b < w.heap.size ∧ ∀ i, i < xs.length → CeAt w b (off + i * 7) (atC xs i))
theorem SlC.below {w w' : World} {v : Value} {xs : List Ce} (h : SlC w v xs) (hb : Below w.heap.size w w') : SlC w' v xs := by
  obtain ⟨a, c, hv, hc, hn, h | ⟨b, off, ha, hlt, hi⟩⟩ := h
  · exact ⟨a, c, hv, hc, hn, .inl h⟩
  · exact ⟨a, c, hv, hc, hn, .inr ⟨b, off, ha, Nat.lt_of_lt_of_le hlt hb.size, fun i h => (hi i h).below hb hlt⟩⟩
/-- A slice of cells that this call owns. -/
def OwnC (w : World) (base : Nat) (v : Value) (xs : List Ce) : Prop := w.ownsRow base 65 7 v xs.length (xs.flatMap ceL)
theorem flat_len (xs : List Ce) : (xs.flatMap ceL).length = xs.length * 7 := by
  induction xs with
  | nil => rfl
  | cons c xs ih => rw [List.flatMap_cons, List.length_append, ih, List.length_cons]; simp [ceL]; omega
theorem flat_get (xs : List Ce) : ∀ (i k : Nat), i < xs.length → k < 7 → (xs.flatMap ceL)[i * 7 + k]? = (ceL (atC xs i))[k]? := by
  induction xs with
  | nil => intro i k h; simp at h
  | cons c xs ih =>
    intro i k h hk
    rw [List.flatMap_cons]
    cases i with
    | zero =>
      rw [List.getElem?_append_left (by simp [ceL]; omega)]
      simp [atC]
    | succ i =>
      have hl : (ceL c).length = 7 := rfl
      rw [List.getElem?_append_right (by rw [hl]; omega), hl]
      have e : (i + 1) * 7 + k - 7 = i * 7 + k := by omega
      rw [e, ih i k (by simpa using h) hk]
      simp [atC]
theorem OwnC.at {w : World} {base g n cap : Nat} {xs : List Ce} (h : OwnC w base (.slice (some ⟨g, 0, none⟩) n cap) xs) (hn : xs.length = n) (i : Nat) (hi : i < n) : CeAt w g (i * 7) (atC xs i) := by
  subst hn
  have hc : ∀ k, k < 7 → w.cell? ⟨g, i * 7 + k, none⟩ = (ceL (atC xs i))[k]? := fun k hk => by
    rw [h.cellAt (i * 7 + k) (by omega), flat_get xs i k hi hk]
  exact ⟨hc 0 (by omega), hc 1 (by omega), hc 2 (by omega), hc 3 (by omega), hc 4 (by omega), hc 5 (by omega), hc 6 (by omega)⟩
theorem OwnC.shape {w : World} {base : Nat} {v : Value} {xs : List Ce} (h : OwnC w base v xs) : (v = .slice none 0 0 ∧ xs = []) ∨ ∃ g cap, v = .slice (some ⟨g, 0, none⟩) xs.length cap ∧ base ≤ g ∧ g < w.heap.size ∧ xs.length ≤ cap := by
  rcases h.2 with ⟨h1, h2⟩ | ⟨g, cap, cur, hv, hb, hg, hn, _⟩
  · exact .inl ⟨h1, List.eq_nil_of_length_eq_zero h2⟩
  · exact .inr ⟨g, cap, hv, hb, (Array.getElem?_eq_some_iff.1 hg).1, hn⟩
theorem SlC.of_own {w : World} {base : Nat} {v : Value} {xs : List Ce} (h : OwnC w base v xs) : SlC w v xs := by
  rcases h.shape with ⟨rfl, rfl⟩ | ⟨g, cap, rfl, hb, hg, hn⟩
  · exact ⟨none, 0, rfl, Nat.le_refl _, fun _ => rfl, .inl rfl⟩
  · exact ⟨_, cap, rfl, hn, (fun h => by cases h), .inr ⟨g, 0, rfl, hg, fun i hi => by rw [Nat.zero_add]; exact h.at rfl i hi⟩⟩
theorem OwnC.below {w w' : World} {base : Nat} {v : Value} {xs : List Ce} (h : OwnC w base v xs) (hb : Below w.heap.size w w') : OwnC w' base v xs := World.ownsRow.below (show w.ownsRow _ _ _ _ _ _ from h) hb
theorem OwnC.low {w : World} {base base' : Nat} {v : Value} {xs : List Ce} (h : OwnC w base v xs) (hb : base' ≤ base) : OwnC w base' v xs := by
  refine ⟨h.1, ?_⟩
  rcases h.2 with h2 | ⟨g, cap, cur, hv, hbg, r⟩
  · exact .inl h2
  · exact .inr ⟨g, cap, cur, hv, Nat.le_trans hb hbg, r⟩
theorem OwnC.lt {w : World} {base : Nat} {v : Value} {xs : List Ce} (h : OwnC w base v xs) : ∀ g, v.ownBlock = some g → base ≤ g ∧ g < w.heap.size := World.ownsRow.lt (show w.ownsRow _ _ _ _ _ _ from h)
/-- One cell is written whole. -/
def putCe (w : World) (g o : Nat) (c : Ce) : World :=
  ((((((w.setCell ⟨g, o, none⟩ (.int .i64 c.rune)).setCell ⟨g, o + 1, none⟩ (.int .i64 c.st.fore)).setCell ⟨g, o + 2, none⟩ (.int .i64 c.st.back)).setCell ⟨g, o + 3, none⟩ (.bool c.st.bold)).setCell ⟨g, o + 4, none⟩ (.bool c.st.under)).setCell ⟨g, o + 5, none⟩ (.bool c.st.turned)).setCell ⟨g, o + 6, none⟩ (.int .i64 c.part)
theorem flat_set (xs : List Ce) (c : Ce) : ∀ i, i < xs.length → ((((((((xs.flatMap ceL).set (i * 7) (.int .i64 c.rune)).set (i * 7 + 1) (.int .i64 c.st.fore)).set (i * 7 + 2) (.int .i64 c.st.back)).set (i * 7 + 3) (.bool c.st.bold)).set (i * 7 + 4) (.bool c.st.under)).set (i * 7 + 5) (.bool c.st.turned)).set (i * 7 + 6) (.int .i64 c.part)) = (xs.set i c).flatMap ceL := by
  induction xs with
  | nil => intro i h; simp at h
  | cons d xs ih =>
    intro i h
    cases i with
    | zero => simp [ceL]
    | succ i =>
      have e : ∀ k, (i + 1) * 7 + k = (i * 7 + k) + 7 := fun k => by omega
      have e0 : (i + 1) * 7 = (i * 7) + 7 := by omega
      rw [e 1, e 2, e 3, e 4, e 5, e 6, e0]
      have hs : ∀ (m : Nat) (u : Value) (l : List Value), ((ceL d ++ l).set (m + 7) u) = ceL d ++ l.set m u := fun m u l => by
        rw [List.set_append, if_neg (by simp [ceL])]
        simp [ceL]
      rw [List.flatMap_cons, hs, hs, hs, hs, hs, hs, hs, ih i (by simpa using h), List.set_cons_succ, List.flatMap_cons]
theorem OwnC.put {w : World} {base g n cap : Nat} {xs : List Ce} (h : OwnC w base (.slice (some ⟨g, 0, none⟩) n cap) xs) (hn : xs.length = n) (i : Nat) (hi : i < n) (c : Ce) :
    OwnC (putCe w g (i * 7) c) base (.slice (some ⟨g, 0, none⟩) n cap) (xs.set i c) ∧ w.grownBy (putCe w g (i * 7) c) (some g) := by
  subst hn
  have h0 := World.ownsRow.stored h (i * 7) (.int .i64 c.rune)
  have h1 := World.ownsRow.stored h0.1 (i * 7 + 1) (.int .i64 c.st.fore)
  have h2 := World.ownsRow.stored h1.1 (i * 7 + 2) (.int .i64 c.st.back)
  have h3 := World.ownsRow.stored h2.1 (i * 7 + 3) (.bool c.st.bold)
  have h4 := World.ownsRow.stored h3.1 (i * 7 + 4) (.bool c.st.under)
  have h5 := World.ownsRow.stored h4.1 (i * 7 + 5) (.bool c.st.turned)
  have h6 := World.ownsRow.stored h5.1 (i * 7 + 6) (.int .i64 c.part)
  refine ⟨?_, grown_tr (grown_tr (grown_tr (grown_tr (grown_tr (grown_tr h0.2 h1.2) h2.2) h3.2) h4.2) h5.2) h6.2⟩
  have := h6.1
  rw [flat_set xs c i hi] at this
  unfold OwnC putCe
  rw [List.length_set]
  exact this
theorem OwnC.frozen {w : World} {base g n cap : Nat} {xs : List Ce} (h : OwnC w base (.slice (some ⟨g, 0, none⟩) n cap) xs) (hn : xs.length = n) (j : Nat) : w.frozen? ⟨g, j, none⟩ = false := by
  subst hn
  exact World.ownsRow.frozenAt h j
theorem info_cell : (Tryd.prog.info? 65).map (fun i => (i.zero, i.size, i.bytes)) = some (some (ceV Ce.zero), 7, 40) := by kernel_rfl
/-- One cell more. -/
theorem append_oc {w : World} {ops : Array Oper} {rest : List Oper} {o : Oper} {ac : Act} {Q : Exit → Act → World → Prop} (hgd : o.guard = none) (s x : Operand)
    (ho : o.op = .call { callee := .builtin .append, args := #[s, x], argTypes := #[43, 43] })
    (base : Nat) (v : Value) (L : List Ce) (c : Ce) (hs : ac.eval s = v) (k : OwnC w base v L) (hb : base ≤ w.heap.size) (hl : L.length < 2000000)
    (g : Nat) (hg0 : w.heap.size = g) (hx : ac.eval x = .slice (some ⟨g, 0, none⟩) 1 1)
    (h : ∀ v' w', OwnC w' base v' (L ++ [c]) → (w.alloc (.cells #[.int .i64 c.rune, .int .i64 c.st.fore, .int .i64 c.st.back, .bool c.st.bold, .bool c.st.under, .bool c.st.turned, .int .i64 c.part] 65)).grownBy w' v.ownBlock → wpList Tryd.prog ops Q rest (ac.put o.dst v') w') :
    wpList Tryd.prog ops Q (o :: rest) ac (w.alloc (.cells #[.int .i64 c.rune, .int .i64 c.st.fore, .int .i64 c.st.back, .bool c.st.bold, .bool c.st.under, .bool c.st.turned, .int .i64 c.part] 65)) := by
  subst hg0
  obtain ⟨i0, hi, hz0, hz1, hz2⟩ := info_parts info_cell
  refine wpList_append_own _ hgd s x _ ho base 65 i0 (ceV Ce.zero) 7 40 Tryd.underlying43 hi hz0 hz1 hz2 rfl (by decide) v L.length _ hs (k.below (bal' _ _)) ⟨w.heap.size, 0, none⟩ 1 1 (ceL c) hx rfl ?_ (by intro u hu; simp [ceL] at hu; rcases hu with rfl | rfl | rfl | rfl | rfl | rfl | rfl <;> rfl) (by unfold maxLen; omega) (by omega) (by simp; omega) (fun v' w' ho' hg' _ => ?_)
  · intro j u hj
    have e : (⟨w.heap.size, 0, none⟩ : Addr).add j = ⟨w.heap.size, j, none⟩ := by unfold Addr.add; split <;> simp_all
    rw [e, cell_of_row _ w.heap.size j _ _ (0, 0) (heap_alloc_new w _)]
    simpa [ceL] using hj
  · refine h v' w' ?_ hg'
    unfold OwnC
    rw [List.length_append, List.flatMap_append]
    simpa using ho'
theorem flat_cells {w : World} {b off : Nat} {xs : List Ce} (hi : ∀ i, i < xs.length → CeAt w b (off + i * 7) (atC xs i)) : ∀ j u, (xs.flatMap ceL)[j]? = some u → w.cell? ⟨b, off + j, none⟩ = some u := by
  intro j u hj
  have hlt : j < xs.length * 7 := by have := (List.getElem?_eq_some_iff.1 hj).1; rwa [flat_len] at this
  have h1 : j / 7 < xs.length := by omega
  have h2 : j % 7 < 7 := Nat.mod_lt _ (by decide)
  have e : j = j / 7 * 7 + j % 7 := by omega
  rw [e, flat_get xs (j / 7) (j % 7) h1 h2] at hj
  obtain ⟨c0, c1, c2, c3, c4, c5, c6⟩ := hi (j / 7) h1
  generalize hk : j % 7 = k at *
  have eo : off + j = off + j / 7 * 7 + k := by omega
  rw [eo]
  match k, h2, hj with
  | 0, _, hj => simp [ceL] at hj; subst hj; exact c0
  | 1, _, hj => simp [ceL] at hj; subst hj; exact c1
  | 2, _, hj => simp [ceL] at hj; subst hj; exact c2
  | 3, _, hj => simp [ceL] at hj; subst hj; exact c3
  | 4, _, hj => simp [ceL] at hj; subst hj; exact c4
  | 5, _, hj => simp [ceL] at hj; subst hj; exact c5
  | 6, _, hj => simp [ceL] at hj; subst hj; exact c6
theorem flat_one (xs : List Ce) : ∀ u ∈ xs.flatMap ceL, u.oneCell' = true := by
  intro u hu
  obtain ⟨c, _, hu⟩ := List.mem_flatMap.1 hu
  simp [ceL] at hu
  rcases hu with rfl | rfl | rfl | rfl | rfl | rfl | rfl <;> rfl
theorem ownC_nil (w : World) (base : Nat) (hb : base ≤ w.heap.size) : OwnC (w.alloc (.cells #[] 65)) base (.slice (some ⟨w.heap.size, 0, none⟩) 0 0) [] := by
  have := World.ownsRow_lit (base := base) (e := 65) (size := 7) w #[] 0 hb (Nat.zero_le _) rfl
  simpa [OwnC] using this
end Go.Proofs.YtmmmglblkampcaaDoor
namespace Go.Proofs.YtmmmglblkampcaaDoor
open Go.ChangeShapes Go.WideShapes Go.ChangeAt Go.RowKit
section
instance : Inhabited Ce := ⟨Ce.zero⟩
variable {H : Type} {enc : TypeId × Value → H} {w : World} {base : Nat} {spare : Nat → Bool} {held : Bool}
set_option maxRecDepth 20000 in
theorem style_cs {fuel : Nat} {cs : List Value} {x : DataW H × List MemPlace} (hf : DataW.trod enc Tryd.prog w base spare held fuel 47 cs = some x) :
    ∃ s : St, cs = [.int .i64 s.fore, .int .i64 s.back, .bool s.bold, .bool s.under, .bool s.turned] := by
  obtain ⟨xs, n, _, _, hl, hlen, hfs⟩ := DataW.trod_struct Tryd.underlying47 hf
  have e : Tryd.prog.cellsOf 47 = 5 := by kernel_rfl
  have ei : Tryd.prog.cellsOf 2 = 1 := by kernel_rfl
  have eb : Tryd.prog.cellsOf 4 = 1 := by kernel_rfl
  match cs, hl.trans e, xs, hlen with
  | [c0, c1, c2, c3, c4], _, [x0, x1, x2, x3, x4], _ =>
    have h0 := hfs 0 _ rfl
    have h1 := hfs 1 _ rfl
    have h2 := hfs 2 _ rfl
    have h3 := hfs 3 _ rfl
    have h4 := hfs 4 _ rfl
    simp [ei, eb] at h0 h1 h2 h3 h4
    obtain ⟨k0, q0, _, _⟩ := DataW.trod_int Tryd.underlying2 h0
    obtain ⟨k1, q1, _, _⟩ := DataW.trod_int Tryd.underlying2 h1
    obtain ⟨k2, q2, _⟩ := DataW.trod_bool Tryd.underlying4 h2
    obtain ⟨k3, q3, _⟩ := DataW.trod_bool Tryd.underlying4 h3
    obtain ⟨k4, q4, _⟩ := DataW.trod_bool Tryd.underlying4 h4
    simp at q0 q1 q2 q3 q4
    subst q0; subst q1; subst q2; subst q3; subst q4
    exact ⟨⟨k0, k1, k2, k3, k4⟩, rfl⟩
set_option maxRecDepth 20000 in
theorem cell_cs {fuel : Nat} {cs : List Value} {x : DataW H × List MemPlace} (hf : DataW.trod enc Tryd.prog w base spare held fuel 120 cs = some x) :
    ∃ c : Ce, cs = ceL c := by
  obtain ⟨xs, n, _, _, hl, hlen, hfs⟩ := DataW.trod_struct Tryd.underlying120 hf
  have e : Tryd.prog.cellsOf 120 = 7 := by kernel_rfl
  have es : Tryd.prog.cellsOf 47 = 5 := by kernel_rfl
  have ei : Tryd.prog.cellsOf 2 = 1 := by kernel_rfl
  match cs, hl.trans e, xs, hlen with
  | [c0, c1, c2, c3, c4, c5, c6], _, [x0, x1, x2], _ =>
    have h0 := hfs 0 _ rfl
    have h1 := hfs 1 _ rfl
    have h2 := hfs 2 _ rfl
    simp [ei, es] at h0 h1 h2
    obtain ⟨k0, q0, _, _⟩ := DataW.trod_int Tryd.underlying2 h0
    obtain ⟨s, q1⟩ := style_cs h1
    obtain ⟨k2, q2, _, _⟩ := DataW.trod_int Tryd.underlying2 h2
    simp at q0 q1 q2
    obtain ⟨r1, r2, r3, r4, r5⟩ := q1
    subst q0; subst r1; subst r2; subst r3; subst r4; subst r5; subst q2
    exact ⟨⟨k0, s, k2⟩, rfl⟩
end
end Go.Proofs.YtmmmglblkampcaaDoor
namespace Go.Proofs.YtmmmglblkampcaaDoor
open Go.ChangeShapes Go.WideShapes Go.ChangeAt Go.RowKit
theorem l4Blank_any (s : St) (w : World) :
    Calls Tryd.prog 84 #[stV s] w fun e w' => e = .returned (ceV (blankC s)) ∧ Below w.heap.size w w' := by
  obtain ⟨f, b, bo, un, tu⟩ := s
  unfold stV
  simp only
  go_enter Tryd.func84, Tryd.ntmps84
  go_wp2
  exact bodyPost_ret (v := .agg #[.int .i64 32, .int .i64 f, .int .i64 b, .bool bo, .bool un, .bool tu, .int .i64 0]) (by simp [results, Tryd.results84, go_sem]) rfl ⟨rfl, ((Below.refl _ _).alloc (Nat.le_refl _) _).alloc (by simp) _⟩
/-- A row of this call's own beside what stays. -/
def OC (base : Nat) (v : Value) (L : List Ce) (w0 W : World) : Prop := OwnC W base v L ∧ Below w0.heap.size w0 W ∧ base ≤ W.heap.size ∧ w0.heap.size ≤ base
theorem OC.below {base : Nat} {v : Value} {L : List Ce} {w0 W W' : World} (k : OC base v L w0 W) (hb : Below W.heap.size W W') : OC base v L w0 W' :=
  ⟨k.1.below hb, k.2.1.trans (hb.mono k.2.1.size), Nat.le_trans k.2.2.1 hb.size, k.2.2.2⟩
theorem OC.own {base : Nat} {v v' : Value} {L L' : List Ce} {w0 W W' : World} (k : OC base v L w0 W) (ho : OwnC W' base v' L') (hg : W.grownBy W' v.ownBlock) : OC base v' L' w0 W' :=
  ⟨ho, k.2.1.grown hg k.2.1.size (fun g e => Nat.le_trans k.2.2.2 (k.1.lt g e).1), Nat.le_trans k.2.2.1 hg.size, k.2.2.2⟩
theorem StAt.own {W W' : World} {B base : Nat} {s : St} {v : Value} {L : List Ce} (h : StAt W B s) (k : OwnC W base v L) (hB : B < base) (hg : W.grownBy W' v.ownBlock) : StAt W' B s :=
  h.grown hg (fun e => by have := (k.lt B e).1; omega)
set_option maxHeartbeats 2000000 in
theorem l4Row_any (n : Nat) (s : St) (w : World) (hn : n ≤ 1000) :
    Calls Tryd.prog 60 #[.int .i64 n, stV s] w fun e w' => ∃ v, e = .returned v ∧ OwnC w' w.heap.size v (rowL n s) ∧ Below w.heap.size w w' := by
  have h2 := StAt.new w s 28
  have hbA := bal' w (Obj.cells #[.int .i64 s.fore, .int .i64 s.back, .bool s.bold, .bool s.under, .bool s.turned] 28)
  have hbl := l4Blank_any s
  unfold stV ceV blankC at *
  simp only at hbl
  go_enter Tryd.func60, Tryd.ntmps60
  go_wp2
  have k0 : OC (w.heap.size + 1) (.slice (some ⟨w.heap.size + 1, 0, none⟩) 0 0) [] w ((w.alloc (Obj.cells #[.int .i64 s.fore, .int .i64 s.back, .bool s.bold, .bool s.under, .bool s.turned] 28)).alloc (Obj.cells #[] 65)) := by
    refine ⟨?_, hbA.trans ((bal' _ _).mono hbA.size), by simp, by omega⟩
    have := ownC_nil (w.alloc (Obj.cells #[.int .i64 s.fore, .int .i64 s.back, .bool s.bold, .bool s.under, .bool s.turned] 28)) (w.heap.size + 1) (by simp)
    simpa using this
  have hs0 := h2.below (bal' _ (Obj.cells #[] 65))
  go_loopw [5, 6] (fun u i wr => ∃ j : Nat, i = .int .i64 j ∧ j ≤ n ∧ OC (w.heap.size + 1) u (rowL j s) w wr ∧ StAt wr w.heap.size s) (fun _ i _ => n - (intOf i).toNat)
  case atStart => exact ⟨0, rfl, Nat.zero_le _, k0, hs0⟩
  case round =>
    clear k0 hs0 h2 hbA
    obtain ⟨j, rfl, hj, k, hs⟩ := hrel
    by_cases hlt : j < n
    · have hji : (j : Int) < (n : Int) := by omega
      have hsn : Hid (rowL (j + 1) s = rowL j s ++ [⟨32, s, 0⟩]) := by show _ = _; rw [rowL, List.replicate_succ']; rfl
      have hl : (rowL j s).length < 2000000 := by simp [rowL]; omega
      obtain ⟨_, ⟨c0, c1, c2, c3, c4⟩, _⟩ := id hs
      generalize rowL j s = L at *
      go_wp2_with fail
      refine (hbl _).mono ?_
      rintro e w1 ⟨rfl, hb1⟩
      have k1 := k.below hb1
      have hs1 := hs.below hb1
      clear k hs c0 c1 c2 c3 c4 hb1 hbl
      go_wp2_with (at_builtin; refine append_oc rfl _ _ rfl (w.heap.size + 1) _ L ⟨32, s, 0⟩ rfl (by exact k1.1) k1.2.2.1 hl _ (by simp) rfl ?_; intro v' w' ho' hg')
      have k2 := (k1.below (bal' _ _)).own ho' hg'
      have hs2 := (hs1.below (bal' _ _)).own (k1.below (bal' _ _)).1 (Nat.lt_succ_self _) hg'
      clear k1 hs1 ho' hg'
      go_wp2
      go_roundw
      case rel => exact ⟨j + 1, by go_num, by omega, by rw [hsn.out]; exact k2, hs2⟩
      case measure => simp [intOf]; omega
    · have hjn : j = n := by omega
      have hji : ¬ (j : Int) < (n : Int) := by omega
      subst hjn
      clear hbl hs
      go_wp2
      go_ret
      exact ⟨_, rfl, k.1.low (by omega), k.2.1⟩
end Go.Proofs.YtmmmglblkampcaaDoor
namespace Go.Proofs.YtmmmglblkampcaaDoor
open Go.ChangeShapes Go.WideShapes Go.ChangeAt Go.RowKit
def rowV (vs : List Value) (i : Nat) : Value := vs.getD i (.slice none 0 0)
def rowX (rows : List (List Ce)) (i : Nat) : List Ce := rows.getD i []
theorem rowV_lt {vs : List Value} {i : Nat} (h : i < vs.length) : rowV vs i = vs[i] := by simp [rowV, List.getD, h]
theorem rowX_lt {rows : List (List Ce)} {i : Nat} (h : i < rows.length) : rowX rows i = rows[i] := by simp [rowX, List.getD, h]
theorem rowV_get {vs : List Value} {i : Nat} (h : i < vs.length) : vs[i]? = some (rowV vs i) := by rw [rowV_lt h]; exact List.getElem?_eq_getElem h
theorem rowV_snoc (vs : List Value) (r : Value) (i : Nat) : rowV (vs ++ [r]) i = if i < vs.length then rowV vs i else if i = vs.length then r else .slice none 0 0 := by
  unfold rowV
  by_cases h : i < vs.length
  · rw [if_pos h]; simp [List.getD, List.getElem?_append_left h]
  · rw [if_neg h]
    by_cases e : i = vs.length
    · rw [if_pos e, e]; simp [List.getD]
    · rw [if_neg e]
      have : (vs ++ [r])[i]? = none := List.getElem?_eq_none (by simp; omega)
      simp [List.getD, this]
theorem rowX_snoc (rows : List (List Ce)) (x : List Ce) (i : Nat) : rowX (rows ++ [x]) i = if i < rows.length then rowX rows i else if i = rows.length then x else [] := by
  unfold rowX
  by_cases h : i < rows.length
  · rw [if_pos h]; simp [List.getD, List.getElem?_append_left h]
  · rw [if_neg h]
    by_cases e : i = rows.length
    · rw [if_pos e, e]; simp [List.getD]
    · rw [if_neg e]
      have : (rows ++ [x])[i]? = none := List.getElem?_eq_none (by simp; omega)
      simp [List.getD, this]
/-- A slice of rows that can be read. -/
def SlG (w : World) (v : Value) (rows : List (List Ce)) : Prop :=
  ∃ a c vs, v = .slice a rows.length c ∧ rows.length ≤ c ∧ (a = none → c = 0) ∧ (rows = [] ∨ ∃ b off, a = some ⟨b, off, none⟩ ∧ b < w.heap.size ∧ ∀ i, i < rows.length → w.cell? ⟨b, off + i, none⟩ = some (rowV vs i)) ∧ ∀ i, i < rows.length → SlC w (rowV vs i) (rowX rows i)
theorem SlG.below {w w' : World} {v : Value} {rows : List (List Ce)} (h : SlG w v rows) (hb : Below w.heap.size w w') : SlG w' v rows := by
  obtain ⟨a, c, vs, hv, hc, hn, hr, hs⟩ := h
  refine ⟨a, c, vs, hv, hc, hn, ?_, fun i hi => (hs i hi).below hb⟩
  rcases hr with hr | ⟨b, off, ha, hlt, hi⟩
  · exact .inl hr
  · exact .inr ⟨b, off, ha, Nat.lt_of_lt_of_le hlt hb.size, fun i h => (hb.cell (p := ⟨b, off + i, none⟩) hlt).trans (hi i h)⟩
/-- A slice of rows that this call owns, each row in a block of its own below B. -/
def OwnG (w : World) (base B : Nat) (v : Value) (rows : List (List Ce)) : Prop :=
  ∃ vs : List Value, vs.length = rows.length ∧ w.ownsRow base 43 1 v rows.length vs ∧ (∀ i, i < rows.length → OwnC w base (rowV vs i) (rowX rows i)) ∧
    (∀ i, i < rows.length → ∀ g, (rowV vs i).ownBlock = some g → g < B) ∧ (∀ i j, i < j → j < rows.length → ∀ g, (rowV vs i).ownBlock = some g → (rowV vs j).ownBlock ≠ some g)
theorem OwnG.below {w w' : World} {base B : Nat} {v : Value} {rows : List (List Ce)} (h : OwnG w base B v rows) (hb : Below w.heap.size w w') : OwnG w' base B v rows := by
  obtain ⟨vs, hl, ho, hr, hB, hd⟩ := h
  exact ⟨vs, hl, World.ownsRow.below ho hb, fun i hi => (hr i hi).below hb, hB, hd⟩
theorem OwnG.low {w : World} {base base' B : Nat} {v : Value} {rows : List (List Ce)} (h : OwnG w base B v rows) (hb : base' ≤ base) : OwnG w base' B v rows := by
  obtain ⟨vs, hl, ho, hr, hB, hd⟩ := h
  refine ⟨vs, hl, ⟨ho.1, ?_⟩, fun i hi => (hr i hi).low hb, hB, hd⟩
  rcases ho.2 with h2 | ⟨g, cap, cur, hv, hbg, r⟩
  · exact .inl h2
  · exact .inr ⟨g, cap, cur, hv, Nat.le_trans hb hbg, r⟩
theorem ownG_none (w : World) (base B : Nat) : OwnG w base B (.slice none 0 0) [] :=
  ⟨[], rfl, ⟨rfl, .inl ⟨rfl, rfl⟩⟩, fun i h => absurd h (Nat.not_lt_zero i), fun i h => absurd h (Nat.not_lt_zero i), fun _ j _ h => absurd h (Nat.not_lt_zero j)⟩
theorem OwnG.shape {w : World} {base B : Nat} {v : Value} {rows : List (List Ce)} (h : OwnG w base B v rows) : (v = .slice none 0 0 ∧ rows = []) ∨ ∃ g cap, v = .slice (some ⟨g, 0, none⟩) rows.length cap ∧ base ≤ g ∧ g < w.heap.size ∧ rows.length ≤ cap := by
  obtain ⟨vs, hl, ho, _⟩ := h
  rcases ho.2 with ⟨h1, h2⟩ | ⟨g, cap, cur, hv, hb, hg, hn, _⟩
  · exact .inl ⟨h1, List.eq_nil_of_length_eq_zero h2⟩
  · exact .inr ⟨g, cap, hv, hb, (Array.getElem?_eq_some_iff.1 hg).1, hn⟩
theorem SlG.of_own {w : World} {base B : Nat} {v : Value} {rows : List (List Ce)} (h : OwnG w base B v rows) : SlG w v rows := by
  obtain ⟨vs, hl, ho, hr, hB, hd⟩ := h
  rcases ho.2 with ⟨h1, h2⟩ | ⟨g, cap, cur, hv, hb, hg, hn, _, _, ht⟩
  · have : rows = [] := List.eq_nil_of_length_eq_zero h2
    subst this
    exact ⟨none, 0, vs, h1, Nat.le_refl _, fun _ => rfl, .inl rfl, fun i hi => absurd hi (Nat.not_lt_zero i)⟩
  · subst hv
    refine ⟨_, cap, vs, rfl, hn, (fun e => by cases e), .inr ⟨g, 0, rfl, (Array.getElem?_eq_some_iff.1 hg).1, fun i hi => ?_⟩, fun i hi => SlC.of_own (hr i hi)⟩
    rw [Nat.zero_add, World.ownsRow.cellAt ho i (by omega), rowV_get (by omega)]
/-- The outer block is none of the rows' blocks. -/
theorem outer_apart {w : World} {base base' n : Nat} {v r : Value} {vs : List Value} {xs : List Ce} (ho : w.ownsRow base 43 1 v n vs) (hr : OwnC w base' r xs) : r.ownBlock = none ∨ r.ownBlock ≠ v.ownBlock := by
  rcases ho.2 with ⟨h1, _⟩ | ⟨g, cap, cur, hv, _, hg, _⟩
  · cases hb : r.ownBlock with
    | none => exact .inl rfl
    | some q => right; rw [h1]; simp [Value.ownBlock]
  · rcases hr.2 with ⟨h1, _⟩ | ⟨g', cap', cur', hv', _, hg', _⟩
    · left; rw [h1]; rfl
    · right
      rw [hv, hv']
      intro e
      simp only [Value.ownBlock, Option.some.injEq] at e
      subst e
      rw [hg] at hg'
      simp only [Option.some.injEq, Obj.cells.injEq] at hg'
      exact absurd hg'.2.1 (by decide)
theorem OwnC.kept {w w' : World} {base : Nat} {r : Value} {xs : List Ce} {row : Option Nat} (h : OwnC w base r xs) (hg : w.grownBy w' row) (hne : r.ownBlock = none ∨ r.ownBlock ≠ row) : OwnC w' base r xs := World.ownsRow.kept (show w.ownsRow _ _ _ _ _ _ from h) hg hne
theorem info_row : (Tryd.prog.info? 43).map (fun i => (i.zero, i.size, i.bytes)) = some (some (.slice none 0 0), 1, 24) := by kernel_rfl
theorem under_rows : Tryd.prog.underlying 24 = some (.slice 43) := by kernel_rfl
/-- What holds behind one row more. -/
theorem og_after {w w' : World} {base B : Nat} {v v' : Value} {rows : List (List Ce)} {vs : List Value} {r : Value} {xs : List Ce} (hvl : vs.length = rows.length) (hown : w.ownsRow base 43 1 v rows.length vs)
    (hrs : ∀ i, i < rows.length → OwnC w base (rowV vs i) (rowX rows i)) (hlt : ∀ i, i < rows.length → ∀ g, (rowV vs i).ownBlock = some g → g < B) (hd : ∀ i j, i < j → j < rows.length → ∀ g, (rowV vs i).ownBlock = some g → (rowV vs j).ownBlock ≠ some g)
    (hr : OwnC w base r xs) (hB : ∀ g, r.ownBlock = some g → B ≤ g) (ho' : w'.ownsRow base 43 1 v' (rows.length + 1) (vs ++ [r])) (hg' : w.grownBy w' v.ownBlock) : OwnG w' base w'.heap.size v' (rows ++ [xs]) := by
  have hs2 := hg'.size
  refine ⟨vs ++ [r], by simp [hvl], by simpa using ho', fun i hi => ?_, fun i hi g e => ?_, fun i j hij hj g e => ?_⟩
  · rw [List.length_append, List.length_singleton] at hi
    rw [rowV_snoc, rowX_snoc, hvl]
    by_cases c : i < rows.length
    · rw [if_pos c, if_pos c]
      exact (hrs i c).kept hg' (outer_apart hown (hrs i c))
    · have e : i = rows.length := by omega
      rw [if_neg c, if_neg c, if_pos e, if_pos e]
      exact hr.kept hg' (outer_apart hown hr)
  · rw [List.length_append, List.length_singleton] at hi
    rw [rowV_snoc, hvl] at e
    by_cases c : i < rows.length
    · rw [if_pos c] at e
      have := ((hrs i c).lt g e).2; omega
    · rw [if_neg c, if_pos (by omega)] at e
      have := (hr.lt g e).2; omega
  · rw [List.length_append, List.length_singleton] at hj
    rw [rowV_snoc, hvl, if_pos (by omega)] at e
    rw [rowV_snoc, hvl]
    by_cases c : j < rows.length
    · rw [if_pos c]; exact hd i j hij c g e
    · rw [if_neg c, if_pos (by omega)]
      intro e2
      have h1 := hlt i (by omega) g e
      have h2 := hB g e2
      omega
end Go.Proofs.YtmmmglblkampcaaDoor
namespace Go.Proofs.YtmmmglblkampcaaDoor
def cellOkB (l : List Ce) (i : Nat) : Bool :=
  (atC l i).st.ok && (if (atC l i).part = 0 then decide (widthV (atC l i).rune = 1)
    else if (atC l i).part = 1 then decide (widthV (atC l i).rune = 2) && (decide (i + 1 < l.length) && (decide ((atC l (i + 1)).part = 2) && decide ((atC l (i + 1)).st = (atC l i).st)))
    else if (atC l i).part = 2 then decide ((atC l i).rune = 0) && (decide (0 < i) && decide ((atC l (i - 1)).part = 1))
    else false)
def rowOkB (l : List Ce) : Bool := decide (1 ≤ l.length ∧ l.length ≤ 60) && (List.range l.length).all (cellOkB l)
theorem rowOkB_no (l : List Ce) (i : Nat) (hi : i < l.length) (h : cellOkB l i = false) : rowOkB l = false := by
  unfold rowOkB
  have : (List.range l.length).all (cellOkB l) = false := by
    rw [List.all_eq_false]
    exact ⟨i, List.mem_range.2 hi, by simp [h]⟩
  rw [this, Bool.and_false]
theorem rowOkB_len (l : List Ce) (h : ¬ (1 ≤ l.length ∧ l.length ≤ 60)) : rowOkB l = false := by
  unfold rowOkB
  rw [decide_eq_false h, Bool.false_and]
theorem rowOkB_yes (l : List Ce) (h : 1 ≤ l.length ∧ l.length ≤ 60) (ha : ∀ i, i < l.length → cellOkB l i = true) : rowOkB l = true := by
  unfold rowOkB
  rw [decide_eq_true h, Bool.true_and, List.all_eq_true]
  exact fun i hi => ha i (List.mem_range.1 hi)
theorem rowOkB_iff (l : List Ce) : rowOkB l = true ↔ (1 ≤ l.length ∧ l.length ≤ 60) ∧ ∀ i, i < l.length → cellOkB l i = true := by
  constructor
  · intro h
    unfold rowOkB at h
    rw [Bool.and_eq_true, decide_eq_true_eq, List.all_eq_true] at h
    exact ⟨h.1, fun i hi => h.2 i (List.mem_range.2 hi)⟩
  · rintro ⟨h1, h2⟩; exact rowOkB_yes l h1 h2
end Go.Proofs.YtmmmglblkampcaaDoor
namespace Go.Proofs.YtmmmglblkampcaaDoor
def fitB (cols : Int) (r : List Ce) : Bool := decide ((r.length : Int) = cols) && rowOkB r
def gridOkB (cols : Int) (rows : List (List Ce)) : Bool := decide (1 ≤ cols ∧ cols ≤ 60) && (decide (1 ≤ rows.length ∧ rows.length ≤ 30) && rows.all (fitB cols))
theorem gridOk_cols {cols : Int} {rows : List (List Ce)} (h : ¬ (1 ≤ cols ∧ cols ≤ 60)) : gridOkB cols rows = false := by
  unfold gridOkB; rw [decide_eq_false h, Bool.false_and]
theorem gridOk_len {cols : Int} {rows : List (List Ce)} (h : ¬ (1 ≤ rows.length ∧ rows.length ≤ 30)) : gridOkB cols rows = false := by
  unfold gridOkB; rw [decide_eq_false h, Bool.false_and, Bool.and_false]
theorem gridOk_iff (cols : Int) (rows : List (List Ce)) : gridOkB cols rows = true ↔ (1 ≤ cols ∧ cols ≤ 60) ∧ (1 ≤ rows.length ∧ rows.length ≤ 30) ∧ ∀ i, i < rows.length → fitB cols (rows.getD i []) = true := by
  unfold gridOkB
  rw [Bool.and_eq_true, Bool.and_eq_true, decide_eq_true_eq, decide_eq_true_eq, List.all_eq_true]
  constructor
  · rintro ⟨h1, h2, h3⟩
    refine ⟨h1, h2, fun i hi => h3 _ ?_⟩
    have : rows.getD i [] = rows[i] := by simp [List.getD, hi]
    rw [this]; exact List.getElem_mem hi
  · rintro ⟨h1, h2, h3⟩
    refine ⟨h1, h2, fun r hr => ?_⟩
    obtain ⟨i, hi, e⟩ := List.getElem_of_mem hr
    have := h3 i hi
    have e2 : rows.getD i [] = rows[i] := by simp [List.getD, hi]
    rw [e2, e] at this; exact this
theorem gridOk_no {cols : Int} {rows : List (List Ce)} {i : Nat} (hi : i < rows.length) (h : fitB cols (rows.getD i []) = false) : gridOkB cols rows = false := by
  cases hg : gridOkB cols rows with
  | false => rfl
  | true =>
    have := ((gridOk_iff cols rows).1 hg).2.2 i hi
    rw [h] at this; cases this
/-- The rows from a to b move, by less than 0 downwards. -/
def moveR (cols : Nat) (rows : List (List Ce)) (a b : Nat) (n : Int) (s : St) : List (List Ce) :=
  (List.range rows.length).map fun i => if a ≤ i ∧ i ≤ b then (if (a : Int) ≤ i + n ∧ (i : Int) + n ≤ b then rows.getD ((i : Int) + n).toNat [] else rowL cols s) else rows.getD i []
def toldB (cols : Int) (rows : List (List Ce)) (top bottom n : Int) (s : St) : Bool :=
  gridOkB cols rows && (s.ok && (decide (0 ≤ top ∧ top ≤ bottom) && (decide (bottom < rows.length) && decide (0 ≤ n ∧ n ≤ 1000))))
end Go.Proofs.YtmmmglblkampcaaDoor
namespace Go.Proofs.YtmmmglblkampcaaDoor
open Go.ChangeShapes Go.WideShapes Go.ChangeAt Go.RowKit
def gridV (cols : Int) (v : Value) : Value := .agg #[.int .i64 cols, v]
/-- A grid in a block of its own. -/
def GrN (w : World) (B : Nat) (cols : Int) (v : Value) : Prop := B < w.heap.size ∧ w.cell? ⟨B, 0, none⟩ = some (.int .i64 cols) ∧ w.cell? ⟨B, 1, none⟩ = some v
theorem GrN.new (w : World) (cols : Int) (v : Value) (t : TypeId) : GrN (w.alloc (.cells #[.int .i64 cols, v] t)) w.heap.size cols v := ⟨by simp, by simp [go_sem], by simp [go_sem]⟩
theorem GrN.below {w w' : World} {B : Nat} {cols : Int} {v : Value} (h : GrN w B cols v) (hb : Below w.heap.size w w') : GrN w' B cols v :=
  ⟨Nat.lt_of_lt_of_le h.1 hb.size, (hb.cell (p := ⟨B, 0, none⟩) h.1).trans h.2.1, (hb.cell (p := ⟨B, 1, none⟩) h.1).trans h.2.2⟩
end Go.Proofs.YtmmmglblkampcaaDoor
namespace Go.Proofs.YtmmmglblkampcaaDoor
open Go.ChangeShapes Go.WideShapes Go.ChangeAt Go.RowKit
section
variable {H : Type} {enc : TypeId × Value → H} {w : World} {base : Nat} {spare : Nat → Bool} {held : Bool}
set_option maxRecDepth 20000 in
theorem cells_tr {fuel : Nat} {cs : List Value} {y : DataW H × List MemPlace} (hf : DataW.trod enc Tryd.prog w base spare held fuel 97 cs = some y) :
    ∃ (v : Value) (xs : List Ce), cs = [v] ∧ SlC w v xs ∧ xs.length ≤ maxLen := by
  have e : Tryd.prog.cellsOf 120 = 7 := by kernel_rfl
  rcases Go.Deep.open_slice Tryd.underlying97 hf with ⟨hcs, _⟩ | ⟨x, len, cap, m, n, D, Pl, hcs, _, hl, hm, hmm, _, hx⟩
  · exact ⟨_, [], hcs, ⟨none, 0, rfl, Nat.le_refl _, fun _ => rfl, .inl rfl⟩, by simp⟩
  · have hlm : len ≤ m := by rw [hmm]; split <;> omega
    rw [e] at hx
    obtain ⟨f, hfc⟩ := Go.Deep.choose_lt (α := Ce) (n := len) (p := fun i q => w.cells? base (x.add (i * 7)) 7 = some (ceL q)) (fun i hi => by
      obtain ⟨cs', h1, h2⟩ := hx i (by omega)
      obtain ⟨q, rfl⟩ := cell_cs h2
      exact ⟨q, h1⟩)
    have hlen : ((List.range len).map f).length = len := by simp
    refine ⟨_, (List.range len).map f, hcs, ⟨some x, cap, by rw [hlen], by rw [hlen]; exact hl, (fun h => by cases h), ?_⟩, by rw [hlen]; omega⟩
    by_cases h0 : len = 0
    · left; subst h0; rfl
    · right
      have hc : ∀ i, i < len → ∀ k, k < 7 → w.cell? ((x.add (i * 7)).add k) = (ceL (f i))[k]? := fun i hi k hk => by
        obtain ⟨_, hl7, hcell⟩ := World.cells?_some (hfc i hi)
        exact hcell k hk
      obtain ⟨b, off, spot⟩ := x
      have h1 := hc 0 (by omega) 0 (by decide)
      have hspot : spot = none := by
        have h1' : w.cell? ((⟨b, off, spot⟩ : Addr).add 0) = some (.int .i64 (f 0).rune) := by simpa [Addr.add, ceL] using h1
        simpa [Addr.add] using World.cell?_spot h1'
      subst hspot
      refine ⟨b, off, rfl, ?_, fun i hi => ?_⟩
      · have h1' : w.cell? ((⟨b, off, none⟩ : Addr).add 0) = some (.int .i64 (f 0).rune) := by simpa [Addr.add, ceL] using h1
        exact World.block_lt_of_cell? w _ h1'
      · rw [hlen] at hi
        have ef : atC ((List.range len).map f) i = f i := by simp [atC, hi]
        rw [ef]
        have g := fun k hk => hc i hi k hk
        have ea : ∀ k, (((⟨b, off, none⟩ : Addr).add (i * 7)).add k) = ⟨b, off + i * 7 + k, none⟩ := fun k => by rw [Addr.add_mid, Addr.add_mid]
        simp only [ea] at g
        exact ⟨by simpa [ceL] using g 0 (by decide), by simpa [ceL] using g 1 (by decide), by simpa [ceL] using g 2 (by decide), by simpa [ceL] using g 3 (by decide), by simpa [ceL] using g 4 (by decide), by simpa [ceL] using g 5 (by decide), by simpa [ceL] using g 6 (by decide)⟩
set_option maxRecDepth 20000 in
theorem rows_tr {fuel : Nat} {cs : List Value} {y : DataW H × List MemPlace} (hf : DataW.trod enc Tryd.prog w base spare held fuel 44 cs = some y) :
    ∃ (v : Value) (rows : List (List Ce)), cs = [v] ∧ SlG w v rows ∧ rows.length ≤ maxLen ∧ ∀ i, i < rows.length → (rowX rows i).length ≤ maxLen := by
  have e : Tryd.prog.cellsOf 97 = 1 := by kernel_rfl
  rcases Go.Deep.open_slice1 Tryd.underlying44 e hf with ⟨hcs, _⟩ | ⟨x, len, cap, m, n, V, D, Pl, hcs, _, hl, hm, hmm, _, hx⟩
  · exact ⟨_, [], hcs, ⟨none, 0, [], rfl, Nat.le_refl _, fun _ => rfl, .inl rfl, fun i h => absurd h (Nat.not_lt_zero i)⟩, by simp, fun i h => absurd h (Nat.not_lt_zero i)⟩
  · have hlm : len ≤ m := by rw [hmm]; split <;> omega
    obtain ⟨f, hfc⟩ := Go.Deep.choose_lt (α := List Ce) (n := len) (p := fun i xs => SlC w (V i) xs ∧ xs.length ≤ maxLen) (fun i hi => by
      obtain ⟨h1, h2⟩ := hx i (by omega)
      obtain ⟨v, xs, hv, hs, hle⟩ := cells_tr h2
      simp at hv
      subst hv
      exact ⟨xs, hs, hle⟩)
    have hlen : ((List.range len).map f).length = len := by simp
    have hvl : ((List.range len).map V).length = len := by simp
    have hX : ∀ i, i < len → rowX ((List.range len).map f) i = f i := fun i hi => by simp [rowX, List.getD, hi]
    have hV : ∀ i, i < len → rowV ((List.range len).map V) i = V i := fun i hi => by simp [rowV, List.getD, hi]
    refine ⟨_, (List.range len).map f, hcs, ⟨some x, cap, (List.range len).map V, by rw [hlen], by rw [hlen]; exact hl, (fun h => by cases h), ?_, fun i hi => ?_⟩, by rw [hlen]; omega, fun i hi => ?_⟩
    · by_cases h0 : len = 0
      · left; subst h0; rfl
      · right
        obtain ⟨b, off, spot⟩ := x
        have h1 := (hx 0 (by omega)).1
        have h1c : w.cell? ⟨b, off, spot⟩ = some (V 0) := by
          have : (⟨b, off, spot⟩ : Addr).add 0 = ⟨b, off, spot⟩ := by unfold Addr.add; split <;> simp_all
          rwa [this] at h1
        have hspot : spot = none := World.cell?_spot h1c
        subst hspot
        refine ⟨b, off, rfl, World.block_lt_of_cell? w _ h1c, fun i hi => ?_⟩
        rw [hlen] at hi
        rw [hV i hi, ← (hx i (by omega)).1, Addr.add_mid]
    · rw [hlen] at hi
      rw [hV i hi, hX i hi]
      exact (hfc i hi).1
    · rw [hlen] at hi
      rw [hX i hi]
      exact (hfc i hi).2
set_option maxRecDepth 20000 in
theorem grid_view {b0 : Nat} {r : Reach} {v : Value} {d : DataW H} {p : List MemPlace} (hv : Value.okWide Tryd.prog w r b0 46 v) (h : DataW.Trod enc Tryd.prog w base spare held 46 v d p) :
    ∃ (cols : Int) (u : Value) (rows : List (List Ce)), v = gridV cols u ∧ SlG w u rows ∧ rows.length ≤ maxLen ∧ ∀ i, i < rows.length → (rowX rows i).length ≤ maxLen := by
  obtain ⟨cs, rfl, hsz⟩ := okWide_struct Tryd.underlying46 hv
  obtain ⟨fuel, hf⟩ := h
  obtain ⟨xs, n, _, _, hl, hlen, hfs⟩ := DataW.trod_struct Tryd.underlying46 hf
  have e : Tryd.prog.cellsOf 46 = 2 := by kernel_rfl
  have ei : Tryd.prog.cellsOf 2 = 1 := by kernel_rfl
  have er : Tryd.prog.cellsOf 44 = 1 := by kernel_rfl
  obtain ⟨l⟩ := cs
  match l, hsz.trans e, xs, hlen with
  | [c0, c1], _, [x0, x1], _ =>
    have h0 := hfs 0 _ rfl
    have h1 := hfs 1 _ rfl
    simp [Value.cells, ei, er] at h0 h1
    obtain ⟨k0, q0, _, _⟩ := DataW.trod_int Tryd.underlying2 h0
    obtain ⟨u, rows, q1, hs, hle, hxl⟩ := rows_tr h1
    simp at q0 q1
    subst q0; subst q1
    exact ⟨_, _, rows, rfl, hs, hle, hxl⟩
end
end Go.Proofs.YtmmmglblkampcaaDoor
namespace Go.Proofs.YtmmmglblkampcaaDoor
open Go.ChangeShapes Go.WideShapes Go.ChangeAt Go.RowKit
theorem eqStyle_same (s : St) (w : World) :
    Calls Tryd.prog 105 #[stV s, stV s] w fun e w' => e = .returned (.bool true) ∧ Below w.heap.size w w' := by
  obtain ⟨f, b, bo, un, tu⟩ := s
  unfold stV
  simp only
  go_enter Tryd.func105, Tryd.ntmps105
  go_wp2
  go_ret
  exact ⟨rfl, ((Below.refl _ _).alloc (Nat.le_refl _) _).alloc (by simp) _⟩
end Go.Proofs.YtmmmglblkampcaaDoor
namespace Go.Proofs.YtmmmglblkampcaaDoor
open Go.ChangeShapes Go.WideShapes Go.ChangeAt Go.RowKit
/-- A cell whole in block B, writable. -/
def CeF (w : World) (B : Nat) (c : Ce) : Prop :=
  B < w.heap.size ∧ (w.cell? ⟨B, 0, none⟩ = some (.int .i64 c.rune) ∧ w.cell? ⟨B, 1, none⟩ = some (.int .i64 c.st.fore) ∧ w.cell? ⟨B, 2, none⟩ = some (.int .i64 c.st.back) ∧ w.cell? ⟨B, 3, none⟩ = some (.bool c.st.bold) ∧ w.cell? ⟨B, 4, none⟩ = some (.bool c.st.under) ∧ w.cell? ⟨B, 5, none⟩ = some (.bool c.st.turned) ∧ w.cell? ⟨B, 6, none⟩ = some (.int .i64 c.part)) ∧
    (w.frozen? ⟨B, 0, none⟩ = false ∧ w.frozen? ⟨B, 1, none⟩ = false ∧ w.frozen? ⟨B, 2, none⟩ = false ∧ w.frozen? ⟨B, 3, none⟩ = false ∧ w.frozen? ⟨B, 4, none⟩ = false ∧ w.frozen? ⟨B, 5, none⟩ = false ∧ w.frozen? ⟨B, 6, none⟩ = false)
theorem CeF.new (w : World) (c : Ce) (t : TypeId) : CeF (w.alloc (.cells #[.int .i64 c.rune, .int .i64 c.st.fore, .int .i64 c.st.back, .bool c.st.bold, .bool c.st.under, .bool c.st.turned, .int .i64 c.part] t)) w.heap.size c :=
  ⟨by simp, ⟨by simp [go_sem], by simp [go_sem], by simp [go_sem], by simp [go_sem], by simp [go_sem], by simp [go_sem], by simp [go_sem]⟩, ⟨by simp [go_sem], by simp [go_sem], by simp [go_sem], by simp [go_sem], by simp [go_sem], by simp [go_sem], by simp [go_sem]⟩⟩
theorem CeF.grown {w w' : World} {B : Nat} {c : Ce} {row : Option Nat} (h : CeF w B c) (hg : w.grownBy w' row) (hr : row ≠ some B) : CeF w' B c := by
  have hb := hg.block B h.1 (Ne.symm hr)
  have hc : ∀ k, w'.cell? ⟨B, k, none⟩ = w.cell? ⟨B, k, none⟩ := fun k => World.cell?_of_block (w := w) hb
  have hz : ∀ k, w'.frozen? ⟨B, k, none⟩ = w.frozen? ⟨B, k, none⟩ := fun k => World.frozen?_of_block (w := w) hb
  refine ⟨Nat.lt_of_lt_of_le h.1 hg.size, ?_, ?_⟩
  · rw [hc, hc, hc, hc, hc, hc, hc]; exact h.2.1
  · rw [hz, hz, hz, hz, hz, hz, hz]; exact h.2.2
theorem CeF.below {w w' : World} {B : Nat} {c : Ce} (h : CeF w B c) (hb : Below w.heap.size w w') : CeF w' B c := h.grown (gbl hb none) (by simp)
/-- Another cell is written there whole. -/
def putF (w : World) (B : Nat) (c : Ce) : World := (((((((w.setCell ⟨B, 0, none⟩ (.int .i64 c.rune)).setCell ⟨B, 1, none⟩ (.int .i64 c.st.fore)).setCell ⟨B, 2, none⟩ (.int .i64 c.st.back)).setCell ⟨B, 3, none⟩ (.bool c.st.bold)).setCell ⟨B, 4, none⟩ (.bool c.st.under)).setCell ⟨B, 5, none⟩ (.bool c.st.turned)).setCell ⟨B, 6, none⟩ (.int .i64 c.part))
theorem putF_grown (w : World) (B : Nat) (c : Ce) : w.grownBy (putF w B c) (some B) :=
  grown_tr (grown_tr (grown_tr (grown_tr (grown_tr (grown_tr (setCell_gr w B 0 _) (setCell_gr _ B 1 _)) (setCell_gr _ B 2 _)) (setCell_gr _ B 3 _)) (setCell_gr _ B 4 _)) (setCell_gr _ B 5 _)) (setCell_gr _ B 6 _)
theorem CeF.put {w : World} {B : Nat} {c : Ce} (h : CeF w B c) (c' : Ce) : CeF (putF w B c') B c' := by
  obtain ⟨hlt, ⟨c0, c1, c2, c3, c4, c5, c6⟩, ⟨z0, z1, z2, z3, z4, z5, z6⟩⟩ := h
  refine ⟨by simpa [putF] using hlt, ⟨?_, ?_, ?_, ?_, ?_, ?_, ?_⟩, ⟨?_, ?_, ?_, ?_, ?_, ?_, ?_⟩⟩
  all_goals simp only [putF]
  · rw [setCell_ne' _ _ _ _ _ (by decide), setCell_ne' _ _ _ _ _ (by decide), setCell_ne' _ _ _ _ _ (by decide), setCell_ne' _ _ _ _ _ (by decide), setCell_ne' _ _ _ _ _ (by decide), setCell_ne' _ _ _ _ _ (by decide)]; simp [go_sem, c0]
  · rw [setCell_ne' _ _ _ _ _ (by decide), setCell_ne' _ _ _ _ _ (by decide), setCell_ne' _ _ _ _ _ (by decide), setCell_ne' _ _ _ _ _ (by decide), setCell_ne' _ _ _ _ _ (by decide)]; simp [go_sem, c1]
  · rw [setCell_ne' _ _ _ _ _ (by decide), setCell_ne' _ _ _ _ _ (by decide), setCell_ne' _ _ _ _ _ (by decide), setCell_ne' _ _ _ _ _ (by decide)]; simp [go_sem, c2]
  · rw [setCell_ne' _ _ _ _ _ (by decide), setCell_ne' _ _ _ _ _ (by decide), setCell_ne' _ _ _ _ _ (by decide)]; simp [go_sem, c3]
  · rw [setCell_ne' _ _ _ _ _ (by decide), setCell_ne' _ _ _ _ _ (by decide)]; simp [go_sem, c4]
  · rw [setCell_ne' _ _ _ _ _ (by decide)]; simp [go_sem, c5]
  · simp [go_sem, c6]
  · simp [go_sem, z0]
  · simp [go_sem, z1]
  · simp [go_sem, z2]
  · simp [go_sem, z3]
  · simp [go_sem, z4]
  · simp [go_sem, z5]
  · simp [go_sem, z6]
theorem SlC.src {w : World} {a : Option Addr} {n c : Nat} {xs : List Ce} (h : SlC w (.slice a n c) xs) (h0 : 0 < xs.length) : ∃ b off, a = some ⟨b, off, none⟩ ∧ ∀ i, i < xs.length → CeAt w b (off + i * 7) (atC xs i) := by
  obtain ⟨a', c', e, _, _, hr⟩ := h
  simp only [Value.slice.injEq] at e
  obtain ⟨rfl, _, rfl⟩ := e
  rcases hr with h | ⟨b, off, ha, _, hi⟩
  · rw [h] at h0; simp at h0
  · exact ⟨b, off, ha, hi⟩
end Go.Proofs.YtmmmglblkampcaaDoor
namespace Go.Proofs.YtmmmglblkampcaaDoor
open Go.ChangeShapes Go.WideShapes Go.ChangeAt Go.RowKit
def BS (a w : World) : Prop := Below a.heap.size a w ∧ a.heap.size ≤ w.heap.size
theorem BS.out {a w : World} (h : BS a w) : Below a.heap.size a w := h.1
theorem BS.set {a w : World} (h : BS a w) (g k : Nat) (u : Value) (hg : a.heap.size ≤ g) : BS a (w.setCell ⟨g, k, none⟩ u) :=
  ⟨h.1.grown (setCell_gr w g k u) h.2 (fun k hk => by cases hk; exact hg), by simpa using h.2⟩
set_option maxHeartbeats 1000000 in
theorem eqCell_same (c : Ce) (w : World) :
    Calls Tryd.prog 97 #[ceV c, ceV c] w fun e w' => e = .returned (.bool true) ∧ Below w.heap.size w w' := by
  have heq := fun W => eqStyle_same c.st W
  have b1 := bal' w (Obj.cells #[.int .i64 c.rune, .int .i64 c.st.fore, .int .i64 c.st.back, .bool c.st.bold, .bool c.st.under, .bool c.st.turned, .int .i64 c.part] 65)
  have b2 := b1.trans ((bal' _ (Obj.cells #[.int .i64 c.rune, .int .i64 c.st.fore, .int .i64 c.st.back, .bool c.st.bold, .bool c.st.under, .bool c.st.turned, .int .i64 c.part] 65)).mono b1.size)
  have s2 := (CeF.new w c 65).below (bal' _ (Obj.cells #[.int .i64 c.rune, .int .i64 c.st.fore, .int .i64 c.st.back, .bool c.st.bold, .bool c.st.under, .bool c.st.turned, .int .i64 c.part] 65))
  have r2 := CeF.new (w.alloc (Obj.cells #[.int .i64 c.rune, .int .i64 c.st.fore, .int .i64 c.st.back, .bool c.st.bold, .bool c.st.under, .bool c.st.turned, .int .i64 c.part] 65)) c 65
  have z1 : (w.alloc (Obj.cells #[.int .i64 c.rune, .int .i64 c.st.fore, .int .i64 c.st.back, .bool c.st.bold, .bool c.st.under, .bool c.st.turned, .int .i64 c.part] 65)).heap.size = w.heap.size + 1 := by simp
  rw [z1] at r2
  unfold ceV stV at *
  go_enter Tryd.func97, Tryd.ntmps97
  go_wp2_with fail
  refine (heq _).mono ?_
  rintro e w1 ⟨rfl, hb1⟩
  have s3 := s2.below hb1
  have r3 := r2.below hb1
  have b3 := b2.trans (hb1.mono b2.size)
  clear s2 r2 b1 b2 hb1 z1 heq
  obtain ⟨_, ⟨c0, c1, c2, c3, c4, c5, c6⟩, _⟩ := s3
  obtain ⟨_, ⟨d0, d1, d2, d3, d4, d5, d6⟩, _⟩ := r3
  go_wp2
  go_ret
  exact ⟨rfl, b3⟩
end Go.Proofs.YtmmmglblkampcaaDoor
namespace Go.Proofs.YtmmmglblkampcaaDoor
open Go.ChangeShapes Go.WideShapes Go.ChangeAt Go.RowKit
theorem toStyle_any (s : St) (w : World) :
    Calls Tryd.prog 26 #[stV s] w fun e w' => e = .returned (stV s) ∧ Below w.heap.size w w' := by
  obtain ⟨f, b, bo, un, tu⟩ := s
  unfold stV
  simp only
  go_enter Tryd.func26, Tryd.ntmps26
  go_wp2
  refine bodyPost_ret (v := .agg #[.int .i64 f, .int .i64 b, .bool bo, .bool un, .bool tu]) (by simp [results, Tryd.results26, go_sem]) rfl ⟨rfl, ?_⟩
  exact (((Below.refl _ _).alloc (Nat.le_refl _) _).alloc (by simp) _).alloc (by simp; omega) _
end Go.Proofs.YtmmmglblkampcaaDoor
namespace Go.Proofs.YtmmmglblkampcaaDoor
open Go.ChangeShapes Go.WideShapes Go.ChangeAt Go.RowKit
theorem szC_any (v : Value) (xs : List Ce) (left : Nat) (w : World) (hv : SlC w v xs) (hl : xs.length ≤ maxLen) (hf : left ≤ 4611686018427387904) :
    Calls Tryd.prog 77 #[v, .int .i64 left] w fun e w' => e = .returned (.int .i64 (if left < xs.length then -1 else ((left - xs.length : Nat) : Int))) ∧ w' = w := by
  unfold maxLen at hl
  obtain ⟨a, c, rfl, _⟩ := hv
  generalize xs.length = n at *
  by_cases h : left < n
  · have h2 : (left : Int) - (n : Int) < 0 := by omega
    rw [if_pos h]
    go_enter Tryd.func77, Tryd.ntmps77
    go_wp2
    go_ret
    exact ⟨rfl, rfl⟩
  · have h2 : ¬ (left : Int) - (n : Int) < 0 := by omega
    have h3 : Hid (((left - n : Nat) : Int) = (left : Int) - (n : Int)) := by show _ = _; omega
    rw [if_neg h]
    go_enter Tryd.func77, Tryd.ntmps77
    go_wp2
    go_ret
    exact ⟨by rw [h3.out]; rfl, rfl⟩
set_option maxHeartbeats 1000000 in
theorem toCell_any (c : Ce) (w : World) :
    Calls Tryd.prog 96 #[ceV c] w fun e w' => e = .returned (ceV c) ∧ Below w.heap.size w w' := by
  have hto := fun W => toStyle_any c.st W
  have b1 := bal' w (Obj.cells #[.int .i64 c.rune, .int .i64 c.st.fore, .int .i64 c.st.back, .bool c.st.bold, .bool c.st.under, .bool c.st.turned, .int .i64 c.part] 120)
  have b2 := b1.trans ((bal' _ (Obj.cells #[.int .i64 0, .int .i64 0, .int .i64 0, .bool false, .bool false, .bool false, .int .i64 0] 65)).mono b1.size)
  have b3 := b2.trans ((bal' _ (Obj.cells #[.int .i64 c.rune, .int .i64 0, .int .i64 0, .bool false, .bool false, .bool false, .int .i64 0] 65)).mono b2.size)
  have s3 := ((CeF.new w c 120).below (bal' _ (Obj.cells #[.int .i64 0, .int .i64 0, .int .i64 0, .bool false, .bool false, .bool false, .int .i64 0] 65))).below (bal' _ (Obj.cells #[.int .i64 c.rune, .int .i64 0, .int .i64 0, .bool false, .bool false, .bool false, .int .i64 0] 65))
  have r3 := (CeF.new (w.alloc (Obj.cells #[.int .i64 c.rune, .int .i64 c.st.fore, .int .i64 c.st.back, .bool c.st.bold, .bool c.st.under, .bool c.st.turned, .int .i64 c.part] 120)) Ce.zero 65).below (bal' _ (Obj.cells #[.int .i64 c.rune, .int .i64 0, .int .i64 0, .bool false, .bool false, .bool false, .int .i64 0] 65))
  have o3 := CeF.new ((w.alloc (Obj.cells #[.int .i64 c.rune, .int .i64 c.st.fore, .int .i64 c.st.back, .bool c.st.bold, .bool c.st.under, .bool c.st.turned, .int .i64 c.part] 120)).alloc (Obj.cells #[.int .i64 0, .int .i64 0, .int .i64 0, .bool false, .bool false, .bool false, .int .i64 0] 65)) ⟨c.rune, St.zero, 0⟩ 65
  have z1 : (w.alloc (Obj.cells #[.int .i64 c.rune, .int .i64 c.st.fore, .int .i64 c.st.back, .bool c.st.bold, .bool c.st.under, .bool c.st.turned, .int .i64 c.part] 120)).heap.size = w.heap.size + 1 := by simp
  have z2 : ((w.alloc (Obj.cells #[.int .i64 c.rune, .int .i64 c.st.fore, .int .i64 c.st.back, .bool c.st.bold, .bool c.st.under, .bool c.st.turned, .int .i64 c.part] 120)).alloc (Obj.cells #[.int .i64 0, .int .i64 0, .int .i64 0, .bool false, .bool false, .bool false, .int .i64 0] 65)).heap.size = w.heap.size + 1 + 1 := by simp
  rw [z1] at r3
  rw [z2] at o3
  simp only [Ce.zero, St.zero] at r3 o3
  unfold ceV stV at *
  go_enter Tryd.func96, Tryd.ntmps96
  go_wp2_with fail
  refine (hto _).mono ?_
  rintro e w1 ⟨rfl, hb1⟩
  have s4 := s3.below hb1
  have r4 := r3.below hb1
  have o4 := o3.below hb1
  have b4 := b3.trans (hb1.mono b3.size)
  clear s3 r3 o3 b1 b2 b3 hb1 z1 z2 hto
  obtain ⟨_, ⟨c0, c1, c2, c3, c4, c5, c6⟩, _⟩ := s4
  obtain ⟨_, ⟨d0, d1, d2, d3, d4, d5, d6⟩, ⟨x0, x1, x2, x3, x4, x5, x6⟩⟩ := r4
  obtain ⟨_, ⟨e0, e1, e2, e3, e4, e5, e6⟩, ⟨y0, y1, y2, y3, y4, y5, y6⟩⟩ := o4
  go_wp2
  refine bodyPost_ret (v := .agg #[.int .i64 c.rune, .int .i64 c.st.fore, .int .i64 c.st.back, .bool c.st.bold, .bool c.st.under, .bool c.st.turned, .int .i64 c.part]) (by simp [results, Tryd.results96, go_sem, setCell_ne', *]) rfl ⟨rfl, ?_⟩
  clear c0 c1 c2 c3 c4 c5 c6 d0 d1 d2 d3 d4 d5 d6 e0 e1 e2 e3 e4 e5 e6 x0 x1 x2 x3 x4 x5 x6 y0 y1 y2 y3 y4 y5 y6
  have bs : BS w w1 := ⟨b4, b4.size⟩
  refine BS.out ?_
  repeat (first | with_reducible exact bs | with_reducible refine BS.set ?_ _ _ _ (by omega))
end Go.Proofs.YtmmmglblkampcaaDoor
namespace Go.Proofs.YtmmmglblkampcaaDoor
open Go.ChangeShapes Go.WideShapes Go.ChangeAt Go.RowKit
/-- What is left of a size behind the first rows. -/
def leftG (rows : List (List Ce)) (left : Nat) : Nat → Option Nat
  | 0 => if left < rows.length then none else some (left - rows.length)
  | j + 1 => match leftG rows left j with
    | none => none
    | some m => if m < (rowX rows j).length then none else some (m - (rowX rows j).length)
def szG (rows : List (List Ce)) (left : Nat) : Int := match leftG rows left rows.length with | none => -1 | some m => m
theorem leftG_none {rows : List (List Ce)} {left j : Nat} (h : leftG rows left j = none) : ∀ k, j ≤ k → leftG rows left k = none
  | 0, hk => by have : j = 0 := by omega
                subst this; exact h
  | k + 1, hk => by
    by_cases e : j = k + 1
    · subst e; exact h
    · have := leftG_none h k (by omega)
      rw [leftG, this]
theorem leftG_le {rows : List (List Ce)} {left : Nat} : ∀ {j m : Nat}, leftG rows left j = some m → m ≤ left ∧ rows.length ≤ left ∧ ∀ i, i < j → (rowX rows i).length ≤ left
  | 0, m, h => by
    rw [leftG] at h
    split at h
    · cases h
    · cases h; exact ⟨by omega, by omega, fun i hi => absurd hi (Nat.not_lt_zero i)⟩
  | j + 1, m, h => by
    rw [leftG] at h
    split at h
    · cases h
    · rename_i q hq
      split at h
      · cases h
      · cases h
        obtain ⟨h1, h2, h3⟩ := leftG_le hq
        refine ⟨by omega, h2, fun i hi => ?_⟩
        by_cases e : i = j
        · subst e; omega
        · exact h3 i (by omega)
set_option maxHeartbeats 2000000 in
theorem szCSS_any (v : Value) (rows : List (List Ce)) (left : Nat) (w : World) (hv : SlG w v rows) (hl : rows.length ≤ maxLen) (hx : ∀ i, i < rows.length → (rowX rows i).length ≤ maxLen) (hf : left ≤ 4611686018427387904) :
    Calls Tryd.prog 53 #[v, .int .i64 left] w fun e w' => e = .returned (.int .i64 (szG rows left)) ∧ w' = w := by
  unfold maxLen at hl
  obtain ⟨a, c, vs, rfl, hcp, _, hr, hs⟩ := id hv
  by_cases h : left < rows.length
  · have h2 : (left : Int) - (rows.length : Int) < 0 := by omega
    have hz : Hid (szG rows left = -1) := by show _ = _; unfold szG; rw [leftG_none (j := 0) (by rw [leftG, if_pos h]) _ (Nat.zero_le _)]
    clear hs hr
    go_enter Tryd.func53, Tryd.ntmps53
    go_wp2
    go_ret
    exact ⟨by rw [hz.out]; rfl, rfl⟩
  · have h2 : ¬ (left : Int) - (rows.length : Int) < 0 := by omega
    have h3 : Hid (leftG rows left 0 = some (left - rows.length)) := by show _ = _; rw [leftG, if_neg h]
    have h4 : Hid ((left : Int) - (rows.length : Int) = ((left - rows.length : Nat) : Int)) := by show _ = _; omega
    go_enter Tryd.func53, Tryd.ntmps53
    go_wp2
    go_loopw [1, 5] (fun u i wr => ∃ j m : Nat, i = .int .i64 j ∧ u = .int .i64 m ∧ j ≤ rows.length ∧ Hid (leftG rows left j = some m) ∧ wr = w) (fun _ i _ => rows.length - (intOf i).toNat)
    case atStart => exact ⟨0, left - rows.length, rfl, by rw [← h4.out], Nat.zero_le _, h3, rfl⟩
    case round =>
      clear h3 h4 h2 h
      obtain ⟨j, m, rfl, rfl, hj, hm, hw⟩ := hrel
      subst hw
      by_cases hlt : j < rows.length
      · have hji : (j : Int) < (rows.length : Int) := by omega
        have hj0 : (0 : Int) ≤ (j : Int) := by omega
        rcases hr with h | ⟨b, off, rfl, hbb, hrc⟩
        · rw [h] at hlt; simp at hlt
        have hsj := hs j hlt
        have hcj := hrc j hlt
        obtain ⟨aj, cj, ev, _⟩ := id hsj
        rw [ev] at hcj hsj
        have hsz := szC_any _ _ m wr hsj (hx j hlt) (by have := (leftG_le hm.out).1; omega)
        clear hs hrc ev hsj hv
        by_cases h5 : m < (rowX rows j).length
        · have hz : Hid (szG rows left = -1) := by show _ = _; unfold szG; rw [leftG_none (j := j + 1) (by rw [leftG, hm.out]; simp [h5]) _ hlt]
          rw [if_pos h5] at hsz
          go_wp2_with fail
          refine hsz.mono ?_
          rintro e w2 ⟨rfl, hw2⟩
          subst hw2
          go_wp2
          go_ret
          exact ⟨by rw [hz.out]; rfl, rfl⟩
        · have hm2 : Hid (leftG rows left (j + 1) = some (m - (rowX rows j).length)) := by show _ = _; rw [leftG, hm.out]; simp [h5]
          have h6 : ¬ (((m - (rowX rows j).length : Nat) : Int) < 0) := by omega
          rw [if_neg h5] at hsz
          generalize m - (rowX rows j).length = m2 at *
          go_wp2_with fail
          refine hsz.mono ?_
          rintro e w2 ⟨rfl, hw2⟩
          subst hw2
          go_wp2
          go_roundw
          case rel => exact ⟨j + 1, m2, by go_num, rfl, by omega, hm2, trivial⟩
          case measure => simp [intOf]; omega
      · have hjn : j = rows.length := by omega
        have hji : ¬ (j : Int) < (rows.length : Int) := by omega
        subst hjn
        have hz : Hid (szG rows left = (m : Int)) := by show _ = _; unfold szG; rw [hm.out]
        clear hs hr hv
        go_wp2
        go_ret
        exact ⟨by rw [hz.out]; rfl, rfl⟩
set_option maxHeartbeats 1000000 in
theorem szGrid_any (cols : Int) (v : Value) (rows : List (List Ce)) (left : Nat) (w : World) (hv : SlG w v rows) (hl : rows.length ≤ maxLen) (hx : ∀ i, i < rows.length → (rowX rows i).length ≤ maxLen) (hf : left ≤ 4611686018427387904) :
    Calls Tryd.prog 24 #[gridV cols v, .int .i64 left] w fun e w' => e = .returned (.int .i64 (szG rows left)) ∧ Below w.heap.size w w' := by
  have hb0 := bal' w (Obj.cells #[.int .i64 cols, v] 46)
  have hG0 := GrN.new w cols v 46
  have hsz := fun W h => szCSS_any v rows left W h hl hx hf
  have hv1 := hv.below hb0
  obtain ⟨a, c, vs, rfl, _⟩ := id hv
  unfold gridV
  obtain ⟨_, g0, g1⟩ := id hG0
  go_enter Tryd.func24, Tryd.ntmps24
  go_wp2_with fail
  refine (hsz _ hv1).mono ?_
  rintro e w2 ⟨rfl, hw⟩
  subst hw
  by_cases h : szG rows left < 0
  · have hz : Hid (szG rows left = -1) := by
      show _ = _
      unfold szG at *
      split at h
      · rfl
      · omega
    go_wp2
    go_ret
    exact ⟨by rw [hz.out]; rfl, hb0⟩
  · go_wp2
    go_ret
    exact ⟨rfl, hb0⟩
end Go.Proofs.YtmmmglblkampcaaDoor
namespace Go.Proofs.YtmmmglblkampcaaDoor
open Go.ChangeShapes Go.WideShapes Go.ChangeAt Go.RowKit
/-- A grid in a block of its own, open to stores. -/
def GrW (w : World) (B : Nat) (cols : Int) (v : Value) : Prop :=
  B < w.heap.size ∧ (w.cell? ⟨B, 0, none⟩ = some (.int .i64 cols) ∧ w.cell? ⟨B, 1, none⟩ = some v) ∧ (w.frozen? ⟨B, 0, none⟩ = false ∧ w.frozen? ⟨B, 1, none⟩ = false)
theorem GrW.grown {w w' : World} {B : Nat} {cols : Int} {v : Value} {row : Option Nat} (h : GrW w B cols v) (hg : w.grownBy w' row) (hr : row ≠ some B) : GrW w' B cols v := by
  have hb := hg.block B h.1 (Ne.symm hr)
  have hc : ∀ k, w'.cell? ⟨B, k, none⟩ = w.cell? ⟨B, k, none⟩ := fun k => World.cell?_of_block (w := w) hb
  have hz : ∀ k, w'.frozen? ⟨B, k, none⟩ = w.frozen? ⟨B, k, none⟩ := fun k => World.frozen?_of_block (w := w) hb
  refine ⟨Nat.lt_of_lt_of_le h.1 hg.size, ?_, ?_⟩
  · rw [hc, hc]; exact h.2.1
  · rw [hz, hz]; exact h.2.2
theorem GrW.below {w w' : World} {B : Nat} {cols : Int} {v : Value} (h : GrW w B cols v) (hb : Below w.heap.size w w') : GrW w' B cols v := h.grown (gbl hb none) (by simp)
theorem GrW.new (w : World) (cols : Int) (v : Value) (t : TypeId) : GrW (w.alloc (.cells #[.int .i64 cols, v] t)) w.heap.size cols v :=
  ⟨by simp, ⟨by simp [go_sem], by simp [go_sem]⟩, ⟨by simp [go_sem], by simp [go_sem]⟩⟩
/-- Other rows are written there. -/
def putG (w : World) (B : Nat) (v : Value) : World := w.setCell ⟨B, 1, none⟩ v
theorem putG_grown (w : World) (B : Nat) (v : Value) : w.grownBy (putG w B v) (some B) := setCell_gr w B 1 _
theorem GrW.put {w : World} {B : Nat} {cols : Int} {v : Value} (h : GrW w B cols v) (v' : Value) : GrW (putG w B v') B cols v' := by
  obtain ⟨hlt, ⟨c0, c1⟩, ⟨z0, z1⟩⟩ := h
  refine ⟨by simpa [putG] using hlt, ⟨?_, ?_⟩, ⟨?_, ?_⟩⟩
  all_goals simp only [putG]
  · rw [setCell_ne' _ _ _ _ _ (by decide)]; exact c0
  · simp [go_sem, c1]
  · simp [go_sem, z0]
  · simp [go_sem, z1]
/-- Another grid is written there whole. -/
def putG2 (w : World) (B : Nat) (cols : Int) (v : Value) : World := (w.setCell ⟨B, 0, none⟩ (.int .i64 cols)).setCell ⟨B, 1, none⟩ v
theorem putG2_grown (w : World) (B : Nat) (cols : Int) (v : Value) : w.grownBy (putG2 w B cols v) (some B) := grown_tr (setCell_gr w B 0 _) (setCell_gr _ B 1 _)
theorem GrW.put2 {w : World} {B : Nat} {cols : Int} {v : Value} (h : GrW w B cols v) (cols' : Int) (v' : Value) : GrW (putG2 w B cols' v') B cols' v' := by
  obtain ⟨hlt, ⟨c0, c1⟩, ⟨z0, z1⟩⟩ := h
  refine ⟨by simpa [putG2] using hlt, ⟨?_, ?_⟩, ⟨?_, ?_⟩⟩
  all_goals simp only [putG2]
  · rw [setCell_ne' _ _ _ _ _ (by decide)]; simp [go_sem, c0]
  · simp [go_sem, c1]
  · simp [go_sem, z0]
  · simp [go_sem, z1]
theorem OwnG.kept {w w' : World} {base B : Nat} {v : Value} {rows : List (List Ce)} {row : Option Nat} (h : OwnG w base B v rows) (hg : w.grownBy w' row) (hne : ∀ g, row = some g → g < base) : OwnG w' base B v rows := by
  obtain ⟨vs, hl, ho, hr, hB, hd⟩ := h
  refine ⟨vs, hl, World.ownsRow.kept ho hg ?_, fun i hi => (hr i hi).kept hg ?_, hB, hd⟩
  · cases hv : v.ownBlock with
    | none => exact .inl rfl
    | some q => right; intro e; have := hne q e.symm; have := (ho.lt q hv).1; omega
  · cases hv : (rowV vs i).ownBlock with
    | none => exact .inl rfl
    | some q => right; intro e; have := hne q e.symm; have := ((hr i hi).lt q hv).1; omega
theorem OwnG.lt {w : World} {base B : Nat} {v : Value} {rows : List (List Ce)} (h : OwnG w base B v rows) : ∀ g, v.ownBlock = some g → base ≤ g ∧ g < w.heap.size := by
  obtain ⟨vs, hl, ho, _⟩ := h
  exact fun g e => ho.lt g e
theorem OwnG.up {w : World} {base B B' : Nat} {v : Value} {rows : List (List Ce)} (h : OwnG w base B v rows) (hb : B ≤ B') : OwnG w base B' v rows := by
  obtain ⟨vs, hl, ho, hr, hB, hd⟩ := h
  exact ⟨vs, hl, ho, hr, fun i hi g e => Nat.lt_of_lt_of_le (hB i hi g e) hb, hd⟩
/-- One row more, as a step of a region. -/
theorem step_append_og {w : World} {ops : Array Oper} {o : Oper} {ac : Act} {K : Act → World → Prop} {Q : Exit → Act → World → Prop} {E : Prop} (hgd : o.guard = none) (s x : Operand)
    (ho : o.op = .call { callee := .builtin .append, args := #[s, x], argTypes := #[24, 24] })
    (base B : Nat) (v : Value) (rows : List (List Ce)) (r : Value) (xs : List Ce) (hs : ac.eval s = v) (k : OwnG w base B v rows) (hr : OwnC w base r xs) (hB : ∀ g, r.ownBlock = some g → B ≤ g) (hb : base ≤ w.heap.size) (hl : rows.length < 2000000)
    (g : Nat) (hg0 : w.heap.size = g) (hx : ac.eval x = .slice (some ⟨g, 0, none⟩) 1 1)
    (h : ∀ v' w', OwnG w' base w'.heap.size v' (rows ++ [xs]) → (w.alloc (.cells #[r] 43)).grownBy w' v.ownBlock → K (ac.put o.dst v') w') :
    if Region.wanted o (yielded ops ac.tmps) = true then Oper.wp Tryd.prog o ac (w.alloc (.cells #[r] 43)) K Q else E := by
  have hw : Region.wanted o (yielded ops ac.tmps) = true := by simp [Region.wanted, hgd]
  rw [if_pos hw]
  subst hg0
  obtain ⟨i0, hi, hz0, hz1, hz2⟩ := info_parts info_row
  obtain ⟨vs, hvl, hown, hrs, hlt, hd⟩ := k
  have hba := bal' w (Obj.cells #[r] 43)
  have hown2 := World.ownsRow.below hown hba
  refine wp_append_own _ s x _ ho base 43 i0 (.slice none 0 0) 1 24 under_rows hi hz0 hz1 hz2 rfl (by decide) v rows.length vs hs hown2 ⟨w.heap.size, 0, none⟩ 1 1 [r] hx rfl ?_ ?_ (by unfold maxLen; omega) (by omega) (by simp; omega) (fun v' w' ho' hg' _ => h v' w' (og_after hvl hown2 (fun i hi => (hrs i hi).below hba) hlt hd (hr.below hba) hB ho' hg') hg')
  · intro j u hj
    match j, hj with
    | 0, hj => simp at hj; subst hj; simp [Addr.add, go_sem]
  · intro u hu
    simp at hu
    subst hu
    rcases hr.shape with ⟨rfl, _⟩ | ⟨g, cap, rfl, _⟩ <;> rfl
end Go.Proofs.YtmmmglblkampcaaDoor
namespace Go.Proofs.YtmmmglblkampcaaDoor
open Go.ChangeShapes Go.WideShapes Go.ChangeAt Go.RowKit
/-- Nothing changes but the blocks from lo to below hi; new ones may come. -/
def GrB (lo hi : Nat) (w w' : World) : Prop := w'.os = w.os ∧ w'.tape = w.tape ∧ w'.output = w.output ∧ w.heap.size ≤ w'.heap.size ∧ ∀ k, k < w.heap.size → (k < lo ∨ hi ≤ k) → w'.heap[k]? = w.heap[k]?
theorem GrB.refl (lo hi : Nat) (w : World) : GrB lo hi w w := ⟨rfl, rfl, rfl, Nat.le_refl _, fun _ _ _ => rfl⟩
theorem GrB.trans {lo hi : Nat} {a b c : World} (h : GrB lo hi a b) (k : GrB lo hi b c) : GrB lo hi a c :=
  ⟨k.1.trans h.1, k.2.1.trans h.2.1, k.2.2.1.trans h.2.2.1, Nat.le_trans h.2.2.2.1 k.2.2.2.1, fun i hi ho => (k.2.2.2.2 i (Nat.lt_of_lt_of_le hi h.2.2.2.1) ho).trans (h.2.2.2.2 i hi ho)⟩
theorem GrB.size {lo hi : Nat} {w w' : World} (h : GrB lo hi w w') : w.heap.size ≤ w'.heap.size := h.2.2.2.1
theorem GrB.of_below {lo hi : Nat} {w w' : World} (h : Below w.heap.size w w') : GrB lo hi w w' := ⟨h.os, h.tape, h.output, h.size, fun k hk _ => h.block k hk⟩
theorem GrB.of_grown {lo hi : Nat} {w w' : World} {row : Option Nat} (h : w.grownBy w' row) (hr : ∀ g, row = some g → lo ≤ g ∧ g < hi) : GrB lo hi w w' :=
  ⟨h.os, h.tape, h.output, h.size, fun k hk ho => h.block k hk (fun e => by have := hr k e.symm; omega)⟩
theorem GrB.mono {lo hi lo' hi' : Nat} {w w' : World} (h : GrB lo hi w w') (h1 : lo' ≤ lo) (h2 : hi ≤ hi') : GrB lo' hi' w w' :=
  ⟨h.1, h.2.1, h.2.2.1, h.2.2.2.1, fun k hk ho => h.2.2.2.2 k hk (by omega)⟩
theorem GrB.to_below {lo hi B : Nat} {w w' : World} (h : GrB lo hi w w') (hB : B ≤ lo) (hs : B ≤ w.heap.size) : Below B w w' :=
  ⟨h.1, h.2.1, h.2.2.1, h.2.2.2.1, fun k hk => h.2.2.2.2 k (by omega) (by omega)⟩
theorem GrB.cell {lo hi k o : Nat} {w w' : World} (h : GrB lo hi w w') (hk : k < w.heap.size) (ho : k < lo ∨ hi ≤ k) : w'.cell? ⟨k, o, none⟩ = w.cell? ⟨k, o, none⟩ := World.cell?_of_block (w := w) (h.2.2.2.2 k hk ho)
theorem GrB.frozen {lo hi k o : Nat} {w w' : World} (h : GrB lo hi w w') (hk : k < w.heap.size) (ho : k < lo ∨ hi ≤ k) : w'.frozen? ⟨k, o, none⟩ = w.frozen? ⟨k, o, none⟩ := World.frozen?_of_block (w := w) (h.2.2.2.2 k hk ho)
/-- What is owned stays while the world changes elsewhere. -/
theorem _root_.Go.World.ownsRow.gr {lo hi : Nat} {w w' : World} {base : Nat} {e : TypeId} {size : Nat} {v : Value} {n : Nat} {xs : List Value} (h : w.ownsRow base e size v n xs) (hg : GrB lo hi w w') (hne : ∀ g, v.ownBlock = some g → g < lo ∨ hi ≤ g) : w'.ownsRow base e size v n xs := by
  refine ⟨h.1, ?_⟩
  rcases h.2 with h2 | ⟨g, cap, cur, hv, hbg, hgg, r⟩
  · exact .inl h2
  · exact .inr ⟨g, cap, cur, hv, hbg, by rw [hg.2.2.2.2 g (Array.getElem?_eq_some_iff.1 hgg).1 (hne g (by rw [hv]; rfl))]; exact hgg, r⟩
theorem OwnC.gr {lo hi : Nat} {w w' : World} {base : Nat} {v : Value} {xs : List Ce} (h : OwnC w base v xs) (hg : GrB lo hi w w') (hne : ∀ g, v.ownBlock = some g → g < lo ∨ hi ≤ g) : OwnC w' base v xs := World.ownsRow.gr (show w.ownsRow _ _ _ _ _ _ from h) hg hne
/-- A slice of rows of this call's own, its values named. -/
def OwnV (w : World) (base B : Nat) (v : Value) (vs : List Value) (rows : List (List Ce)) : Prop :=
  vs.length = rows.length ∧ w.ownsRow base 43 1 v rows.length vs ∧ (∀ i, i < rows.length → OwnC w base (rowV vs i) (rowX rows i)) ∧
    (∀ i, i < rows.length → ∀ g, (rowV vs i).ownBlock = some g → g < B) ∧ (∀ i j, i < j → j < rows.length → ∀ g, (rowV vs i).ownBlock = some g → (rowV vs j).ownBlock ≠ some g)
theorem OwnG.v {w : World} {base B : Nat} {v : Value} {rows : List (List Ce)} (h : OwnG w base B v rows) : ∃ vs, OwnV w base B v vs rows := h
theorem OwnV.g {w : World} {base B : Nat} {v : Value} {vs : List Value} {rows : List (List Ce)} (h : OwnV w base B v vs rows) : OwnG w base B v rows := ⟨vs, h⟩
theorem OwnV.apart {w : World} {base B : Nat} {v : Value} {vs : List Value} {rows : List (List Ce)} (h : OwnV w base B v vs rows) {i j : Nat} (hi : i < rows.length) (hj : j < rows.length) (hij : i ≠ j) : (rowV vs i).ownBlock = none ∨ (rowV vs i).ownBlock ≠ (rowV vs j).ownBlock := by
  cases hv : (rowV vs i).ownBlock with
  | none => exact .inl rfl
  | some g =>
    right
    intro e
    rcases Nat.lt_or_gt_of_ne hij with c | c
    · exact h.2.2.2.2 i j c hj g hv e.symm
    · exact h.2.2.2.2 j i c hi g e.symm hv
theorem apart_comm {a b : Option Nat} (h : a = none ∨ a ≠ b) : b = none ∨ b ≠ a := by
  cases b with
  | none => exact .inl rfl
  | some g => right; intro e; rcases h with h | h <;> rw [← e] at h <;> simp at h
theorem OwnV.below {w w' : World} {base B : Nat} {v : Value} {vs : List Value} {rows : List (List Ce)} (h : OwnV w base B v vs rows) (hb : Below w.heap.size w w') : OwnV w' base B v vs rows :=
  ⟨h.1, World.ownsRow.below h.2.1 hb, fun i hi => (h.2.2.1 i hi).below hb, h.2.2.2.1, h.2.2.2.2⟩
theorem OwnV.up {w : World} {base B B' : Nat} {v : Value} {vs : List Value} {rows : List (List Ce)} (h : OwnV w base B v vs rows) (hb : B ≤ B') : OwnV w base B' v vs rows :=
  ⟨h.1, h.2.1, h.2.2.1, fun i hi g e => Nat.lt_of_lt_of_le (h.2.2.2.1 i hi g e) hb, h.2.2.2.2⟩
/-- One row's cells change. -/
theorem OwnV.rowset {w w' : World} {base B : Nat} {v : Value} {vs : List Value} {rows : List (List Ce)} (h : OwnV w base B v vs rows) {j : Nat} (hj : j < rows.length) (ys : List Ce) (ho : OwnC w' base (rowV vs j) ys) (hg : w.grownBy w' (rowV vs j).ownBlock) : OwnV w' base B v vs (rows.set j ys) := by
  have hx : ∀ i, i < rows.length → rowX (rows.set j ys) i = if i = j then ys else rowX rows i := fun i hi => by
    unfold rowX
    by_cases e : i = j
    · subst e; rw [if_pos rfl]; simp [List.getD, hi]
    · rw [if_neg e]; simp [List.getD, Ne.symm e]
  refine ⟨by rw [List.length_set]; exact h.1, ?_, fun i hi => ?_, fun i hi => ?_, fun a b hab hb => ?_⟩
  · rw [List.length_set]
    exact World.ownsRow.kept h.2.1 hg (apart_comm (outer_apart h.2.1 (h.2.2.1 j hj)))
  · rw [List.length_set] at hi
    rw [hx i hi]
    by_cases e : i = j
    · subst e; rw [if_pos rfl]; exact ho
    · rw [if_neg e]; exact (h.2.2.1 i hi).kept hg (h.apart hi hj e)
  · rw [List.length_set] at hi; exact h.2.2.2.1 i hi
  · rw [List.length_set] at hb; exact h.2.2.2.2 a b hab hb
theorem OwnV.shape {w : World} {base B : Nat} {v : Value} {vs : List Value} {rows : List (List Ce)} (h : OwnV w base B v vs rows) : (v = .slice none 0 0 ∧ rows = []) ∨ ∃ g cap, v = .slice (some ⟨g, 0, none⟩) rows.length cap ∧ base ≤ g ∧ g < w.heap.size ∧ rows.length ≤ cap := h.g.shape
theorem OwnV.cell {w : World} {base B g n cap : Nat} {vs : List Value} {rows : List (List Ce)} (h : OwnV w base B (.slice (some ⟨g, 0, none⟩) n cap) vs rows) (hn : rows.length = n) (i : Nat) (hi : i < n) : w.cell? ⟨g, i, none⟩ = some (rowV vs i) := by
  subst hn
  rw [World.ownsRow.cellAt h.2.1 i (by have := h.1; omega), rowV_get (by have := h.1; omega)]
theorem OwnV.frozen {w : World} {base B g n cap : Nat} {vs : List Value} {rows : List (List Ce)} (h : OwnV w base B (.slice (some ⟨g, 0, none⟩) n cap) vs rows) (hn : rows.length = n) (i : Nat) : w.frozen? ⟨g, i, none⟩ = false := by
  subst hn
  exact World.ownsRow.frozenAt h.2.1 i
/-- All of it lies from lo to below hi. -/
def OwnR (w : World) (lo hi : Nat) (v : Value) (rows : List (List Ce)) : Prop := OwnG w lo hi v rows ∧ (∀ g, v.ownBlock = some g → g < hi) ∧ hi ≤ w.heap.size
theorem OwnR.of {w : World} {lo : Nat} {v : Value} {rows : List (List Ce)} (h : OwnG w lo w.heap.size v rows) : OwnR w lo w.heap.size v rows := ⟨h, fun g e => (h.lt g e).2, Nat.le_refl _⟩
theorem OwnG.gr {lo hi base B : Nat} {w w' : World} {v : Value} {rows : List (List Ce)} (h : OwnG w base B v rows) (hv : ∀ g, v.ownBlock = some g → g < B) (hg : GrB lo hi w w') (hne : B ≤ lo ∨ hi ≤ base) : OwnG w' base B v rows := by
  obtain ⟨vs, hl, ho, hr, hB, hd⟩ := h
  refine ⟨vs, hl, World.ownsRow.gr ho hg (fun g e => ?_), fun i hi => (hr i hi).gr hg (fun g e => ?_), hB, hd⟩
  · have := hv g e; have := (ho.lt g e).1; omega
  · have := hB i hi g e; have := ((hr i hi).lt g e).1; omega
theorem OwnR.gr {lo hi base B : Nat} {w w' : World} {v : Value} {rows : List (List Ce)} (h : OwnR w base B v rows) (hg : GrB lo hi w w') (hne : B ≤ lo ∨ hi ≤ base) : OwnR w' base B v rows :=
  ⟨h.1.gr h.2.1 hg hne, h.2.1, Nat.le_trans h.2.2 hg.size⟩
theorem OwnR.below {base B : Nat} {w w' : World} {v : Value} {rows : List (List Ce)} (h : OwnR w base B v rows) (hb : Below w.heap.size w w') : OwnR w' base B v rows := ⟨h.1.below hb, h.2.1, Nat.le_trans h.2.2 hb.size⟩
theorem OwnR.sl {base B : Nat} {w : World} {v : Value} {rows : List (List Ce)} (h : OwnR w base B v rows) : SlG w v rows := SlG.of_own h.1
theorem GrN.gr {lo hi B : Nat} {w w' : World} {cols : Int} {v : Value} (h : GrN w B cols v) (hg : GrB lo hi w w') (hne : B < lo ∨ hi ≤ B) : GrN w' B cols v :=
  ⟨Nat.lt_of_lt_of_le h.1 hg.size, by rw [hg.cell h.1 hne]; exact h.2.1, by rw [hg.cell h.1 hne]; exact h.2.2⟩
/-- Rows that are reckoned one by one. -/
def genR (n : Nat) (f : Nat → List Ce) : List (List Ce) := (List.range n).map f
theorem genR_len (n : Nat) (f : Nat → List Ce) : (genR n f).length = n := by simp [genR]
theorem genR_at (n : Nat) (f : Nat → List Ce) (i : Nat) (h : i < n) : rowX (genR n f) i = f i := by
  rw [rowX_lt (by rw [genR_len]; exact h)]
  simp [genR]
theorem ext_rowX (a b : List (List Ce)) (hl : a.length = b.length) (h : ∀ i, i < a.length → rowX a i = rowX b i) : a = b := by
  apply List.ext_getElem hl
  intro i h1 h2
  rw [← rowX_lt h1, ← rowX_lt h2]
  exact h i h1
theorem rowX_set' {rows : List (List Ce)} {j : Nat} (hj : j < rows.length) (ys : List Ce) (i : Nat) : rowX (rows.set j ys) i = if i = j then ys else rowX rows i := by
  unfold rowX
  by_cases e : i = j
  · subst e; rw [if_pos rfl]; simp [List.getD, hj]
  · rw [if_neg e]; simp [List.getD, Ne.symm e]
end Go.Proofs.YtmmmglblkampcaaDoor
namespace Go.Proofs.YtmmmglblkampcaaDoor
open Go.ChangeShapes Go.WideShapes Go.ChangeAt Go.RowKit
set_option maxHeartbeats 1000000 in
theorem eqC_same (va vb : Value) (xs : List Ce) (w : World) (ha : SlC w va xs) (hb : SlC w vb xs) (hl : xs.length ≤ 1073741824) :
    Calls Tryd.prog 79 #[va, vb] w fun e w' => e = .returned (.bool true) ∧ Below w.heap.size w w' := by
  have heq := fun c W => eqCell_same c W
  obtain ⟨a, c, rfl, hc1, hn1, hr1⟩ := ha
  obtain ⟨a', c', rfl, hc2, hn2, hr2⟩ := hb
  rcases hr1 with h | ⟨b, off, rfl, hbb, hs1⟩
  · subst h
    go_enter Tryd.func79, Tryd.ntmps79
    go_wp2
    refine wp_loop_rounds 1 ?_
    rw [rounds_succ]
    go_wp2
    go_ret
    exact ⟨rfl, Below.refl _ _⟩
  · rcases hr2 with h | ⟨b', off', rfl, hbb', hs2⟩
    · subst h
      go_enter Tryd.func79, Tryd.ntmps79
      go_wp2
      refine wp_loop_rounds 1 ?_
      rw [rounds_succ]
      go_wp2
      go_ret
      exact ⟨rfl, Below.refl _ _⟩
    · unfold ceV at heq
      go_enter Tryd.func79, Tryd.ntmps79
      go_wp2
      go_loopw [5] (fun i wr => ∃ j : Nat, i = .int .i64 j ∧ j ≤ xs.length ∧ Below w.heap.size w wr) (fun i _ => xs.length - (intOf i).toNat)
      case atStart => exact ⟨0, rfl, Nat.zero_le _, Below.refl _ _⟩
      case round =>
        obtain ⟨j, rfl, hj, kb⟩ := hrel
        by_cases hlt : j < xs.length
        · have hji : (j : Int) < (xs.length : Int) := by omega
          have hj0 : (0 : Int) ≤ (j : Int) := by omega
          have kd : Below w.heap.size w wr.drew := kb.trans ((bdr _).mono kb.size)
          have hat1 := (hs1 j hlt).below kd hbb
          have hat2 := (hs2 j hlt).below kd hbb'
          obtain ⟨c0, c1, c2, c3, c4, c5, c6⟩ := hat1
          obtain ⟨d0, d1, d2, d3, d4, d5, d6⟩ := hat2
          clear hs1 hs2 
          go_wp2
          go_region_with (go_at_call 97; refine (heq (atC xs j) _).mono ?_; rintro e w1 ⟨rfl, hb1⟩)
          all_goals
            have kb1 := kd.trans (hb1.mono kd.size)
            clear c0 c1 c2 c3 c4 c5 c6 d0 d1 d2 d3 d4 d5 d6 kd kb hb1 heq
            go_wp2
            go_roundw
            case rel => exact ⟨j + 1, by go_num, by omega, kb1⟩
            case measure => simp [intOf]; omega
        · have hji : ¬ (j : Int) < (xs.length : Int) := by omega
          go_wp2
          go_ret
          exact ⟨rfl, kb⟩
theorem SlC.at {w : World} {a : Option Addr} {n c : Nat} {xs : List Ce} (h : SlC w (.slice a n c) xs) (j : Nat) (hj : j < xs.length) : ∃ b off, a = some ⟨b, off, none⟩ ∧ b < w.heap.size ∧ CeAt w b (off + j * 7) (atC xs j) := by
  obtain ⟨a', c', e, _, _, hr⟩ := h
  simp only [Value.slice.injEq] at e
  obtain ⟨rfl, rfl, rfl⟩ := e
  rcases hr with h | ⟨b, off, ha, hb, hi⟩
  · rw [h] at hj; simp at hj
  · exact ⟨b, off, ha, hb, hi j hj⟩
end Go.Proofs.YtmmmglblkampcaaDoor
namespace Go.Proofs.YtmmmglblkampcaaDoor
open Go.ChangeShapes Go.WideShapes Go.ChangeAt Go.RowKit
def mkC (q : Nat) : Ce := ⟨(q : Int), ⟨(q : Int) + 1, (q : Int) + 1 + 1, ((q : Int) + 1 + 1 + 1).tmod 3 == 0, ((q : Int) + 1 + 1 + 1 + 1).tmod 3 == 0, ((q : Int) + 1 + 1 + 1 + 1 + 1).tmod 3 == 0⟩, (q : Int) + 1 + 1 + 1 + 1 + 1 + 1⟩
def marksC (k n : Nat) : List Ce := (List.range n).map fun i => mkC (k + 7 * i)
theorem marksC_len (k n : Nat) : (marksC k n).length = n := by simp [marksC]
theorem marksC_at (k n i : Nat) (h : i < n) : atC (marksC k n) i = mkC (k + 7 * i) := by
  rw [atC_lt (by rw [marksC_len]; exact h)]
  simp [marksC]
set_option maxHeartbeats 4000000 in
set_option maxRecDepth 20000 in
theorem heldC_marks (v : Value) (k n : Nat) (w : World) (hv : SlC w v (marksC k n)) (hk : k ≤ 1073741824) (hl : n ≤ 1073741824) :
    Calls Tryd.prog 81 #[v, .int .i64 k] w fun e w' => e = .returned (.int .i64 ((k + 7 * n : Nat) : Int)) ∧ w' = w := by
  obtain ⟨a, c, rfl, hc0⟩ := id hv
  rw [marksC_len] at hv ⊢
  clear hc0
  go_enter Tryd.func81, Tryd.ntmps81
  go_wp2
  go_loop [1, 5] (fun q i => ∃ j : Nat, j ≤ n ∧ i = .int .i64 j ∧ q = .int .i64 ((k + 7 * j : Nat) : Int)) (fun _ i => n - (intOf i).toNat)
  case atStart => exact ⟨0, Nat.zero_le _, rfl, by simp⟩
  case round =>
    obtain ⟨j, hj, rfl, rfl⟩ := hrel
    by_cases hlt : j < n
    · have hji : (j : Int) < (n : Int) := by omega
      have hj0 : (0 : Int) ≤ (j : Int) := by omega
      obtain ⟨b, off, rfl, hbb, hat⟩ := hv.at j (by rw [marksC_len]; exact hlt)
      rw [marksC_at k n j hlt] at hat
      have hq : k + 7 * j ≤ 8 * 1073741824 := by omega
      have hq7 : Hid (((k + 7 * (j + 1) : Nat) : Int) = ((k + 7 * j : Nat) : Int) + 1 + 1 + 1 + 1 + 1 + 1 + 1) := by show _ = _; omega
      generalize k + 7 * j = q at *
      obtain ⟨c0, c1, c2, c3, c4, c5, c6⟩ := hat
      simp only [mkC] at c0 c1 c2 c3 c4 c5 c6
      clear hv
      go_wp2
      go_round
      case rel => exact ⟨j + 1, by omega, by go_num, by rw [hq7.out]⟩
      case measure => simp [intOf]; omega
    · have hjn : j = n := by omega
      subst hjn
      go_wp2
      go_ret
      exact ⟨rfl, rfl⟩
set_option maxHeartbeats 8000000 in
set_option maxRecDepth 20000 in
theorem markC_own (base : Nat) (v : Value) (k : Nat) (xs : List Ce) (w : World) (hown : OwnC w base v xs) (hk : k ≤ 1073741824) (hl : xs.length ≤ 1073741824) :
    Calls Tryd.prog 80 #[v, .int .i64 k] w fun e w' => e = .returned (.int .i64 ((k + 7 * xs.length : Nat) : Int)) ∧ OwnC w' base v (marksC k xs.length) ∧ w.grownBy w' v.ownBlock := by
  rcases hown.shape with ⟨rfl, rfl⟩ | ⟨g, cap, rfl, hbg, hlg, hcap⟩
  · go_enter Tryd.func80, Tryd.ntmps80
    go_wp2
    refine wp_loop_rounds 1 ?_
    rw [rounds_succ]
    go_wp2
    go_ret
    exact ⟨by simp, by simpa [marksC] using hown, World.grownBy.refl _ _⟩
  · generalize hn : xs.length = n at *
    go_enter Tryd.func80, Tryd.ntmps80
    go_wp2
    go_loopw [1, 5] (fun q i wr => ∃ (j : Nat) (ys : List Ce), j ≤ n ∧ i = .int .i64 j ∧ q = .int .i64 ((k + 7 * j : Nat) : Int) ∧ ys.length = n ∧ (∀ t, t < j → atC ys t = mkC (k + 7 * t)) ∧ OwnC wr base (.slice (some ⟨g, 0, none⟩) n cap) ys ∧ w.grownBy wr (some g)) (fun _ i _ => n - (intOf i).toNat)
    case atStart => exact ⟨0, xs, Nat.zero_le _, rfl, by simp, hn, (fun t h => absurd h (Nat.not_lt_zero t)), hown, World.grownBy.refl _ _⟩
    case round =>
      obtain ⟨j, ys, hj, rfl, rfl, hyl, hys, ho, hgr⟩ := hrel
      by_cases hlt : j < n
      · have hji : (j : Int) < (n : Int) := by omega
        have hj0 : (0 : Int) ≤ (j : Int) := by omega
        have hq : k + 7 * j ≤ 8 * 1073741824 := by omega
        have hq7 : Hid (((k + 7 * (j + 1) : Nat) : Int) = ((k + 7 * j : Nat) : Int) + 1 + 1 + 1 + 1 + 1 + 1 + 1) := by show _ = _; omega
        have hp := ho.put hyl j hlt (mkC (k + 7 * j))
        have hys2 : ∀ t, t < j + 1 → atC (ys.set j (mkC (k + 7 * j))) t = mkC (k + 7 * t) := by
          intro t ht
          rw [atC_set]
          by_cases e : t = j
          · subst e; rw [if_pos ⟨rfl, by omega⟩]
          · rw [if_neg (fun h => e h.1)]; exact hys t (by omega)
        have hyl2 : (ys.set j (mkC (k + 7 * j))).length = n := by simpa using hyl
        obtain ⟨kk, kg⟩ := hp
        have hgr2 := grown_tr hgr kg
        have hat := ho.at hyl j hlt
        have f0 := ho.frozen hyl (j * 7)
        have f1 := ho.frozen hyl (j * 7 + 1)
        have f2 := ho.frozen hyl (j * 7 + 2)
        have f3 := ho.frozen hyl (j * 7 + 3)
        have f4 := ho.frozen hyl (j * 7 + 4)
        have f5 := ho.frozen hyl (j * 7 + 5)
        have f6 := ho.frozen hyl (j * 7 + 6)
        clear hown ho hgr kg hys hyl hbg hlg
        generalize ys.set j (mkC (k + 7 * j)) = ys2 at *
        generalize k + 7 * j = q at *
        obtain ⟨c0, c1, c2, c3, c4, c5, c6⟩ := hat
        simp only [putCe, mkC] at kk hgr2
        go_wp2
        go_roundw
        case rel => exact ⟨j + 1, ys2, by omega, by go_num, by rw [hq7.out], hyl2, hys2, kk, hgr2⟩
        case measure => simp [intOf]; omega
      · have hjn : j = n := by omega
        have hji : ¬ (j : Int) < (n : Int) := by omega
        have hye : ys = marksC k n := ext_atC _ _ (by rw [marksC_len]; exact hyl) (fun i hi => by rw [marksC_at k n i (by omega)]; exact hys i (by omega))
        subst hjn
        clear hys hyl hown
        subst hye
        go_wp2
        go_ret
        exact ⟨rfl, ho, hgr⟩
end Go.Proofs.YtmmmglblkampcaaDoor
namespace Go.Proofs.YtmmmglblkampcaaDoor
open Go.ChangeShapes Go.WideShapes Go.ChangeAt Go.RowKit
def sumG (rows : List (List Ce)) : Nat → Nat
  | 0 => 0
  | j + 1 => sumG rows j + (rowX rows j).length
theorem sumG_mono (rows : List (List Ce)) {i j : Nat} (h : i ≤ j) : sumG rows i ≤ sumG rows j := by
  induction h with
  | refl => exact Nat.le_refl _
  | step _ ih => exact Nat.le_trans ih (Nat.le_add_right _ _)
theorem sumG_row (rows : List (List Ce)) {i j : Nat} (h : i < j) : (rowX rows i).length ≤ sumG rows j := by
  have := sumG_mono rows (show i + 1 ≤ j from h)
  have e : sumG rows (i + 1) = sumG rows i + (rowX rows i).length := rfl
  omega
/-- The rows marked, the first j of them. -/
def markUpG (k : Nat) (rows : List (List Ce)) (j : Nat) : List (List Ce) := genR rows.length fun i => if i < j then marksC (k + 7 * sumG rows i) (rowX rows i).length else rowX rows i
def marksG (k : Nat) (rows : List (List Ce)) : List (List Ce) := markUpG k rows rows.length
theorem markUpG_len (k : Nat) (rows : List (List Ce)) (j : Nat) : (markUpG k rows j).length = rows.length := genR_len _ _
theorem markUpG_zero (k : Nat) (rows : List (List Ce)) : markUpG k rows 0 = rows := ext_rowX _ _ (markUpG_len _ _ _) fun i hi => by
  rw [markUpG_len] at hi
  unfold markUpG
  rw [genR_at _ _ _ hi, if_neg (Nat.not_lt_zero i)]
theorem markUpG_step (k : Nat) (rows : List (List Ce)) (j : Nat) (hj : j < rows.length) : markUpG k rows (j + 1) = (markUpG k rows j).set j (marksC (k + 7 * sumG rows j) (rowX rows j).length) := ext_rowX _ _ (by rw [List.length_set, markUpG_len, markUpG_len]) fun i hi => by
  rw [markUpG_len] at hi
  rw [rowX_set' (by rw [markUpG_len]; exact hj)]
  unfold markUpG
  rw [genR_at _ _ _ hi, genR_at _ _ _ hi]
  by_cases e : i = j
  · rw [if_pos (by omega), if_pos e, e]
  · rw [if_neg e]
    by_cases c : i < j
    · rw [if_pos c, if_pos (by omega)]
    · rw [if_neg c, if_neg (by omega)]
theorem markUpG_at (k : Nat) (rows : List (List Ce)) (j i : Nat) (hi : i < rows.length) : rowX (markUpG k rows j) i = if i < j then marksC (k + 7 * sumG rows i) (rowX rows i).length else rowX rows i := by
  unfold markUpG; rw [genR_at _ _ _ hi]
set_option maxHeartbeats 2000000 in
theorem markCSS_own (lo hi : Nat) (v : Value) (vs : List Value) (k : Nat) (rows : List (List Ce)) (w : World) (h : OwnV w lo hi v vs rows) (hk : k ≤ 1048576) (hl : sumG rows rows.length ≤ 1048576) (hn : rows.length ≤ 1048576) :
    Calls Tryd.prog 56 #[v, .int .i64 k] w fun e w' => e = .returned (.int .i64 ((k + 7 * sumG rows rows.length : Nat) : Int)) ∧ OwnV w' lo hi v vs (marksG k rows) ∧ GrB lo hi w w' := by
  rcases h.shape with ⟨rfl, rfl⟩ | ⟨g, cap, rfl, hbg, hlg, hcap⟩
  · go_enter Tryd.func56, Tryd.ntmps56
    go_wp2
    refine wp_loop_rounds 1 ?_
    rw [rounds_succ]
    go_wp2
    go_ret
    exact ⟨by simp [sumG], by simpa [marksG, markUpG, genR] using h, GrB.refl _ _ _⟩
  · generalize hN : rows.length = n at *
    go_enter Tryd.func56, Tryd.ntmps56
    go_wp2
    go_loopw [1, 5] (fun q i wr => ∃ (j : Nat), j ≤ n ∧ i = .int .i64 j ∧ q = .int .i64 ((k + 7 * sumG rows j : Nat) : Int) ∧ OwnV wr lo hi (.slice (some ⟨g, 0, none⟩) n cap) vs (markUpG k rows j) ∧ GrB lo hi w wr) (fun _ i _ => n - (intOf i).toNat)
    case atStart => exact ⟨0, Nat.zero_le _, rfl, rfl, by rw [markUpG_zero]; exact h, GrB.refl _ _ _⟩
    case round =>
      clear h
      obtain ⟨j, hj, rfl, rfl, ho, hgr⟩ := hrel
      have hlen : (markUpG k rows j).length = n := by rw [markUpG_len]; exact hN
      by_cases hlt : j < n
      · have hji : (j : Int) < (n : Int) := by omega
        have hj0 : (0 : Int) ≤ (j : Int) := by omega
        have hcj := ho.cell hlen j hlt
        have hx := markUpG_at k rows j j (by omega)
        rw [if_neg (Nat.lt_irrefl j)] at hx
        have hrow := ho.2.2.1 j (by omega)
        rw [hx] at hrow
        have hs1 := sumG_mono rows (show j ≤ n by omega)
        have hs2 := sumG_row rows hlt
        have hm := markC_own lo (rowV vs j) (k + 7 * sumG rows j) (rowX rows j) wr hrow (by omega) (by omega)
        have hst : Hid (markUpG k rows (j + 1) = (markUpG k rows j).set j (marksC (k + 7 * sumG rows j) (rowX rows j).length)) := markUpG_step k rows j (by omega)
        have hsum : Hid ((k + 7 * sumG rows j) + 7 * (rowX rows j).length = k + 7 * sumG rows (j + 1)) := by show _ = _; rw [sumG]; omega
        have hB : ∀ g', (rowV vs j).ownBlock = some g' → lo ≤ g' ∧ g' < hi := fun g' e => ⟨(hrow.lt g' e).1, ho.2.2.2.1 j (by omega) g' e⟩
        rw [hsum.out] at hm
        have hfin := fun W' (h1 : OwnC W' lo (rowV vs j) (marksC (k + 7 * sumG rows j) (rowX rows j).length)) (h2 : wr.grownBy W' (rowV vs j).ownBlock) => (show OwnV W' lo hi (.slice (some ⟨g, 0, none⟩) n cap) vs (markUpG k rows (j + 1)) from by rw [hst.out]; exact ho.rowset (by omega) _ h1 h2)
        have hsh : ∃ a n c, rowV vs j = Value.slice a n c := by rcases hrow.shape with ⟨h, _⟩ | ⟨_, _, h, _⟩ <;> exact ⟨_, _, _, h⟩
        clear hst hsum hrow hx ho hs1 hs2
        generalize rowV vs j = r at *
        obtain ⟨ra, rn, rc, rfl⟩ := hsh
        go_wp2_with fail
        refine hm.mono ?_
        rintro e w2 ⟨rfl, ho2, hg2⟩
        have kk := hfin w2 ho2 hg2
        have gg := hgr.trans (GrB.of_grown hg2 hB)
        clear hfin ho2 hg2 hB hm hgr
        go_wp2
        go_roundw
        case rel => exact ⟨j + 1, by omega, by go_num, rfl, kk, gg⟩
        case measure => simp [intOf]; omega
      · have hjn : j = n := by omega
        have hji : ¬ (j : Int) < (n : Int) := by omega
        subst hjn
        go_wp2
        go_ret
        exact ⟨rfl, by unfold marksG; rw [hN]; exact ho, hgr⟩
theorem marksG_at (k : Nat) (rows : List (List Ce)) (i : Nat) (hi : i < rows.length) : rowX (marksG k rows) i = marksC (k + 7 * sumG rows i) (rowX rows i).length := by
  unfold marksG; rw [markUpG_at _ _ _ _ hi, if_pos hi]
set_option maxHeartbeats 2000000 in
theorem heldCSS_marks (v : Value) (k : Nat) (rows : List (List Ce)) (w : World) (hv : SlG w v (marksG k rows)) (hk : k ≤ 1048576) (hl : sumG rows rows.length ≤ 1048576) (hn : rows.length ≤ 1048576) :
    Calls Tryd.prog 57 #[v, .int .i64 k] w fun e w' => e = .returned (.int .i64 ((k + 7 * sumG rows rows.length : Nat) : Int)) ∧ w' = w := by
  obtain ⟨a, c, vs, rfl, hcp, _, hr, hs⟩ := hv
  have hlen : (marksG k rows).length = rows.length := markUpG_len _ _ _
  rw [hlen] at hr hs hcp ⊢
  generalize hN : rows.length = n at *
  go_enter Tryd.func57, Tryd.ntmps57
  go_wp2
  go_loop [1, 5] (fun q i => ∃ j : Nat, j ≤ n ∧ i = .int .i64 j ∧ q = .int .i64 ((k + 7 * sumG rows j : Nat) : Int)) (fun _ i => n - (intOf i).toNat)
  case atStart => exact ⟨0, Nat.zero_le _, rfl, rfl⟩
  case round =>
    obtain ⟨j, hj, rfl, rfl⟩ := hrel
    by_cases hlt : j < n
    · have hji : (j : Int) < (n : Int) := by omega
      have hj0 : (0 : Int) ≤ (j : Int) := by omega
      rcases hr with h | ⟨b, off, rfl, hbb, hrc⟩
      · rw [h] at hlen; simp at hlen; omega
      have hsj := hs j hlt
      have hcj := hrc j hlt
      rw [marksG_at k rows j (by omega)] at hsj
      obtain ⟨aj, cj, ev, _⟩ := id hsj
      rw [ev] at hcj hsj
      have hs1 := sumG_mono rows (show j ≤ n by omega)
      have hs2 := sumG_row rows hlt
      have hm := heldC_marks _ (k + 7 * sumG rows j) (rowX rows j).length w hsj (by omega) (by omega)
      have hsum : Hid ((k + 7 * sumG rows j) + 7 * (rowX rows j).length = k + 7 * sumG rows (j + 1)) := by show _ = _; rw [sumG]; omega
      rw [hsum.out] at hm
      have hnn : ¬ (((k + 7 * sumG rows (j + 1) : Nat) : Int) < 0) := by omega
      clear hs hrc ev hsj hs1 hs2 hsum hlen
      rw [marksC_len] at hm hcj
      generalize (rowX rows j).length = m at *
      go_wp2_with fail
      refine hm.mono ?_
      rintro e w2 ⟨rfl, hw⟩
      subst hw
      go_wp2
      go_round
      case rel => exact ⟨j + 1, by omega, by go_num, rfl⟩
      case measure => simp [intOf]; omega
    · have hjn : j = n := by omega
      have hji : ¬ (j : Int) < (n : Int) := by omega
      subst hjn
      clear hs hr
      go_wp2
      go_ret
      exact ⟨rfl, rfl⟩
/-- What lies in a range, marked. -/
theorem markGrid_own (lo hi : Nat) (cols : Int) (v : Value) (k : Nat) (rows : List (List Ce)) (w : World) (h : OwnR w lo hi v rows) (hk : k ≤ 1048576) (hl : sumG rows rows.length ≤ 1048576) (hn : rows.length ≤ 1048576) :
    Calls Tryd.prog 28 #[gridV cols v, .int .i64 k] w fun e w' => e = .returned (.int .i64 ((k + 7 * sumG rows rows.length : Nat) : Int)) ∧ OwnR w' lo hi v (marksG k rows) ∧ GrB lo hi w w' := by
  have hb0 := bal' w (Obj.cells #[.int .i64 cols, v] 26)
  obtain ⟨vs, hv⟩ := h.1.v
  have hv1 : OwnV (w.alloc (Obj.cells #[.int .i64 cols, v] 26)) lo hi v vs rows := hv.below hb0
  have hm := markCSS_own lo hi v vs k rows _ hv1 hk hl hn
  have hG0 := GrN.new w cols v 26
  have hin := h.2
  obtain ⟨a, n, c, rfl⟩ : ∃ a n c, v = Value.slice a n c := by rcases hv.shape with ⟨h, _⟩ | ⟨_, _, h, _⟩ <;> exact ⟨_, _, _, h⟩
  unfold gridV
  obtain ⟨_, g0, g1⟩ := id hG0
  clear hv hv1 h
  generalize k + 7 * sumG rows rows.length = q at *
  go_enter Tryd.func28, Tryd.ntmps28
  go_wp2_with fail
  refine hm.mono ?_
  rintro e w2 ⟨rfl, ho2, hg2⟩
  go_wp2
  go_ret
  exact ⟨rfl, ⟨ho2.g, hin.1, Nat.le_trans hin.2 (Nat.le_trans hb0.size hg2.size)⟩, (GrB.of_below hb0).trans hg2⟩
theorem heldGrid_marks (cols : Int) (v : Value) (k : Nat) (rows : List (List Ce)) (w : World) (hv : SlG w v (marksG k rows)) (hk : k ≤ 1048576) (hl : sumG rows rows.length ≤ 1048576) (hn : rows.length ≤ 1048576) :
    Calls Tryd.prog 29 #[gridV cols v, .int .i64 k] w fun e w' => e = .returned (.int .i64 ((k + 7 * sumG rows rows.length : Nat) : Int)) ∧ Below w.heap.size w w' := by
  have hb0 := bal' w (Obj.cells #[.int .i64 cols, v] 26)
  have hG0 := GrN.new w cols v 26
  have hm := heldCSS_marks v k rows _ (hv.below hb0) hk hl hn
  obtain ⟨a, c, vs, rfl, _⟩ := hv
  unfold gridV
  obtain ⟨_, g0, g1⟩ := id hG0
  have hnn : ¬ (((k + 7 * sumG rows rows.length : Nat) : Int) < 0) := by omega
  generalize k + 7 * sumG rows rows.length = q at *
  go_enter Tryd.func29, Tryd.ntmps29
  go_wp2_with fail
  refine hm.mono ?_
  rintro e w2 ⟨rfl, hw⟩
  subst hw
  go_wp2
  go_ret
  exact ⟨rfl, hb0⟩
end Go.Proofs.YtmmmglblkampcaaDoor
namespace Go.Proofs.YtmmmglblkampcaaDoor
open Go.ChangeShapes Go.WideShapes Go.ChangeAt Go.RowKit
theorem leftG_sum {rows : List (List Ce)} {left : Nat} : ∀ {j m : Nat}, leftG rows left j = some m → m + rows.length + sumG rows j = left
  | 0, m, h => by
    rw [leftG] at h
    split at h
    · cases h
    · cases h; rw [sumG]; omega
  | j + 1, m, h => by
    rw [leftG] at h
    split at h
    · cases h
    · rename_i q hq
      split at h
      · cases h
      · cases h
        have := leftG_sum hq
        rw [sumG]; omega
theorem sumG_bd (rows : List (List Ce)) (m : Nat) (h : ∀ i, i < rows.length → (rowX rows i).length ≤ m) : ∀ j, j ≤ rows.length → sumG rows j ≤ j * m
  | 0, _ => Nat.zero_le _
  | j + 1, hj => by
    have := sumG_bd rows m h j (by omega)
    have := h j (by omega)
    rw [sumG, Nat.add_mul]; omega
theorem StAt.grB {lo hi B : Nat} {w w' : World} {s : St} (h : StAt w B s) (hg : GrB lo hi w w') (hne : B < lo ∨ hi ≤ B) : StAt w' B s := by
  obtain ⟨h0, ⟨c0, c1, c2, c3, c4⟩, z0, z1, z2, z3, z4⟩ := h
  refine ⟨Nat.lt_of_lt_of_le h0 hg.size, ⟨?_, ?_, ?_, ?_, ?_⟩, ?_, ?_, ?_, ?_, ?_⟩
  all_goals first | rw [hg.cell h0 hne] | rw [hg.frozen h0 hne]
  all_goals assumption
theorem own_put {w w' : World} {lo B : Nat} {v : Value} {rows : List (List Ce)} (h : OwnG w lo w.heap.size v rows) (hg : w.grownBy w' (some B)) (hs : B + 1 ≤ lo) : OwnR w' lo w.heap.size v rows ∧ (B < lo ∨ w.heap.size ≤ B) :=
  ⟨(OwnR.of h).gr (GrB.of_grown (lo := B) (hi := B + 1) hg (fun _ e => Option.some.inj e ▸ ⟨Nat.le_refl _, Nat.lt_succ_self _⟩)) (.inr hs), .inl hs⟩
theorem slShp {w : World} {v : Value} {rows : List (List Ce)} (h : SlG w v rows) : ∃ a n c, v = Value.slice a n c := by
  obtain ⟨a, c, vs, rfl, _⟩ := h
  exact ⟨_, _, _, rfl⟩
end Go.Proofs.YtmmmglblkampcaaDoor
namespace Go.Proofs.YtmmmglblkampcaaDoor
theorem atC_ge {l : List Ce} {i : Nat} (h : l.length ≤ i) : atC l i = Ce.zero := by simp [atC, List.getD, List.getElem?_eq_none h]
def genL (n : Nat) (f : Nat → Ce) : List Ce := (List.range n).map f
theorem genL_len (n : Nat) (f : Nat → Ce) : (genL n f).length = n := by simp [genL]
theorem genL_at (n : Nat) (f : Nat → Ce) (i : Nat) (h : i < n) : atC (genL n f) i = f i := by
  rw [atC_lt (by rw [genL_len]; exact h)]; simp [genL]
/-- A cell that is right by itself. -/
def c1 (c : Ce) : Prop := c.st.ok = true ∧ ((c.part = 0 ∧ widthV c.rune = 1) ∨ (c.part = 1 ∧ widthV c.rune = 2) ∨ (c.part = 2 ∧ c.rune = 0))
def Right (l : List Ce) : Prop :=
  (∀ i, i < l.length → c1 (atC l i)) ∧ (∀ i, (atC l i).part = 1 → (atC l (i + 1)).part = 2 ∧ (atC l (i + 1)).st = (atC l i).st) ∧ (∀ i, (atC l i).part = 2 → 0 < i ∧ (atC l (i - 1)).part = 1)
def Semi (l : List Ce) : Prop :=
  (∀ i, i < l.length → c1 (atC l i)) ∧ (∀ i, (atC l i).part = 1 → (atC l (i + 1)).part = 2 → (atC l (i + 1)).st = (atC l i).st)
theorem part_lt {l : List Ce} {i : Nat} (h : (atC l i).part ≠ 0) : i < l.length := by
  rcases Nat.lt_or_ge i l.length with h1 | h1
  · exact h1
  · rw [atC_ge h1] at h; exact absurd rfl h
theorem right_iff (l : List Ce) : rowOkB l = true ↔ (1 ≤ l.length ∧ l.length ≤ 60) ∧ Right l := by
  rw [rowOkB_iff]
  constructor
  · rintro ⟨hl, h⟩
    refine ⟨hl, ?_, ?_, ?_⟩
    · intro i hi
      have := h i hi
      unfold cellOkB at this
      rw [Bool.and_eq_true] at this
      refine ⟨this.1, ?_⟩
      have h2 := this.2
      by_cases h0 : (atC l i).part = 0
      · rw [if_pos h0] at h2; exact .inl ⟨h0, by simpa using h2⟩
      · rw [if_neg h0] at h2
        by_cases h1 : (atC l i).part = 1
        · rw [if_pos h1] at h2; simp at h2; exact .inr (.inl ⟨h1, h2.1⟩)
        · rw [if_neg h1] at h2
          by_cases h3 : (atC l i).part = 2
          · rw [if_pos h3] at h2; simp at h2; exact .inr (.inr ⟨h3, h2.1⟩)
          · rw [if_neg h3] at h2; cases h2
    · intro i h1
      have hi : i < l.length := part_lt (by rw [h1]; decide)
      have := h i hi
      unfold cellOkB at this
      rw [Bool.and_eq_true, if_neg (by rw [h1]; decide), if_pos h1] at this
      have h2 := this.2; simp at h2
      exact ⟨h2.2.2.1, h2.2.2.2⟩
    · intro i h1
      have hi : i < l.length := part_lt (by rw [h1]; decide)
      have := h i hi
      unfold cellOkB at this
      rw [Bool.and_eq_true, if_neg (by rw [h1]; decide), if_neg (by rw [h1]; decide), if_pos h1] at this
      have h2 := this.2; simp at h2
      exact h2.2
  · rintro ⟨hl, h1, h2, h3⟩
    refine ⟨hl, fun i hi => ?_⟩
    have hc := h1 i hi
    unfold cellOkB
    rw [hc.1, Bool.true_and]
    rcases hc.2 with ⟨e, ew⟩ | ⟨e, ew⟩ | ⟨e, ew⟩
    · rw [if_pos e, ew]; rfl
    · have := h2 i e
      have hlt : i + 1 < l.length := part_lt (by rw [this.1]; decide)
      rw [if_neg (by rw [e]; decide), if_pos e, ew]
      simp [hlt, this.1, this.2]
    · have := h3 i e
      rw [if_neg (by rw [e]; decide), if_neg (by rw [e]; decide), if_pos e, ew]
      simp [this.1, this.2]
theorem Right.c1 {l : List Ce} (h : Right l) {i : Nat} (hi : i < l.length) : c1 (atC l i) := h.1 i hi
theorem Semi.take {l : List Ce} (h : Semi l) (n : Nat) : Semi (l.take n) := by
  have e : ∀ i, atC (l.take n) i = if i < n then atC l i else Ce.zero := fun i => by
    by_cases hi : i < n
    · rw [if_pos hi, atC_take l n i hi]
    · rw [if_neg hi, atC_ge (by rw [List.length_take]; omega)]
  refine ⟨fun i hi => ?_, fun i h1 h2 => ?_⟩
  · rw [List.length_take] at hi
    rw [e, if_pos (by omega)]
    exact h.1 i (by omega)
  · rw [e] at h1 h2 ⊢
    rw [e]
    split at h1
    · split at h2
      · rename_i q1 q2
        rw [if_pos q2, if_pos q1]
        exact h.2 i h1 h2
      · exact absurd h2 (by decide)
    · exact absurd h1 (by decide)
theorem Semi.drop {l : List Ce} (h : Semi l) (n : Nat) : Semi (l.drop n) := by
  refine ⟨fun i hi => ?_, fun i h1 h2 => ?_⟩
  · rw [List.length_drop] at hi
    rw [atC_drop]; exact h.1 (n + i) (by omega)
  · rw [atC_drop] at h1 h2 ⊢
    rw [atC_drop]
    have := h.2 (n + i) h1 (by rw [Nat.add_assoc]; exact h2)
    rwa [Nat.add_assoc] at this
theorem app_at (l m : List Ce) (i : Nat) : atC (l ++ m) i = if i < l.length then atC l i else atC m (i - l.length) := by
  by_cases h : i < l.length
  · rw [if_pos h, atC_append_left l m i h]
  · rw [if_neg h]
    have := atC_append_right l m (i - l.length)
    rwa [show l.length + (i - l.length) = i by omega] at this
theorem Right.append {l m : List Ce} (h : Right l) (k : Right m) : Right (l ++ m) := by
  refine ⟨fun i hi => ?_, fun i h1 => ?_, fun i h2 => ?_⟩
  · rw [List.length_append] at hi
    rw [app_at]
    split
    · rename_i q; exact h.1 i q
    · exact k.1 _ (by omega)
  · rw [app_at] at h1
    split at h1
    · have := h.2.1 i h1
      have hlt : i + 1 < l.length := part_lt (by rw [this.1]; decide)
      rename_i q
      rw [app_at, app_at, if_pos hlt, if_pos q]; exact this
    · rename_i q
      have := k.2.1 _ h1
      rw [app_at, app_at, if_neg (by omega), if_neg q]
      rwa [show i + 1 - l.length = i - l.length + 1 by omega]
  · rw [app_at] at h2
    split at h2
    · rename_i q
      have := h.2.2 i h2
      rw [app_at, if_pos (by omega)]; exact this
    · rename_i q
      have := k.2.2 _ h2
      rw [app_at, if_neg (by omega)]
      refine ⟨by omega, ?_⟩
      rw [show i - 1 - l.length = i - l.length - 1 by omega]; exact this.2
theorem rowL_at (n : Nat) (s : St) (i : Nat) (h : i < n) : atC (rowL n s) i = blankC s := by
  rw [atC_lt (by simp [rowL]; exact h)]; simp [rowL]
end Go.Proofs.YtmmmglblkampcaaDoor
namespace Go.Proofs.YtmmmglblkampcaaDoor
theorem rowL_len (n : Nat) (s : St) : (rowL n s).length = n := by simp [rowL]
end Go.Proofs.YtmmmglblkampcaaDoor
