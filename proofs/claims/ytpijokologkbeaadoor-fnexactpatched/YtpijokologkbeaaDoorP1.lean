/- Runes as numbers: what a text's first bytes are read to. Plain mathematics, no program. Contract of l1In alone. Contracts of the rune functions. Widths, and what fits into some cells. Plain mathematics. Contracts of Width. Contract of the program's Width: its table lies in a package's variable. The table of the program's Width as the row lists it: what lies in memory. Styles: their params and signs. Plain mathematics. Rows of cells. Plain mathematics. A style as a value; StyleOk as the specification has it. Slices of int64 that can be read, and rows that stay. What a contract leaves, as growth. A style in memory. Rows of cells in memory. What an argument that is a row of cells is, once it can be read. Contracts of the specification's blank rows. Rows of rows in memory. Right rows. Plain mathematics. Grids. Plain mathematics. A grid in a block of its own. What an argument that is a grid is, once it can be read. Contracts of the specification's new grids. What changes within a range of blocks alone; a grid's rows within a range. A cell whole in a block of its own. Right rows: what keeps them right. Plain mathematics. The program's way with rows: cleared, pushed, pulled. Plain mathematics. A window of a row of this call's own: cleared, copied into, made anew. One row written anew; rows made. -/
import Derived.Laws.BytesArg
import GoSem.Core.Utf8
import Derived.Test.YtpijokologkbeaaDoorRows
import Derived.WalkKit
import Derived.ProofKit
import Derived.OpenShut
import Derived.ShutString
import Derived.LoopN
import Derived.Laws.Rows
import Derived.WalkMore
import Derived.LaidMore
import Derived.OpenVars
import Derived.ChangeVars
import Derived.Deep.Strs
import Derived.Stop.Joined
import Derived.WalkSpells
import Derived.Deep.QuietTactic
import Derived.BigQuiet
import Derived.Laws.OwnMore
import Derived.Laws.AppendOwn
import Derived.OwnWalk
import Derived.Laws.AppendOwnNone
import Derived.Deep.MidRow
import Derived.ChangeOld
import Derived.Below
import Derived.Deep.Slices
import Derived.Deep.RegionHeld3
import Derived.Laws.CopyOwn
namespace Go.Proofs.YtpijokologkbeaaDoor
def runeOk (r : Int) : Bool := decide (0 ≤ r ∧ r ≤ 1114111 ∧ (r < 55296 ∨ 57343 < r))

theorem runeOk_is (r : Int) (b : Bool) (h : b = true ↔ (0 ≤ r ∧ r ≤ 1114111 ∧ (r < 55296 ∨ 57343 < r))) : b = runeOk r := by
  rw [Bool.eq_iff_iff, h]; simp [runeOk]
theorem runeOk_iff (r : Int) : runeOk r = true ↔ (0 ≤ r ∧ r ≤ 1114111 ∧ (r < 55296 ∨ 57343 < r)) := by simp [runeOk]
def nums (s : ByteArray) : List Int := s.data.toList.map fun b => (b.toNat : Int)
def both (p : Nat × Nat) : Int × Int := ((p.1 : Int), (p.2 : Int))
end Go.Proofs.YtpijokologkbeaaDoor
namespace Go.Proofs.YtpijokologkbeaaDoor
open Go.ChangeShapes Go.WideShapes Go.ChangeAt Go.RowKit
theorem ret_bool {a b : Bool} (h : a = b) : Ending.returned (.bool a) = .returned (.bool b) := by rw [h]

theorem l1In_any (x lo hi : Int) (w : World) :
    Calls Tryd.prog 43 #[.int .i64 x, .int .i64 lo, .int .i64 hi] w fun e w' => e = .returned (.bool (decide (lo ≤ x ∧ x ≤ hi))) ∧ w' = w := by
  by_cases h1 : lo ≤ x
  · go_enter Tryd.func43, Tryd.ntmps43
    go_wp2
    go_ret
    exact ⟨ret_bool (by simp [h1]), rfl⟩
  · go_enter Tryd.func43, Tryd.ntmps43
    go_wp2
    go_ret
    exact ⟨ret_bool (by simp; omega), rfl⟩

end Go.Proofs.YtpijokologkbeaaDoor
namespace Go.Proofs.YtpijokologkbeaaDoor
open Go.ChangeShapes Go.WideShapes Go.ChangeAt Go.RowKit
theorem implRuneOk_any (r : Int) (w : World) :
    Calls Tryd.prog 131 #[.int .i64 r] w fun e w' => e = .returned (.bool (runeOk r)) ∧ w' = w := by
  go_enter Tryd.func131, Tryd.ntmps131
  go_wp2
  all_goals
    go_ret
    exact ⟨ret_bool (runeOk_is _ _ (by simp <;> omega)), rfl⟩

set_option maxHeartbeats 400000 in
theorem specRuneOk_any (r : Int) (w : World) :
    Calls Tryd.prog 129 #[.int .i64 r] w fun e w' => e = .returned (.bool (runeOk r)) ∧ w' = w := by
  go_enter Tryd.func129, Tryd.ntmps129
  go_wp2_with (go_at_call 43; refine (l1In_any _ _ _ _).mono ?_; rintro e w' ⟨rfl, rfl⟩)
  all_goals
    go_ret
    exact ⟨ret_bool (runeOk_is _ _ (by simp <;> omega)), rfl⟩

end Go.Proofs.YtpijokologkbeaaDoor
namespace Go.Proofs.YtpijokologkbeaaDoor
def widthV (r : Int) : Int :=
  if r < 32 ∨ runeOk r = false ∨ (127 ≤ r ∧ r ≤ 159) ∨ (768 ≤ r ∧ r ≤ 879) then 0
  else if (4352 ≤ r ∧ r ≤ 4447) ∨ (12288 ≤ r ∧ r ≤ 55295) ∨ (127744 ≤ r ∧ r ≤ 131071) then 2 else 1
end Go.Proofs.YtpijokologkbeaaDoor
namespace Go.Proofs.YtpijokologkbeaaDoor
open Go.ChangeShapes Go.WideShapes Go.ChangeAt Go.RowKit
theorem ret_i {a b : Int} (h : a = b) : Ending.returned (.int .i64 a) = .returned (.int .i64 b) := by rw [h]
set_option maxHeartbeats 1000000 in
theorem specWidth_any (r : Int) (w : World) :
    Calls Tryd.prog 106 #[.int .i64 r] w fun e w' => e = .returned (.int .i64 (widthV r)) ∧ w' = w := by
  by_cases hr : runeOk r = true
  · have hb := (runeOk_iff r).1 hr
    have hw : Hid (widthV r = if r < 32 ∨ (127 ≤ r ∧ r ≤ 159) ∨ (768 ≤ r ∧ r ≤ 879) then 0 else if (4352 ≤ r ∧ r ≤ 4447) ∨ (12288 ≤ r ∧ r ≤ 55295) ∨ (127744 ≤ r ∧ r ≤ 131071) then 2 else 1) := by show _ = _; simp [widthV, hr]
    go_enter Tryd.func106, Tryd.ntmps106
    go_wp2_with (first | (go_at_call 129; refine (specRuneOk_any _ _).mono ?_; rw [hr]; rintro e w' ⟨rfl, rfl⟩) | (go_at_call 43; refine (l1In_any _ _ _ _).mono ?_; rintro e w' ⟨rfl, rfl⟩))
    all_goals
      go_ret
      refine ⟨ret_i ?_, rfl⟩
      rw [hw.out]
      clear hw hr
      (try simp at *)
      omega
  · have hr : runeOk r = false := by simpa using hr
    have hw : Hid (widthV r = 0) := by show _ = _; simp [widthV, hr]
    go_enter Tryd.func106, Tryd.ntmps106
    go_wp2_with (first | (go_at_call 129; refine (specRuneOk_any _ _).mono ?_; rw [hr]; rintro e w' ⟨rfl, rfl⟩) | (go_at_call 43; refine (l1In_any _ _ _ _).mono ?_; rintro e w' ⟨rfl, rfl⟩))
    all_goals
      go_ret
      exact ⟨ret_i hw.out.symm, rfl⟩
end Go.Proofs.YtpijokologkbeaaDoor
namespace Go.Proofs.YtpijokologkbeaaDoor
open Go.ChangeShapes Go.WideShapes Go.ChangeAt Go.RowKit
def spansC : Array Value := #[.int .i64 0, .int .i64 31, .int .i64 0, .int .i64 127, .int .i64 159, .int .i64 0, .int .i64 768, .int .i64 879, .int .i64 0, .int .i64 4352, .int .i64 4447, .int .i64 2, .int .i64 12288, .int .i64 55295, .int .i64 2, .int .i64 127744, .int .i64 131071, .int .i64 2]
/-- The table lies where the program lays it. -/
def SpansAt (w : World) : Prop := ∃ t fr, w.heap[0]? = some (.cells spansC t fr)
theorem SpansAt.below {B : Nat} {w w' : World} (h : SpansAt w) (hb : Below B w w') (hB : 0 < B) : SpansAt w' := by
  obtain ⟨t, fr, h⟩ := h
  exact ⟨t, fr, by rw [hb.block _ hB]; exact h⟩
theorem SpansAt.lt {w : World} (h : SpansAt w) : 0 < w.heap.size := by
  obtain ⟨t, fr, h⟩ := h
  exact (Array.getElem?_eq_some_iff.1 h).1

theorem span_0 : ∀ w, (Instr.index 174 (.agg #[.int .i64 0, .int .i64 31, .int .i64 0, .int .i64 127, .int .i64 159, .int .i64 0, .int .i64 768, .int .i64 879, .int .i64 0, .int .i64 4352, .int .i64 4447, .int .i64 2, .int .i64 12288, .int .i64 55295, .int .i64 2, .int .i64 127744, .int .i64 131071, .int .i64 2]) (.int .i64 0)).run Tryd.prog w = .ok (.agg #[.int .i64 0, .int .i64 31, .int .i64 0]) w := fun _ => by kernel_rfl
theorem span_1 : ∀ w, (Instr.index 174 (.agg #[.int .i64 0, .int .i64 31, .int .i64 0, .int .i64 127, .int .i64 159, .int .i64 0, .int .i64 768, .int .i64 879, .int .i64 0, .int .i64 4352, .int .i64 4447, .int .i64 2, .int .i64 12288, .int .i64 55295, .int .i64 2, .int .i64 127744, .int .i64 131071, .int .i64 2]) (.int .i64 1)).run Tryd.prog w = .ok (.agg #[.int .i64 127, .int .i64 159, .int .i64 0]) w := fun _ => by kernel_rfl
theorem span_2 : ∀ w, (Instr.index 174 (.agg #[.int .i64 0, .int .i64 31, .int .i64 0, .int .i64 127, .int .i64 159, .int .i64 0, .int .i64 768, .int .i64 879, .int .i64 0, .int .i64 4352, .int .i64 4447, .int .i64 2, .int .i64 12288, .int .i64 55295, .int .i64 2, .int .i64 127744, .int .i64 131071, .int .i64 2]) (.int .i64 2)).run Tryd.prog w = .ok (.agg #[.int .i64 768, .int .i64 879, .int .i64 0]) w := fun _ => by kernel_rfl
theorem span_3 : ∀ w, (Instr.index 174 (.agg #[.int .i64 0, .int .i64 31, .int .i64 0, .int .i64 127, .int .i64 159, .int .i64 0, .int .i64 768, .int .i64 879, .int .i64 0, .int .i64 4352, .int .i64 4447, .int .i64 2, .int .i64 12288, .int .i64 55295, .int .i64 2, .int .i64 127744, .int .i64 131071, .int .i64 2]) (.int .i64 3)).run Tryd.prog w = .ok (.agg #[.int .i64 4352, .int .i64 4447, .int .i64 2]) w := fun _ => by kernel_rfl
theorem span_4 : ∀ w, (Instr.index 174 (.agg #[.int .i64 0, .int .i64 31, .int .i64 0, .int .i64 127, .int .i64 159, .int .i64 0, .int .i64 768, .int .i64 879, .int .i64 0, .int .i64 4352, .int .i64 4447, .int .i64 2, .int .i64 12288, .int .i64 55295, .int .i64 2, .int .i64 127744, .int .i64 131071, .int .i64 2]) (.int .i64 4)).run Tryd.prog w = .ok (.agg #[.int .i64 12288, .int .i64 55295, .int .i64 2]) w := fun _ => by kernel_rfl
theorem span_5 : ∀ w, (Instr.index 174 (.agg #[.int .i64 0, .int .i64 31, .int .i64 0, .int .i64 127, .int .i64 159, .int .i64 0, .int .i64 768, .int .i64 879, .int .i64 0, .int .i64 4352, .int .i64 4447, .int .i64 2, .int .i64 12288, .int .i64 55295, .int .i64 2, .int .i64 127744, .int .i64 131071, .int .i64 2]) (.int .i64 5)).run Tryd.prog w = .ok (.agg #[.int .i64 127744, .int .i64 131071, .int .i64 2]) w := fun _ => by kernel_rfl
set_option maxHeartbeats 1000000 in
theorem implWidth_1b (r : Int) (w : World) (hr : runeOk r = true) (hs : SpansAt w) (h0 : r ≤ 31) :
    Calls Tryd.prog 115 #[.int .i64 r] w fun e w' => e = .returned (.int .i64 0) ∧ Below w.heap.size w w' := by
  have hb := (runeOk_iff r).1 hr
  obtain ⟨tt, fr, hg⟩ := hs
  go_enter Tryd.func115, Tryd.ntmps115
  go_wp2
  go_step3
  go_wp2_with (go_at_call 131; refine (implRuneOk_any _ _).mono ?_; rw [hr]; rintro e w' ⟨rfl, hw⟩; subst hw)
  go_step3
  go_wp2_with (refine wpList_load_row rfl 174 _ rfl 0 rfl tt _ fr _ hg Tryd.underlying174 rfl (by kernel_rfl) ?_)
  unfold spansC
  have i0 := span_0
  have i1 := span_1
  have i2 := span_2
  have i3 := span_3
  have i4 := span_4
  have i5 := span_5
  refine wp_loop_rounds 1 ?_
  rw [rounds_succ]
  go_wp2
  rw [Exit.noGoto_ret]
  go_ret
  exact ⟨rfl, (by repeat (first | exact Below.refl _ _ | refine Below.alloc ?_ (by simp <;> omega) _))⟩
set_option maxHeartbeats 1000000 in
theorem implWidth_2a (r : Int) (w : World) (hr : runeOk r = true) (hs : SpansAt w) (h0 : 31 < r) (h1 : r < 127) :
    Calls Tryd.prog 115 #[.int .i64 r] w fun e w' => e = .returned (.int .i64 1) ∧ Below w.heap.size w w' := by
  have hb := (runeOk_iff r).1 hr
  obtain ⟨tt, fr, hg⟩ := hs
  go_enter Tryd.func115, Tryd.ntmps115
  go_wp2
  go_step3
  go_wp2_with (go_at_call 131; refine (implRuneOk_any _ _).mono ?_; rw [hr]; rintro e w' ⟨rfl, hw⟩; subst hw)
  go_step3
  go_wp2_with (refine wpList_load_row rfl 174 _ rfl 0 rfl tt _ fr _ hg Tryd.underlying174 rfl (by kernel_rfl) ?_)
  unfold spansC
  have i0 := span_0
  have i1 := span_1
  have i2 := span_2
  have i3 := span_3
  have i4 := span_4
  have i5 := span_5
  refine wp_loop_rounds 2 ?_
  rw [rounds_succ]
  go_wp2
  rw [rounds_succ]
  go_wp2
  rw [Exit.noGoto_ret]
  go_ret
  exact ⟨rfl, (by repeat (first | exact Below.refl _ _ | refine Below.alloc ?_ (by simp <;> omega) _))⟩
set_option maxHeartbeats 1000000 in
theorem implWidth_2b (r : Int) (w : World) (hr : runeOk r = true) (hs : SpansAt w) (h0 : 127 ≤ r) (h1 : r ≤ 159) :
    Calls Tryd.prog 115 #[.int .i64 r] w fun e w' => e = .returned (.int .i64 0) ∧ Below w.heap.size w w' := by
  have hb := (runeOk_iff r).1 hr
  obtain ⟨tt, fr, hg⟩ := hs
  go_enter Tryd.func115, Tryd.ntmps115
  go_wp2
  go_step3
  go_wp2_with (go_at_call 131; refine (implRuneOk_any _ _).mono ?_; rw [hr]; rintro e w' ⟨rfl, hw⟩; subst hw)
  go_step3
  go_wp2_with (refine wpList_load_row rfl 174 _ rfl 0 rfl tt _ fr _ hg Tryd.underlying174 rfl (by kernel_rfl) ?_)
  unfold spansC
  have i0 := span_0
  have i1 := span_1
  have i2 := span_2
  have i3 := span_3
  have i4 := span_4
  have i5 := span_5
  refine wp_loop_rounds 2 ?_
  rw [rounds_succ]
  go_wp2
  rw [rounds_succ]
  go_wp2
  rw [Exit.noGoto_ret]
  go_ret
  exact ⟨rfl, (by repeat (first | exact Below.refl _ _ | refine Below.alloc ?_ (by simp <;> omega) _))⟩
set_option maxHeartbeats 1000000 in
theorem implWidth_3a (r : Int) (w : World) (hr : runeOk r = true) (hs : SpansAt w) (h0 : 159 < r) (h1 : r < 768) :
    Calls Tryd.prog 115 #[.int .i64 r] w fun e w' => e = .returned (.int .i64 1) ∧ Below w.heap.size w w' := by
  have hb := (runeOk_iff r).1 hr
  obtain ⟨tt, fr, hg⟩ := hs
  go_enter Tryd.func115, Tryd.ntmps115
  go_wp2
  go_step3
  go_wp2_with (go_at_call 131; refine (implRuneOk_any _ _).mono ?_; rw [hr]; rintro e w' ⟨rfl, hw⟩; subst hw)
  go_step3
  go_wp2_with (refine wpList_load_row rfl 174 _ rfl 0 rfl tt _ fr _ hg Tryd.underlying174 rfl (by kernel_rfl) ?_)
  unfold spansC
  have i0 := span_0
  have i1 := span_1
  have i2 := span_2
  have i3 := span_3
  have i4 := span_4
  have i5 := span_5
  refine wp_loop_rounds 3 ?_
  rw [rounds_succ]
  go_wp2
  rw [rounds_succ]
  go_wp2
  rw [rounds_succ]
  go_wp2
  rw [Exit.noGoto_ret]
  go_ret
  exact ⟨rfl, (by repeat (first | exact Below.refl _ _ | refine Below.alloc ?_ (by simp <;> omega) _))⟩
set_option maxHeartbeats 1000000 in
theorem implWidth_3b (r : Int) (w : World) (hr : runeOk r = true) (hs : SpansAt w) (h0 : 768 ≤ r) (h1 : r ≤ 879) :
    Calls Tryd.prog 115 #[.int .i64 r] w fun e w' => e = .returned (.int .i64 0) ∧ Below w.heap.size w w' := by
  have hb := (runeOk_iff r).1 hr
  obtain ⟨tt, fr, hg⟩ := hs
  go_enter Tryd.func115, Tryd.ntmps115
  go_wp2
  go_step3
  go_wp2_with (go_at_call 131; refine (implRuneOk_any _ _).mono ?_; rw [hr]; rintro e w' ⟨rfl, hw⟩; subst hw)
  go_step3
  go_wp2_with (refine wpList_load_row rfl 174 _ rfl 0 rfl tt _ fr _ hg Tryd.underlying174 rfl (by kernel_rfl) ?_)
  unfold spansC
  have i0 := span_0
  have i1 := span_1
  have i2 := span_2
  have i3 := span_3
  have i4 := span_4
  have i5 := span_5
  refine wp_loop_rounds 3 ?_
  rw [rounds_succ]
  go_wp2
  rw [rounds_succ]
  go_wp2
  rw [rounds_succ]
  go_wp2
  rw [Exit.noGoto_ret]
  go_ret
  exact ⟨rfl, (by repeat (first | exact Below.refl _ _ | refine Below.alloc ?_ (by simp <;> omega) _))⟩
set_option maxHeartbeats 1000000 in
theorem implWidth_4a (r : Int) (w : World) (hr : runeOk r = true) (hs : SpansAt w) (h0 : 879 < r) (h1 : r < 4352) :
    Calls Tryd.prog 115 #[.int .i64 r] w fun e w' => e = .returned (.int .i64 1) ∧ Below w.heap.size w w' := by
  have hb := (runeOk_iff r).1 hr
  obtain ⟨tt, fr, hg⟩ := hs
  go_enter Tryd.func115, Tryd.ntmps115
  go_wp2
  go_step3
  go_wp2_with (go_at_call 131; refine (implRuneOk_any _ _).mono ?_; rw [hr]; rintro e w' ⟨rfl, hw⟩; subst hw)
  go_step3
  go_wp2_with (refine wpList_load_row rfl 174 _ rfl 0 rfl tt _ fr _ hg Tryd.underlying174 rfl (by kernel_rfl) ?_)
  unfold spansC
  have i0 := span_0
  have i1 := span_1
  have i2 := span_2
  have i3 := span_3
  have i4 := span_4
  have i5 := span_5
  refine wp_loop_rounds 4 ?_
  rw [rounds_succ]
  go_wp2
  rw [rounds_succ]
  go_wp2
  rw [rounds_succ]
  go_wp2
  rw [rounds_succ]
  go_wp2
  rw [Exit.noGoto_ret]
  go_ret
  exact ⟨rfl, (by repeat (first | exact Below.refl _ _ | refine Below.alloc ?_ (by simp <;> omega) _))⟩
set_option maxHeartbeats 1000000 in
theorem implWidth_4b (r : Int) (w : World) (hr : runeOk r = true) (hs : SpansAt w) (h0 : 4352 ≤ r) (h1 : r ≤ 4447) :
    Calls Tryd.prog 115 #[.int .i64 r] w fun e w' => e = .returned (.int .i64 2) ∧ Below w.heap.size w w' := by
  have hb := (runeOk_iff r).1 hr
  obtain ⟨tt, fr, hg⟩ := hs
  go_enter Tryd.func115, Tryd.ntmps115
  go_wp2
  go_step3
  go_wp2_with (go_at_call 131; refine (implRuneOk_any _ _).mono ?_; rw [hr]; rintro e w' ⟨rfl, hw⟩; subst hw)
  go_step3
  go_wp2_with (refine wpList_load_row rfl 174 _ rfl 0 rfl tt _ fr _ hg Tryd.underlying174 rfl (by kernel_rfl) ?_)
  unfold spansC
  have i0 := span_0
  have i1 := span_1
  have i2 := span_2
  have i3 := span_3
  have i4 := span_4
  have i5 := span_5
  refine wp_loop_rounds 4 ?_
  rw [rounds_succ]
  go_wp2
  rw [rounds_succ]
  go_wp2
  rw [rounds_succ]
  go_wp2
  rw [rounds_succ]
  go_wp2
  rw [Exit.noGoto_ret]
  go_ret
  exact ⟨rfl, (by repeat (first | exact Below.refl _ _ | refine Below.alloc ?_ (by simp <;> omega) _))⟩
set_option maxHeartbeats 1000000 in
theorem implWidth_5a (r : Int) (w : World) (hr : runeOk r = true) (hs : SpansAt w) (h0 : 4447 < r) (h1 : r < 12288) :
    Calls Tryd.prog 115 #[.int .i64 r] w fun e w' => e = .returned (.int .i64 1) ∧ Below w.heap.size w w' := by
  have hb := (runeOk_iff r).1 hr
  obtain ⟨tt, fr, hg⟩ := hs
  go_enter Tryd.func115, Tryd.ntmps115
  go_wp2
  go_step3
  go_wp2_with (go_at_call 131; refine (implRuneOk_any _ _).mono ?_; rw [hr]; rintro e w' ⟨rfl, hw⟩; subst hw)
  go_step3
  go_wp2_with (refine wpList_load_row rfl 174 _ rfl 0 rfl tt _ fr _ hg Tryd.underlying174 rfl (by kernel_rfl) ?_)
  unfold spansC
  have i0 := span_0
  have i1 := span_1
  have i2 := span_2
  have i3 := span_3
  have i4 := span_4
  have i5 := span_5
  refine wp_loop_rounds 5 ?_
  rw [rounds_succ]
  go_wp2
  rw [rounds_succ]
  go_wp2
  rw [rounds_succ]
  go_wp2
  rw [rounds_succ]
  go_wp2
  rw [rounds_succ]
  go_wp2
  rw [Exit.noGoto_ret]
  go_ret
  exact ⟨rfl, (by repeat (first | exact Below.refl _ _ | refine Below.alloc ?_ (by simp <;> omega) _))⟩
set_option maxHeartbeats 1000000 in
theorem implWidth_5b (r : Int) (w : World) (hr : runeOk r = true) (hs : SpansAt w) (h0 : 12288 ≤ r) (h1 : r ≤ 55295) :
    Calls Tryd.prog 115 #[.int .i64 r] w fun e w' => e = .returned (.int .i64 2) ∧ Below w.heap.size w w' := by
  have hb := (runeOk_iff r).1 hr
  obtain ⟨tt, fr, hg⟩ := hs
  go_enter Tryd.func115, Tryd.ntmps115
  go_wp2
  go_step3
  go_wp2_with (go_at_call 131; refine (implRuneOk_any _ _).mono ?_; rw [hr]; rintro e w' ⟨rfl, hw⟩; subst hw)
  go_step3
  go_wp2_with (refine wpList_load_row rfl 174 _ rfl 0 rfl tt _ fr _ hg Tryd.underlying174 rfl (by kernel_rfl) ?_)
  unfold spansC
  have i0 := span_0
  have i1 := span_1
  have i2 := span_2
  have i3 := span_3
  have i4 := span_4
  have i5 := span_5
  refine wp_loop_rounds 5 ?_
  rw [rounds_succ]
  go_wp2
  rw [rounds_succ]
  go_wp2
  rw [rounds_succ]
  go_wp2
  rw [rounds_succ]
  go_wp2
  rw [rounds_succ]
  go_wp2
  rw [Exit.noGoto_ret]
  go_ret
  exact ⟨rfl, (by repeat (first | exact Below.refl _ _ | refine Below.alloc ?_ (by simp <;> omega) _))⟩
set_option maxHeartbeats 1000000 in
theorem implWidth_6a (r : Int) (w : World) (hr : runeOk r = true) (hs : SpansAt w) (h0 : 55295 < r) (h1 : r < 127744) :
    Calls Tryd.prog 115 #[.int .i64 r] w fun e w' => e = .returned (.int .i64 1) ∧ Below w.heap.size w w' := by
  have hb := (runeOk_iff r).1 hr
  obtain ⟨tt, fr, hg⟩ := hs
  go_enter Tryd.func115, Tryd.ntmps115
  go_wp2
  go_step3
  go_wp2_with (go_at_call 131; refine (implRuneOk_any _ _).mono ?_; rw [hr]; rintro e w' ⟨rfl, hw⟩; subst hw)
  go_step3
  go_wp2_with (refine wpList_load_row rfl 174 _ rfl 0 rfl tt _ fr _ hg Tryd.underlying174 rfl (by kernel_rfl) ?_)
  unfold spansC
  have i0 := span_0
  have i1 := span_1
  have i2 := span_2
  have i3 := span_3
  have i4 := span_4
  have i5 := span_5
  refine wp_loop_rounds 6 ?_
  rw [rounds_succ]
  go_wp2
  rw [rounds_succ]
  go_wp2
  rw [rounds_succ]
  go_wp2
  rw [rounds_succ]
  go_wp2
  rw [rounds_succ]
  go_wp2
  rw [rounds_succ]
  go_wp2
  rw [Exit.noGoto_ret]
  go_ret
  exact ⟨rfl, (by repeat (first | exact Below.refl _ _ | refine Below.alloc ?_ (by simp <;> omega) _))⟩
set_option maxHeartbeats 1000000 in
theorem implWidth_6b (r : Int) (w : World) (hr : runeOk r = true) (hs : SpansAt w) (h0 : 127744 ≤ r) (h1 : r ≤ 131071) :
    Calls Tryd.prog 115 #[.int .i64 r] w fun e w' => e = .returned (.int .i64 2) ∧ Below w.heap.size w w' := by
  have hb := (runeOk_iff r).1 hr
  obtain ⟨tt, fr, hg⟩ := hs
  go_enter Tryd.func115, Tryd.ntmps115
  go_wp2
  go_step3
  go_wp2_with (go_at_call 131; refine (implRuneOk_any _ _).mono ?_; rw [hr]; rintro e w' ⟨rfl, hw⟩; subst hw)
  go_step3
  go_wp2_with (refine wpList_load_row rfl 174 _ rfl 0 rfl tt _ fr _ hg Tryd.underlying174 rfl (by kernel_rfl) ?_)
  unfold spansC
  have i0 := span_0
  have i1 := span_1
  have i2 := span_2
  have i3 := span_3
  have i4 := span_4
  have i5 := span_5
  refine wp_loop_rounds 6 ?_
  rw [rounds_succ]
  go_wp2
  rw [rounds_succ]
  go_wp2
  rw [rounds_succ]
  go_wp2
  rw [rounds_succ]
  go_wp2
  rw [rounds_succ]
  go_wp2
  rw [rounds_succ]
  go_wp2
  rw [Exit.noGoto_ret]
  go_ret
  exact ⟨rfl, (by repeat (first | exact Below.refl _ _ | refine Below.alloc ?_ (by simp <;> omega) _))⟩
set_option maxHeartbeats 1000000 in
theorem implWidth_7a (r : Int) (w : World) (hr : runeOk r = true) (hs : SpansAt w) (h0 : 131071 < r) :
    Calls Tryd.prog 115 #[.int .i64 r] w fun e w' => e = .returned (.int .i64 1) ∧ Below w.heap.size w w' := by
  have hb := (runeOk_iff r).1 hr
  obtain ⟨tt, fr, hg⟩ := hs
  go_enter Tryd.func115, Tryd.ntmps115
  go_wp2
  go_step3
  go_wp2_with (go_at_call 131; refine (implRuneOk_any _ _).mono ?_; rw [hr]; rintro e w' ⟨rfl, hw⟩; subst hw)
  go_step3
  go_wp2_with (refine wpList_load_row rfl 174 _ rfl 0 rfl tt _ fr _ hg Tryd.underlying174 rfl (by kernel_rfl) ?_)
  unfold spansC
  have i0 := span_0
  have i1 := span_1
  have i2 := span_2
  have i3 := span_3
  have i4 := span_4
  have i5 := span_5
  refine wp_loop_rounds 7 ?_
  rw [rounds_succ]
  go_wp2
  rw [rounds_succ]
  go_wp2
  rw [rounds_succ]
  go_wp2
  rw [rounds_succ]
  go_wp2
  rw [rounds_succ]
  go_wp2
  rw [rounds_succ]
  go_wp2
  rw [rounds_succ]
  go_wp2
  rw [Exit.noGoto_ret]
  go_ret
  exact ⟨rfl, (by repeat (first | exact Below.refl _ _ | refine Below.alloc ?_ (by simp <;> omega) _))⟩

theorem implWidth_no (r : Int) (w : World) (hr : runeOk r = false) :
    Calls Tryd.prog 115 #[.int .i64 r] w fun e w' => e = .returned (.int .i64 0) ∧ Below w.heap.size w w' := by
  go_enter Tryd.func115, Tryd.ntmps115
  go_wp2
  go_step3
  go_wp2_with (go_at_call 131; refine (implRuneOk_any _ _).mono ?_; rw [hr]; rintro e w' ⟨rfl, hw⟩; subst hw)
  rw [Exit.noGoto_ret]
  go_ret
  exact ⟨rfl, Below.refl _ _⟩

theorem implWidth_any (r : Int) (w : World) (hs : SpansAt w) :
    Calls Tryd.prog 115 #[.int .i64 r] w fun e w' => e = .returned (.int .i64 (widthV r)) ∧ Below w.heap.size w w' := by
  by_cases hr : runeOk r = true
  · have hb := (runeOk_iff r).1 hr
    have hw : widthV r = if r < 32 ∨ (127 ≤ r ∧ r ≤ 159) ∨ (768 ≤ r ∧ r ≤ 879) then 0 else if (4352 ≤ r ∧ r ≤ 4447) ∨ (12288 ≤ r ∧ r ≤ 55295) ∨ (127744 ≤ r ∧ r ≤ 131071) then 2 else 1 := by simp [widthV, hr]
    have key : ∀ c : Int, widthV r = c → (Calls Tryd.prog 115 #[.int .i64 r] w fun e w' => e = .returned (.int .i64 c) ∧ Below w.heap.size w w') → Calls Tryd.prog 115 #[.int .i64 r] w fun e w' => e = .returned (.int .i64 (widthV r)) ∧ Below w.heap.size w w' := fun c e h => by rw [e]; exact h
    by_cases h1 : r ≤ 31
    · exact key 0 (by rw [hw]; omega) (implWidth_1b r w hr hs h1)
    by_cases a2 : r < 127
    · exact key 1 (by rw [hw]; omega) (implWidth_2a r w hr hs (by omega) a2)
    by_cases b2 : r ≤ 159
    · exact key 0 (by rw [hw]; omega) (implWidth_2b r w hr hs (by omega) b2)
    by_cases a3 : r < 768
    · exact key 1 (by rw [hw]; omega) (implWidth_3a r w hr hs (by omega) a3)
    by_cases b3 : r ≤ 879
    · exact key 0 (by rw [hw]; omega) (implWidth_3b r w hr hs (by omega) b3)
    by_cases a4 : r < 4352
    · exact key 1 (by rw [hw]; omega) (implWidth_4a r w hr hs (by omega) a4)
    by_cases b4 : r ≤ 4447
    · exact key 2 (by rw [hw]; omega) (implWidth_4b r w hr hs (by omega) b4)
    by_cases a5 : r < 12288
    · exact key 1 (by rw [hw]; omega) (implWidth_5a r w hr hs (by omega) a5)
    by_cases b5 : r ≤ 55295
    · exact key 2 (by rw [hw]; omega) (implWidth_5b r w hr hs (by omega) b5)
    by_cases a6 : r < 127744
    · exact key 1 (by rw [hw]; omega) (implWidth_6a r w hr hs (by omega) a6)
    by_cases b6 : r ≤ 131071
    · exact key 2 (by rw [hw]; omega) (implWidth_6b r w hr hs (by omega) b6)
    exact key 1 (by rw [hw]; omega) (implWidth_7a r w hr hs (by omega))
  · have hr : runeOk r = false := by simpa using hr
    have e : widthV r = 0 := by simp [widthV, hr]
    rw [e]
    exact implWidth_no r w hr
end Go.Proofs.YtpijokologkbeaaDoor
namespace Go.Proofs.YtpijokologkbeaaDoor
open Go.ChangeShapes Go.WideShapes Go.ChangeAt Go.WideElems Go.RowKit
theorem gSpans : Tryd.prog.globalNamed "loop.example/g00215/impl.spans" = some 0 := by kernel_rfl
theorem tSpans : (Tryd.prog.globals[0]?).map (·.type) = some 174 := by kernel_rfl
theorem c_i64 : Tryd.prog.cellsOf 2 = 1 := by kernel_rfl
theorem c_span : Tryd.prog.cellsOf 173 = 3 := by kernel_rfl
theorem c_spans : Tryd.prog.cellsOf 174 = 18 := by kernel_rfl

section
variable {H : Type} {enc : TypeId × Value → H} {w : World} {base : Nat} {spare : Nat → Bool} {held : Bool}
set_option maxRecDepth 20000 in
theorem span_open {fuel : Nat} {cs : List Value} {a b c : Int} {p : List MemPlace}
    (h : DataW.trod enc Tryd.prog w base spare held fuel 173 cs = some (.agg [.lit (.int .i64 a), .lit (.int .i64 b), .lit (.int .i64 c)], p)) : cs = [.int .i64 a, .int .i64 b, .int .i64 c] := by
  obtain ⟨y0, y1, y2, n, e, hl, h0, h1, h2⟩ := Go.Deep.trod_struct3 Tryd.underlying173 h
  rw [c_span] at hl
  simp only [Prod.mk.injEq, DataW.agg.injEq, List.cons.injEq, and_true] at e
  obtain ⟨⟨e0, e1, e2⟩, _⟩ := e
  match cs, hl with
  | [x0, x1, x2], _ =>
    obtain ⟨k0, q0, r0, _⟩ := DataW.trod_int Tryd.underlying2 h0
    obtain ⟨k1, q1, r1, _⟩ := DataW.trod_int Tryd.underlying2 h1
    obtain ⟨k2, q2, r2, _⟩ := DataW.trod_int Tryd.underlying2 h2
    subst r0; subst r1; subst r2
    simp only [DataW.lit.injEq, Lit.int.injEq, true_and] at e0 e1 e2
    subst e0; subst e1; subst e2
    rw [c_i64] at q0 q1 q2
    simp at q0 q1 q2
    subst q0; subst q1; subst q2
    rfl
set_option maxRecDepth 20000 in
theorem spans_open {fuel : Nat} {cs : List Value} {p : List MemPlace}
    (h : DataW.trod enc Tryd.prog w base spare held fuel 174 cs = some (Rows.laid_loop_example_g00215_impl_spans, p)) : cs = spansC.toList := by
  obtain ⟨xs, m, rfl, e, hl, hn, hel⟩ := DataW.trod_array Tryd.underlying174 h
  rw [c_spans] at hl
  simp only [Rows.laid_loop_example_g00215_impl_spans, Prod.mk.injEq, DataW.agg.injEq] at e
  obtain ⟨e, _⟩ := e
  match xs, hn with
  | [x0, x1, x2, x3, x4, x5], _ =>
    simp only [List.map_cons, List.map_nil, List.cons.injEq, and_true] at e
    obtain ⟨e0, e1, e2, e3, e4, e5⟩ := e
    have go : ∀ (i : Nat) (x : DataW H × List MemPlace) (a b c : Int), i < 6 → [x0, x1, x2, x3, x4, x5][i]? = some x → DataW.agg [.lit (.int .i64 a), .lit (.int .i64 b), .lit (.int .i64 c)] = x.1 → (cs.drop (i * 3)).take 3 = [.int .i64 a, .int .i64 b, .int .i64 c] := by
      intro i x a b c hi hx he
      have := hel i hi
      rw [c_span, hx] at this
      obtain ⟨x1, x2⟩ := x
      simp only at he
      rw [← he] at this
      exact span_open this
    have g0 := go 0 x0 _ _ _ (by decide) rfl e0
    have g1 := go 1 x1 _ _ _ (by decide) rfl e1
    have g2 := go 2 x2 _ _ _ (by decide) rfl e2
    have g3 := go 3 x3 _ _ _ (by decide) rfl e3
    have g4 := go 4 x4 _ _ _ (by decide) rfl e4
    have g5 := go 5 x5 _ _ _ (by decide) rfl e5
    match cs, hl with
    | [a0, a1, a2, a3, a4, a5, a6, a7, a8, a9, b0, b1, b2, b3, b4, b5, b6, b7], _ =>
      simp at g0 g1 g2 g3 g4 g5
      simp [spansC, g0, g1, g2, g3, g4, g5]
end
/-- What the row lists of the table is what the walks ask. -/
theorem spans_of_laid {W : World} (h : laidMetH Tryd.prog [("loop.example/g00215/impl.spans", Rows.laid_loop_example_g00215_impl_spans)] W) : SpansAt W := by
  rw [MakeChecks.laidMetH_plain _ _ _ (by kernel_rfl)] at h
  obtain ⟨ps, ⟨g0, t0, cs0, f0, p0, q0, hg0, ht0, hv0, hd0, _⟩, _⟩ := h
  obtain rfl := Option.some.inj (gSpans.symm.trans hg0)
  obtain rfl := Option.some.inj (tSpans.symm.trans ht0)
  have hcs := spans_open hd0
  have e : cs0 = spansC := by cases cs0; simp at hcs; rw [hcs]
  subst e
  unfold World.var? at hv0
  rw [gSpans] at hv0
  simp only [Option.bind_some] at hv0
  cases hh : W.heap[0]? with
  | none => rw [hh] at hv0; cases hv0
  | some o =>
    rw [hh] at hv0
    cases o with
    | cells c t fr => simp at hv0; subst hv0; exact ⟨t, fr, hh⟩
    | _ => simp at hv0
/-- The program's own start lays the table so. -/
theorem spans_door (os : Os) (args : Array Value) : laidMetH Tryd.prog [("loop.example/g00215/impl.spans", Rows.laid_loop_example_g00215_impl_spans)] ((World.doorLaid Tryd.prog 400 os).forCall (fun _ _ => 0) ⟨#[], args, []⟩).memory :=
  laidMetH_of_parts3 (fuel := 8) (laidMet_of_run' 8 (by kernel_rfl) (by kernel_rfl)) (by kernel_rfl) (by kernel_rfl)
end Go.Proofs.YtpijokologkbeaaDoor
namespace Go.Proofs.YtpijokologkbeaaDoor
structure St where
  fore : Int
  back : Int
  bold : Bool
  under : Bool
  turned : Bool
deriving DecidableEq
def St.zero : St := ⟨0, 0, false, false, false⟩
def St.ok (s : St) : Bool := decide (0 ≤ s.fore ∧ s.fore ≤ 8 ∧ 0 ≤ s.back ∧ s.back ≤ 8)
end Go.Proofs.YtpijokologkbeaaDoor
namespace Go.Proofs.YtpijokologkbeaaDoor
structure Ce where
  rune : Int
  st : St
  part : Int
deriving DecidableEq
def Ce.zero : Ce := ⟨0, St.zero, 0⟩
def blankC (s : St) : Ce := ⟨32, s, 0⟩
def atC (l : List Ce) (i : Nat) : Ce := l.getD i Ce.zero
theorem atC_lt {l : List Ce} {i : Nat} (h : i < l.length) : atC l i = l[i] := by simp [atC, List.getD, h]
theorem atC_append_left (l m : List Ce) (i : Nat) (h : i < l.length) : atC (l ++ m) i = atC l i := by
  simp [atC, List.getD, List.getElem?_append_left h]
theorem atC_append_right (l m : List Ce) (i : Nat) : atC (l ++ m) (l.length + i) = atC m i := by
  simp [atC, List.getD, List.getElem?_append_right]
theorem atC_set (l : List Ce) (j i : Nat) (c : Ce) : atC (l.set j c) i = if i = j ∧ j < l.length then c else atC l i := by
  simp only [atC, List.getD, List.getElem?_set]
  by_cases h : j = i
  · subst h
    by_cases h2 : j < l.length
    · simp [h2]
    · simp [h2]
  · rw [if_neg h, if_neg (fun e => h e.1.symm)]
theorem ext_atC (l m : List Ce) (hl : l.length = m.length) (h : ∀ i, i < l.length → atC l i = atC m i) : l = m := by
  apply List.ext_getElem hl
  intro i h1 h2
  have := h i h1
  rwa [atC_lt h1, atC_lt h2] at this
theorem atC_take (l : List Ce) (n i : Nat) (h : i < n) : atC (l.take n) i = atC l i := by simp [atC, List.getD, h]
theorem atC_drop (l : List Ce) (n i : Nat) : atC (l.drop n) i = atC l (n + i) := by simp [atC, List.getD, List.getElem?_drop]

/-- A half that stands alone. -/
def aloneB (l : List Ce) (i : Nat) : Bool :=
  ((atC l i).part == 1 && (decide (i + 1 = l.length) || (atC l (i + 1)).part != 2)) || ((atC l i).part == 2 && (decide (i = 0) || (atC l (i - 1)).part != 1))
def mendC (l : List Ce) (i : Nat) : Ce := if aloneB l i = true then blankC (atC l i).st else atC l i
/-- The row, its first j cells mended. -/
def mendUp (l : List Ce) (j : Nat) : List Ce := (List.range l.length).map fun i => if i < j then mendC l i else atC l i
def mendV (l : List Ce) : List Ce := mendUp l l.length
theorem mendUp_len (l : List Ce) (j : Nat) : (mendUp l j).length = l.length := by simp [mendUp]
theorem mendUp_at (l : List Ce) (j i : Nat) (h : i < l.length) : atC (mendUp l j) i = if i < j then mendC l i else atC l i := by
  rw [atC_lt (by rw [mendUp_len]; exact h)]
  simp [mendUp]
theorem mendUp_zero (l : List Ce) : mendUp l 0 = l := ext_atC _ _ (mendUp_len l 0) fun i h => by
  rw [mendUp_len] at h
  rw [mendUp_at l 0 i h]; simp
theorem mendUp_step (l : List Ce) (j : Nat) (h : j < l.length) : mendUp l (j + 1) = (mendUp l j).set j (mendC l j) := ext_atC _ _ (by simp [mendUp_len]) fun i hi => by
  rw [mendUp_len] at hi
  rw [mendUp_at l (j + 1) i hi, atC_set, mendUp_len, mendUp_at l j i hi]
  by_cases e : i = j
  · subst e; simp [h]
  · rw [if_neg (show ¬ (i = j ∧ j < l.length) from fun x => e x.1)]
    by_cases e2 : i < j
    · rw [if_pos e2, if_pos (by omega)]
    · rw [if_neg e2, if_neg (by omega)]
theorem mendUp_keep (l : List Ce) (j : Nat) (h : j < l.length) (ha : aloneB l j = false) : mendUp l (j + 1) = mendUp l j := ext_atC _ _ (by simp [mendUp_len]) fun i hi => by
  rw [mendUp_len] at hi
  rw [mendUp_at l (j + 1) i hi, mendUp_at l j i hi]
  by_cases e : i = j
  · subst e; simp [mendC, ha]
  · by_cases e2 : i < j
    · rw [if_pos e2, if_pos (by omega)]
    · rw [if_neg e2, if_neg (by omega)]
theorem mendV_len (l : List Ce) : (mendV l).length = l.length := mendUp_len l _
theorem mendV_at (l : List Ce) (i : Nat) (h : i < l.length) : atC (mendV l) i = mendC l i := by
  rw [mendV, mendUp_at l _ i h, if_pos h]
/-- Cells from a to b blank. -/
def fillUp (l : List Ce) (a b : Nat) (s : St) : List Ce := (List.range l.length).map fun i => if a ≤ i ∧ i < b then blankC s else atC l i
theorem fillUp_len (l : List Ce) (a b : Nat) (s : St) : (fillUp l a b s).length = l.length := by simp [fillUp]
theorem fillUp_at (l : List Ce) (a b : Nat) (s : St) (i : Nat) (h : i < l.length) : atC (fillUp l a b s) i = if a ≤ i ∧ i < b then blankC s else atC l i := by
  rw [atC_lt (by rw [fillUp_len]; exact h)]
  simp [fillUp]
def rowL (n : Nat) (s : St) : List Ce := List.replicate n (blankC s)
end Go.Proofs.YtpijokologkbeaaDoor
namespace Go.Proofs.YtpijokologkbeaaDoor
open Go.ChangeShapes Go.WideShapes Go.ChangeAt Go.RowKit
def stV (s : St) : Value := .agg #[.int .i64 s.fore, .int .i64 s.back, .bool s.bold, .bool s.under, .bool s.turned]
set_option maxHeartbeats 400000 in
theorem specStyleOk_any (s : St) (w : World) :
    Calls Tryd.prog 55 #[stV s] w fun e w' => e = .returned (.bool s.ok) ∧ Below w.heap.size w w' := by
  obtain ⟨f, b, bo, un, tu⟩ := s
  have hok : Hid ((St.mk f b bo un tu).ok = decide (0 ≤ f ∧ f ≤ 8 ∧ 0 ≤ b ∧ b ≤ 8)) := rfl
  unfold stV
  simp only
  go_enter Tryd.func55, Tryd.ntmps55
  go_wp2_with (go_at_call 43; refine (l1In_any _ _ _ _).mono ?_; rintro e w' ⟨rfl, hw⟩; subst hw)
  all_goals
    go_ret
    refine ⟨ret_bool ?_, (Below.refl _ _).alloc (Nat.le_refl _) _⟩
    rw [hok.out]
    clear hok
    by_cases h1 : 0 ≤ f ∧ f ≤ 8
    · by_cases h2 : 0 ≤ b ∧ b ≤ 8
      · have h3 : 0 ≤ f ∧ f ≤ 8 ∧ 0 ≤ b ∧ b ≤ 8 := ⟨h1.1, h1.2, h2⟩
        simp_all
      · have h3 : ¬ (0 ≤ f ∧ f ≤ 8 ∧ 0 ≤ b ∧ b ≤ 8) := fun h => h2 h.2.2
        simp_all
        try omega
    · have h3 : ¬ (0 ≤ f ∧ f ≤ 8 ∧ 0 ≤ b ∧ b ≤ 8) := fun h => h1 ⟨h.1, h.2.1⟩
      simp_all
end Go.Proofs.YtpijokologkbeaaDoor
namespace Go.Proofs.YtpijokologkbeaaDoor
open Go.ChangeShapes Go.WideShapes Go.ChangeAt Go.RowKit
/-- What is owned stays owned while the world only grows above. -/
theorem _root_.Go.World.ownsRow.below {w w' : World} {base : Nat} {e : TypeId} {size : Nat} {v : Value} {n : Nat} {xs : List Value} (h : w.ownsRow base e size v n xs) (hb : Below w.heap.size w w') : w'.ownsRow base e size v n xs := by
  refine ⟨h.1, ?_⟩
  rcases h.2 with h2 | ⟨g, cap, cur, hv, hbg, hg, r⟩
  · exact .inl h2
  · exact .inr ⟨g, cap, cur, hv, hbg, by rw [hb.block g (Array.getElem?_eq_some_iff.1 hg).1]; exact hg, r⟩
/-- A slice that can be read: of no element, or a row of cells that hold the numbers. -/
def SlI (w : World) (v : Value) (xs : List Int) : Prop :=
  ∃ a c, v = .slice a xs.length c ∧ (xs = [] ∨ ∃ b off, a = some ⟨b, off, none⟩ ∧ b < w.heap.size ∧ ∀ i, i < xs.length → w.cell? ⟨b, off + i, none⟩ = some (.int .i64 (xs.getD i 0)))
theorem SlI.of_own {w : World} {base : Nat} {e : TypeId} {v : Value} {xs : List Int} (h : w.ownsRow base e 1 v xs.length (xs.map (Value.int .i64))) : SlI w v xs := by
  rcases h.2 with ⟨rfl, h2⟩ | ⟨g, cap, cur, rfl, hb, hg, hr⟩
  · exact ⟨none, 0, by rw [h2], .inl (List.eq_nil_of_length_eq_zero h2)⟩
  · refine ⟨_, cap, rfl, .inr ⟨g, 0, rfl, (Array.getElem?_eq_some_iff.1 hg).1, fun i hi => ?_⟩⟩
    have := h.cellAt i (by simpa using hi)
    rw [Nat.zero_add, this]
    simp [hi]
theorem SlI.below {w w' : World} {v : Value} {xs : List Int} (h : SlI w v xs) (hb : Below w.heap.size w w') : SlI w' v xs := by
  obtain ⟨a, c, hv, h | ⟨b, off, ha, hlt, hc⟩⟩ := h
  · exact ⟨a, c, hv, .inl h⟩
  · exact ⟨a, c, hv, .inr ⟨b, off, ha, Nat.lt_of_lt_of_le hlt hb.size, fun i hi => (hb.cell (p := ⟨b, off + i, none⟩) hlt).trans (hc i hi)⟩⟩
end Go.Proofs.YtpijokologkbeaaDoor
namespace Go.Proofs.YtpijokologkbeaaDoor
open Go.ChangeShapes Go.WideShapes Go.ChangeAt Go.RowKit
theorem gbl {w w' : World} (h : Below w.heap.size w w') (row : Option Nat) : w.grownBy w' row := ⟨h.os, h.tape, h.output, h.size, fun k hk _ => h.block k hk⟩
theorem setCell_gr (w : World) (B o : Nat) (u : Value) : w.grownBy (w.setCell ⟨B, o, none⟩ u) (some B) :=
  ⟨rfl, rfl, rfl, by simp, fun k _ hk => heap_setCell_other w ⟨B, o, none⟩ k _ (fun e => hk (by simp [e]))⟩
theorem grown_tr {a b c : World} {row : Option Nat} (h : a.grownBy b row) (k : b.grownBy c row) : a.grownBy c row :=
  ⟨k.os.trans h.os, k.tape.trans h.tape, k.output.trans h.output, Nat.le_trans h.size k.size, fun i hi hr => (k.block i (Nat.lt_of_lt_of_le hi h.size) hr).trans (h.block i hi hr)⟩
theorem bal' (w : World) (o : Obj) : Below w.heap.size w (w.alloc o) := (Below.refl _ _).alloc (Nat.le_refl _) o
theorem bdr (w : World) : Below w.heap.size w w.drew := ⟨rfl, rfl, rfl, Nat.le_refl _, fun _ _ => rfl⟩
end Go.Proofs.YtpijokologkbeaaDoor
namespace Go.Proofs.YtpijokologkbeaaDoor
open Go.ChangeShapes Go.WideShapes Go.ChangeAt Go.RowKit
/-- A style lies in block B. -/
def StAt (w : World) (B : Nat) (s : St) : Prop :=
  B < w.heap.size ∧ (w.cell? ⟨B, 0, none⟩ = some (.int .i64 s.fore) ∧ w.cell? ⟨B, 1, none⟩ = some (.int .i64 s.back) ∧ w.cell? ⟨B, 2, none⟩ = some (.bool s.bold) ∧ w.cell? ⟨B, 3, none⟩ = some (.bool s.under) ∧ w.cell? ⟨B, 4, none⟩ = some (.bool s.turned)) ∧
    (w.frozen? ⟨B, 0, none⟩ = false ∧ w.frozen? ⟨B, 1, none⟩ = false ∧ w.frozen? ⟨B, 2, none⟩ = false ∧ w.frozen? ⟨B, 3, none⟩ = false ∧ w.frozen? ⟨B, 4, none⟩ = false)
theorem StAt.grown {w w' : World} {B : Nat} {s : St} {row : Option Nat} (h : StAt w B s) (hg : w.grownBy w' row) (hr : row ≠ some B) : StAt w' B s := by
  have hb := hg.block B h.1 (Ne.symm hr)
  have hc : ∀ k, w'.cell? ⟨B, k, none⟩ = w.cell? ⟨B, k, none⟩ := fun k => World.cell?_of_block (w := w) hb
  have hz : ∀ k, w'.frozen? ⟨B, k, none⟩ = w.frozen? ⟨B, k, none⟩ := fun k => World.frozen?_of_block (w := w) hb
  refine ⟨Nat.lt_of_lt_of_le h.1 hg.size, ?_, ?_⟩
  · rw [hc, hc, hc, hc, hc]; exact h.2.1
  · rw [hz, hz, hz, hz, hz]; exact h.2.2
theorem StAt.below {w w' : World} {B : Nat} {s : St} (h : StAt w B s) (hb : Below w.heap.size w w') : StAt w' B s := h.grown (gbl hb none) (by simp)
theorem StAt.new (w : World) (s : St) (t : TypeId) : StAt (w.alloc (.cells #[.int .i64 s.fore, .int .i64 s.back, .bool s.bold, .bool s.under, .bool s.turned] t)) w.heap.size s :=
  ⟨by simp, ⟨by simp [go_sem], by simp [go_sem], by simp [go_sem], by simp [go_sem], by simp [go_sem]⟩, ⟨by simp [go_sem], by simp [go_sem], by simp [go_sem], by simp [go_sem], by simp [go_sem]⟩⟩
/-- Another style is written there whole. -/
def putSt (w : World) (B : Nat) (s : St) : World :=
  ((((w.setCell ⟨B, 0, none⟩ (.int .i64 s.fore)).setCell ⟨B, 1, none⟩ (.int .i64 s.back)).setCell ⟨B, 2, none⟩ (.bool s.bold)).setCell ⟨B, 3, none⟩ (.bool s.under)).setCell ⟨B, 4, none⟩ (.bool s.turned)

theorem setCell_ne' (w : World) (B a b : Nat) (u : Value) (h : a ≠ b) : (w.setCell ⟨B, b, none⟩ u).cell? ⟨B, a, none⟩ = w.cell? ⟨B, a, none⟩ := by
  simp [World.setCell, World.cell?, Array.getElem?_modify]
  cases hh : w.heap[B]? with
  | none => simp
  | some o => cases o <;> simp [Ne.symm h]
theorem StAt.put {w : World} {B : Nat} {s : St} (h : StAt w B s) (s' : St) : StAt (putSt w B s') B s' := by
  obtain ⟨hlt, ⟨c0, c1, c2, c3, c4⟩, ⟨z0, z1, z2, z3, z4⟩⟩ := h
  refine ⟨by simpa [putSt] using hlt, ⟨?_, ?_, ?_, ?_, ?_⟩, ⟨?_, ?_, ?_, ?_, ?_⟩⟩
  all_goals simp only [putSt]
  · rw [setCell_ne' _ _ _ _ _ (by decide), setCell_ne' _ _ _ _ _ (by decide), setCell_ne' _ _ _ _ _ (by decide), setCell_ne' _ _ _ _ _ (by decide)]; simp [go_sem, c0]
  · rw [setCell_ne' _ _ _ _ _ (by decide), setCell_ne' _ _ _ _ _ (by decide), setCell_ne' _ _ _ _ _ (by decide)]; simp [go_sem, c1]
  · rw [setCell_ne' _ _ _ _ _ (by decide), setCell_ne' _ _ _ _ _ (by decide)]; simp [go_sem, c2]
  · rw [setCell_ne' _ _ _ _ _ (by decide)]; simp [go_sem, c3]
  · simp [go_sem, c4]
  · simp [go_sem, z0]
  · simp [go_sem, z1]
  · simp [go_sem, z2]
  · simp [go_sem, z3]
  · simp [go_sem, z4]
end Go.Proofs.YtpijokologkbeaaDoor
namespace Go.Proofs.YtpijokologkbeaaDoor
open Go.ChangeShapes Go.WideShapes Go.ChangeAt Go.RowKit
def ceL (c : Ce) : List Value := [.int .i64 c.rune, .int .i64 c.st.fore, .int .i64 c.st.back, .bool c.st.bold, .bool c.st.under, .bool c.st.turned, .int .i64 c.part]
def ceV (c : Ce) : Value := .agg #[.int .i64 c.rune, .int .i64 c.st.fore, .int .i64 c.st.back, .bool c.st.bold, .bool c.st.under, .bool c.st.turned, .int .i64 c.part]
def CeAt (w : World) (b o : Nat) (c : Ce) : Prop :=
  w.cell? ⟨b, o, none⟩ = some (.int .i64 c.rune) ∧ w.cell? ⟨b, o + 1, none⟩ = some (.int .i64 c.st.fore) ∧ w.cell? ⟨b, o + 2, none⟩ = some (.int .i64 c.st.back) ∧ w.cell? ⟨b, o + 3, none⟩ = some (.bool c.st.bold) ∧ w.cell? ⟨b, o + 4, none⟩ = some (.bool c.st.under) ∧ w.cell? ⟨b, o + 5, none⟩ = some (.bool c.st.turned) ∧ w.cell? ⟨b, o + 6, none⟩ = some (.int .i64 c.part)
theorem CeAt.below {w w' : World} {b o : Nat} {c : Ce} (h : CeAt w b o c) (hb : Below w.heap.size w w') (hlt : b < w.heap.size) : CeAt w' b o c := by
  have e : ∀ k, w'.cell? ⟨b, k, none⟩ = w.cell? ⟨b, k, none⟩ := fun k => hb.cell (p := ⟨b, k, none⟩) hlt
  unfold CeAt
  rw [e, e, e, e, e, e, e]
  exact h
theorem CeAt.grown {w w' : World} {b o : Nat} {c : Ce} {row : Option Nat} (h : CeAt w b o c) (hg : w.grownBy w' row) (hlt : b < w.heap.size) (hr : row ≠ some b) : CeAt w' b o c := by
  have hb := hg.block b hlt (Ne.symm hr)
  have e : ∀ k, w'.cell? ⟨b, k, none⟩ = w.cell? ⟨b, k, none⟩ := fun k => World.cell?_of_block (w := w) hb
  unfold CeAt
  rw [e, e, e, e, e, e, e]
  exact h
/-- A slice of cells that can be read. -/
def SlC (w : World) (v : Value) (xs : List Ce) : Prop :=
  ∃ a c, v = .slice a xs.length c ∧ xs.length ≤ c ∧ (a = none → c = 0) ∧ (xs = [] ∨ ∃ b off, a = some ⟨b, off, none⟩ ∧ b < w.heap.size ∧ ∀ i, i < xs.length → CeAt w b (off + i * 7) (atC xs i))
theorem SlC.below {w w' : World} {v : Value} {xs : List Ce} (h : SlC w v xs) (hb : Below w.heap.size w w') : SlC w' v xs := by
  obtain ⟨a, c, hv, hc, hn, h | ⟨b, off, ha, hlt, hi⟩⟩ := h
  · exact ⟨a, c, hv, hc, hn, .inl h⟩
  · exact ⟨a, c, hv, hc, hn, .inr ⟨b, off, ha, Nat.lt_of_lt_of_le hlt hb.size, fun i h => (hi i h).below hb hlt⟩⟩
/-- A slice of cells that this call owns. -/
def OwnC (w : World) (base : Nat) (v : Value) (xs : List Ce) : Prop := w.ownsRow base 75 7 v xs.length (xs.flatMap ceL)
theorem flat_len (xs : List Ce) : (xs.flatMap ceL).length = xs.length * 7 := by
  induction xs with
  | nil => rfl
  | cons c xs ih => rw [List.flatMap_cons, List.length_append, ih, List.length_cons]; simp [ceL]; omega
theorem flat_get (xs : List Ce) : ∀ (i k : Nat), i < xs.length → k < 7 → (xs.flatMap ceL)[i * 7 + k]? = (ceL (atC xs i))[k]? := by
  induction xs with
  | nil => intro i k h; simp at h
  | cons c xs ih =>
    intro i k h hk
    rw [List.flatMap_cons]
    cases i with
    | zero =>
      rw [List.getElem?_append_left (by simp [ceL]; omega)]
      simp [atC]
    | succ i =>
      have hl : (ceL c).length = 7 := rfl
      rw [List.getElem?_append_right (by rw [hl]; omega), hl]
      have e : (i + 1) * 7 + k - 7 = i * 7 + k := by omega
      rw [e, ih i k (by simpa using h) hk]
      simp [atC]
theorem OwnC.at {w : World} {base g n cap : Nat} {xs : List Ce} (h : OwnC w base (.slice (some ⟨g, 0, none⟩) n cap) xs) (hn : xs.length = n) (i : Nat) (hi : i < n) : CeAt w g (i * 7) (atC xs i) := by
  subst hn
  have hc : ∀ k, k < 7 → w.cell? ⟨g, i * 7 + k, none⟩ = (ceL (atC xs i))[k]? := fun k hk => by
    rw [h.cellAt (i * 7 + k) (by omega), flat_get xs i k hi hk]
  exact ⟨hc 0 (by omega), hc 1 (by omega), hc 2 (by omega), hc 3 (by omega), hc 4 (by omega), hc 5 (by omega), hc 6 (by omega)⟩
theorem OwnC.shape {w : World} {base : Nat} {v : Value} {xs : List Ce} (h : OwnC w base v xs) : (v = .slice none 0 0 ∧ xs = []) ∨ ∃ g cap, v = .slice (some ⟨g, 0, none⟩) xs.length cap ∧ base ≤ g ∧ g < w.heap.size ∧ xs.length ≤ cap := by
  rcases h.2 with ⟨h1, h2⟩ | ⟨g, cap, cur, hv, hb, hg, hn, _⟩
  · exact .inl ⟨h1, List.eq_nil_of_length_eq_zero h2⟩
  · exact .inr ⟨g, cap, hv, hb, (Array.getElem?_eq_some_iff.1 hg).1, hn⟩
theorem SlC.of_own {w : World} {base : Nat} {v : Value} {xs : List Ce} (h : OwnC w base v xs) : SlC w v xs := by
  rcases h.shape with ⟨rfl, rfl⟩ | ⟨g, cap, rfl, hb, hg, hn⟩
  · exact ⟨none, 0, rfl, Nat.le_refl _, fun _ => rfl, .inl rfl⟩
  · exact ⟨_, cap, rfl, hn, (fun h => by cases h), .inr ⟨g, 0, rfl, hg, fun i hi => by rw [Nat.zero_add]; exact h.at rfl i hi⟩⟩
theorem OwnC.below {w w' : World} {base : Nat} {v : Value} {xs : List Ce} (h : OwnC w base v xs) (hb : Below w.heap.size w w') : OwnC w' base v xs := World.ownsRow.below (show w.ownsRow _ _ _ _ _ _ from h) hb
theorem OwnC.low {w : World} {base base' : Nat} {v : Value} {xs : List Ce} (h : OwnC w base v xs) (hb : base' ≤ base) : OwnC w base' v xs := by
  refine ⟨h.1, ?_⟩
  rcases h.2 with h2 | ⟨g, cap, cur, hv, hbg, r⟩
  · exact .inl h2
  · exact .inr ⟨g, cap, cur, hv, Nat.le_trans hb hbg, r⟩
theorem OwnC.lt {w : World} {base : Nat} {v : Value} {xs : List Ce} (h : OwnC w base v xs) : ∀ g, v.ownBlock = some g → base ≤ g ∧ g < w.heap.size := World.ownsRow.lt (show w.ownsRow _ _ _ _ _ _ from h)
/-- One cell is written whole. -/
def putCe (w : World) (g o : Nat) (c : Ce) : World :=
  ((((((w.setCell ⟨g, o, none⟩ (.int .i64 c.rune)).setCell ⟨g, o + 1, none⟩ (.int .i64 c.st.fore)).setCell ⟨g, o + 2, none⟩ (.int .i64 c.st.back)).setCell ⟨g, o + 3, none⟩ (.bool c.st.bold)).setCell ⟨g, o + 4, none⟩ (.bool c.st.under)).setCell ⟨g, o + 5, none⟩ (.bool c.st.turned)).setCell ⟨g, o + 6, none⟩ (.int .i64 c.part)
theorem flat_set (xs : List Ce) (c : Ce) : ∀ i, i < xs.length → ((((((((xs.flatMap ceL).set (i * 7) (.int .i64 c.rune)).set (i * 7 + 1) (.int .i64 c.st.fore)).set (i * 7 + 2) (.int .i64 c.st.back)).set (i * 7 + 3) (.bool c.st.bold)).set (i * 7 + 4) (.bool c.st.under)).set (i * 7 + 5) (.bool c.st.turned)).set (i * 7 + 6) (.int .i64 c.part)) = (xs.set i c).flatMap ceL := by
  induction xs with
  | nil => intro i h; simp at h
  | cons d xs ih =>
    intro i h
    cases i with
    | zero => simp [ceL]
    | succ i =>
      have e : ∀ k, (i + 1) * 7 + k = (i * 7 + k) + 7 := fun k => by omega
      have e0 : (i + 1) * 7 = (i * 7) + 7 := by omega
      rw [e 1, e 2, e 3, e 4, e 5, e 6, e0]
      have hs : ∀ (m : Nat) (u : Value) (l : List Value), ((ceL d ++ l).set (m + 7) u) = ceL d ++ l.set m u := fun m u l => by
        rw [List.set_append, if_neg (by simp [ceL])]
        simp [ceL]
      rw [List.flatMap_cons, hs, hs, hs, hs, hs, hs, hs, ih i (by simpa using h), List.set_cons_succ, List.flatMap_cons]
theorem OwnC.put {w : World} {base g n cap : Nat} {xs : List Ce} (h : OwnC w base (.slice (some ⟨g, 0, none⟩) n cap) xs) (hn : xs.length = n) (i : Nat) (hi : i < n) (c : Ce) :
    OwnC (putCe w g (i * 7) c) base (.slice (some ⟨g, 0, none⟩) n cap) (xs.set i c) ∧ w.grownBy (putCe w g (i * 7) c) (some g) := by
  subst hn
  have h0 := World.ownsRow.stored h (i * 7) (.int .i64 c.rune)
  have h1 := World.ownsRow.stored h0.1 (i * 7 + 1) (.int .i64 c.st.fore)
  have h2 := World.ownsRow.stored h1.1 (i * 7 + 2) (.int .i64 c.st.back)
  have h3 := World.ownsRow.stored h2.1 (i * 7 + 3) (.bool c.st.bold)
  have h4 := World.ownsRow.stored h3.1 (i * 7 + 4) (.bool c.st.under)
  have h5 := World.ownsRow.stored h4.1 (i * 7 + 5) (.bool c.st.turned)
  have h6 := World.ownsRow.stored h5.1 (i * 7 + 6) (.int .i64 c.part)
  refine ⟨?_, grown_tr (grown_tr (grown_tr (grown_tr (grown_tr (grown_tr h0.2 h1.2) h2.2) h3.2) h4.2) h5.2) h6.2⟩
  have := h6.1
  rw [flat_set xs c i hi] at this
  unfold OwnC putCe
  rw [List.length_set]
  exact this
theorem OwnC.frozen {w : World} {base g n cap : Nat} {xs : List Ce} (h : OwnC w base (.slice (some ⟨g, 0, none⟩) n cap) xs) (hn : xs.length = n) (j : Nat) : w.frozen? ⟨g, j, none⟩ = false := by
  subst hn
  exact World.ownsRow.frozenAt h j
theorem info_cell : (Tryd.prog.info? 75).map (fun i => (i.zero, i.size, i.bytes)) = some (some (ceV Ce.zero), 7, 40) := by kernel_rfl
/-- One cell more. -/
theorem append_oc {w : World} {ops : Array Oper} {rest : List Oper} {o : Oper} {ac : Act} {Q : Exit → Act → World → Prop} (hgd : o.guard = none) (s x : Operand)
    (ho : o.op = .call { callee := .builtin .append, args := #[s, x], argTypes := #[66, 66] })
    (base : Nat) (v : Value) (L : List Ce) (c : Ce) (hs : ac.eval s = v) (k : OwnC w base v L) (hb : base ≤ w.heap.size) (hl : L.length < 2000000)
    (g : Nat) (hg0 : w.heap.size = g) (hx : ac.eval x = .slice (some ⟨g, 0, none⟩) 1 1)
    (h : ∀ v' w', OwnC w' base v' (L ++ [c]) → (w.alloc (.cells #[.int .i64 c.rune, .int .i64 c.st.fore, .int .i64 c.st.back, .bool c.st.bold, .bool c.st.under, .bool c.st.turned, .int .i64 c.part] 75)).grownBy w' v.ownBlock → wpList Tryd.prog ops Q rest (ac.put o.dst v') w') :
    wpList Tryd.prog ops Q (o :: rest) ac (w.alloc (.cells #[.int .i64 c.rune, .int .i64 c.st.fore, .int .i64 c.st.back, .bool c.st.bold, .bool c.st.under, .bool c.st.turned, .int .i64 c.part] 75)) := by
  subst hg0
  obtain ⟨i0, hi, hz0, hz1, hz2⟩ := info_parts info_cell
  refine wpList_append_own _ hgd s x _ ho base 75 i0 (ceV Ce.zero) 7 40 Tryd.underlying66 hi hz0 hz1 hz2 rfl (by decide) v L.length _ hs (k.below (bal' _ _)) ⟨w.heap.size, 0, none⟩ 1 1 (ceL c) hx rfl ?_ (by intro u hu; simp [ceL] at hu; rcases hu with rfl | rfl | rfl | rfl | rfl | rfl | rfl <;> rfl) (by unfold maxLen; omega) (by omega) (by simp; omega) (fun v' w' ho' hg' _ => ?_)
  · intro j u hj
    have e : (⟨w.heap.size, 0, none⟩ : Addr).add j = ⟨w.heap.size, j, none⟩ := by unfold Addr.add; split <;> simp_all
    rw [e, cell_of_row _ w.heap.size j _ _ (0, 0) (heap_alloc_new w _)]
    simpa [ceL] using hj
  · refine h v' w' ?_ hg'
    unfold OwnC
    rw [List.length_append, List.flatMap_append]
    simpa using ho'
theorem flat_cells {w : World} {b off : Nat} {xs : List Ce} (hi : ∀ i, i < xs.length → CeAt w b (off + i * 7) (atC xs i)) : ∀ j u, (xs.flatMap ceL)[j]? = some u → w.cell? ⟨b, off + j, none⟩ = some u := by
  intro j u hj
  have hlt : j < xs.length * 7 := by have := (List.getElem?_eq_some_iff.1 hj).1; rwa [flat_len] at this
  have h1 : j / 7 < xs.length := by omega
  have h2 : j % 7 < 7 := Nat.mod_lt _ (by decide)
  have e : j = j / 7 * 7 + j % 7 := by omega
  rw [e, flat_get xs (j / 7) (j % 7) h1 h2] at hj
  obtain ⟨c0, c1, c2, c3, c4, c5, c6⟩ := hi (j / 7) h1
  generalize hk : j % 7 = k at *
  have eo : off + j = off + j / 7 * 7 + k := by omega
  rw [eo]
  match k, h2, hj with
  | 0, _, hj => simp [ceL] at hj; subst hj; exact c0
  | 1, _, hj => simp [ceL] at hj; subst hj; exact c1
  | 2, _, hj => simp [ceL] at hj; subst hj; exact c2
  | 3, _, hj => simp [ceL] at hj; subst hj; exact c3
  | 4, _, hj => simp [ceL] at hj; subst hj; exact c4
  | 5, _, hj => simp [ceL] at hj; subst hj; exact c5
  | 6, _, hj => simp [ceL] at hj; subst hj; exact c6
theorem flat_one (xs : List Ce) : ∀ u ∈ xs.flatMap ceL, u.oneCell' = true := by
  intro u hu
  obtain ⟨c, _, hu⟩ := List.mem_flatMap.1 hu
  simp [ceL] at hu
  rcases hu with rfl | rfl | rfl | rfl | rfl | rfl | rfl <;> rfl
/-- A whole slice more. -/
theorem append_os {w : World} {ops : Array Oper} {rest : List Oper} {o : Oper} {ac : Act} {Q : Exit → Act → World → Prop} (hgd : o.guard = none) (s x : Operand)
    (ho : o.op = .call { callee := .builtin .append, args := #[s, x], argTypes := #[66, 66] })
    (base : Nat) (v : Value) (L : List Ce) (hs : ac.eval s = v) (k : OwnC w base v L) (hb : base ≤ w.heap.size) (u : Value) (xs : List Ce) (hu : SlC w u xs) (hx : ac.eval x = u) (hl : L.length + xs.length < 2000000)
    (h : ∀ v' w', OwnC w' base v' (L ++ xs) → w.grownBy w' v.ownBlock → wpList Tryd.prog ops Q rest (ac.put o.dst v') w') :
    wpList Tryd.prog ops Q (o :: rest) ac w := by
  obtain ⟨i0, hi, hz0, hz1, hz2⟩ := info_parts info_cell
  obtain ⟨a, c, rfl, hc, hn, hr⟩ := hu
  cases a with
  | none =>
    have hc0 : c = 0 := hn rfl
    subst hc0
    have hx0 : xs = [] := by
      rcases hr with h | ⟨b, off, h, _⟩
      · exact h
      · cases h
    subst hx0
    refine wpList_append_own_none hgd s x _ ho base 75 i0 7 Tryd.underlying66 hi v L.length _ hs k hx ?_
    refine h v w ?_ ⟨rfl, rfl, rfl, Nat.le_refl _, fun _ _ _ => rfl⟩
    rw [List.append_nil]; exact k
  | some ad =>
    refine wpList_append_own _ hgd s x _ ho base 75 i0 (ceV Ce.zero) 7 40 Tryd.underlying66 hi hz0 hz1 hz2 rfl (by decide) v L.length _ hs k ad xs.length c (xs.flatMap ceL) hx (flat_len xs) ?_ (flat_one xs) (by unfold maxLen; omega) (by omega) hb (fun v' w' ho' hg' _ => ?_)
    · rcases hr with rfl | ⟨b, off, e, _, hi⟩
      · intro j u hj; simp at hj
      · cases e
        intro j u hj
        rw [Addr.add_mid]
        exact flat_cells hi j u hj
    · refine h v' w' ?_ hg'
      unfold OwnC
      rw [List.length_append, List.flatMap_append]
      exact ho'
theorem ownC_nil (w : World) (base : Nat) (hb : base ≤ w.heap.size) : OwnC (w.alloc (.cells #[] 75)) base (.slice (some ⟨w.heap.size, 0, none⟩) 0 0) [] := by
  have := World.ownsRow_lit (base := base) (e := 75) (size := 7) w #[] 0 hb (Nat.zero_le _) rfl
  simpa [OwnC] using this
end Go.Proofs.YtpijokologkbeaaDoor
namespace Go.Proofs.YtpijokologkbeaaDoor
open Go.ChangeShapes Go.WideShapes Go.ChangeAt Go.RowKit
section
instance : Inhabited Ce := ⟨Ce.zero⟩
variable {H : Type} {enc : TypeId × Value → H} {w : World} {base : Nat} {spare : Nat → Bool} {held : Bool}
set_option maxRecDepth 20000 in
theorem style_cs {fuel : Nat} {cs : List Value} {x : DataW H × List MemPlace} (hf : DataW.trod enc Tryd.prog w base spare held fuel 153 cs = some x) :
    ∃ s : St, cs = [.int .i64 s.fore, .int .i64 s.back, .bool s.bold, .bool s.under, .bool s.turned] := by
  obtain ⟨xs, n, _, _, hl, hlen, hfs⟩ := DataW.trod_struct Tryd.underlying153 hf
  have e : Tryd.prog.cellsOf 153 = 5 := by kernel_rfl
  have ei : Tryd.prog.cellsOf 2 = 1 := by kernel_rfl
  have eb : Tryd.prog.cellsOf 4 = 1 := by kernel_rfl
  match cs, hl.trans e, xs, hlen with
  | [c0, c1, c2, c3, c4], _, [x0, x1, x2, x3, x4], _ =>
    have h0 := hfs 0 _ rfl
    have h1 := hfs 1 _ rfl
    have h2 := hfs 2 _ rfl
    have h3 := hfs 3 _ rfl
    have h4 := hfs 4 _ rfl
    simp [ei, eb] at h0 h1 h2 h3 h4
    obtain ⟨k0, q0, _, _⟩ := DataW.trod_int Tryd.underlying2 h0
    obtain ⟨k1, q1, _, _⟩ := DataW.trod_int Tryd.underlying2 h1
    obtain ⟨k2, q2, _⟩ := DataW.trod_bool Tryd.underlying4 h2
    obtain ⟨k3, q3, _⟩ := DataW.trod_bool Tryd.underlying4 h3
    obtain ⟨k4, q4, _⟩ := DataW.trod_bool Tryd.underlying4 h4
    simp at q0 q1 q2 q3 q4
    subst q0; subst q1; subst q2; subst q3; subst q4
    exact ⟨⟨k0, k1, k2, k3, k4⟩, rfl⟩
set_option maxRecDepth 20000 in
theorem cell_cs {fuel : Nat} {cs : List Value} {x : DataW H × List MemPlace} (hf : DataW.trod enc Tryd.prog w base spare held fuel 155 cs = some x) :
    ∃ c : Ce, cs = ceL c := by
  obtain ⟨xs, n, _, _, hl, hlen, hfs⟩ := DataW.trod_struct Tryd.underlying155 hf
  have e : Tryd.prog.cellsOf 155 = 7 := by kernel_rfl
  have es : Tryd.prog.cellsOf 153 = 5 := by kernel_rfl
  have ei : Tryd.prog.cellsOf 2 = 1 := by kernel_rfl
  match cs, hl.trans e, xs, hlen with
  | [c0, c1, c2, c3, c4, c5, c6], _, [x0, x1, x2], _ =>
    have h0 := hfs 0 _ rfl
    have h1 := hfs 1 _ rfl
    have h2 := hfs 2 _ rfl
    simp [ei, es] at h0 h1 h2
    obtain ⟨k0, q0, _, _⟩ := DataW.trod_int Tryd.underlying2 h0
    obtain ⟨s, q1⟩ := style_cs h1
    obtain ⟨k2, q2, _, _⟩ := DataW.trod_int Tryd.underlying2 h2
    simp at q0 q1 q2
    obtain ⟨r1, r2, r3, r4, r5⟩ := q1
    subst q0; subst r1; subst r2; subst r3; subst r4; subst r5; subst q2
    exact ⟨⟨k0, s, k2⟩, rfl⟩
end
end Go.Proofs.YtpijokologkbeaaDoor
namespace Go.Proofs.YtpijokologkbeaaDoor
open Go.ChangeShapes Go.WideShapes Go.ChangeAt Go.RowKit
theorem l4Blank_any (s : St) (w : World) :
    Calls Tryd.prog 114 #[stV s] w fun e w' => e = .returned (ceV (blankC s)) ∧ Below w.heap.size w w' := by
  obtain ⟨f, b, bo, un, tu⟩ := s
  unfold stV
  simp only
  go_enter Tryd.func114, Tryd.ntmps114
  go_wp2
  exact bodyPost_ret (v := .agg #[.int .i64 32, .int .i64 f, .int .i64 b, .bool bo, .bool un, .bool tu, .int .i64 0]) (by simp [results, Tryd.results114, go_sem]) rfl ⟨rfl, ((Below.refl _ _).alloc (Nat.le_refl _) _).alloc (by simp) _⟩
/-- A row of this call's own beside what stays. -/
def OC (base : Nat) (v : Value) (L : List Ce) (w0 W : World) : Prop := OwnC W base v L ∧ Below w0.heap.size w0 W ∧ base ≤ W.heap.size ∧ w0.heap.size ≤ base
theorem OC.below {base : Nat} {v : Value} {L : List Ce} {w0 W W' : World} (k : OC base v L w0 W) (hb : Below W.heap.size W W') : OC base v L w0 W' :=
  ⟨k.1.below hb, k.2.1.trans (hb.mono k.2.1.size), Nat.le_trans k.2.2.1 hb.size, k.2.2.2⟩
theorem OC.own {base : Nat} {v v' : Value} {L L' : List Ce} {w0 W W' : World} (k : OC base v L w0 W) (ho : OwnC W' base v' L') (hg : W.grownBy W' v.ownBlock) : OC base v' L' w0 W' :=
  ⟨ho, k.2.1.grown hg k.2.1.size (fun g e => Nat.le_trans k.2.2.2 (k.1.lt g e).1), Nat.le_trans k.2.2.1 hg.size, k.2.2.2⟩
theorem StAt.own {W W' : World} {B base : Nat} {s : St} {v : Value} {L : List Ce} (h : StAt W B s) (k : OwnC W base v L) (hB : B < base) (hg : W.grownBy W' v.ownBlock) : StAt W' B s :=
  h.grown hg (fun e => by have := (k.lt B e).1; omega)
set_option maxHeartbeats 2000000 in
theorem l4Row_any (n : Nat) (s : St) (w : World) (hn : n ≤ 1000) :
    Calls Tryd.prog 77 #[.int .i64 n, stV s] w fun e w' => ∃ v, e = .returned v ∧ OwnC w' w.heap.size v (rowL n s) ∧ Below w.heap.size w w' := by
  have h2 := StAt.new w s 73
  have hbA := bal' w (Obj.cells #[.int .i64 s.fore, .int .i64 s.back, .bool s.bold, .bool s.under, .bool s.turned] 73)
  have hbl := l4Blank_any s
  unfold stV ceV blankC at *
  simp only at hbl
  go_enter Tryd.func77, Tryd.ntmps77
  go_wp2
  have k0 : OC (w.heap.size + 1) (.slice (some ⟨w.heap.size + 1, 0, none⟩) 0 0) [] w ((w.alloc (Obj.cells #[.int .i64 s.fore, .int .i64 s.back, .bool s.bold, .bool s.under, .bool s.turned] 73)).alloc (Obj.cells #[] 75)) := by
    refine ⟨?_, hbA.trans ((bal' _ _).mono hbA.size), by simp, by omega⟩
    have := ownC_nil (w.alloc (Obj.cells #[.int .i64 s.fore, .int .i64 s.back, .bool s.bold, .bool s.under, .bool s.turned] 73)) (w.heap.size + 1) (by simp)
    simpa using this
  have hs0 := h2.below (bal' _ (Obj.cells #[] 75))
  go_loopw [5, 6] (fun u i wr => ∃ j : Nat, i = .int .i64 j ∧ j ≤ n ∧ OC (w.heap.size + 1) u (rowL j s) w wr ∧ StAt wr w.heap.size s) (fun _ i _ => n - (intOf i).toNat)
  case atStart => exact ⟨0, rfl, Nat.zero_le _, k0, hs0⟩
  case round =>
    clear k0 hs0 h2 hbA
    obtain ⟨j, rfl, hj, k, hs⟩ := hrel
    by_cases hlt : j < n
    · have hji : (j : Int) < (n : Int) := by omega
      have hsn : Hid (rowL (j + 1) s = rowL j s ++ [⟨32, s, 0⟩]) := by show _ = _; rw [rowL, List.replicate_succ']; rfl
      have hl : (rowL j s).length < 2000000 := by simp [rowL]; omega
      obtain ⟨_, ⟨c0, c1, c2, c3, c4⟩, _⟩ := id hs
      generalize rowL j s = L at *
      go_wp2_with fail
      refine (hbl _).mono ?_
      rintro e w1 ⟨rfl, hb1⟩
      have k1 := k.below hb1
      have hs1 := hs.below hb1
      clear k hs c0 c1 c2 c3 c4 hb1 hbl
      go_wp2_with (at_builtin; refine append_oc rfl _ _ rfl (w.heap.size + 1) _ L ⟨32, s, 0⟩ rfl (by exact k1.1) k1.2.2.1 hl _ (by simp) rfl ?_; intro v' w' ho' hg')
      have k2 := (k1.below (bal' _ _)).own ho' hg'
      have hs2 := (hs1.below (bal' _ _)).own (k1.below (bal' _ _)).1 (Nat.lt_succ_self _) hg'
      clear k1 hs1 ho' hg'
      go_wp2
      go_roundw
      case rel => exact ⟨j + 1, by go_num, by omega, by rw [hsn.out]; exact k2, hs2⟩
      case measure => simp [intOf]; omega
    · have hjn : j = n := by omega
      have hji : ¬ (j : Int) < (n : Int) := by omega
      subst hjn
      clear hbl hs
      go_wp2
      go_ret
      exact ⟨_, rfl, k.1.low (by omega), k.2.1⟩
theorem bigRow (n : Nat) (s : St) : (rowL n s).length = n := by simp [rowL]
end Go.Proofs.YtpijokologkbeaaDoor
namespace Go.Proofs.YtpijokologkbeaaDoor
open Go.ChangeShapes Go.WideShapes Go.ChangeAt Go.RowKit
def rowV (vs : List Value) (i : Nat) : Value := vs.getD i (.slice none 0 0)
def rowX (rows : List (List Ce)) (i : Nat) : List Ce := rows.getD i []
theorem rowV_lt {vs : List Value} {i : Nat} (h : i < vs.length) : rowV vs i = vs[i] := by simp [rowV, List.getD, h]
theorem rowX_lt {rows : List (List Ce)} {i : Nat} (h : i < rows.length) : rowX rows i = rows[i] := by simp [rowX, List.getD, h]
theorem rowV_get {vs : List Value} {i : Nat} (h : i < vs.length) : vs[i]? = some (rowV vs i) := by rw [rowV_lt h]; exact List.getElem?_eq_getElem h
theorem rowV_snoc (vs : List Value) (r : Value) (i : Nat) : rowV (vs ++ [r]) i = if i < vs.length then rowV vs i else if i = vs.length then r else .slice none 0 0 := by
  unfold rowV
  by_cases h : i < vs.length
  · rw [if_pos h]; simp [List.getD, List.getElem?_append_left h]
  · rw [if_neg h]
    by_cases e : i = vs.length
    · rw [if_pos e, e]; simp [List.getD]
    · rw [if_neg e]
      have : (vs ++ [r])[i]? = none := List.getElem?_eq_none (by simp; omega)
      simp [List.getD, this]
theorem rowX_snoc (rows : List (List Ce)) (x : List Ce) (i : Nat) : rowX (rows ++ [x]) i = if i < rows.length then rowX rows i else if i = rows.length then x else [] := by
  unfold rowX
  by_cases h : i < rows.length
  · rw [if_pos h]; simp [List.getD, List.getElem?_append_left h]
  · rw [if_neg h]
    by_cases e : i = rows.length
    · rw [if_pos e, e]; simp [List.getD]
    · rw [if_neg e]
      have : (rows ++ [x])[i]? = none := List.getElem?_eq_none (by simp; omega)
      simp [List.getD, this]
/-- A slice of rows that can be read. -/
def SlG (w : World) (v : Value) (rows : List (List Ce)) : Prop :=
  ∃ a c vs, v = .slice a rows.length c ∧ rows.length ≤ c ∧ (a = none → c = 0) ∧ (rows = [] ∨ ∃ b off, a = some ⟨b, off, none⟩ ∧ b < w.heap.size ∧ ∀ i, i < rows.length → w.cell? ⟨b, off + i, none⟩ = some (rowV vs i)) ∧ ∀ i, i < rows.length → SlC w (rowV vs i) (rowX rows i)
theorem SlG.below {w w' : World} {v : Value} {rows : List (List Ce)} (h : SlG w v rows) (hb : Below w.heap.size w w') : SlG w' v rows := by
  obtain ⟨a, c, vs, hv, hc, hn, hr, hs⟩ := h
  refine ⟨a, c, vs, hv, hc, hn, ?_, fun i hi => (hs i hi).below hb⟩
  rcases hr with hr | ⟨b, off, ha, hlt, hi⟩
  · exact .inl hr
  · exact .inr ⟨b, off, ha, Nat.lt_of_lt_of_le hlt hb.size, fun i h => (hb.cell (p := ⟨b, off + i, none⟩) hlt).trans (hi i h)⟩
/-- A slice of rows that this call owns, each row in a block of its own below B. -/
def OwnG (w : World) (base B : Nat) (v : Value) (rows : List (List Ce)) : Prop :=
  ∃ vs : List Value, vs.length = rows.length ∧ w.ownsRow base 66 1 v rows.length vs ∧ (∀ i, i < rows.length → OwnC w base (rowV vs i) (rowX rows i)) ∧
    (∀ i, i < rows.length → ∀ g, (rowV vs i).ownBlock = some g → g < B) ∧ (∀ i j, i < j → j < rows.length → ∀ g, (rowV vs i).ownBlock = some g → (rowV vs j).ownBlock ≠ some g)
theorem OwnG.below {w w' : World} {base B : Nat} {v : Value} {rows : List (List Ce)} (h : OwnG w base B v rows) (hb : Below w.heap.size w w') : OwnG w' base B v rows := by
  obtain ⟨vs, hl, ho, hr, hB, hd⟩ := h
  exact ⟨vs, hl, World.ownsRow.below ho hb, fun i hi => (hr i hi).below hb, hB, hd⟩
theorem OwnG.low {w : World} {base base' B : Nat} {v : Value} {rows : List (List Ce)} (h : OwnG w base B v rows) (hb : base' ≤ base) : OwnG w base' B v rows := by
  obtain ⟨vs, hl, ho, hr, hB, hd⟩ := h
  refine ⟨vs, hl, ⟨ho.1, ?_⟩, fun i hi => (hr i hi).low hb, hB, hd⟩
  rcases ho.2 with h2 | ⟨g, cap, cur, hv, hbg, r⟩
  · exact .inl h2
  · exact .inr ⟨g, cap, cur, hv, Nat.le_trans hb hbg, r⟩
theorem OwnG.now {w : World} {base B : Nat} {v : Value} {rows : List (List Ce)} (h : OwnG w base B v rows) : OwnG w base w.heap.size v rows := by
  obtain ⟨vs, hl, ho, hr, _, hd⟩ := h
  exact ⟨vs, hl, ho, hr, fun i hi g e => ((hr i hi).lt g e).2, hd⟩
theorem ownG_none (w : World) (base B : Nat) : OwnG w base B (.slice none 0 0) [] :=
  ⟨[], rfl, ⟨rfl, .inl ⟨rfl, rfl⟩⟩, fun i h => absurd h (Nat.not_lt_zero i), fun i h => absurd h (Nat.not_lt_zero i), fun _ j _ h => absurd h (Nat.not_lt_zero j)⟩
theorem OwnG.shape {w : World} {base B : Nat} {v : Value} {rows : List (List Ce)} (h : OwnG w base B v rows) : (v = .slice none 0 0 ∧ rows = []) ∨ ∃ g cap, v = .slice (some ⟨g, 0, none⟩) rows.length cap ∧ base ≤ g ∧ g < w.heap.size ∧ rows.length ≤ cap := by
  obtain ⟨vs, hl, ho, _⟩ := h
  rcases ho.2 with ⟨h1, h2⟩ | ⟨g, cap, cur, hv, hb, hg, hn, _⟩
  · exact .inl ⟨h1, List.eq_nil_of_length_eq_zero h2⟩
  · exact .inr ⟨g, cap, hv, hb, (Array.getElem?_eq_some_iff.1 hg).1, hn⟩
theorem SlG.of_own {w : World} {base B : Nat} {v : Value} {rows : List (List Ce)} (h : OwnG w base B v rows) : SlG w v rows := by
  obtain ⟨vs, hl, ho, hr, hB, hd⟩ := h
  rcases ho.2 with ⟨h1, h2⟩ | ⟨g, cap, cur, hv, hb, hg, hn, _, _, ht⟩
  · have : rows = [] := List.eq_nil_of_length_eq_zero h2
    subst this
    exact ⟨none, 0, vs, h1, Nat.le_refl _, fun _ => rfl, .inl rfl, fun i hi => absurd hi (Nat.not_lt_zero i)⟩
  · subst hv
    refine ⟨_, cap, vs, rfl, hn, (fun e => by cases e), .inr ⟨g, 0, rfl, (Array.getElem?_eq_some_iff.1 hg).1, fun i hi => ?_⟩, fun i hi => SlC.of_own (hr i hi)⟩
    rw [Nat.zero_add, World.ownsRow.cellAt ho i (by omega), rowV_get (by omega)]
/-- The outer block is none of the rows' blocks. -/
theorem outer_apart {w : World} {base base' n : Nat} {v r : Value} {vs : List Value} {xs : List Ce} (ho : w.ownsRow base 66 1 v n vs) (hr : OwnC w base' r xs) : r.ownBlock = none ∨ r.ownBlock ≠ v.ownBlock := by
  rcases ho.2 with ⟨h1, _⟩ | ⟨g, cap, cur, hv, _, hg, _⟩
  · cases hb : r.ownBlock with
    | none => exact .inl rfl
    | some q => right; rw [h1]; simp [Value.ownBlock]
  · rcases hr.2 with ⟨h1, _⟩ | ⟨g', cap', cur', hv', _, hg', _⟩
    · left; rw [h1]; rfl
    · right
      rw [hv, hv']
      intro e
      simp only [Value.ownBlock, Option.some.injEq] at e
      subst e
      rw [hg] at hg'
      simp only [Option.some.injEq, Obj.cells.injEq] at hg'
      exact absurd hg'.2.1 (by decide)
theorem OwnC.kept {w w' : World} {base : Nat} {r : Value} {xs : List Ce} {row : Option Nat} (h : OwnC w base r xs) (hg : w.grownBy w' row) (hne : r.ownBlock = none ∨ r.ownBlock ≠ row) : OwnC w' base r xs := World.ownsRow.kept (show w.ownsRow _ _ _ _ _ _ from h) hg hne
theorem info_row : (Tryd.prog.info? 66).map (fun i => (i.zero, i.size, i.bytes)) = some (some (.slice none 0 0), 1, 24) := by kernel_rfl
theorem under_rows : Tryd.prog.underlying 24 = some (.slice 66) := by kernel_rfl
/-- What holds behind one row more. -/
theorem og_after {w w' : World} {base B : Nat} {v v' : Value} {rows : List (List Ce)} {vs : List Value} {r : Value} {xs : List Ce} (hvl : vs.length = rows.length) (hown : w.ownsRow base 66 1 v rows.length vs)
    (hrs : ∀ i, i < rows.length → OwnC w base (rowV vs i) (rowX rows i)) (hlt : ∀ i, i < rows.length → ∀ g, (rowV vs i).ownBlock = some g → g < B) (hd : ∀ i j, i < j → j < rows.length → ∀ g, (rowV vs i).ownBlock = some g → (rowV vs j).ownBlock ≠ some g)
    (hr : OwnC w base r xs) (hB : ∀ g, r.ownBlock = some g → B ≤ g) (ho' : w'.ownsRow base 66 1 v' (rows.length + 1) (vs ++ [r])) (hg' : w.grownBy w' v.ownBlock) : OwnG w' base w'.heap.size v' (rows ++ [xs]) := by
  have hs2 := hg'.size
  refine ⟨vs ++ [r], by simp [hvl], by simpa using ho', fun i hi => ?_, fun i hi g e => ?_, fun i j hij hj g e => ?_⟩
  · rw [List.length_append, List.length_singleton] at hi
    rw [rowV_snoc, rowX_snoc, hvl]
    by_cases c : i < rows.length
    · rw [if_pos c, if_pos c]
      exact (hrs i c).kept hg' (outer_apart hown (hrs i c))
    · have e : i = rows.length := by omega
      rw [if_neg c, if_neg c, if_pos e, if_pos e]
      exact hr.kept hg' (outer_apart hown hr)
  · rw [List.length_append, List.length_singleton] at hi
    rw [rowV_snoc, hvl] at e
    by_cases c : i < rows.length
    · rw [if_pos c] at e
      have := ((hrs i c).lt g e).2; omega
    · rw [if_neg c, if_pos (by omega)] at e
      have := (hr.lt g e).2; omega
  · rw [List.length_append, List.length_singleton] at hj
    rw [rowV_snoc, hvl, if_pos (by omega)] at e
    rw [rowV_snoc, hvl]
    by_cases c : j < rows.length
    · rw [if_pos c]; exact hd i j hij c g e
    · rw [if_neg c, if_pos (by omega)]
      intro e2
      have h1 := hlt i (by omega) g e
      have h2 := hB g e2
      omega
end Go.Proofs.YtpijokologkbeaaDoor
namespace Go.Proofs.YtpijokologkbeaaDoor
def cellOkB (l : List Ce) (i : Nat) : Bool :=
  (atC l i).st.ok && (if (atC l i).part = 0 then decide (widthV (atC l i).rune = 1)
    else if (atC l i).part = 1 then decide (widthV (atC l i).rune = 2) && (decide (i + 1 < l.length) && (decide ((atC l (i + 1)).part = 2) && decide ((atC l (i + 1)).st = (atC l i).st)))
    else if (atC l i).part = 2 then decide ((atC l i).rune = 0) && (decide (0 < i) && decide ((atC l (i - 1)).part = 1))
    else false)
def rowOkB (l : List Ce) : Bool := decide (1 ≤ l.length ∧ l.length ≤ 60) && (List.range l.length).all (cellOkB l)
theorem rowOkB_no (l : List Ce) (i : Nat) (hi : i < l.length) (h : cellOkB l i = false) : rowOkB l = false := by
  unfold rowOkB
  have : (List.range l.length).all (cellOkB l) = false := by
    rw [List.all_eq_false]
    exact ⟨i, List.mem_range.2 hi, by simp [h]⟩
  rw [this, Bool.and_false]
theorem rowOkB_len (l : List Ce) (h : ¬ (1 ≤ l.length ∧ l.length ≤ 60)) : rowOkB l = false := by
  unfold rowOkB
  rw [decide_eq_false h, Bool.false_and]
theorem rowOkB_yes (l : List Ce) (h : 1 ≤ l.length ∧ l.length ≤ 60) (ha : ∀ i, i < l.length → cellOkB l i = true) : rowOkB l = true := by
  unfold rowOkB
  rw [decide_eq_true h, Bool.true_and, List.all_eq_true]
  exact fun i hi => ha i (List.mem_range.1 hi)
theorem rowOkB_iff (l : List Ce) : rowOkB l = true ↔ (1 ≤ l.length ∧ l.length ≤ 60) ∧ ∀ i, i < l.length → cellOkB l i = true := by
  constructor
  · intro h
    unfold rowOkB at h
    rw [Bool.and_eq_true, decide_eq_true_eq, List.all_eq_true] at h
    exact ⟨h.1, fun i hi => h.2 i (List.mem_range.2 hi)⟩
  · rintro ⟨h1, h2⟩; exact rowOkB_yes l h1 h2
end Go.Proofs.YtpijokologkbeaaDoor
namespace Go.Proofs.YtpijokologkbeaaDoor
def fitB (cols : Int) (r : List Ce) : Bool := decide ((r.length : Int) = cols) && rowOkB r
def gridOkB (cols : Int) (rows : List (List Ce)) : Bool := decide (1 ≤ cols ∧ cols ≤ 60) && (decide (1 ≤ rows.length ∧ rows.length ≤ 30) && rows.all (fitB cols))
theorem gridOk_cols {cols : Int} {rows : List (List Ce)} (h : ¬ (1 ≤ cols ∧ cols ≤ 60)) : gridOkB cols rows = false := by
  unfold gridOkB; rw [decide_eq_false h, Bool.false_and]
theorem gridOk_len {cols : Int} {rows : List (List Ce)} (h : ¬ (1 ≤ rows.length ∧ rows.length ≤ 30)) : gridOkB cols rows = false := by
  unfold gridOkB; rw [decide_eq_false h, Bool.false_and, Bool.and_false]
theorem gridOk_iff (cols : Int) (rows : List (List Ce)) : gridOkB cols rows = true ↔ (1 ≤ cols ∧ cols ≤ 60) ∧ (1 ≤ rows.length ∧ rows.length ≤ 30) ∧ ∀ i, i < rows.length → fitB cols (rows.getD i []) = true := by
  unfold gridOkB
  rw [Bool.and_eq_true, Bool.and_eq_true, decide_eq_true_eq, decide_eq_true_eq, List.all_eq_true]
  constructor
  · rintro ⟨h1, h2, h3⟩
    refine ⟨h1, h2, fun i hi => h3 _ ?_⟩
    have : rows.getD i [] = rows[i] := by simp [List.getD, hi]
    rw [this]; exact List.getElem_mem hi
  · rintro ⟨h1, h2, h3⟩
    refine ⟨h1, h2, fun r hr => ?_⟩
    obtain ⟨i, hi, e⟩ := List.getElem_of_mem hr
    have := h3 i hi
    have e2 : rows.getD i [] = rows[i] := by simp [List.getD, hi]
    rw [e2, e] at this; exact this
theorem gridOk_no {cols : Int} {rows : List (List Ce)} {i : Nat} (hi : i < rows.length) (h : fitB cols (rows.getD i []) = false) : gridOkB cols rows = false := by
  cases hg : gridOkB cols rows with
  | false => rfl
  | true =>
    have := ((gridOk_iff cols rows).1 hg).2.2 i hi
    rw [h] at this; cases this
/-- New rows. -/
def newR (cols n : Nat) : List (List Ce) := List.replicate n (rowL cols St.zero)
end Go.Proofs.YtpijokologkbeaaDoor
namespace Go.Proofs.YtpijokologkbeaaDoor
open Go.ChangeShapes Go.WideShapes Go.ChangeAt Go.RowKit
def gridV (cols : Int) (v : Value) : Value := .agg #[.int .i64 cols, v]
/-- A grid in a block of its own. -/
def GrN (w : World) (B : Nat) (cols : Int) (v : Value) : Prop := B < w.heap.size ∧ w.cell? ⟨B, 0, none⟩ = some (.int .i64 cols) ∧ w.cell? ⟨B, 1, none⟩ = some v
theorem GrN.new (w : World) (cols : Int) (v : Value) (t : TypeId) : GrN (w.alloc (.cells #[.int .i64 cols, v] t)) w.heap.size cols v := ⟨by simp, by simp [go_sem], by simp [go_sem]⟩
theorem GrN.below {w w' : World} {B : Nat} {cols : Int} {v : Value} (h : GrN w B cols v) (hb : Below w.heap.size w w') : GrN w' B cols v :=
  ⟨Nat.lt_of_lt_of_le h.1 hb.size, (hb.cell (p := ⟨B, 0, none⟩) h.1).trans h.2.1, (hb.cell (p := ⟨B, 1, none⟩) h.1).trans h.2.2⟩
end Go.Proofs.YtpijokologkbeaaDoor
namespace Go.Proofs.YtpijokologkbeaaDoor
open Go.ChangeShapes Go.WideShapes Go.ChangeAt Go.RowKit
section
variable {H : Type} {enc : TypeId × Value → H} {w : World} {base : Nat} {spare : Nat → Bool} {held : Bool}
set_option maxRecDepth 20000 in
theorem cells_tr {fuel : Nat} {cs : List Value} {y : DataW H × List MemPlace} (hf : DataW.trod enc Tryd.prog w base spare held fuel 121 cs = some y) :
    ∃ (v : Value) (xs : List Ce), cs = [v] ∧ SlC w v xs ∧ xs.length ≤ maxLen := by
  have e : Tryd.prog.cellsOf 155 = 7 := by kernel_rfl
  rcases Go.Deep.open_slice Tryd.underlying121 hf with ⟨hcs, _⟩ | ⟨x, len, cap, m, n, D, Pl, hcs, _, hl, hm, hmm, _, hx⟩
  · exact ⟨_, [], hcs, ⟨none, 0, rfl, Nat.le_refl _, fun _ => rfl, .inl rfl⟩, by simp⟩
  · have hlm : len ≤ m := by rw [hmm]; split <;> omega
    rw [e] at hx
    obtain ⟨f, hfc⟩ := Go.Deep.choose_lt (α := Ce) (n := len) (p := fun i q => w.cells? base (x.add (i * 7)) 7 = some (ceL q)) (fun i hi => by
      obtain ⟨cs', h1, h2⟩ := hx i (by omega)
      obtain ⟨q, rfl⟩ := cell_cs h2
      exact ⟨q, h1⟩)
    have hlen : ((List.range len).map f).length = len := by simp
    refine ⟨_, (List.range len).map f, hcs, ⟨some x, cap, by rw [hlen], by rw [hlen]; exact hl, (fun h => by cases h), ?_⟩, by rw [hlen]; omega⟩
    by_cases h0 : len = 0
    · left; subst h0; rfl
    · right
      have hc : ∀ i, i < len → ∀ k, k < 7 → w.cell? ((x.add (i * 7)).add k) = (ceL (f i))[k]? := fun i hi k hk => by
        obtain ⟨_, hl7, hcell⟩ := World.cells?_some (hfc i hi)
        exact hcell k hk
      obtain ⟨b, off, spot⟩ := x
      have h1 := hc 0 (by omega) 0 (by decide)
      have hspot : spot = none := by
        have h1' : w.cell? ((⟨b, off, spot⟩ : Addr).add 0) = some (.int .i64 (f 0).rune) := by simpa [Addr.add, ceL] using h1
        simpa [Addr.add] using World.cell?_spot h1'
      subst hspot
      refine ⟨b, off, rfl, ?_, fun i hi => ?_⟩
      · have h1' : w.cell? ((⟨b, off, none⟩ : Addr).add 0) = some (.int .i64 (f 0).rune) := by simpa [Addr.add, ceL] using h1
        exact World.block_lt_of_cell? w _ h1'
      · rw [hlen] at hi
        have ef : atC ((List.range len).map f) i = f i := by simp [atC, hi]
        rw [ef]
        have g := fun k hk => hc i hi k hk
        have ea : ∀ k, (((⟨b, off, none⟩ : Addr).add (i * 7)).add k) = ⟨b, off + i * 7 + k, none⟩ := fun k => by rw [Addr.add_mid, Addr.add_mid]
        simp only [ea] at g
        exact ⟨by simpa [ceL] using g 0 (by decide), by simpa [ceL] using g 1 (by decide), by simpa [ceL] using g 2 (by decide), by simpa [ceL] using g 3 (by decide), by simpa [ceL] using g 4 (by decide), by simpa [ceL] using g 5 (by decide), by simpa [ceL] using g 6 (by decide)⟩
set_option maxRecDepth 20000 in
theorem rows_tr {fuel : Nat} {cs : List Value} {y : DataW H × List MemPlace} (hf : DataW.trod enc Tryd.prog w base spare held fuel 41 cs = some y) :
    ∃ (v : Value) (rows : List (List Ce)), cs = [v] ∧ SlG w v rows ∧ rows.length ≤ maxLen ∧ ∀ i, i < rows.length → (rowX rows i).length ≤ maxLen := by
  have e : Tryd.prog.cellsOf 121 = 1 := by kernel_rfl
  rcases Go.Deep.open_slice1 Tryd.underlying41 e hf with ⟨hcs, _⟩ | ⟨x, len, cap, m, n, V, D, Pl, hcs, _, hl, hm, hmm, _, hx⟩
  · exact ⟨_, [], hcs, ⟨none, 0, [], rfl, Nat.le_refl _, fun _ => rfl, .inl rfl, fun i h => absurd h (Nat.not_lt_zero i)⟩, by simp, fun i h => absurd h (Nat.not_lt_zero i)⟩
  · have hlm : len ≤ m := by rw [hmm]; split <;> omega
    obtain ⟨f, hfc⟩ := Go.Deep.choose_lt (α := List Ce) (n := len) (p := fun i xs => SlC w (V i) xs ∧ xs.length ≤ maxLen) (fun i hi => by
      obtain ⟨h1, h2⟩ := hx i (by omega)
      obtain ⟨v, xs, hv, hs, hle⟩ := cells_tr h2
      simp at hv
      subst hv
      exact ⟨xs, hs, hle⟩)
    have hlen : ((List.range len).map f).length = len := by simp
    have hvl : ((List.range len).map V).length = len := by simp
    have hX : ∀ i, i < len → rowX ((List.range len).map f) i = f i := fun i hi => by simp [rowX, List.getD, hi]
    have hV : ∀ i, i < len → rowV ((List.range len).map V) i = V i := fun i hi => by simp [rowV, List.getD, hi]
    refine ⟨_, (List.range len).map f, hcs, ⟨some x, cap, (List.range len).map V, by rw [hlen], by rw [hlen]; exact hl, (fun h => by cases h), ?_, fun i hi => ?_⟩, by rw [hlen]; omega, fun i hi => ?_⟩
    · by_cases h0 : len = 0
      · left; subst h0; rfl
      · right
        obtain ⟨b, off, spot⟩ := x
        have h1 := (hx 0 (by omega)).1
        have h1c : w.cell? ⟨b, off, spot⟩ = some (V 0) := by
          have : (⟨b, off, spot⟩ : Addr).add 0 = ⟨b, off, spot⟩ := by unfold Addr.add; split <;> simp_all
          rwa [this] at h1
        have hspot : spot = none := World.cell?_spot h1c
        subst hspot
        refine ⟨b, off, rfl, World.block_lt_of_cell? w _ h1c, fun i hi => ?_⟩
        rw [hlen] at hi
        rw [hV i hi, ← (hx i (by omega)).1, Addr.add_mid]
    · rw [hlen] at hi
      rw [hV i hi, hX i hi]
      exact (hfc i hi).1
    · rw [hlen] at hi
      rw [hX i hi]
      exact (hfc i hi).2
set_option maxRecDepth 20000 in
theorem grid_view {b0 : Nat} {r : Reach} {v : Value} {d : DataW H} {p : List MemPlace} (hv : Value.okWide Tryd.prog w r b0 43 v) (h : DataW.Trod enc Tryd.prog w base spare held 43 v d p) :
    ∃ (cols : Int) (u : Value) (rows : List (List Ce)), v = gridV cols u ∧ SlG w u rows ∧ rows.length ≤ maxLen ∧ ∀ i, i < rows.length → (rowX rows i).length ≤ maxLen := by
  obtain ⟨cs, rfl, hsz⟩ := okWide_struct Tryd.underlying43 hv
  obtain ⟨fuel, hf⟩ := h
  obtain ⟨xs, n, _, _, hl, hlen, hfs⟩ := DataW.trod_struct Tryd.underlying43 hf
  have e : Tryd.prog.cellsOf 43 = 2 := by kernel_rfl
  have ei : Tryd.prog.cellsOf 2 = 1 := by kernel_rfl
  have er : Tryd.prog.cellsOf 41 = 1 := by kernel_rfl
  obtain ⟨l⟩ := cs
  match l, hsz.trans e, xs, hlen with
  | [c0, c1], _, [x0, x1], _ =>
    have h0 := hfs 0 _ rfl
    have h1 := hfs 1 _ rfl
    simp [Value.cells, ei, er] at h0 h1
    obtain ⟨k0, q0, _, _⟩ := DataW.trod_int Tryd.underlying2 h0
    obtain ⟨u, rows, q1, hs, hle, hxl⟩ := rows_tr h1
    simp at q0 q1
    subst q0; subst q1
    exact ⟨_, _, rows, rfl, hs, hle, hxl⟩
end
end Go.Proofs.YtpijokologkbeaaDoor
namespace Go.Proofs.YtpijokologkbeaaDoor
open Go.ChangeShapes Go.WideShapes Go.ChangeAt Go.RowKit
/-- A grid in a block of its own, open to stores. -/
def GrW (w : World) (B : Nat) (cols : Int) (v : Value) : Prop :=
  B < w.heap.size ∧ (w.cell? ⟨B, 0, none⟩ = some (.int .i64 cols) ∧ w.cell? ⟨B, 1, none⟩ = some v) ∧ (w.frozen? ⟨B, 0, none⟩ = false ∧ w.frozen? ⟨B, 1, none⟩ = false)
theorem GrW.grown {w w' : World} {B : Nat} {cols : Int} {v : Value} {row : Option Nat} (h : GrW w B cols v) (hg : w.grownBy w' row) (hr : row ≠ some B) : GrW w' B cols v := by
  have hb := hg.block B h.1 (Ne.symm hr)
  have hc : ∀ k, w'.cell? ⟨B, k, none⟩ = w.cell? ⟨B, k, none⟩ := fun k => World.cell?_of_block (w := w) hb
  have hz : ∀ k, w'.frozen? ⟨B, k, none⟩ = w.frozen? ⟨B, k, none⟩ := fun k => World.frozen?_of_block (w := w) hb
  refine ⟨Nat.lt_of_lt_of_le h.1 hg.size, ?_, ?_⟩
  · rw [hc, hc]; exact h.2.1
  · rw [hz, hz]; exact h.2.2
theorem GrW.below {w w' : World} {B : Nat} {cols : Int} {v : Value} (h : GrW w B cols v) (hb : Below w.heap.size w w') : GrW w' B cols v := h.grown (gbl hb none) (by simp)
theorem GrW.new (w : World) (cols : Int) (v : Value) (t : TypeId) : GrW (w.alloc (.cells #[.int .i64 cols, v] t)) w.heap.size cols v :=
  ⟨by simp, ⟨by simp [go_sem], by simp [go_sem]⟩, ⟨by simp [go_sem], by simp [go_sem]⟩⟩
/-- Other rows are written there. -/
def putG (w : World) (B : Nat) (v : Value) : World := w.setCell ⟨B, 1, none⟩ v
theorem putG_grown (w : World) (B : Nat) (v : Value) : w.grownBy (putG w B v) (some B) := setCell_gr w B 1 _
theorem GrW.put {w : World} {B : Nat} {cols : Int} {v : Value} (h : GrW w B cols v) (v' : Value) : GrW (putG w B v') B cols v' := by
  obtain ⟨hlt, ⟨c0, c1⟩, ⟨z0, z1⟩⟩ := h
  refine ⟨by simpa [putG] using hlt, ⟨?_, ?_⟩, ⟨?_, ?_⟩⟩
  all_goals simp only [putG]
  · rw [setCell_ne' _ _ _ _ _ (by decide)]; exact c0
  · simp [go_sem, c1]
  · simp [go_sem, z0]
  · simp [go_sem, z1]
/-- Another grid is written there whole. -/
def putG2 (w : World) (B : Nat) (cols : Int) (v : Value) : World := (w.setCell ⟨B, 0, none⟩ (.int .i64 cols)).setCell ⟨B, 1, none⟩ v
theorem putG2_grown (w : World) (B : Nat) (cols : Int) (v : Value) : w.grownBy (putG2 w B cols v) (some B) := grown_tr (setCell_gr w B 0 _) (setCell_gr _ B 1 _)
theorem GrW.put2 {w : World} {B : Nat} {cols : Int} {v : Value} (h : GrW w B cols v) (cols' : Int) (v' : Value) : GrW (putG2 w B cols' v') B cols' v' := by
  obtain ⟨hlt, ⟨c0, c1⟩, ⟨z0, z1⟩⟩ := h
  refine ⟨by simpa [putG2] using hlt, ⟨?_, ?_⟩, ⟨?_, ?_⟩⟩
  all_goals simp only [putG2]
  · rw [setCell_ne' _ _ _ _ _ (by decide)]; simp [go_sem, c0]
  · simp [go_sem, c1]
  · simp [go_sem, z0]
  · simp [go_sem, z1]
theorem OwnG.kept {w w' : World} {base B : Nat} {v : Value} {rows : List (List Ce)} {row : Option Nat} (h : OwnG w base B v rows) (hg : w.grownBy w' row) (hne : ∀ g, row = some g → g < base) : OwnG w' base B v rows := by
  obtain ⟨vs, hl, ho, hr, hB, hd⟩ := h
  refine ⟨vs, hl, World.ownsRow.kept ho hg ?_, fun i hi => (hr i hi).kept hg ?_, hB, hd⟩
  · cases hv : v.ownBlock with
    | none => exact .inl rfl
    | some q => right; intro e; have := hne q e.symm; have := (ho.lt q hv).1; omega
  · cases hv : (rowV vs i).ownBlock with
    | none => exact .inl rfl
    | some q => right; intro e; have := hne q e.symm; have := ((hr i hi).lt q hv).1; omega
theorem OwnG.lt {w : World} {base B : Nat} {v : Value} {rows : List (List Ce)} (h : OwnG w base B v rows) : ∀ g, v.ownBlock = some g → base ≤ g ∧ g < w.heap.size := by
  obtain ⟨vs, hl, ho, _⟩ := h
  exact fun g e => ho.lt g e
theorem OwnG.up {w : World} {base B B' : Nat} {v : Value} {rows : List (List Ce)} (h : OwnG w base B v rows) (hb : B ≤ B') : OwnG w base B' v rows := by
  obtain ⟨vs, hl, ho, hr, hB, hd⟩ := h
  exact ⟨vs, hl, ho, hr, fun i hi g e => Nat.lt_of_lt_of_le (hB i hi g e) hb, hd⟩
/-- One row more, as a step of a region. -/
theorem step_append_og {w : World} {ops : Array Oper} {o : Oper} {ac : Act} {K : Act → World → Prop} {Q : Exit → Act → World → Prop} {E : Prop} (hgd : o.guard = none) (s x : Operand)
    (ho : o.op = .call { callee := .builtin .append, args := #[s, x], argTypes := #[24, 24] })
    (base B : Nat) (v : Value) (rows : List (List Ce)) (r : Value) (xs : List Ce) (hs : ac.eval s = v) (k : OwnG w base B v rows) (hr : OwnC w base r xs) (hB : ∀ g, r.ownBlock = some g → B ≤ g) (hb : base ≤ w.heap.size) (hl : rows.length < 2000000)
    (g : Nat) (hg0 : w.heap.size = g) (hx : ac.eval x = .slice (some ⟨g, 0, none⟩) 1 1)
    (h : ∀ v' w', OwnG w' base w'.heap.size v' (rows ++ [xs]) → (w.alloc (.cells #[r] 66)).grownBy w' v.ownBlock → K (ac.put o.dst v') w') :
    if Region.wanted o (yielded ops ac.tmps) = true then Oper.wp Tryd.prog o ac (w.alloc (.cells #[r] 66)) K Q else E := by
  have hw : Region.wanted o (yielded ops ac.tmps) = true := by simp [Region.wanted, hgd]
  rw [if_pos hw]
  subst hg0
  obtain ⟨i0, hi, hz0, hz1, hz2⟩ := info_parts info_row
  obtain ⟨vs, hvl, hown, hrs, hlt, hd⟩ := k
  have hba := bal' w (Obj.cells #[r] 66)
  have hown2 := World.ownsRow.below hown hba
  refine wp_append_own _ s x _ ho base 66 i0 (.slice none 0 0) 1 24 under_rows hi hz0 hz1 hz2 rfl (by decide) v rows.length vs hs hown2 ⟨w.heap.size, 0, none⟩ 1 1 [r] hx rfl ?_ ?_ (by unfold maxLen; omega) (by omega) (by simp; omega) (fun v' w' ho' hg' _ => h v' w' (og_after hvl hown2 (fun i hi => (hrs i hi).below hba) hlt hd (hr.below hba) hB ho' hg') hg')
  · intro j u hj
    match j, hj with
    | 0, hj => simp at hj; subst hj; simp [Addr.add, go_sem]
  · intro u hu
    simp at hu
    subst hu
    rcases hr.shape with ⟨rfl, _⟩ | ⟨g, cap, rfl, _⟩ <;> rfl
end Go.Proofs.YtpijokologkbeaaDoor
namespace Go.Proofs.YtpijokologkbeaaDoor
open Go.ChangeShapes Go.WideShapes Go.ChangeAt Go.RowKit
/-- Nothing changes but the blocks from lo to below hi; new ones may come. -/
def GrB (lo hi : Nat) (w w' : World) : Prop := w'.os = w.os ∧ w'.tape = w.tape ∧ w'.output = w.output ∧ w.heap.size ≤ w'.heap.size ∧ ∀ k, k < w.heap.size → (k < lo ∨ hi ≤ k) → w'.heap[k]? = w.heap[k]?
theorem GrB.refl (lo hi : Nat) (w : World) : GrB lo hi w w := ⟨rfl, rfl, rfl, Nat.le_refl _, fun _ _ _ => rfl⟩
theorem GrB.trans {lo hi : Nat} {a b c : World} (h : GrB lo hi a b) (k : GrB lo hi b c) : GrB lo hi a c :=
  ⟨k.1.trans h.1, k.2.1.trans h.2.1, k.2.2.1.trans h.2.2.1, Nat.le_trans h.2.2.2.1 k.2.2.2.1, fun i hi ho => (k.2.2.2.2 i (Nat.lt_of_lt_of_le hi h.2.2.2.1) ho).trans (h.2.2.2.2 i hi ho)⟩
theorem GrB.size {lo hi : Nat} {w w' : World} (h : GrB lo hi w w') : w.heap.size ≤ w'.heap.size := h.2.2.2.1
theorem GrB.of_below {lo hi : Nat} {w w' : World} (h : Below w.heap.size w w') : GrB lo hi w w' := ⟨h.os, h.tape, h.output, h.size, fun k hk _ => h.block k hk⟩
theorem GrB.of_grown {lo hi : Nat} {w w' : World} {row : Option Nat} (h : w.grownBy w' row) (hr : ∀ g, row = some g → lo ≤ g ∧ g < hi) : GrB lo hi w w' :=
  ⟨h.os, h.tape, h.output, h.size, fun k hk ho => h.block k hk (fun e => by have := hr k e.symm; omega)⟩
theorem GrB.mono {lo hi lo' hi' : Nat} {w w' : World} (h : GrB lo hi w w') (h1 : lo' ≤ lo) (h2 : hi ≤ hi') : GrB lo' hi' w w' :=
  ⟨h.1, h.2.1, h.2.2.1, h.2.2.2.1, fun k hk ho => h.2.2.2.2 k hk (by omega)⟩
theorem GrB.to_below {lo hi B : Nat} {w w' : World} (h : GrB lo hi w w') (hB : B ≤ lo) (hs : B ≤ w.heap.size) : Below B w w' :=
  ⟨h.1, h.2.1, h.2.2.1, h.2.2.2.1, fun k hk => h.2.2.2.2 k (by omega) (by omega)⟩
theorem GrB.cell {lo hi k o : Nat} {w w' : World} (h : GrB lo hi w w') (hk : k < w.heap.size) (ho : k < lo ∨ hi ≤ k) : w'.cell? ⟨k, o, none⟩ = w.cell? ⟨k, o, none⟩ := World.cell?_of_block (w := w) (h.2.2.2.2 k hk ho)
theorem GrB.frozen {lo hi k o : Nat} {w w' : World} (h : GrB lo hi w w') (hk : k < w.heap.size) (ho : k < lo ∨ hi ≤ k) : w'.frozen? ⟨k, o, none⟩ = w.frozen? ⟨k, o, none⟩ := World.frozen?_of_block (w := w) (h.2.2.2.2 k hk ho)
/-- What is owned stays while the world changes elsewhere. -/
theorem _root_.Go.World.ownsRow.gr {lo hi : Nat} {w w' : World} {base : Nat} {e : TypeId} {size : Nat} {v : Value} {n : Nat} {xs : List Value} (h : w.ownsRow base e size v n xs) (hg : GrB lo hi w w') (hne : ∀ g, v.ownBlock = some g → g < lo ∨ hi ≤ g) : w'.ownsRow base e size v n xs := by
  refine ⟨h.1, ?_⟩
  rcases h.2 with h2 | ⟨g, cap, cur, hv, hbg, hgg, r⟩
  · exact .inl h2
  · exact .inr ⟨g, cap, cur, hv, hbg, by rw [hg.2.2.2.2 g (Array.getElem?_eq_some_iff.1 hgg).1 (hne g (by rw [hv]; rfl))]; exact hgg, r⟩
theorem OwnC.gr {lo hi : Nat} {w w' : World} {base : Nat} {v : Value} {xs : List Ce} (h : OwnC w base v xs) (hg : GrB lo hi w w') (hne : ∀ g, v.ownBlock = some g → g < lo ∨ hi ≤ g) : OwnC w' base v xs := World.ownsRow.gr (show w.ownsRow _ _ _ _ _ _ from h) hg hne
/-- A slice of rows of this call's own, its values named. -/
def OwnV (w : World) (base B : Nat) (v : Value) (vs : List Value) (rows : List (List Ce)) : Prop :=
  vs.length = rows.length ∧ w.ownsRow base 66 1 v rows.length vs ∧ (∀ i, i < rows.length → OwnC w base (rowV vs i) (rowX rows i)) ∧
    (∀ i, i < rows.length → ∀ g, (rowV vs i).ownBlock = some g → g < B) ∧ (∀ i j, i < j → j < rows.length → ∀ g, (rowV vs i).ownBlock = some g → (rowV vs j).ownBlock ≠ some g)
theorem OwnG.v {w : World} {base B : Nat} {v : Value} {rows : List (List Ce)} (h : OwnG w base B v rows) : ∃ vs, OwnV w base B v vs rows := h
theorem OwnV.g {w : World} {base B : Nat} {v : Value} {vs : List Value} {rows : List (List Ce)} (h : OwnV w base B v vs rows) : OwnG w base B v rows := ⟨vs, h⟩
theorem OwnV.apart {w : World} {base B : Nat} {v : Value} {vs : List Value} {rows : List (List Ce)} (h : OwnV w base B v vs rows) {i j : Nat} (hi : i < rows.length) (hj : j < rows.length) (hij : i ≠ j) : (rowV vs i).ownBlock = none ∨ (rowV vs i).ownBlock ≠ (rowV vs j).ownBlock := by
  cases hv : (rowV vs i).ownBlock with
  | none => exact .inl rfl
  | some g =>
    right
    intro e
    rcases Nat.lt_or_gt_of_ne hij with c | c
    · exact h.2.2.2.2 i j c hj g hv e.symm
    · exact h.2.2.2.2 j i c hi g e.symm hv
theorem apart_comm {a b : Option Nat} (h : a = none ∨ a ≠ b) : b = none ∨ b ≠ a := by
  cases b with
  | none => exact .inl rfl
  | some g => right; intro e; rcases h with h | h <;> rw [← e] at h <;> simp at h
theorem OwnV.below {w w' : World} {base B : Nat} {v : Value} {vs : List Value} {rows : List (List Ce)} (h : OwnV w base B v vs rows) (hb : Below w.heap.size w w') : OwnV w' base B v vs rows :=
  ⟨h.1, World.ownsRow.below h.2.1 hb, fun i hi => (h.2.2.1 i hi).below hb, h.2.2.2.1, h.2.2.2.2⟩
theorem OwnV.up {w : World} {base B B' : Nat} {v : Value} {vs : List Value} {rows : List (List Ce)} (h : OwnV w base B v vs rows) (hb : B ≤ B') : OwnV w base B' v vs rows :=
  ⟨h.1, h.2.1, h.2.2.1, fun i hi g e => Nat.lt_of_lt_of_le (h.2.2.2.1 i hi g e) hb, h.2.2.2.2⟩
/-- One row's cells change. -/
theorem OwnV.rowset {w w' : World} {base B : Nat} {v : Value} {vs : List Value} {rows : List (List Ce)} (h : OwnV w base B v vs rows) {j : Nat} (hj : j < rows.length) (ys : List Ce) (ho : OwnC w' base (rowV vs j) ys) (hg : w.grownBy w' (rowV vs j).ownBlock) : OwnV w' base B v vs (rows.set j ys) := by
  have hx : ∀ i, i < rows.length → rowX (rows.set j ys) i = if i = j then ys else rowX rows i := fun i hi => by
    unfold rowX
    by_cases e : i = j
    · subst e; rw [if_pos rfl]; simp [List.getD, hi]
    · rw [if_neg e]; simp [List.getD, Ne.symm e]
  refine ⟨by rw [List.length_set]; exact h.1, ?_, fun i hi => ?_, fun i hi => ?_, fun a b hab hb => ?_⟩
  · rw [List.length_set]
    exact World.ownsRow.kept h.2.1 hg (apart_comm (outer_apart h.2.1 (h.2.2.1 j hj)))
  · rw [List.length_set] at hi
    rw [hx i hi]
    by_cases e : i = j
    · subst e; rw [if_pos rfl]; exact ho
    · rw [if_neg e]; exact (h.2.2.1 i hi).kept hg (h.apart hi hj e)
  · rw [List.length_set] at hi; exact h.2.2.2.1 i hi
  · rw [List.length_set] at hb; exact h.2.2.2.2 a b hab hb
theorem OwnV.shape {w : World} {base B : Nat} {v : Value} {vs : List Value} {rows : List (List Ce)} (h : OwnV w base B v vs rows) : (v = .slice none 0 0 ∧ rows = []) ∨ ∃ g cap, v = .slice (some ⟨g, 0, none⟩) rows.length cap ∧ base ≤ g ∧ g < w.heap.size ∧ rows.length ≤ cap := h.g.shape
theorem OwnV.cell {w : World} {base B g n cap : Nat} {vs : List Value} {rows : List (List Ce)} (h : OwnV w base B (.slice (some ⟨g, 0, none⟩) n cap) vs rows) (hn : rows.length = n) (i : Nat) (hi : i < n) : w.cell? ⟨g, i, none⟩ = some (rowV vs i) := by
  subst hn
  rw [World.ownsRow.cellAt h.2.1 i (by have := h.1; omega), rowV_get (by have := h.1; omega)]
theorem OwnV.frozen {w : World} {base B g n cap : Nat} {vs : List Value} {rows : List (List Ce)} (h : OwnV w base B (.slice (some ⟨g, 0, none⟩) n cap) vs rows) (hn : rows.length = n) (i : Nat) : w.frozen? ⟨g, i, none⟩ = false := by
  subst hn
  exact World.ownsRow.frozenAt h.2.1 i
/-- All of it lies from lo to below hi. -/
def OwnR (w : World) (lo hi : Nat) (v : Value) (rows : List (List Ce)) : Prop := OwnG w lo hi v rows ∧ (∀ g, v.ownBlock = some g → g < hi) ∧ hi ≤ w.heap.size
theorem OwnR.of {w : World} {lo : Nat} {v : Value} {rows : List (List Ce)} (h : OwnG w lo w.heap.size v rows) : OwnR w lo w.heap.size v rows := ⟨h, fun g e => (h.lt g e).2, Nat.le_refl _⟩
theorem OwnG.gr {lo hi base B : Nat} {w w' : World} {v : Value} {rows : List (List Ce)} (h : OwnG w base B v rows) (hv : ∀ g, v.ownBlock = some g → g < B) (hg : GrB lo hi w w') (hne : B ≤ lo ∨ hi ≤ base) : OwnG w' base B v rows := by
  obtain ⟨vs, hl, ho, hr, hB, hd⟩ := h
  refine ⟨vs, hl, World.ownsRow.gr ho hg (fun g e => ?_), fun i hi => (hr i hi).gr hg (fun g e => ?_), hB, hd⟩
  · have := hv g e; have := (ho.lt g e).1; omega
  · have := hB i hi g e; have := ((hr i hi).lt g e).1; omega
theorem OwnR.gr {lo hi base B : Nat} {w w' : World} {v : Value} {rows : List (List Ce)} (h : OwnR w base B v rows) (hg : GrB lo hi w w') (hne : B ≤ lo ∨ hi ≤ base) : OwnR w' base B v rows :=
  ⟨h.1.gr h.2.1 hg hne, h.2.1, Nat.le_trans h.2.2 hg.size⟩
theorem OwnR.below {base B : Nat} {w w' : World} {v : Value} {rows : List (List Ce)} (h : OwnR w base B v rows) (hb : Below w.heap.size w w') : OwnR w' base B v rows := ⟨h.1.below hb, h.2.1, Nat.le_trans h.2.2 hb.size⟩
theorem OwnR.sl {base B : Nat} {w : World} {v : Value} {rows : List (List Ce)} (h : OwnR w base B v rows) : SlG w v rows := SlG.of_own h.1
theorem GrN.gr {lo hi B : Nat} {w w' : World} {cols : Int} {v : Value} (h : GrN w B cols v) (hg : GrB lo hi w w') (hne : B < lo ∨ hi ≤ B) : GrN w' B cols v :=
  ⟨Nat.lt_of_lt_of_le h.1 hg.size, by rw [hg.cell h.1 hne]; exact h.2.1, by rw [hg.cell h.1 hne]; exact h.2.2⟩
/-- Rows that are reckoned one by one. -/
def genR (n : Nat) (f : Nat → List Ce) : List (List Ce) := (List.range n).map f
theorem genR_len (n : Nat) (f : Nat → List Ce) : (genR n f).length = n := by simp [genR]
theorem genR_at (n : Nat) (f : Nat → List Ce) (i : Nat) (h : i < n) : rowX (genR n f) i = f i := by
  rw [rowX_lt (by rw [genR_len]; exact h)]
  simp [genR]
theorem ext_rowX (a b : List (List Ce)) (hl : a.length = b.length) (h : ∀ i, i < a.length → rowX a i = rowX b i) : a = b := by
  apply List.ext_getElem hl
  intro i h1 h2
  rw [← rowX_lt h1, ← rowX_lt h2]
  exact h i h1
theorem rowX_set' {rows : List (List Ce)} {j : Nat} (hj : j < rows.length) (ys : List Ce) (i : Nat) : rowX (rows.set j ys) i = if i = j then ys else rowX rows i := by
  unfold rowX
  by_cases e : i = j
  · subst e; rw [if_pos rfl]; simp [List.getD, hj]
  · rw [if_neg e]; simp [List.getD, Ne.symm e]
end Go.Proofs.YtpijokologkbeaaDoor
namespace Go.Proofs.YtpijokologkbeaaDoor
open Go.ChangeShapes Go.WideShapes Go.ChangeAt Go.RowKit
/-- A cell whole in block B, writable. -/
def CeF (w : World) (B : Nat) (c : Ce) : Prop :=
  B < w.heap.size ∧ (w.cell? ⟨B, 0, none⟩ = some (.int .i64 c.rune) ∧ w.cell? ⟨B, 1, none⟩ = some (.int .i64 c.st.fore) ∧ w.cell? ⟨B, 2, none⟩ = some (.int .i64 c.st.back) ∧ w.cell? ⟨B, 3, none⟩ = some (.bool c.st.bold) ∧ w.cell? ⟨B, 4, none⟩ = some (.bool c.st.under) ∧ w.cell? ⟨B, 5, none⟩ = some (.bool c.st.turned) ∧ w.cell? ⟨B, 6, none⟩ = some (.int .i64 c.part)) ∧
    (w.frozen? ⟨B, 0, none⟩ = false ∧ w.frozen? ⟨B, 1, none⟩ = false ∧ w.frozen? ⟨B, 2, none⟩ = false ∧ w.frozen? ⟨B, 3, none⟩ = false ∧ w.frozen? ⟨B, 4, none⟩ = false ∧ w.frozen? ⟨B, 5, none⟩ = false ∧ w.frozen? ⟨B, 6, none⟩ = false)
theorem CeF.new (w : World) (c : Ce) (t : TypeId) : CeF (w.alloc (.cells #[.int .i64 c.rune, .int .i64 c.st.fore, .int .i64 c.st.back, .bool c.st.bold, .bool c.st.under, .bool c.st.turned, .int .i64 c.part] t)) w.heap.size c :=
  ⟨by simp, ⟨by simp [go_sem], by simp [go_sem], by simp [go_sem], by simp [go_sem], by simp [go_sem], by simp [go_sem], by simp [go_sem]⟩, ⟨by simp [go_sem], by simp [go_sem], by simp [go_sem], by simp [go_sem], by simp [go_sem], by simp [go_sem], by simp [go_sem]⟩⟩
theorem CeF.grown {w w' : World} {B : Nat} {c : Ce} {row : Option Nat} (h : CeF w B c) (hg : w.grownBy w' row) (hr : row ≠ some B) : CeF w' B c := by
  have hb := hg.block B h.1 (Ne.symm hr)
  have hc : ∀ k, w'.cell? ⟨B, k, none⟩ = w.cell? ⟨B, k, none⟩ := fun k => World.cell?_of_block (w := w) hb
  have hz : ∀ k, w'.frozen? ⟨B, k, none⟩ = w.frozen? ⟨B, k, none⟩ := fun k => World.frozen?_of_block (w := w) hb
  refine ⟨Nat.lt_of_lt_of_le h.1 hg.size, ?_, ?_⟩
  · rw [hc, hc, hc, hc, hc, hc, hc]; exact h.2.1
  · rw [hz, hz, hz, hz, hz, hz, hz]; exact h.2.2
theorem CeF.below {w w' : World} {B : Nat} {c : Ce} (h : CeF w B c) (hb : Below w.heap.size w w') : CeF w' B c := h.grown (gbl hb none) (by simp)
/-- Another cell is written there whole. -/
def putF (w : World) (B : Nat) (c : Ce) : World := (((((((w.setCell ⟨B, 0, none⟩ (.int .i64 c.rune)).setCell ⟨B, 1, none⟩ (.int .i64 c.st.fore)).setCell ⟨B, 2, none⟩ (.int .i64 c.st.back)).setCell ⟨B, 3, none⟩ (.bool c.st.bold)).setCell ⟨B, 4, none⟩ (.bool c.st.under)).setCell ⟨B, 5, none⟩ (.bool c.st.turned)).setCell ⟨B, 6, none⟩ (.int .i64 c.part))
theorem putF_grown (w : World) (B : Nat) (c : Ce) : w.grownBy (putF w B c) (some B) :=
  grown_tr (grown_tr (grown_tr (grown_tr (grown_tr (grown_tr (setCell_gr w B 0 _) (setCell_gr _ B 1 _)) (setCell_gr _ B 2 _)) (setCell_gr _ B 3 _)) (setCell_gr _ B 4 _)) (setCell_gr _ B 5 _)) (setCell_gr _ B 6 _)
theorem CeF.put {w : World} {B : Nat} {c : Ce} (h : CeF w B c) (c' : Ce) : CeF (putF w B c') B c' := by
  obtain ⟨hlt, ⟨c0, c1, c2, c3, c4, c5, c6⟩, ⟨z0, z1, z2, z3, z4, z5, z6⟩⟩ := h
  refine ⟨by simpa [putF] using hlt, ⟨?_, ?_, ?_, ?_, ?_, ?_, ?_⟩, ⟨?_, ?_, ?_, ?_, ?_, ?_, ?_⟩⟩
  all_goals simp only [putF]
  · rw [setCell_ne' _ _ _ _ _ (by decide), setCell_ne' _ _ _ _ _ (by decide), setCell_ne' _ _ _ _ _ (by decide), setCell_ne' _ _ _ _ _ (by decide), setCell_ne' _ _ _ _ _ (by decide), setCell_ne' _ _ _ _ _ (by decide)]; simp [go_sem, c0]
  · rw [setCell_ne' _ _ _ _ _ (by decide), setCell_ne' _ _ _ _ _ (by decide), setCell_ne' _ _ _ _ _ (by decide), setCell_ne' _ _ _ _ _ (by decide), setCell_ne' _ _ _ _ _ (by decide)]; simp [go_sem, c1]
  · rw [setCell_ne' _ _ _ _ _ (by decide), setCell_ne' _ _ _ _ _ (by decide), setCell_ne' _ _ _ _ _ (by decide), setCell_ne' _ _ _ _ _ (by decide)]; simp [go_sem, c2]
  · rw [setCell_ne' _ _ _ _ _ (by decide), setCell_ne' _ _ _ _ _ (by decide), setCell_ne' _ _ _ _ _ (by decide)]; simp [go_sem, c3]
  · rw [setCell_ne' _ _ _ _ _ (by decide), setCell_ne' _ _ _ _ _ (by decide)]; simp [go_sem, c4]
  · rw [setCell_ne' _ _ _ _ _ (by decide)]; simp [go_sem, c5]
  · simp [go_sem, c6]
  · simp [go_sem, z0]
  · simp [go_sem, z1]
  · simp [go_sem, z2]
  · simp [go_sem, z3]
  · simp [go_sem, z4]
  · simp [go_sem, z5]
  · simp [go_sem, z6]
theorem SlC.src {w : World} {a : Option Addr} {n c : Nat} {xs : List Ce} (h : SlC w (.slice a n c) xs) (h0 : 0 < xs.length) : ∃ b off, a = some ⟨b, off, none⟩ ∧ ∀ i, i < xs.length → CeAt w b (off + i * 7) (atC xs i) := by
  obtain ⟨a', c', e, _, _, hr⟩ := h
  simp only [Value.slice.injEq] at e
  obtain ⟨rfl, _, rfl⟩ := e
  rcases hr with h | ⟨b, off, ha, _, hi⟩
  · rw [h] at h0; simp at h0
  · exact ⟨b, off, ha, hi⟩
end Go.Proofs.YtpijokologkbeaaDoor
namespace Go.Proofs.YtpijokologkbeaaDoor
theorem atC_ge {l : List Ce} {i : Nat} (h : l.length ≤ i) : atC l i = Ce.zero := by simp [atC, List.getD, List.getElem?_eq_none h]
def genL (n : Nat) (f : Nat → Ce) : List Ce := (List.range n).map f
theorem genL_len (n : Nat) (f : Nat → Ce) : (genL n f).length = n := by simp [genL]
theorem genL_at (n : Nat) (f : Nat → Ce) (i : Nat) (h : i < n) : atC (genL n f) i = f i := by
  rw [atC_lt (by rw [genL_len]; exact h)]; simp [genL]
theorem alone_iff (l : List Ce) (i : Nat) : aloneB l i = true ↔ ((atC l i).part = 1 ∧ (atC l (i + 1)).part ≠ 2) ∨ ((atC l i).part = 2 ∧ (i = 0 ∨ (atC l (i - 1)).part ≠ 1)) := by
  unfold aloneB
  by_cases h : i + 1 = l.length
  · rw [atC_ge (l := l) (i := i + 1) (by omega)]
    simp [Ce.zero, h]
  · simp [h]
theorem mendV_all (l : List Ce) (i : Nat) : atC (mendV l) i = mendC l i := by
  by_cases h : i < l.length
  · exact mendV_at l i h
  · rw [atC_ge (by rw [mendV_len]; omega), mendC, atC_ge (by omega)]
    have : ¬ aloneB l i = true := by rw [alone_iff, atC_ge (l := l) (i := i) (by omega)]; simp [Ce.zero]
    rw [if_neg this]
/-- A cell that is right by itself. -/
def c1 (c : Ce) : Prop := c.st.ok = true ∧ ((c.part = 0 ∧ widthV c.rune = 1) ∨ (c.part = 1 ∧ widthV c.rune = 2) ∨ (c.part = 2 ∧ c.rune = 0))
def Right (l : List Ce) : Prop :=
  (∀ i, i < l.length → c1 (atC l i)) ∧ (∀ i, (atC l i).part = 1 → (atC l (i + 1)).part = 2 ∧ (atC l (i + 1)).st = (atC l i).st) ∧ (∀ i, (atC l i).part = 2 → 0 < i ∧ (atC l (i - 1)).part = 1)
def Semi (l : List Ce) : Prop :=
  (∀ i, i < l.length → c1 (atC l i)) ∧ (∀ i, (atC l i).part = 1 → (atC l (i + 1)).part = 2 → (atC l (i + 1)).st = (atC l i).st)
theorem Right.semi {l : List Ce} (h : Right l) : Semi l := ⟨h.1, fun i h1 _ => (h.2.1 i h1).2⟩
theorem part_lt {l : List Ce} {i : Nat} (h : (atC l i).part ≠ 0) : i < l.length := by
  rcases Nat.lt_or_ge i l.length with h1 | h1
  · exact h1
  · rw [atC_ge h1] at h; exact absurd rfl h
theorem right_iff (l : List Ce) : rowOkB l = true ↔ (1 ≤ l.length ∧ l.length ≤ 60) ∧ Right l := by
  rw [rowOkB_iff]
  constructor
  · rintro ⟨hl, h⟩
    refine ⟨hl, ?_, ?_, ?_⟩
    · intro i hi
      have := h i hi
      unfold cellOkB at this
      rw [Bool.and_eq_true] at this
      refine ⟨this.1, ?_⟩
      have h2 := this.2
      by_cases h0 : (atC l i).part = 0
      · rw [if_pos h0] at h2; exact .inl ⟨h0, by simpa using h2⟩
      · rw [if_neg h0] at h2
        by_cases h1 : (atC l i).part = 1
        · rw [if_pos h1] at h2; simp at h2; exact .inr (.inl ⟨h1, h2.1⟩)
        · rw [if_neg h1] at h2
          by_cases h3 : (atC l i).part = 2
          · rw [if_pos h3] at h2; simp at h2; exact .inr (.inr ⟨h3, h2.1⟩)
          · rw [if_neg h3] at h2; cases h2
    · intro i h1
      have hi : i < l.length := part_lt (by rw [h1]; decide)
      have := h i hi
      unfold cellOkB at this
      rw [Bool.and_eq_true, if_neg (by rw [h1]; decide), if_pos h1] at this
      have h2 := this.2; simp at h2
      exact ⟨h2.2.2.1, h2.2.2.2⟩
    · intro i h1
      have hi : i < l.length := part_lt (by rw [h1]; decide)
      have := h i hi
      unfold cellOkB at this
      rw [Bool.and_eq_true, if_neg (by rw [h1]; decide), if_neg (by rw [h1]; decide), if_pos h1] at this
      have h2 := this.2; simp at h2
      exact h2.2
  · rintro ⟨hl, h1, h2, h3⟩
    refine ⟨hl, fun i hi => ?_⟩
    have hc := h1 i hi
    unfold cellOkB
    rw [hc.1, Bool.true_and]
    rcases hc.2 with ⟨e, ew⟩ | ⟨e, ew⟩ | ⟨e, ew⟩
    · rw [if_pos e, ew]; rfl
    · have := h2 i e
      have hlt : i + 1 < l.length := part_lt (by rw [this.1]; decide)
      rw [if_neg (by rw [e]; decide), if_pos e, ew]
      simp [hlt, this.1, this.2]
    · have := h3 i e
      rw [if_neg (by rw [e]; decide), if_neg (by rw [e]; decide), if_pos e, ew]
      simp [this.1, this.2]
theorem c1_blank {s : St} (h : s.ok = true) : c1 (blankC s) := ⟨h, .inl ⟨rfl, by show widthV 32 = 1; decide⟩⟩
theorem Semi.mend {l : List Ce} (h : Semi l) : Right (mendV l) := by
  have hp : ∀ i, (atC (mendV l) i).part ≠ 0 → aloneB l i = false ∧ atC (mendV l) i = atC l i := by
    intro i hi
    rw [mendV_all, mendC] at hi ⊢
    by_cases ha : aloneB l i = true
    · rw [if_pos ha] at hi; exact absurd rfl hi
    · rw [if_neg ha]; exact ⟨by simpa using ha, rfl⟩
  refine ⟨fun i hi => ?_, fun i h1 => ?_, fun i h2 => ?_⟩
  · rw [mendV_len] at hi
    rw [mendV_all, mendC]
    split
    · exact c1_blank (h.1 i hi).1
    · exact h.1 i hi
  · obtain ⟨ha, e⟩ := hp i (by rw [h1]; decide)
    rw [e] at h1
    have hn : (atC l (i + 1)).part = 2 := by
      apply Classical.byContradiction
      intro hc
      have := (alone_iff l i).2 (.inl ⟨h1, hc⟩)
      rw [ha] at this; cases this
    have hb : aloneB l (i + 1) = false := by
      apply Classical.byContradiction
      intro hc
      rcases (alone_iff l (i + 1)).1 (by simpa using hc) with ⟨q, _⟩ | ⟨_, q⟩
      · rw [hn] at q; exact absurd q (by decide)
      · rcases q with q | q
        · omega
        · rw [Nat.add_sub_cancel] at q; exact q h1
    have e2 : atC (mendV l) (i + 1) = atC l (i + 1) := by rw [mendV_all, mendC, if_neg (by rw [hb]; decide)]
    rw [e2, e]
    exact ⟨hn, h.2 i h1 hn⟩
  · obtain ⟨ha, e⟩ := hp i (by rw [h2]; decide)
    rw [e] at h2
    have hn : ¬ (i = 0 ∨ (atC l (i - 1)).part ≠ 1) := by
      intro hc
      have := (alone_iff l i).2 (.inr ⟨h2, hc⟩)
      rw [ha] at this; cases this
    have h0 : 0 < i := by omega
    have h1 : (atC l (i - 1)).part = 1 := by
      apply Classical.byContradiction
      intro hc; exact hn (.inr hc)
    have hb : aloneB l (i - 1) = false := by
      apply Classical.byContradiction
      intro hc
      rcases (alone_iff l (i - 1)).1 (by simpa using hc) with ⟨_, q⟩ | ⟨q, _⟩
      · have : i - 1 + 1 = i := by omega
        rw [this] at q; exact q h2
      · rw [h1] at q; exact absurd q (by decide)
    have e2 : atC (mendV l) (i - 1) = atC l (i - 1) := by rw [mendV_all, mendC, if_neg (by rw [hb]; decide)]
    rw [e2]; exact ⟨h0, h1⟩
theorem Right.alone {l : List Ce} (h : Right l) (i : Nat) : aloneB l i = false := by
  apply Classical.byContradiction
  intro hc
  rcases (alone_iff l i).1 (by simpa using hc) with ⟨p, q⟩ | ⟨p, q⟩
  · exact q (h.2.1 i p).1
  · have := h.2.2 i p
    rcases q with q | q
    · omega
    · exact q this.2
theorem Right.mend {l : List Ce} (h : Right l) : mendV l = l := ext_atC _ _ (mendV_len l) fun i _ => by
  rw [mendV_all, mendC, if_neg (by rw [h.alone]; decide)]
theorem Right.c1 {l : List Ce} (h : Right l) {i : Nat} (hi : i < l.length) : c1 (atC l i) := h.1 i hi
theorem fill_at (l : List Ce) (a b : Nat) (s : St) (i : Nat) (hb : b ≤ l.length) : atC (fillUp l a b s) i = if a ≤ i ∧ i < b then blankC s else atC l i := by
  by_cases h : i < l.length
  · exact fillUp_at l a b s i h
  · rw [atC_ge (by rw [fillUp_len]; omega), if_neg (by omega), atC_ge (by omega)]
theorem Semi.take {l : List Ce} (h : Semi l) (n : Nat) : Semi (l.take n) := by
  have e : ∀ i, atC (l.take n) i = if i < n then atC l i else Ce.zero := fun i => by
    by_cases hi : i < n
    · rw [if_pos hi, atC_take l n i hi]
    · rw [if_neg hi, atC_ge (by rw [List.length_take]; omega)]
  refine ⟨fun i hi => ?_, fun i h1 h2 => ?_⟩
  · rw [List.length_take] at hi
    rw [e, if_pos (by omega)]
    exact h.1 i (by omega)
  · rw [e] at h1 h2 ⊢
    rw [e]
    split at h1
    · split at h2
      · rename_i q1 q2
        rw [if_pos q2, if_pos q1]
        exact h.2 i h1 h2
      · exact absurd h2 (by decide)
    · exact absurd h1 (by decide)
theorem Semi.drop {l : List Ce} (h : Semi l) (n : Nat) : Semi (l.drop n) := by
  refine ⟨fun i hi => ?_, fun i h1 h2 => ?_⟩
  · rw [List.length_drop] at hi
    rw [atC_drop]; exact h.1 (n + i) (by omega)
  · rw [atC_drop] at h1 h2 ⊢
    rw [atC_drop]
    have := h.2 (n + i) h1 (by rw [Nat.add_assoc]; exact h2)
    rwa [Nat.add_assoc] at this
theorem app_at (l m : List Ce) (i : Nat) : atC (l ++ m) i = if i < l.length then atC l i else atC m (i - l.length) := by
  by_cases h : i < l.length
  · rw [if_pos h, atC_append_left l m i h]
  · rw [if_neg h]
    have := atC_append_right l m (i - l.length)
    rwa [show l.length + (i - l.length) = i by omega] at this
theorem Right.append {l m : List Ce} (h : Right l) (k : Right m) : Right (l ++ m) := by
  refine ⟨fun i hi => ?_, fun i h1 => ?_, fun i h2 => ?_⟩
  · rw [List.length_append] at hi
    rw [app_at]
    split
    · rename_i q; exact h.1 i q
    · exact k.1 _ (by omega)
  · rw [app_at] at h1
    split at h1
    · have := h.2.1 i h1
      have hlt : i + 1 < l.length := part_lt (by rw [this.1]; decide)
      rename_i q
      rw [app_at, app_at, if_pos hlt, if_pos q]; exact this
    · rename_i q
      have := k.2.1 _ h1
      rw [app_at, app_at, if_neg (by omega), if_neg q]
      rwa [show i + 1 - l.length = i - l.length + 1 by omega]
  · rw [app_at] at h2
    split at h2
    · rename_i q
      have := h.2.2 i h2
      rw [app_at, if_pos (by omega)]; exact this
    · rename_i q
      have := k.2.2 _ h2
      rw [app_at, if_neg (by omega)]
      refine ⟨by omega, ?_⟩
      rw [show i - 1 - l.length = i - l.length - 1 by omega]; exact this.2
theorem rowL_at (n : Nat) (s : St) (i : Nat) (h : i < n) : atC (rowL n s) i = blankC s := by
  rw [atC_lt (by simp [rowL]; exact h)]; simp [rowL]
theorem rowL_right (n : Nat) (s : St) (hs : s.ok = true) : Right (rowL n s) := by
  have e : ∀ i, (atC (rowL n s) i).part = 0 := fun i => by
    by_cases h : i < n
    · rw [rowL_at n s i h]; rfl
    · rw [atC_ge (by simp [rowL]; omega)]; rfl
  refine ⟨fun i hi => ?_, fun i h1 => ?_, fun i h1 => ?_⟩
  · rw [rowL_at n s i (by simpa [rowL] using hi)]; exact c1_blank hs
  · rw [e] at h1; exact absurd h1 (by decide)
  · rw [e] at h1; exact absurd h1 (by decide)
end Go.Proofs.YtpijokologkbeaaDoor
namespace Go.Proofs.YtpijokologkbeaaDoor
/-- A wide rune that lies on both sides of a place is blank. -/
def partW (l : List Ce) (p : Nat) : List Ce := if (atC l p).part = 2 then fillUp l (p - 1) (p + 1) (atC l p).st else l
theorem partW_len (l : List Ce) (p : Nat) : (partW l p).length = l.length := by unfold partW; split; exact fillUp_len _ _ _ _; rfl
theorem Right.two {l : List Ce} (h : Right l) {p : Nat} (h2 : (atC l p).part = 2) : 0 < p ∧ p < l.length ∧ (atC l (p - 1)).part = 1 ∧ (atC l p).st = (atC l (p - 1)).st := by
  have := h.2.2 p h2
  have h3 := (h.2.1 (p - 1) this.2).2
  rw [show p - 1 + 1 = p by omega] at h3
  exact ⟨this.1, part_lt (by rw [h2]; decide), this.2, h3⟩
theorem partW_at {l : List Ce} (h : Right l) (p i : Nat) : atC (partW l p) i = if (atC l p).part = 2 ∧ (i + 1 = p ∨ i = p) then blankC (atC l i).st else atC l i := by
  unfold partW
  by_cases h2 : (atC l p).part = 2
  · obtain ⟨h0, hl, h1, hst⟩ := h.two h2
    rw [if_pos h2, fill_at _ _ _ _ _ (by omega)]
    by_cases e : i + 1 = p ∨ i = p
    · rw [if_pos (by omega), if_pos ⟨h2, e⟩]
      rcases e with e | e
      · rw [hst, show p - 1 = i by omega]
      · rw [e]
    · rw [if_neg (by omega), if_neg (fun q => e q.2)]
  · rw [if_neg h2, if_neg (fun q => h2 q.1)]
theorem mendT {l : List Ce} (h : Right l) (p i : Nat) (hi : i < p) : atC (mendV (l.take p)) i = if (atC l p).part = 2 ∧ i + 1 = p then blankC (atC l i).st else atC l i := by
  have ht : ∀ j, atC (l.take p) j = if j < p then atC l j else Ce.zero := fun j => by
    by_cases hj : j < p
    · rw [if_pos hj, atC_take l p j hj]
    · rw [if_neg hj, atC_ge (by rw [List.length_take]; omega)]
  rw [mendV_all, mendC, ht i, if_pos hi]
  have hal : aloneB (l.take p) i = true ↔ (atC l p).part = 2 ∧ i + 1 = p := by
    rw [alone_iff, ht i, if_pos hi]
    constructor
    · rintro (⟨q1, q2⟩ | ⟨q1, q2⟩)
      · have := h.2.1 i q1
        rw [ht] at q2
        by_cases c : i + 1 < p
        · rw [if_pos c] at q2; exact absurd this.1 q2
        · have e : i + 1 = p := by omega
          rw [← e]; exact ⟨this.1, rfl⟩
      · have := h.2.2 i q1
        rcases q2 with q2 | q2
        · omega
        · rw [ht, if_pos (by omega)] at q2; exact absurd this.2 q2
    · rintro ⟨q1, q2⟩
      left
      have := h.two q1
      rw [show p - 1 = i by omega] at this
      refine ⟨this.2.2.1, ?_⟩
      rw [ht, if_neg (by omega)]; decide
  by_cases c : (atC l p).part = 2 ∧ i + 1 = p
  · rw [if_pos c, if_pos (hal.2 c)]
  · rw [if_neg c, if_neg (fun x => c (hal.1 x))]
theorem rowL_len (n : Nat) (s : St) : (rowL n s).length = n := by simp [rowL]
end Go.Proofs.YtpijokologkbeaaDoor
namespace Go.Proofs.YtpijokologkbeaaDoor
open Go.ChangeShapes Go.WideShapes Go.ChangeAt Go.RowKit
theorem flat_take (xs : List Ce) : ∀ k, (xs.flatMap ceL).take (k * 7) = (xs.take k).flatMap ceL := by
  induction xs with
  | nil => intro k; simp
  | cons c xs ih =>
    intro k
    cases k with
    | zero => simp
    | succ k =>
      rw [List.flatMap_cons, List.take_succ_cons, List.flatMap_cons, List.take_append, ← ih k]
      have hl : (ceL c).length = 7 := rfl
      rw [List.take_of_length_le (by rw [hl]; omega), hl, show (k + 1) * 7 - 7 = k * 7 by omega]
theorem flat_drop (xs : List Ce) : ∀ k, (xs.flatMap ceL).drop (k * 7) = (xs.drop k).flatMap ceL := by
  induction xs with
  | nil => intro k; simp
  | cons c xs ih =>
    intro k
    cases k with
    | zero => simp
    | succ k =>
      have hl : (ceL c).length = 7 := rfl
      rw [List.flatMap_cons, List.drop_succ_cons, ← ih k, List.drop_append, hl, List.drop_of_length_le (by rw [hl]; omega), List.nil_append, show (k + 1) * 7 - 7 = k * 7 by omega]
def windL (L : List Ce) (q : Nat) (M : List Ce) : List Ce := L.take q ++ M ++ L.drop (q + M.length)
theorem windL_len (L : List Ce) (q : Nat) (M : List Ce) (h : q + M.length ≤ L.length) : (windL L q M).length = L.length := by unfold windL; simp; omega
theorem windL_at (L : List Ce) (q : Nat) (M : List Ce) (h : q + M.length ≤ L.length) (i : Nat) : atC (windL L q M) i = if q ≤ i ∧ i < q + M.length then atC M (i - q) else atC L i := by
  have h1 : (L.take q).length = q := by rw [List.length_take]; omega
  unfold windL
  rw [app_at, app_at, List.length_append, h1]
  by_cases c1 : i < q
  · rw [if_pos (by omega), if_pos c1, if_neg (by omega), atC_take L q i c1]
  · by_cases c2 : i < q + M.length
    · rw [if_pos c2, if_neg c1, if_pos (by omega)]
    · rw [if_neg c2, if_neg (by omega), atC_drop, show q + M.length + (i - (q + M.length)) = i by omega]
theorem OwnC.cur {w : World} {base g n cap : Nat} {L : List Ce} (h : OwnC w base (.slice (some ⟨g, 0, none⟩) n cap) L) (hn : L.length = n) :
    ∃ cur : Array Value, w.heap[g]? = some (.cells cur 75 (0, 0)) ∧ base ≤ g ∧ n ≤ cap ∧ cap ≤ maxLen ∧ cur.size = cap * 7 ∧ cur.toList.take (n * 7) = L.flatMap ceL := by
  subst hn
  rcases h.2 with ⟨h1, _⟩ | ⟨g', cap', cur, hv, hb, hg, hc, hm, hs, ht⟩
  · cases h1
  · simp only [Value.slice.injEq, Option.some.injEq, Addr.mk.injEq, and_true, true_and] at hv
    obtain ⟨rfl, rfl⟩ := hv
    exact ⟨cur, hg, hb, hc, hm, hs, ht⟩
theorem OwnC.relaid {w : World} {base g n cap : Nat} {L : List Ce} (h : OwnC w base (.slice (some ⟨g, 0, none⟩) n cap) L) (hn : L.length = n) (cur : Array Value) (hg : w.heap[g]? = some (.cells cur 75 (0, 0)))
    (q : Nat) (M : List Ce) (hq : q + M.length ≤ n) :
    OwnC (w.setRow g (cur.toList.take (q * 7) ++ M.flatMap ceL ++ cur.toList.drop (q * 7 + (M.flatMap ceL).length)).toArray) base (.slice (some ⟨g, 0, none⟩) n cap) (windL L q M) ∧
      w.grownBy (w.setRow g (cur.toList.take (q * 7) ++ M.flatMap ceL ++ cur.toList.drop (q * 7 + (M.flatMap ceL).length)).toArray) (some g) := by
  obtain ⟨cur', hg', hb, hc, hm, hs, ht⟩ := h.cur hn
  rw [hg] at hg'
  simp only [Option.some.injEq, Obj.cells.injEq, and_true] at hg'
  subst hg'
  have hl := windL_len L q M (by omega)
  refine ⟨⟨by rw [flat_len, hl], .inr ⟨g, cap, _, by rw [hl, hn], hb, setRow_heap w g cur _ 75 _ hg, by omega, hm, ?_, ?_⟩⟩, ⟨rfl, rfl, rfl, by simp [World.setRow], fun k _ hk => setRow_other w g k _ (fun e => hk (by simp [e]))⟩⟩
  · have : M.length * 7 ≤ n * 7 - q * 7 := by omega
    have : n * 7 ≤ cap * 7 := by omega
    rw [List.size_toArray, List.length_append, List.length_append, List.length_take, List.length_drop, flat_len, Array.length_toList, hs]; omega
  · rw [hl, hn]
    have e1 : cur.toList.take (q * 7) = (L.take q).flatMap ceL := by
      rw [← flat_take, ← ht, List.take_take, Nat.min_eq_left (by omega)]
    have e2 : (cur.toList.drop (q * 7 + (M.flatMap ceL).length)).take (n * 7 - (q + M.length) * 7) = (L.drop (q + M.length)).flatMap ceL := by
      rw [← flat_drop, ← ht, flat_len, ← Nat.add_mul, List.drop_take]
    unfold windL
    rw [List.flatMap_append, List.flatMap_append, ← e1, ← e2]
    have hl1 : (cur.toList.take (q * 7) ++ M.flatMap ceL).length = (q + M.length) * 7 := by
      rw [List.length_append, List.length_take, flat_len, Array.length_toList, hs]; omega
    rw [List.take_append, List.take_of_length_le (by rw [hl1]; omega), hl1]
theorem replC_flat (z : Ce) (k : Nat) : (Builtin.zeroCells (ceL z).toArray k).toList = (List.replicate k z).flatMap ceL := by
  apply List.ext_getElem?
  intro j
  have hl : (ceL z).length = 7 := rfl
  by_cases hj : j < k * 7
  · have h2 : j % 7 < 7 := Nat.mod_lt _ (by decide)
    have e := flat_get (List.replicate k z) (j / 7) (j % 7) (by simp; omega) h2
    rw [show j / 7 * 7 + j % 7 = j by omega] at e
    rw [e]
    have ea : atC (List.replicate k z) (j / 7) = z := by rw [atC_lt (by simp; omega)]; simp
    rw [ea]
    simp only [Builtin.zeroCells, List.size_toArray, hl]
    rw [Array.getElem?_toList, Array.getElem?_map, Array.getElem?_range]
    rw [if_pos hj]
    simp only [Option.map_some]
    rw [getElem!_pos _ _ (by simpa [hl] using h2)]
    simp
  · have h1 : ((Builtin.zeroCells (ceL z).toArray k).toList)[j]? = none := by
      apply List.getElem?_eq_none; simp [Builtin.zeroCells, hl]; omega
    have h2 : ((List.replicate k z).flatMap ceL)[j]? = none := by
      apply List.getElem?_eq_none; rw [flat_len]; simp; omega
    rw [h1, h2]
theorem under_cells : Tryd.prog.underlying 66 = some (.slice 75) := by kernel_rfl
theorem zero_cell (w : World) : (zeroValue 75).run Tryd.prog w = .ok (ceV Ce.zero) w := by
  obtain ⟨i, hi, hz, _⟩ := info_parts info_cell
  simp [zeroValue, typeInfo, hi, hz]
/-- 'clear' of a window. -/
theorem clear_oc {w : World} {ops : Array Oper} {rest : List Oper} {o : Oper} {ac : Act} {Q : Exit → Act → World → Prop} (hgd : o.guard = none) (s : Operand)
    (ho : o.op = .call { callee := .builtin .clear, args := #[s], argTypes := #[66] })
    (base g n cap q k c off : Nat) (L : List Ce) (h : OwnC w base (.slice (some ⟨g, 0, none⟩) n cap) L) (hn : L.length = n) (hq : q + k ≤ n) (hoff : off = q * 7) (hs : ac.eval s = .slice (some ⟨g, off, none⟩) k c)
    (hK : ∀ w', OwnC w' base (.slice (some ⟨g, 0, none⟩) n cap) (windL L q (List.replicate k Ce.zero)) → w.grownBy w' (some g) → wpList Tryd.prog ops Q rest (ac.put o.dst (.tuple #[])) w') :
    wpList Tryd.prog ops Q (o :: rest) ac w := by
  subst hoff
  refine wpList_plain hgd fun K hK' => ?_
  obtain ⟨cur, hg, hb, hc, hm, hsz, ht⟩ := h.cur hn
  have hwin := h.relaid hn cur hg q (List.replicate k Ce.zero) (by simpa using hq)
  by_cases h0 : k = 0
  · subst h0
    have hrun : ∀ ty, (Builtin.clear_ #[66] ty #[.slice (some ⟨g, q * 7, none⟩) 0 c]).run Tryd.prog w = .ok (.tuple #[]) w := fun ty => by
      simp [Builtin.clear_, run_underlying under_cells]
    unfold Oper.wp
    simp [execOp, ho, resolve, invoke, builtin, hs, hrun, Result.andThen]
    refine hK' _ _ (hK w ?_ ⟨rfl, rfl, rfl, Nat.le_refl _, fun _ _ _ => rfl⟩)
    have e : windL L q (List.replicate 0 Ce.zero) = L := by simp [windL]
    rw [e]; exact h
  · have hfl := flat_len (List.replicate k Ce.zero)
    rw [List.length_replicate] at hfl
    have hz : (ceV Ce.zero).cells = (ceL Ce.zero).toArray := rfl
    have hst := run_storeCells_at Tryd.prog g (q * 7) 75 ((List.replicate k Ce.zero).flatMap ceL) 0 cur w hg (by rw [hfl, hsz]; omega) (flat_one _)
    rw [Nat.add_zero] at hst
    obtain ⟨m, rfl⟩ : ∃ m, k = m + 1 := ⟨k - 1, by omega⟩
    have hrun : ∀ ty, (Builtin.clear_ #[66] ty #[.slice (some ⟨g, q * 7, none⟩) (m + 1) c]).run Tryd.prog w = .ok (.tuple #[]) (w.setRow g (cur.toList.take (q * 7) ++ (List.replicate (m + 1) Ce.zero).flatMap ceL ++ cur.toList.drop (q * 7 + ((List.replicate (m + 1) Ce.zero).flatMap ceL).length)).toArray) := fun ty => by
      simp only [Builtin.clear_]
      simp only [Sem.run_bind, run_underlying under_cells, Result.andThen_ok, zero_cell, hz, replC_flat, hst, List.getElem?_toArray, List.getElem?_cons_zero]
      simp
    unfold Oper.wp
    simp [execOp, ho, resolve, invoke, builtin, hs, hrun, Result.andThen]
    have := hK _ hwin.1 hwin.2
    simp at this
    exact hK' _ _ this
/-- 'make([]Cell, n)'. -/
theorem made_zero (n : Nat) : (madeCells (ceV Ce.zero).cells (n * 7)).toList = (List.replicate n Ce.zero).flatMap ceL := by
  apply List.ext_getElem?
  intro i
  by_cases hi : i < n * 7
  · have h1 : i / 7 < n := by omega
    have h2 : i % 7 < 7 := Nat.mod_lt _ (by decide)
    have e : i = i / 7 * 7 + i % 7 := by omega
    have hr : ((List.replicate n Ce.zero).flatMap ceL)[i]? = (ceL Ce.zero)[i % 7]? := by
      conv => lhs; rw [e]
      rw [flat_get _ (i / 7) (i % 7) (by simpa using h1) h2]
      simp [atC, h1]
    rw [hr]
    simp only [madeCells, Array.toList_map, List.getElem?_map, Array.toList_range]
    rw [List.getElem?_range hi]
    generalize he : i % 7 = k at *
    have hz : (ceV Ce.zero).cells.size = 7 := rfl
    simp only [Option.map_some, hz, he]
    match k, h2 with
    | 0, _ => rfl
    | 1, _ => rfl
    | 2, _ => rfl
    | 3, _ => rfl
    | 4, _ => rfl
    | 5, _ => rfl
    | 6, _ => rfl
  · rw [List.getElem?_eq_none (by simp [size_madeCells]; omega), List.getElem?_eq_none (by rw [flat_len]; simp; omega)]
theorem make_oc {w : World} {ops : Array Oper} {rest : List Oper} {o : Oper} {ac : Act} {Q : Exit → Act → World → Prop} (hgd : o.guard = none) (x y : Operand)
    (ho : o.op = Op.makeSlice 66 x y) (n : Nat) (hx : ac.eval x = .int .i64 (n : Int)) (hy : ac.eval y = .int .i64 (n : Int)) (hn : n ≤ 1073741824)
    (h : ∀ w', OwnC w' w.heap.size (.slice (some ⟨w.heap.size, 0, none⟩) n n) (List.replicate n Ce.zero) → Below w.heap.size w w' → wpList Tryd.prog ops Q rest (ac.put o.dst (.slice (some ⟨w.heap.size, 0, none⟩) n n)) w') :
    wpList Tryd.prog ops Q (o :: rest) ac w := by
  obtain ⟨i0, hi, hz0, hz1, hz2⟩ := info_parts info_cell
  refine wpList_make_full _ hgd x y 66 ho w.heap.size 75 i0 (ceV Ce.zero) 7 Tryd.underlying66 hi hz0 hz1 .i64 .i64 (n : Int) (n : Int) n hx hy rfl rfl (by rw [hz2]; omega) (by unfold maxLen; omega) (Nat.le_refl _) (fun w' ho' hg => ?_)
  refine h w' ?_ ((Below.refl _ _).grown hg (Nat.le_refl _) (fun k hk => by cases hk))
  rw [made_zero] at ho'
  unfold OwnC
  rw [List.length_replicate]
  exact ho'
/-- 'copy' into a window. -/
theorem run_copy_oc {w : World} (ty : TypeId) (base g n cap q : Nat) (L M : List Ce) (h : OwnC w base (.slice (some ⟨g, 0, none⟩) n cap) L) (hn : L.length = n) (dp sp : Option Addr) (dLen dCap sLen sCap : Nat) (hM : M.length = Nat.min sLen dLen) (hq : q + M.length ≤ n)
    (hpos : 0 < M.length → dp = some ⟨g, q * 7, none⟩ ∧ ∃ b off, sp = some ⟨b, off, none⟩ ∧ ∀ i, i < M.length → CeAt w b (off + i * 7) (atC M i)) :
    ∃ w', (Builtin.copy_ #[66, 66] ty #[.slice dp dLen dCap, .slice sp sLen sCap]).run Tryd.prog w = .ok (goInt M.length) w' ∧ OwnC w' base (.slice (some ⟨g, 0, none⟩) n cap) (windL L q M) ∧ w.grownBy w' (some g) := by
  obtain ⟨i0, hi, hz0, hz1, hz2⟩ := info_parts info_cell
  obtain ⟨cur, hg, hb, hc, hm, hsz, ht⟩ := h.cur hn
  have hwin := h.relaid hn cur hg q M hq
  by_cases h0 : M.length = 0
  · have hM0 : M = [] := List.eq_nil_of_length_eq_zero h0
    subst hM0
    have e : windL L q [] = L := by simp [windL]
    refine ⟨w, ?_, by rw [e]; exact h, ⟨rfl, rfl, rfl, Nat.le_refl _, fun _ _ _ => rfl⟩⟩
    have hm0 : Nat.min sLen dLen = 0 := by simpa using hM.symm
    cases sp <;> cases dp <;> simp [Builtin.copy_, run_underlying under_cells, Builtin.lenOf, Builtin.firstCells, sizeOf, typeInfo, hi, hm0, loadCells, loadCellsFrom, storeCells]
  · obtain ⟨rfl, b, off, rfl, hsrc⟩ := hpos (by omega)
    refine ⟨_, ?_, hwin.1, hwin.2⟩
    have hl := run_loadCells_list (P := Tryd.prog) w ⟨b, off, none⟩ (M.flatMap ceL) (fun j v hj => by rw [Addr.add_mid]; exact flat_cells hsrc j v hj)
    rw [flat_len] at hl
    have hst := run_storeCells_at Tryd.prog g (q * 7) 75 (M.flatMap ceL) 0 cur w hg (by rw [flat_len, hsz]; omega) (flat_one _)
    rw [Nat.add_zero] at hst
    simp [Builtin.copy_, run_underlying under_cells, Builtin.lenOf, Builtin.firstCells, sizeOf, typeInfo, hi, hz1, ← hM, hl, hst]
theorem copy_oc {w : World} {ops : Array Oper} {rest : List Oper} {o : Oper} {ac : Act} {Q : Exit → Act → World → Prop} (hgd : o.guard = none) (d s : Operand)
    (ho : o.op = .call { callee := .builtin .copy, args := #[d, s], argTypes := #[66, 66] })
    (base g n cap q : Nat) (L M : List Ce) (h : OwnC w base (.slice (some ⟨g, 0, none⟩) n cap) L) (hn : L.length = n) (dp sp : Option Addr) (dLen dCap sLen sCap : Nat) (hd : ac.eval d = .slice dp dLen dCap) (hs : ac.eval s = .slice sp sLen sCap) (hM : M.length = Nat.min sLen dLen) (hq : q + M.length ≤ n)
    (hpos : 0 < M.length → dp = some ⟨g, q * 7, none⟩ ∧ ∃ b off, sp = some ⟨b, off, none⟩ ∧ ∀ i, i < M.length → CeAt w b (off + i * 7) (atC M i))
    (hK : ∀ w', OwnC w' base (.slice (some ⟨g, 0, none⟩) n cap) (windL L q M) → w.grownBy w' (some g) → wpList Tryd.prog ops Q rest (ac.put o.dst (goInt M.length)) w') :
    wpList Tryd.prog ops Q (o :: rest) ac w := by
  refine wpList_plain hgd fun K hK' => ?_
  obtain ⟨w', hrun, h1, h2⟩ := run_copy_oc (w := w) o.type base g n cap q L M h hn dp sp dLen dCap sLen sCap hM hq hpos
  unfold Oper.wp
  simp [execOp, ho, resolve, invoke, builtin, hd, hs, hrun, Result.andThen]
  exact hK' _ _ (hK w' h1 h2)
/-- Rune and style of one cell are written, its part stays. -/
def putRS (w : World) (g o : Nat) (r : Int) (s : St) : World :=
  (((((w.setCell ⟨g, o, none⟩ (.int .i64 r)).setCell ⟨g, o + 1, none⟩ (.int .i64 s.fore)).setCell ⟨g, o + 2, none⟩ (.int .i64 s.back)).setCell ⟨g, o + 3, none⟩ (.bool s.bold)).setCell ⟨g, o + 4, none⟩ (.bool s.under)).setCell ⟨g, o + 5, none⟩ (.bool s.turned)
theorem flat_set6 (xs : List Ce) (r : Int) (s : St) : ∀ i, i < xs.length → (((((((xs.flatMap ceL).set (i * 7) (.int .i64 r)).set (i * 7 + 1) (.int .i64 s.fore)).set (i * 7 + 2) (.int .i64 s.back)).set (i * 7 + 3) (.bool s.bold)).set (i * 7 + 4) (.bool s.under)).set (i * 7 + 5) (.bool s.turned)) = (xs.set i ⟨r, s, (atC xs i).part⟩).flatMap ceL := by
  induction xs with
  | nil => intro i h; simp at h
  | cons d xs ih =>
    intro i h
    cases i with
    | zero => simp [ceL, atC]
    | succ i =>
      have e : ∀ k, (i + 1) * 7 + k = (i * 7 + k) + 7 := fun k => by omega
      have e0 : (i + 1) * 7 = (i * 7) + 7 := by omega
      rw [e 1, e 2, e 3, e 4, e 5, e0]
      have hs : ∀ (m : Nat) (u : Value) (l : List Value), ((ceL d ++ l).set (m + 7) u) = ceL d ++ l.set m u := fun m u l => by
        rw [List.set_append, if_neg (by simp [ceL])]
        simp [ceL]
      have e1 : atC (d :: xs) (i + 1) = atC xs i := by simp [atC]
      rw [List.flatMap_cons, hs, hs, hs, hs, hs, hs, ih i (by simpa using h), List.set_cons_succ, List.flatMap_cons, e1]
theorem OwnC.putRS {w : World} {base g n cap : Nat} {xs : List Ce} (h : OwnC w base (.slice (some ⟨g, 0, none⟩) n cap) xs) (hn : xs.length = n) (i : Nat) (hi : i < n) (r : Int) (s : St) :
    OwnC (putRS w g (i * 7) r s) base (.slice (some ⟨g, 0, none⟩) n cap) (xs.set i ⟨r, s, (atC xs i).part⟩) ∧ w.grownBy (Proofs.YtpijokologkbeaaDoor.putRS w g (i * 7) r s) (some g) := by
  subst hn
  have h0 := World.ownsRow.stored h (i * 7) (.int .i64 r)
  have h1 := World.ownsRow.stored h0.1 (i * 7 + 1) (.int .i64 s.fore)
  have h2 := World.ownsRow.stored h1.1 (i * 7 + 2) (.int .i64 s.back)
  have h3 := World.ownsRow.stored h2.1 (i * 7 + 3) (.bool s.bold)
  have h4 := World.ownsRow.stored h3.1 (i * 7 + 4) (.bool s.under)
  have h5 := World.ownsRow.stored h4.1 (i * 7 + 5) (.bool s.turned)
  refine ⟨?_, grown_tr (grown_tr (grown_tr (grown_tr (grown_tr h0.2 h1.2) h2.2) h3.2) h4.2) h5.2⟩
  have := h5.1
  rw [flat_set6 xs r s i hi] at this
  unfold OwnC Proofs.YtpijokologkbeaaDoor.putRS
  rw [List.length_set]
  exact this
theorem ownC_none (w : World) (base : Nat) : OwnC w base (.slice none 0 0) [] := ⟨rfl, .inl ⟨rfl, rfl⟩⟩
end Go.Proofs.YtpijokologkbeaaDoor
namespace Go.Proofs.YtpijokologkbeaaDoor
open Go.ChangeShapes Go.WideShapes Go.ChangeAt Go.RowKit
theorem rowV_set {vs : List Value} {i : Nat} (hi : i < vs.length) (r : Value) (k : Nat) : rowV (vs.set i r) k = if k = i then r else rowV vs k := by
  unfold rowV
  by_cases e : k = i
  · subst e; rw [if_pos rfl]; simp [List.getD, hi]
  · rw [if_neg e]; simp [List.getD, Ne.symm e]
theorem rowX_set {rows : List (List Ce)} {i : Nat} (hi : i < rows.length) (x : List Ce) (k : Nat) : rowX (rows.set i x) k = if k = i then x else rowX rows k := by
  unfold rowX
  by_cases e : k = i
  · subst e; rw [if_pos rfl]; simp [List.getD, hi]
  · rw [if_neg e]; simp [List.getD, Ne.symm e]
/-- One row is written anew. -/
theorem OwnG.set {w : World} {base B g n cap : Nat} {rows : List (List Ce)} (h : OwnG w base B (.slice (some ⟨g, 0, none⟩) n cap) rows) (hn : rows.length = n) (i : Nat) (hi : i < n) (r : Value) (xs : List Ce) (hr : OwnC w base r xs) (hB : ∀ q, r.ownBlock = some q → B ≤ q) :
    OwnG (w.setCell ⟨g, i, none⟩ r) base (w.setCell ⟨g, i, none⟩ r).heap.size (.slice (some ⟨g, 0, none⟩) n cap) (rows.set i xs) ∧ w.grownBy (w.setCell ⟨g, i, none⟩ r) (some g) := by
  subst hn
  obtain ⟨vs, hvl, hown, hrs, hlt, hd⟩ := h
  have h0 := World.ownsRow.stored hown i r
  have hap : ∀ {u : Value} {ys : List Ce}, OwnC w base u ys → OwnC (w.setCell ⟨g, i, none⟩ r) base u ys := fun hu => hu.kept h0.2 (outer_apart hown hu)
  have hs2 := h0.2.size
  refine ⟨⟨vs.set i r, by simp [hvl], by rw [List.length_set]; exact h0.1, fun k hk => ?_, fun k hk q e => ?_, fun a b hab hb q e => ?_⟩, h0.2⟩
  · rw [List.length_set] at hk
    rw [rowV_set (by omega), rowX_set hi]
    by_cases e : k = i
    · rw [if_pos e, if_pos e]; exact hap hr
    · rw [if_neg e, if_neg e]; exact hap (hrs k hk)
  · rw [List.length_set] at hk
    rw [rowV_set (by omega)] at e
    by_cases c : k = i
    · rw [if_pos c] at e; have := (hr.lt q e).2; omega
    · rw [if_neg c] at e; have := ((hrs k hk).lt q e).2; omega
  · rw [List.length_set] at hb
    rw [rowV_set (by omega)] at e
    rw [rowV_set (by omega)]
    by_cases c : a = i
    · rw [if_pos c] at e
      rw [if_neg (by omega)]
      intro e2
      have := hlt b hb q e2
      have := hB q e
      omega
    · rw [if_neg c] at e
      by_cases c2 : b = i
      · rw [if_pos c2]
        intro e2
        have := hlt a (by omega) q e
        have := hB q e2
        omega
      · rw [if_neg c2]; exact hd a b hab hb q e
theorem made_none (n : Nat) : (madeCells (Value.slice none 0 0).cells (n * 1)).toList = List.replicate n (Value.slice none 0 0) := by
  apply List.ext_getElem?
  intro i
  by_cases hi : i < n
  · simp [madeCells, Value.cells, hi, Nat.mod_one]
  · simp [madeCells, Value.cells, hi]
theorem make_og {w : World} {ops : Array Oper} {rest : List Oper} {o : Oper} {ac : Act} {Q : Exit → Act → World → Prop} (hgd : o.guard = none) (x y : Operand)
    (ho : o.op = Op.makeSlice 24 x y) (n : Nat) (hx : ac.eval x = .int .i64 (n : Int)) (hy : ac.eval y = .int .i64 (n : Int)) (hn : n ≤ 1073741824)
    (h : ∀ w', OwnG w' w.heap.size w'.heap.size (.slice (some ⟨w.heap.size, 0, none⟩) n n) (List.replicate n []) → Below w.heap.size w w' → wpList Tryd.prog ops Q rest (ac.put o.dst (.slice (some ⟨w.heap.size, 0, none⟩) n n)) w') :
    wpList Tryd.prog ops Q (o :: rest) ac w := by
  obtain ⟨i0, hi, hz0, hz1, hz2⟩ := info_parts info_row
  refine wpList_make_full _ hgd x y 24 ho w.heap.size 66 i0 (.slice none 0 0) 1 under_rows hi hz0 hz1 .i64 .i64 (n : Int) (n : Int) n hx hy rfl rfl (by rw [hz2]; omega) (by unfold maxLen; omega) (Nat.le_refl _) (fun w' ho' hg => ?_)
  rw [made_none] at ho'
  have hv : ∀ i, rowV (List.replicate n (Value.slice none 0 0)) i = .slice none 0 0 := fun i => by
    unfold rowV; by_cases hi : i < n <;> simp [List.getD, hi]
  have hr : ∀ i, rowX (List.replicate n ([] : List Ce)) i = [] := fun i => by
    unfold rowX; by_cases hi : i < n <;> simp [List.getD, hi]
  have hG : OwnG w' w.heap.size w'.heap.size (.slice (some ⟨w.heap.size, 0, none⟩) n n) (List.replicate n []) :=
    ⟨List.replicate n (.slice none 0 0), by simp, by rw [List.length_replicate]; exact ho', fun i _ => by rw [hv, hr]; exact ownC_none _ _, (fun i _ g e => by rw [hv] at e; cases e), (fun i j _ _ g e => by rw [hv] at e; cases e)⟩
  exact h w' hG ((Below.refl _ _).grown hg (Nat.le_refl _) (fun k hk => by cases hk))
end Go.Proofs.YtpijokologkbeaaDoor
