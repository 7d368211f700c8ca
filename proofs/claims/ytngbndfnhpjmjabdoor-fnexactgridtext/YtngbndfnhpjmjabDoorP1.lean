/- Runes as numbers: what a text's first bytes are read to. Plain mathematics, no program. Contract of l1In alone. Contracts of the rune functions. What stands at a text's beginning, told by its numbers. Plain mathematics. A rune got by its first byte's length, as the specification reckons it. Plain mathematics. Widths, and what fits into some cells. Plain mathematics. Contracts of Width. Contract of the program's Width: its table lies in a package's variable. The table of the program's Width as the row lists it: what lies in memory. The table of the program's Width as the row of a law lists it that reaches strings.TrimRight too. Styles: their params and signs. Plain mathematics. Rows of cells. Plain mathematics. A style as a value; StyleOk as the specification has it. Slices of int64 that can be read, and rows that stay. What a contract leaves, as growth. A style in memory. Rows of cells in memory. What an argument that is a row of cells is, once it can be read. Contracts of the specification's blank rows. Rows of rows in memory. Right rows. Plain mathematics. Grids. Plain mathematics. A grid in a block of its own. What an argument that is a grid is, once it can be read. Contracts of the specification's new grids. What changes within a range of blocks alone; a grid's rows within a range. Right rows: what keeps them right. Plain mathematics. Contract of the program's StyleOk. Two styles compared. Contracts of the program's RowOk. A cell whole in a block of its own. Contract of the program's RowOk. Contract of the program's GridOk. -/
import Derived.Laws.BytesArg
import GoSem.Core.Utf8
import Derived.Test.YtngbndfnhpjmjabDoorRows
import Derived.WalkKit
import Derived.ProofKit
import Derived.OpenShut
import Derived.ShutString
import Derived.LoopN
import Derived.Laws.Strings
import Derived.Laws.Rows
import Derived.WalkMore
import Derived.LaidMore
import Derived.OpenVars
import Derived.ChangeVars
import Derived.Deep.Strs
import Derived.Stop.Joined
import Derived.WalkSpells
import Derived.Deep.QuietTactic
import Derived.BigQuiet
import Derived.Laws.OwnMore
import Derived.Laws.AppendOwn
import Derived.OwnWalk
import Derived.Laws.AppendOwnNone
import Derived.Deep.MidRow
import Derived.ChangeOld
import Derived.Below
import Derived.Deep.Slices
import Derived.Deep.RegionHeld3
import Derived.Laws.StructEq
namespace Go.Proofs.YtngbndfnhpjmjabDoor
def runeOk (r : Int) : Bool := decide (0 ≤ r ∧ r ≤ 1114111 ∧ (r < 55296 ∨ 57343 < r))

theorem runeOk_is (r : Int) (b : Bool) (h : b = true ↔ (0 ≤ r ∧ r ≤ 1114111 ∧ (r < 55296 ∨ 57343 < r))) : b = runeOk r := by
  rw [Bool.eq_iff_iff, h]; simp [runeOk]
theorem runeOk_iff (r : Int) : runeOk r = true ↔ (0 ≤ r ∧ r ≤ 1114111 ∧ (r < 55296 ∨ 57343 < r)) := by simp [runeOk]
theorem runeOk_bd (r : Int) (h : runeOk r = true) : 0 ≤ r ∧ r ≤ 1114111 := by simp [runeOk] at h; omega

def putL (r : Int) : List Int :=
  if r < 128 then [r]
  else if r < 2048 then [192 + r / 64, 128 + r % 64]
  else if r < 65536 then [224 + r / 4096, 128 + r / 64 % 64, 128 + r % 64]
  else [240 + r / 262144, 128 + r / 4096 % 64, 128 + r / 64 % 64, 128 + r % 64]
def putS (r : Int) : ByteArray := if runeOk r = true then strOfNums (putL r) else ⟨#[]⟩

theorem putL_1 (r : Int) (h : r < 128) : putL r = [r] := by simp [putL, h]
theorem putL_2 (r : Int) (h0 : 128 ≤ r) (h : r < 2048) : putL r = [192 + r / 64, 128 + r % 64] := by
  rw [putL, if_neg (by omega), if_pos h]
theorem putL_3 (r : Int) (h0 : 2048 ≤ r) (h : r < 65536) : putL r = [224 + r / 64 / 64, 128 + r / 64 % 64, 128 + r % 64] := by
  rw [putL, if_neg (by omega), if_neg (by omega), if_pos h, show r / 64 / 64 = r / 4096 from by omega]
theorem putL_4 (r : Int) (h0 : 65536 ≤ r) : putL r = [240 + r / 64 / 64 / 64, 128 + r / 64 / 64 % 64, 128 + r / 64 % 64, 128 + r % 64] := by
  rw [putL, if_neg (by omega), if_neg (by omega), if_neg (by omega), show r / 64 / 64 / 64 = r / 262144 from by omega, show r / 64 / 64 = r / 4096 from by omega]
theorem putS_ok (r : Int) (h : runeOk r = true) : putS r = strOfNums (putL r) := by simp [putS, h]
theorem putS_no (r : Int) (h : runeOk r = false) : putS r = ⟨#[]⟩ := by simp [putS, h]

theorem putL_len (r : Int) : (putL r).length = 1 ∨ (putL r).length = 2 ∨ (putL r).length = 3 ∨ (putL r).length = 4 := by
  unfold putL
  split
  · simp
  · split
    · simp
    · split <;> simp

def nums (s : ByteArray) : List Int := s.data.toList.map fun b => (b.toNat : Int)
theorem nums_len (s : ByteArray) : (nums s).length = s.size := by simp only [nums, List.length_map, Array.length_toList]; rfl
theorem str_nums (s : ByteArray) : strOfNums (nums s) = s := by
  cases s with | mk d =>
  simp [strOfNums, nums, Function.comp_def]
theorem nums_str (l : List Int) (h : ∀ x ∈ l, 0 ≤ x ∧ x < 256) : nums (strOfNums l) = l := by
  simp only [nums, strOfNums, List.map_map]
  conv => rhs; rw [← List.map_id l]
  apply List.map_congr_left
  intro x hx
  have := h x hx
  simp
  omega
end Go.Proofs.YtngbndfnhpjmjabDoor
namespace Go.Proofs.YtngbndfnhpjmjabDoor
open Go.ChangeShapes Go.WideShapes Go.ChangeAt Go.RowKit
theorem ret_bool {a b : Bool} (h : a = b) : Ending.returned (.bool a) = .returned (.bool b) := by rw [h]

theorem l1In_any (x lo hi : Int) (w : World) :
    Calls Tryd.prog 17 #[.int .i64 x, .int .i64 lo, .int .i64 hi] w fun e w' => e = .returned (.bool (decide (lo ≤ x ∧ x ≤ hi))) ∧ w' = w := by
  by_cases h1 : lo ≤ x
  · go_enter Tryd.func17, Tryd.ntmps17
    go_wp2
    go_ret
    exact ⟨ret_bool (by simp [h1]), rfl⟩
  · go_enter Tryd.func17, Tryd.ntmps17
    go_wp2
    go_ret
    exact ⟨ret_bool (by simp; omega), rfl⟩

end Go.Proofs.YtngbndfnhpjmjabDoor
namespace Go.Proofs.YtngbndfnhpjmjabDoor
open Go.ChangeShapes Go.WideShapes Go.ChangeAt Go.RowKit
theorem implRuneOk_any (r : Int) (w : World) :
    Calls Tryd.prog 31 #[.int .i64 r] w fun e w' => e = .returned (.bool (runeOk r)) ∧ w' = w := by
  go_enter Tryd.func31, Tryd.ntmps31
  go_wp2
  all_goals
    go_ret
    exact ⟨ret_bool (runeOk_is _ _ (by simp <;> omega)), rfl⟩

set_option maxHeartbeats 400000 in
theorem specRuneOk_any (r : Int) (w : World) :
    Calls Tryd.prog 38 #[.int .i64 r] w fun e w' => e = .returned (.bool (runeOk r)) ∧ w' = w := by
  go_enter Tryd.func38, Tryd.ntmps38
  go_wp2_with (go_at_call 17; refine (l1In_any _ _ _ _).mono ?_; rintro e w' ⟨rfl, rfl⟩)
  all_goals
    go_ret
    exact ⟨ret_bool (runeOk_is _ _ (by simp <;> omega)), rfl⟩

end Go.Proofs.YtngbndfnhpjmjabDoor
namespace Go.Proofs.YtngbndfnhpjmjabDoor
theorem nums_inj {a b : ByteArray} (h : nums a = nums b) : a = b := by rw [← str_nums a, ← str_nums b, h]
theorem nums_extract (s : ByteArray) (a b : Nat) : nums (s.extract a b) = ((nums s).take b).drop a := by
  simp [nums, ByteArray.data_extract, List.drop_take]

theorem putL_bd (r : Int) (h : runeOk r = true) : ∀ x ∈ putL r, 0 ≤ x ∧ x < 256 := by
  have hb := runeOk_bd r h
  intro x hx
  unfold putL at hx
  split at hx
  · simp at hx; omega
  · split at hx
    · simp at hx; omega
    · split at hx
      · simp at hx; omega
      · simp at hx; omega
theorem nums_putS (r : Int) (h : runeOk r = true) : nums (putS r) = putL r := by
  rw [putS_ok r h, nums_str _ (putL_bd r h)]
theorem putS_size (r : Int) (h : runeOk r = true) : (putS r).size = (putL r).length := by
  rw [← nums_len, nums_putS r h]
theorem putS_size4 (r : Int) : (putS r).size ≤ 4 := by
  by_cases h : runeOk r = true
  · rw [putS_size r h]; have := putL_len r; omega
  · rw [putS_no r (by simpa using h)]; decide

end Go.Proofs.YtngbndfnhpjmjabDoor
namespace Go.Proofs.YtngbndfnhpjmjabDoor
theorem nums_get (s : ByteArray) (i : Nat) (h : i < s.size) : (nums s)[i]? = some ((s[i]'h).toNat : Int) := by
  have h' : i < s.data.size := h
  simp only [nums, List.getElem?_map, Array.getElem?_toList, Array.getElem?_eq_getElem h', Option.map_some]
  rfl
end Go.Proofs.YtngbndfnhpjmjabDoor
namespace Go.Proofs.YtngbndfnhpjmjabDoor
def widthV (r : Int) : Int :=
  if r < 32 ∨ runeOk r = false ∨ (127 ≤ r ∧ r ≤ 159) ∨ (768 ≤ r ∧ r ≤ 879) then 0
  else if (4352 ≤ r ∧ r ≤ 4447) ∨ (12288 ≤ r ∧ r ≤ 55295) ∨ (127744 ≤ r ∧ r ≤ 131071) then 2 else 1
end Go.Proofs.YtngbndfnhpjmjabDoor
namespace Go.Proofs.YtngbndfnhpjmjabDoor
open Go.ChangeShapes Go.WideShapes Go.ChangeAt Go.RowKit
theorem ret_i {a b : Int} (h : a = b) : Ending.returned (.int .i64 a) = .returned (.int .i64 b) := by rw [h]
set_option maxHeartbeats 1000000 in
theorem specWidth_any (r : Int) (w : World) :
    Calls Tryd.prog 26 #[.int .i64 r] w fun e w' => e = .returned (.int .i64 (widthV r)) ∧ w' = w := by
  by_cases hr : runeOk r = true
  · have hb := (runeOk_iff r).1 hr
    have hw : Hid (widthV r = if r < 32 ∨ (127 ≤ r ∧ r ≤ 159) ∨ (768 ≤ r ∧ r ≤ 879) then 0 else if (4352 ≤ r ∧ r ≤ 4447) ∨ (12288 ≤ r ∧ r ≤ 55295) ∨ (127744 ≤ r ∧ r ≤ 131071) then 2 else 1) := by show _ = _; simp [widthV, hr]
    go_enter Tryd.func26, Tryd.ntmps26
    go_wp2_with (first | (go_at_call 38; refine (specRuneOk_any _ _).mono ?_; rw [hr]; rintro e w' ⟨rfl, rfl⟩) | (go_at_call 17; refine (l1In_any _ _ _ _).mono ?_; rintro e w' ⟨rfl, rfl⟩))
    all_goals
      go_ret
      refine ⟨ret_i ?_, rfl⟩
      rw [hw.out]
      clear hw hr
      (try simp at *)
      omega
  · have hr : runeOk r = false := by simpa using hr
    have hw : Hid (widthV r = 0) := by show _ = _; simp [widthV, hr]
    go_enter Tryd.func26, Tryd.ntmps26
    go_wp2_with (first | (go_at_call 38; refine (specRuneOk_any _ _).mono ?_; rw [hr]; rintro e w' ⟨rfl, rfl⟩) | (go_at_call 17; refine (l1In_any _ _ _ _).mono ?_; rintro e w' ⟨rfl, rfl⟩))
    all_goals
      go_ret
      exact ⟨ret_i hw.out.symm, rfl⟩
end Go.Proofs.YtngbndfnhpjmjabDoor
namespace Go.Proofs.YtngbndfnhpjmjabDoor
open Go.ChangeShapes Go.WideShapes Go.ChangeAt Go.RowKit
def spansC : Array Value := #[.int .i64 0, .int .i64 31, .int .i64 0, .int .i64 127, .int .i64 159, .int .i64 0, .int .i64 768, .int .i64 879, .int .i64 0, .int .i64 4352, .int .i64 4447, .int .i64 2, .int .i64 12288, .int .i64 55295, .int .i64 2, .int .i64 127744, .int .i64 131071, .int .i64 2]
/-- The table lies where the program lays it. -/
def SpansAt (w : World) : Prop := ∃ t fr, w.heap[0]? = some (.cells spansC t fr)
theorem SpansAt.below {B : Nat} {w w' : World} (h : SpansAt w) (hb : Below B w w') (hB : 0 < B) : SpansAt w' := by
  obtain ⟨t, fr, h⟩ := h
  exact ⟨t, fr, by rw [hb.block _ hB]; exact h⟩
theorem SpansAt.lt {w : World} (h : SpansAt w) : 0 < w.heap.size := by
  obtain ⟨t, fr, h⟩ := h
  exact (Array.getElem?_eq_some_iff.1 h).1

theorem span_0 : ∀ w, (Instr.index 83 (.agg #[.int .i64 0, .int .i64 31, .int .i64 0, .int .i64 127, .int .i64 159, .int .i64 0, .int .i64 768, .int .i64 879, .int .i64 0, .int .i64 4352, .int .i64 4447, .int .i64 2, .int .i64 12288, .int .i64 55295, .int .i64 2, .int .i64 127744, .int .i64 131071, .int .i64 2]) (.int .i64 0)).run Tryd.prog w = .ok (.agg #[.int .i64 0, .int .i64 31, .int .i64 0]) w := fun _ => by kernel_rfl
theorem span_1 : ∀ w, (Instr.index 83 (.agg #[.int .i64 0, .int .i64 31, .int .i64 0, .int .i64 127, .int .i64 159, .int .i64 0, .int .i64 768, .int .i64 879, .int .i64 0, .int .i64 4352, .int .i64 4447, .int .i64 2, .int .i64 12288, .int .i64 55295, .int .i64 2, .int .i64 127744, .int .i64 131071, .int .i64 2]) (.int .i64 1)).run Tryd.prog w = .ok (.agg #[.int .i64 127, .int .i64 159, .int .i64 0]) w := fun _ => by kernel_rfl
theorem span_2 : ∀ w, (Instr.index 83 (.agg #[.int .i64 0, .int .i64 31, .int .i64 0, .int .i64 127, .int .i64 159, .int .i64 0, .int .i64 768, .int .i64 879, .int .i64 0, .int .i64 4352, .int .i64 4447, .int .i64 2, .int .i64 12288, .int .i64 55295, .int .i64 2, .int .i64 127744, .int .i64 131071, .int .i64 2]) (.int .i64 2)).run Tryd.prog w = .ok (.agg #[.int .i64 768, .int .i64 879, .int .i64 0]) w := fun _ => by kernel_rfl
theorem span_3 : ∀ w, (Instr.index 83 (.agg #[.int .i64 0, .int .i64 31, .int .i64 0, .int .i64 127, .int .i64 159, .int .i64 0, .int .i64 768, .int .i64 879, .int .i64 0, .int .i64 4352, .int .i64 4447, .int .i64 2, .int .i64 12288, .int .i64 55295, .int .i64 2, .int .i64 127744, .int .i64 131071, .int .i64 2]) (.int .i64 3)).run Tryd.prog w = .ok (.agg #[.int .i64 4352, .int .i64 4447, .int .i64 2]) w := fun _ => by kernel_rfl
theorem span_4 : ∀ w, (Instr.index 83 (.agg #[.int .i64 0, .int .i64 31, .int .i64 0, .int .i64 127, .int .i64 159, .int .i64 0, .int .i64 768, .int .i64 879, .int .i64 0, .int .i64 4352, .int .i64 4447, .int .i64 2, .int .i64 12288, .int .i64 55295, .int .i64 2, .int .i64 127744, .int .i64 131071, .int .i64 2]) (.int .i64 4)).run Tryd.prog w = .ok (.agg #[.int .i64 12288, .int .i64 55295, .int .i64 2]) w := fun _ => by kernel_rfl
theorem span_5 : ∀ w, (Instr.index 83 (.agg #[.int .i64 0, .int .i64 31, .int .i64 0, .int .i64 127, .int .i64 159, .int .i64 0, .int .i64 768, .int .i64 879, .int .i64 0, .int .i64 4352, .int .i64 4447, .int .i64 2, .int .i64 12288, .int .i64 55295, .int .i64 2, .int .i64 127744, .int .i64 131071, .int .i64 2]) (.int .i64 5)).run Tryd.prog w = .ok (.agg #[.int .i64 127744, .int .i64 131071, .int .i64 2]) w := fun _ => by kernel_rfl
set_option maxHeartbeats 1000000 in
theorem implWidth_1b (r : Int) (w : World) (hr : runeOk r = true) (hs : SpansAt w) (h0 : r ≤ 31) :
    Calls Tryd.prog 42 #[.int .i64 r] w fun e w' => e = .returned (.int .i64 0) ∧ Below w.heap.size w w' := by
  have hb := (runeOk_iff r).1 hr
  obtain ⟨tt, fr, hg⟩ := hs
  go_enter Tryd.func42, Tryd.ntmps42
  go_wp2
  go_step3
  go_wp2_with (go_at_call 31; refine (implRuneOk_any _ _).mono ?_; rw [hr]; rintro e w' ⟨rfl, hw⟩; subst hw)
  go_step3
  go_wp2_with (refine wpList_load_row rfl 83 _ rfl 0 rfl tt _ fr _ hg Tryd.underlying83 rfl (by kernel_rfl) ?_)
  unfold spansC
  have i0 := span_0
  have i1 := span_1
  have i2 := span_2
  have i3 := span_3
  have i4 := span_4
  have i5 := span_5
  refine wp_loop_rounds 1 ?_
  rw [rounds_succ]
  go_wp2
  rw [Exit.noGoto_ret]
  go_ret
  exact ⟨rfl, (by repeat (first | exact Below.refl _ _ | refine Below.alloc ?_ (by simp <;> omega) _))⟩
set_option maxHeartbeats 1000000 in
theorem implWidth_2a (r : Int) (w : World) (hr : runeOk r = true) (hs : SpansAt w) (h0 : 31 < r) (h1 : r < 127) :
    Calls Tryd.prog 42 #[.int .i64 r] w fun e w' => e = .returned (.int .i64 1) ∧ Below w.heap.size w w' := by
  have hb := (runeOk_iff r).1 hr
  obtain ⟨tt, fr, hg⟩ := hs
  go_enter Tryd.func42, Tryd.ntmps42
  go_wp2
  go_step3
  go_wp2_with (go_at_call 31; refine (implRuneOk_any _ _).mono ?_; rw [hr]; rintro e w' ⟨rfl, hw⟩; subst hw)
  go_step3
  go_wp2_with (refine wpList_load_row rfl 83 _ rfl 0 rfl tt _ fr _ hg Tryd.underlying83 rfl (by kernel_rfl) ?_)
  unfold spansC
  have i0 := span_0
  have i1 := span_1
  have i2 := span_2
  have i3 := span_3
  have i4 := span_4
  have i5 := span_5
  refine wp_loop_rounds 2 ?_
  rw [rounds_succ]
  go_wp2
  rw [rounds_succ]
  go_wp2
  rw [Exit.noGoto_ret]
  go_ret
  exact ⟨rfl, (by repeat (first | exact Below.refl _ _ | refine Below.alloc ?_ (by simp <;> omega) _))⟩
set_option maxHeartbeats 1000000 in
theorem implWidth_2b (r : Int) (w : World) (hr : runeOk r = true) (hs : SpansAt w) (h0 : 127 ≤ r) (h1 : r ≤ 159) :
    Calls Tryd.prog 42 #[.int .i64 r] w fun e w' => e = .returned (.int .i64 0) ∧ Below w.heap.size w w' := by
  have hb := (runeOk_iff r).1 hr
  obtain ⟨tt, fr, hg⟩ := hs
  go_enter Tryd.func42, Tryd.ntmps42
  go_wp2
  go_step3
  go_wp2_with (go_at_call 31; refine (implRuneOk_any _ _).mono ?_; rw [hr]; rintro e w' ⟨rfl, hw⟩; subst hw)
  go_step3
  go_wp2_with (refine wpList_load_row rfl 83 _ rfl 0 rfl tt _ fr _ hg Tryd.underlying83 rfl (by kernel_rfl) ?_)
  unfold spansC
  have i0 := span_0
  have i1 := span_1
  have i2 := span_2
  have i3 := span_3
  have i4 := span_4
  have i5 := span_5
  refine wp_loop_rounds 2 ?_
  rw [rounds_succ]
  go_wp2
  rw [rounds_succ]
  go_wp2
  rw [Exit.noGoto_ret]
  go_ret
  exact ⟨rfl, (by repeat (first | exact Below.refl _ _ | refine Below.alloc ?_ (by simp <;> omega) _))⟩
set_option maxHeartbeats 1000000 in
theorem implWidth_3a (r : Int) (w : World) (hr : runeOk r = true) (hs : SpansAt w) (h0 : 159 < r) (h1 : r < 768) :
    Calls Tryd.prog 42 #[.int .i64 r] w fun e w' => e = .returned (.int .i64 1) ∧ Below w.heap.size w w' := by
  have hb := (runeOk_iff r).1 hr
  obtain ⟨tt, fr, hg⟩ := hs
  go_enter Tryd.func42, Tryd.ntmps42
  go_wp2
  go_step3
  go_wp2_with (go_at_call 31; refine (implRuneOk_any _ _).mono ?_; rw [hr]; rintro e w' ⟨rfl, hw⟩; subst hw)
  go_step3
  go_wp2_with (refine wpList_load_row rfl 83 _ rfl 0 rfl tt _ fr _ hg Tryd.underlying83 rfl (by kernel_rfl) ?_)
  unfold spansC
  have i0 := span_0
  have i1 := span_1
  have i2 := span_2
  have i3 := span_3
  have i4 := span_4
  have i5 := span_5
  refine wp_loop_rounds 3 ?_
  rw [rounds_succ]
  go_wp2
  rw [rounds_succ]
  go_wp2
  rw [rounds_succ]
  go_wp2
  rw [Exit.noGoto_ret]
  go_ret
  exact ⟨rfl, (by repeat (first | exact Below.refl _ _ | refine Below.alloc ?_ (by simp <;> omega) _))⟩
set_option maxHeartbeats 1000000 in
theorem implWidth_3b (r : Int) (w : World) (hr : runeOk r = true) (hs : SpansAt w) (h0 : 768 ≤ r) (h1 : r ≤ 879) :
    Calls Tryd.prog 42 #[.int .i64 r] w fun e w' => e = .returned (.int .i64 0) ∧ Below w.heap.size w w' := by
  have hb := (runeOk_iff r).1 hr
  obtain ⟨tt, fr, hg⟩ := hs
  go_enter Tryd.func42, Tryd.ntmps42
  go_wp2
  go_step3
  go_wp2_with (go_at_call 31; refine (implRuneOk_any _ _).mono ?_; rw [hr]; rintro e w' ⟨rfl, hw⟩; subst hw)
  go_step3
  go_wp2_with (refine wpList_load_row rfl 83 _ rfl 0 rfl tt _ fr _ hg Tryd.underlying83 rfl (by kernel_rfl) ?_)
  unfold spansC
  have i0 := span_0
  have i1 := span_1
  have i2 := span_2
  have i3 := span_3
  have i4 := span_4
  have i5 := span_5
  refine wp_loop_rounds 3 ?_
  rw [rounds_succ]
  go_wp2
  rw [rounds_succ]
  go_wp2
  rw [rounds_succ]
  go_wp2
  rw [Exit.noGoto_ret]
  go_ret
  exact ⟨rfl, (by repeat (first | exact Below.refl _ _ | refine Below.alloc ?_ (by simp <;> omega) _))⟩
set_option maxHeartbeats 1000000 in
theorem implWidth_4a (r : Int) (w : World) (hr : runeOk r = true) (hs : SpansAt w) (h0 : 879 < r) (h1 : r < 4352) :
    Calls Tryd.prog 42 #[.int .i64 r] w fun e w' => e = .returned (.int .i64 1) ∧ Below w.heap.size w w' := by
  have hb := (runeOk_iff r).1 hr
  obtain ⟨tt, fr, hg⟩ := hs
  go_enter Tryd.func42, Tryd.ntmps42
  go_wp2
  go_step3
  go_wp2_with (go_at_call 31; refine (implRuneOk_any _ _).mono ?_; rw [hr]; rintro e w' ⟨rfl, hw⟩; subst hw)
  go_step3
  go_wp2_with (refine wpList_load_row rfl 83 _ rfl 0 rfl tt _ fr _ hg Tryd.underlying83 rfl (by kernel_rfl) ?_)
  unfold spansC
  have i0 := span_0
  have i1 := span_1
  have i2 := span_2
  have i3 := span_3
  have i4 := span_4
  have i5 := span_5
  refine wp_loop_rounds 4 ?_
  rw [rounds_succ]
  go_wp2
  rw [rounds_succ]
  go_wp2
  rw [rounds_succ]
  go_wp2
  rw [rounds_succ]
  go_wp2
  rw [Exit.noGoto_ret]
  go_ret
  exact ⟨rfl, (by repeat (first | exact Below.refl _ _ | refine Below.alloc ?_ (by simp <;> omega) _))⟩
set_option maxHeartbeats 1000000 in
theorem implWidth_4b (r : Int) (w : World) (hr : runeOk r = true) (hs : SpansAt w) (h0 : 4352 ≤ r) (h1 : r ≤ 4447) :
    Calls Tryd.prog 42 #[.int .i64 r] w fun e w' => e = .returned (.int .i64 2) ∧ Below w.heap.size w w' := by
  have hb := (runeOk_iff r).1 hr
  obtain ⟨tt, fr, hg⟩ := hs
  go_enter Tryd.func42, Tryd.ntmps42
  go_wp2
  go_step3
  go_wp2_with (go_at_call 31; refine (implRuneOk_any _ _).mono ?_; rw [hr]; rintro e w' ⟨rfl, hw⟩; subst hw)
  go_step3
  go_wp2_with (refine wpList_load_row rfl 83 _ rfl 0 rfl tt _ fr _ hg Tryd.underlying83 rfl (by kernel_rfl) ?_)
  unfold spansC
  have i0 := span_0
  have i1 := span_1
  have i2 := span_2
  have i3 := span_3
  have i4 := span_4
  have i5 := span_5
  refine wp_loop_rounds 4 ?_
  rw [rounds_succ]
  go_wp2
  rw [rounds_succ]
  go_wp2
  rw [rounds_succ]
  go_wp2
  rw [rounds_succ]
  go_wp2
  rw [Exit.noGoto_ret]
  go_ret
  exact ⟨rfl, (by repeat (first | exact Below.refl _ _ | refine Below.alloc ?_ (by simp <;> omega) _))⟩
set_option maxHeartbeats 1000000 in
theorem implWidth_5a (r : Int) (w : World) (hr : runeOk r = true) (hs : SpansAt w) (h0 : 4447 < r) (h1 : r < 12288) :
    Calls Tryd.prog 42 #[.int .i64 r] w fun e w' => e = .returned (.int .i64 1) ∧ Below w.heap.size w w' := by
  have hb := (runeOk_iff r).1 hr
  obtain ⟨tt, fr, hg⟩ := hs
  go_enter Tryd.func42, Tryd.ntmps42
  go_wp2
  go_step3
  go_wp2_with (go_at_call 31; refine (implRuneOk_any _ _).mono ?_; rw [hr]; rintro e w' ⟨rfl, hw⟩; subst hw)
  go_step3
  go_wp2_with (refine wpList_load_row rfl 83 _ rfl 0 rfl tt _ fr _ hg Tryd.underlying83 rfl (by kernel_rfl) ?_)
  unfold spansC
  have i0 := span_0
  have i1 := span_1
  have i2 := span_2
  have i3 := span_3
  have i4 := span_4
  have i5 := span_5
  refine wp_loop_rounds 5 ?_
  rw [rounds_succ]
  go_wp2
  rw [rounds_succ]
  go_wp2
  rw [rounds_succ]
  go_wp2
  rw [rounds_succ]
  go_wp2
  rw [rounds_succ]
  go_wp2
  rw [Exit.noGoto_ret]
  go_ret
  exact ⟨rfl, (by repeat (first | exact Below.refl _ _ | refine Below.alloc ?_ (by simp <;> omega) _))⟩
set_option maxHeartbeats 1000000 in
theorem implWidth_5b (r : Int) (w : World) (hr : runeOk r = true) (hs : SpansAt w) (h0 : 12288 ≤ r) (h1 : r ≤ 55295) :
    Calls Tryd.prog 42 #[.int .i64 r] w fun e w' => e = .returned (.int .i64 2) ∧ Below w.heap.size w w' := by
  have hb := (runeOk_iff r).1 hr
  obtain ⟨tt, fr, hg⟩ := hs
  go_enter Tryd.func42, Tryd.ntmps42
  go_wp2
  go_step3
  go_wp2_with (go_at_call 31; refine (implRuneOk_any _ _).mono ?_; rw [hr]; rintro e w' ⟨rfl, hw⟩; subst hw)
  go_step3
  go_wp2_with (refine wpList_load_row rfl 83 _ rfl 0 rfl tt _ fr _ hg Tryd.underlying83 rfl (by kernel_rfl) ?_)
  unfold spansC
  have i0 := span_0
  have i1 := span_1
  have i2 := span_2
  have i3 := span_3
  have i4 := span_4
  have i5 := span_5
  refine wp_loop_rounds 5 ?_
  rw [rounds_succ]
  go_wp2
  rw [rounds_succ]
  go_wp2
  rw [rounds_succ]
  go_wp2
  rw [rounds_succ]
  go_wp2
  rw [rounds_succ]
  go_wp2
  rw [Exit.noGoto_ret]
  go_ret
  exact ⟨rfl, (by repeat (first | exact Below.refl _ _ | refine Below.alloc ?_ (by simp <;> omega) _))⟩
set_option maxHeartbeats 1000000 in
theorem implWidth_6a (r : Int) (w : World) (hr : runeOk r = true) (hs : SpansAt w) (h0 : 55295 < r) (h1 : r < 127744) :
    Calls Tryd.prog 42 #[.int .i64 r] w fun e w' => e = .returned (.int .i64 1) ∧ Below w.heap.size w w' := by
  have hb := (runeOk_iff r).1 hr
  obtain ⟨tt, fr, hg⟩ := hs
  go_enter Tryd.func42, Tryd.ntmps42
  go_wp2
  go_step3
  go_wp2_with (go_at_call 31; refine (implRuneOk_any _ _).mono ?_; rw [hr]; rintro e w' ⟨rfl, hw⟩; subst hw)
  go_step3
  go_wp2_with (refine wpList_load_row rfl 83 _ rfl 0 rfl tt _ fr _ hg Tryd.underlying83 rfl (by kernel_rfl) ?_)
  unfold spansC
  have i0 := span_0
  have i1 := span_1
  have i2 := span_2
  have i3 := span_3
  have i4 := span_4
  have i5 := span_5
  refine wp_loop_rounds 6 ?_
  rw [rounds_succ]
  go_wp2
  rw [rounds_succ]
  go_wp2
  rw [rounds_succ]
  go_wp2
  rw [rounds_succ]
  go_wp2
  rw [rounds_succ]
  go_wp2
  rw [rounds_succ]
  go_wp2
  rw [Exit.noGoto_ret]
  go_ret
  exact ⟨rfl, (by repeat (first | exact Below.refl _ _ | refine Below.alloc ?_ (by simp <;> omega) _))⟩
set_option maxHeartbeats 1000000 in
theorem implWidth_6b (r : Int) (w : World) (hr : runeOk r = true) (hs : SpansAt w) (h0 : 127744 ≤ r) (h1 : r ≤ 131071) :
    Calls Tryd.prog 42 #[.int .i64 r] w fun e w' => e = .returned (.int .i64 2) ∧ Below w.heap.size w w' := by
  have hb := (runeOk_iff r).1 hr
  obtain ⟨tt, fr, hg⟩ := hs
  go_enter Tryd.func42, Tryd.ntmps42
  go_wp2
  go_step3
  go_wp2_with (go_at_call 31; refine (implRuneOk_any _ _).mono ?_; rw [hr]; rintro e w' ⟨rfl, hw⟩; subst hw)
  go_step3
  go_wp2_with (refine wpList_load_row rfl 83 _ rfl 0 rfl tt _ fr _ hg Tryd.underlying83 rfl (by kernel_rfl) ?_)
  unfold spansC
  have i0 := span_0
  have i1 := span_1
  have i2 := span_2
  have i3 := span_3
  have i4 := span_4
  have i5 := span_5
  refine wp_loop_rounds 6 ?_
  rw [rounds_succ]
  go_wp2
  rw [rounds_succ]
  go_wp2
  rw [rounds_succ]
  go_wp2
  rw [rounds_succ]
  go_wp2
  rw [rounds_succ]
  go_wp2
  rw [rounds_succ]
  go_wp2
  rw [Exit.noGoto_ret]
  go_ret
  exact ⟨rfl, (by repeat (first | exact Below.refl _ _ | refine Below.alloc ?_ (by simp <;> omega) _))⟩
set_option maxHeartbeats 1000000 in
theorem implWidth_7a (r : Int) (w : World) (hr : runeOk r = true) (hs : SpansAt w) (h0 : 131071 < r) :
    Calls Tryd.prog 42 #[.int .i64 r] w fun e w' => e = .returned (.int .i64 1) ∧ Below w.heap.size w w' := by
  have hb := (runeOk_iff r).1 hr
  obtain ⟨tt, fr, hg⟩ := hs
  go_enter Tryd.func42, Tryd.ntmps42
  go_wp2
  go_step3
  go_wp2_with (go_at_call 31; refine (implRuneOk_any _ _).mono ?_; rw [hr]; rintro e w' ⟨rfl, hw⟩; subst hw)
  go_step3
  go_wp2_with (refine wpList_load_row rfl 83 _ rfl 0 rfl tt _ fr _ hg Tryd.underlying83 rfl (by kernel_rfl) ?_)
  unfold spansC
  have i0 := span_0
  have i1 := span_1
  have i2 := span_2
  have i3 := span_3
  have i4 := span_4
  have i5 := span_5
  refine wp_loop_rounds 7 ?_
  rw [rounds_succ]
  go_wp2
  rw [rounds_succ]
  go_wp2
  rw [rounds_succ]
  go_wp2
  rw [rounds_succ]
  go_wp2
  rw [rounds_succ]
  go_wp2
  rw [rounds_succ]
  go_wp2
  rw [rounds_succ]
  go_wp2
  rw [Exit.noGoto_ret]
  go_ret
  exact ⟨rfl, (by repeat (first | exact Below.refl _ _ | refine Below.alloc ?_ (by simp <;> omega) _))⟩

theorem implWidth_no (r : Int) (w : World) (hr : runeOk r = false) :
    Calls Tryd.prog 42 #[.int .i64 r] w fun e w' => e = .returned (.int .i64 0) ∧ Below w.heap.size w w' := by
  go_enter Tryd.func42, Tryd.ntmps42
  go_wp2
  go_step3
  go_wp2_with (go_at_call 31; refine (implRuneOk_any _ _).mono ?_; rw [hr]; rintro e w' ⟨rfl, hw⟩; subst hw)
  rw [Exit.noGoto_ret]
  go_ret
  exact ⟨rfl, Below.refl _ _⟩

theorem implWidth_any (r : Int) (w : World) (hs : SpansAt w) :
    Calls Tryd.prog 42 #[.int .i64 r] w fun e w' => e = .returned (.int .i64 (widthV r)) ∧ Below w.heap.size w w' := by
  by_cases hr : runeOk r = true
  · have hb := (runeOk_iff r).1 hr
    have hw : widthV r = if r < 32 ∨ (127 ≤ r ∧ r ≤ 159) ∨ (768 ≤ r ∧ r ≤ 879) then 0 else if (4352 ≤ r ∧ r ≤ 4447) ∨ (12288 ≤ r ∧ r ≤ 55295) ∨ (127744 ≤ r ∧ r ≤ 131071) then 2 else 1 := by simp [widthV, hr]
    have key : ∀ c : Int, widthV r = c → (Calls Tryd.prog 42 #[.int .i64 r] w fun e w' => e = .returned (.int .i64 c) ∧ Below w.heap.size w w') → Calls Tryd.prog 42 #[.int .i64 r] w fun e w' => e = .returned (.int .i64 (widthV r)) ∧ Below w.heap.size w w' := fun c e h => by rw [e]; exact h
    by_cases h1 : r ≤ 31
    · exact key 0 (by rw [hw]; omega) (implWidth_1b r w hr hs h1)
    by_cases a2 : r < 127
    · exact key 1 (by rw [hw]; omega) (implWidth_2a r w hr hs (by omega) a2)
    by_cases b2 : r ≤ 159
    · exact key 0 (by rw [hw]; omega) (implWidth_2b r w hr hs (by omega) b2)
    by_cases a3 : r < 768
    · exact key 1 (by rw [hw]; omega) (implWidth_3a r w hr hs (by omega) a3)
    by_cases b3 : r ≤ 879
    · exact key 0 (by rw [hw]; omega) (implWidth_3b r w hr hs (by omega) b3)
    by_cases a4 : r < 4352
    · exact key 1 (by rw [hw]; omega) (implWidth_4a r w hr hs (by omega) a4)
    by_cases b4 : r ≤ 4447
    · exact key 2 (by rw [hw]; omega) (implWidth_4b r w hr hs (by omega) b4)
    by_cases a5 : r < 12288
    · exact key 1 (by rw [hw]; omega) (implWidth_5a r w hr hs (by omega) a5)
    by_cases b5 : r ≤ 55295
    · exact key 2 (by rw [hw]; omega) (implWidth_5b r w hr hs (by omega) b5)
    by_cases a6 : r < 127744
    · exact key 1 (by rw [hw]; omega) (implWidth_6a r w hr hs (by omega) a6)
    by_cases b6 : r ≤ 131071
    · exact key 2 (by rw [hw]; omega) (implWidth_6b r w hr hs (by omega) b6)
    exact key 1 (by rw [hw]; omega) (implWidth_7a r w hr hs (by omega))
  · have hr : runeOk r = false := by simpa using hr
    have e : widthV r = 0 := by simp [widthV, hr]
    rw [e]
    exact implWidth_no r w hr
end Go.Proofs.YtngbndfnhpjmjabDoor
namespace Go.Proofs.YtngbndfnhpjmjabDoor
open Go.ChangeShapes Go.WideShapes Go.ChangeAt Go.WideElems Go.RowKit
theorem gSpans : Tryd.prog.globalNamed "loop.example/g00215/impl.spans" = some 0 := by kernel_rfl
theorem tSpans : (Tryd.prog.globals[0]?).map (·.type) = some 83 := by kernel_rfl
theorem c_i64 : Tryd.prog.cellsOf 2 = 1 := by kernel_rfl
theorem c_span : Tryd.prog.cellsOf 82 = 3 := by kernel_rfl
theorem c_spans : Tryd.prog.cellsOf 83 = 18 := by kernel_rfl

section
variable {H : Type} {enc : TypeId × Value → H} {w : World} {base : Nat} {spare : Nat → Bool} {held : Bool}
set_option maxRecDepth 20000 in
theorem span_open {fuel : Nat} {cs : List Value} {a b c : Int} {p : List MemPlace}
    (h : DataW.trod enc Tryd.prog w base spare held fuel 82 cs = some (.agg [.lit (.int .i64 a), .lit (.int .i64 b), .lit (.int .i64 c)], p)) : cs = [.int .i64 a, .int .i64 b, .int .i64 c] := by
  obtain ⟨y0, y1, y2, n, e, hl, h0, h1, h2⟩ := Go.Deep.trod_struct3 Tryd.underlying82 h
  rw [c_span] at hl
  simp only [Prod.mk.injEq, DataW.agg.injEq, List.cons.injEq, and_true] at e
  obtain ⟨⟨e0, e1, e2⟩, _⟩ := e
  match cs, hl with
  | [x0, x1, x2], _ =>
    obtain ⟨k0, q0, r0, _⟩ := DataW.trod_int Tryd.underlying2 h0
    obtain ⟨k1, q1, r1, _⟩ := DataW.trod_int Tryd.underlying2 h1
    obtain ⟨k2, q2, r2, _⟩ := DataW.trod_int Tryd.underlying2 h2
    subst r0; subst r1; subst r2
    simp only [DataW.lit.injEq, Lit.int.injEq, true_and] at e0 e1 e2
    subst e0; subst e1; subst e2
    rw [c_i64] at q0 q1 q2
    simp at q0 q1 q2
    subst q0; subst q1; subst q2
    rfl
set_option maxRecDepth 20000 in
theorem spans_open {fuel : Nat} {cs : List Value} {p : List MemPlace}
    (h : DataW.trod enc Tryd.prog w base spare held fuel 83 cs = some (Rows.laid_loop_example_g00215_impl_spans, p)) : cs = spansC.toList := by
  obtain ⟨xs, m, rfl, e, hl, hn, hel⟩ := DataW.trod_array Tryd.underlying83 h
  rw [c_spans] at hl
  simp only [Rows.laid_loop_example_g00215_impl_spans, Prod.mk.injEq, DataW.agg.injEq] at e
  obtain ⟨e, _⟩ := e
  match xs, hn with
  | [x0, x1, x2, x3, x4, x5], _ =>
    simp only [List.map_cons, List.map_nil, List.cons.injEq, and_true] at e
    obtain ⟨e0, e1, e2, e3, e4, e5⟩ := e
    have go : ∀ (i : Nat) (x : DataW H × List MemPlace) (a b c : Int), i < 6 → [x0, x1, x2, x3, x4, x5][i]? = some x → DataW.agg [.lit (.int .i64 a), .lit (.int .i64 b), .lit (.int .i64 c)] = x.1 → (cs.drop (i * 3)).take 3 = [.int .i64 a, .int .i64 b, .int .i64 c] := by
      intro i x a b c hi hx he
      have := hel i hi
      rw [c_span, hx] at this
      obtain ⟨x1, x2⟩ := x
      simp only at he
      rw [← he] at this
      exact span_open this
    have g0 := go 0 x0 _ _ _ (by decide) rfl e0
    have g1 := go 1 x1 _ _ _ (by decide) rfl e1
    have g2 := go 2 x2 _ _ _ (by decide) rfl e2
    have g3 := go 3 x3 _ _ _ (by decide) rfl e3
    have g4 := go 4 x4 _ _ _ (by decide) rfl e4
    have g5 := go 5 x5 _ _ _ (by decide) rfl e5
    match cs, hl with
    | [a0, a1, a2, a3, a4, a5, a6, a7, a8, a9, b0, b1, b2, b3, b4, b5, b6, b7], _ =>
      simp at g0 g1 g2 g3 g4 g5
      simp [spansC, g0, g1, g2, g3, g4, g5]
end
end Go.Proofs.YtngbndfnhpjmjabDoor
namespace Go.Proofs.YtngbndfnhpjmjabDoor
open Go.ChangeShapes Go.WideShapes Go.ChangeAt Go.WideElems Go.RowKit
theorem spans_of_laid3 {W : World} (h : laidMetH Tryd.prog [("unicode/utf8.acceptRanges", Rows.laid_unicode_utf8_acceptRanges), ("loop.example/g00215/impl.spans", Rows.laid_loop_example_g00215_impl_spans), ("unicode/utf8.first", Rows.laid_unicode_utf8_first)] W) : SpansAt W := by
  rw [MakeChecks.laidMetH_plain _ _ _ (by kernel_rfl)] at h
  obtain ⟨ps, ⟨_, _, _, _, _, _, _, _, _, _, ⟨g0, t0, cs0, f0, p0, q0, hg0, ht0, hv0, hd0, _⟩, _⟩, _⟩ := h
  obtain rfl := Option.some.inj (gSpans.symm.trans hg0)
  obtain rfl := Option.some.inj (tSpans.symm.trans ht0)
  have hcs := spans_open hd0
  have e : cs0 = spansC := by cases cs0; simp at hcs; rw [hcs]
  subst e
  unfold World.var? at hv0
  rw [gSpans] at hv0
  simp only [Option.bind_some] at hv0
  cases hh : W.heap[0]? with
  | none => rw [hh] at hv0; cases hv0
  | some o =>
    rw [hh] at hv0
    cases o with
    | cells c t fr => simp at hv0; subst hv0; exact ⟨t, fr, hh⟩
    | _ => simp at hv0
end Go.Proofs.YtngbndfnhpjmjabDoor
namespace Go.Proofs.YtngbndfnhpjmjabDoor
structure St where
  fore : Int
  back : Int
  bold : Bool
  under : Bool
  turned : Bool
deriving DecidableEq
def St.zero : St := ⟨0, 0, false, false, false⟩
def St.ok (s : St) : Bool := decide (0 ≤ s.fore ∧ s.fore ≤ 8 ∧ 0 ≤ s.back ∧ s.back ≤ 8)
end Go.Proofs.YtngbndfnhpjmjabDoor
namespace Go.Proofs.YtngbndfnhpjmjabDoor
structure Ce where
  rune : Int
  st : St
  part : Int
deriving DecidableEq
def Ce.zero : Ce := ⟨0, St.zero, 0⟩
def atC (l : List Ce) (i : Nat) : Ce := l.getD i Ce.zero
theorem atC_lt {l : List Ce} {i : Nat} (h : i < l.length) : atC l i = l[i] := by simp [atC, List.getD, h]
theorem atC_append_left (l m : List Ce) (i : Nat) (h : i < l.length) : atC (l ++ m) i = atC l i := by
  simp [atC, List.getD, List.getElem?_append_left h]
theorem atC_append_right (l m : List Ce) (i : Nat) : atC (l ++ m) (l.length + i) = atC m i := by
  simp [atC, List.getD, List.getElem?_append_right]
theorem atC_set (l : List Ce) (j i : Nat) (c : Ce) : atC (l.set j c) i = if i = j ∧ j < l.length then c else atC l i := by
  simp only [atC, List.getD, List.getElem?_set]
  by_cases h : j = i
  · subst h
    by_cases h2 : j < l.length
    · simp [h2]
    · simp [h2]
  · rw [if_neg h, if_neg (fun e => h e.1.symm)]
theorem ext_atC (l m : List Ce) (hl : l.length = m.length) (h : ∀ i, i < l.length → atC l i = atC m i) : l = m := by
  apply List.ext_getElem hl
  intro i h1 h2
  have := h i h1
  rwa [atC_lt h1, atC_lt h2] at this
theorem atC_take (l : List Ce) (n i : Nat) (h : i < n) : atC (l.take n) i = atC l i := by simp [atC, List.getD, h]
theorem atC_drop (l : List Ce) (n i : Nat) : atC (l.drop n) i = atC l (n + i) := by simp [atC, List.getD, List.getElem?_drop]

end Go.Proofs.YtngbndfnhpjmjabDoor
namespace Go.Proofs.YtngbndfnhpjmjabDoor
open Go.ChangeShapes Go.WideShapes Go.ChangeAt Go.RowKit
def stV (s : St) : Value := .agg #[.int .i64 s.fore, .int .i64 s.back, .bool s.bold, .bool s.under, .bool s.turned]
set_option maxHeartbeats 400000 in
theorem specStyleOk_any (s : St) (w : World) :
    Calls Tryd.prog 25 #[stV s] w fun e w' => e = .returned (.bool s.ok) ∧ Below w.heap.size w w' := by
  obtain ⟨f, b, bo, un, tu⟩ := s
  have hok : Hid ((St.mk f b bo un tu).ok = decide (0 ≤ f ∧ f ≤ 8 ∧ 0 ≤ b ∧ b ≤ 8)) := rfl
  unfold stV
  simp only
  go_enter Tryd.func25, Tryd.ntmps25
  go_wp2_with (go_at_call 17; refine (l1In_any _ _ _ _).mono ?_; rintro e w' ⟨rfl, hw⟩; subst hw)
  all_goals
    go_ret
    refine ⟨ret_bool ?_, (Below.refl _ _).alloc (Nat.le_refl _) _⟩
    rw [hok.out]
    clear hok
    by_cases h1 : 0 ≤ f ∧ f ≤ 8
    · by_cases h2 : 0 ≤ b ∧ b ≤ 8
      · have h3 : 0 ≤ f ∧ f ≤ 8 ∧ 0 ≤ b ∧ b ≤ 8 := ⟨h1.1, h1.2, h2⟩
        simp_all
      · have h3 : ¬ (0 ≤ f ∧ f ≤ 8 ∧ 0 ≤ b ∧ b ≤ 8) := fun h => h2 h.2.2
        simp_all
        try omega
    · have h3 : ¬ (0 ≤ f ∧ f ≤ 8 ∧ 0 ≤ b ∧ b ≤ 8) := fun h => h1 ⟨h.1, h.2.1⟩
      simp_all
end Go.Proofs.YtngbndfnhpjmjabDoor
namespace Go.Proofs.YtngbndfnhpjmjabDoor
open Go.ChangeShapes Go.WideShapes Go.ChangeAt Go.RowKit
/-- What is owned stays owned while the world only grows above. -/
theorem _root_.Go.World.ownsRow.below {w w' : World} {base : Nat} {e : TypeId} {size : Nat} {v : Value} {n : Nat} {xs : List Value} (h : w.ownsRow base e size v n xs) (hb : Below w.heap.size w w') : w'.ownsRow base e size v n xs := by
  refine ⟨h.1, ?_⟩
  rcases h.2 with h2 | ⟨g, cap, cur, hv, hbg, hg, r⟩
  · exact .inl h2
  · exact .inr ⟨g, cap, cur, hv, hbg, by rw [hb.block g (Array.getElem?_eq_some_iff.1 hg).1]; exact hg, r⟩
/-- A slice that can be read: of no element, or a row of cells that hold the numbers. -/
def SlI (w : World) (v : Value) (xs : List Int) : Prop :=
  ∃ a c, v = .slice a xs.length c ∧ (xs = [] ∨ ∃ b off, a = some ⟨b, off, none⟩ ∧ b < w.heap.size ∧ ∀ i, i < xs.length → w.cell? ⟨b, off + i, none⟩ = some (.int .i64 (xs.getD i 0)))
theorem SlI.of_own {w : World} {base : Nat} {e : TypeId} {v : Value} {xs : List Int} (h : w.ownsRow base e 1 v xs.length (xs.map (Value.int .i64))) : SlI w v xs := by
  rcases h.2 with ⟨rfl, h2⟩ | ⟨g, cap, cur, rfl, hb, hg, hr⟩
  · exact ⟨none, 0, by rw [h2], .inl (List.eq_nil_of_length_eq_zero h2)⟩
  · refine ⟨_, cap, rfl, .inr ⟨g, 0, rfl, (Array.getElem?_eq_some_iff.1 hg).1, fun i hi => ?_⟩⟩
    have := h.cellAt i (by simpa using hi)
    rw [Nat.zero_add, this]
    simp [hi]
theorem SlI.below {w w' : World} {v : Value} {xs : List Int} (h : SlI w v xs) (hb : Below w.heap.size w w') : SlI w' v xs := by
  obtain ⟨a, c, hv, h | ⟨b, off, ha, hlt, hc⟩⟩ := h
  · exact ⟨a, c, hv, .inl h⟩
  · exact ⟨a, c, hv, .inr ⟨b, off, ha, Nat.lt_of_lt_of_le hlt hb.size, fun i hi => (hb.cell (p := ⟨b, off + i, none⟩) hlt).trans (hc i hi)⟩⟩
end Go.Proofs.YtngbndfnhpjmjabDoor
namespace Go.Proofs.YtngbndfnhpjmjabDoor
open Go.ChangeShapes Go.WideShapes Go.ChangeAt Go.RowKit
theorem gbl {w w' : World} (h : Below w.heap.size w w') (row : Option Nat) : w.grownBy w' row := ⟨h.os, h.tape, h.output, h.size, fun k hk _ => h.block k hk⟩
theorem setCell_gr (w : World) (B o : Nat) (u : Value) : w.grownBy (w.setCell ⟨B, o, none⟩ u) (some B) :=
  ⟨rfl, rfl, rfl, by simp, fun k _ hk => heap_setCell_other w ⟨B, o, none⟩ k _ (fun e => hk (by simp [e]))⟩
theorem grown_tr {a b c : World} {row : Option Nat} (h : a.grownBy b row) (k : b.grownBy c row) : a.grownBy c row :=
  ⟨k.os.trans h.os, k.tape.trans h.tape, k.output.trans h.output, Nat.le_trans h.size k.size, fun i hi hr => (k.block i (Nat.lt_of_lt_of_le hi h.size) hr).trans (h.block i hi hr)⟩
theorem bal' (w : World) (o : Obj) : Below w.heap.size w (w.alloc o) := (Below.refl _ _).alloc (Nat.le_refl _) o
theorem bdr (w : World) : Below w.heap.size w w.drew := ⟨rfl, rfl, rfl, Nat.le_refl _, fun _ _ => rfl⟩
end Go.Proofs.YtngbndfnhpjmjabDoor
namespace Go.Proofs.YtngbndfnhpjmjabDoor
open Go.ChangeShapes Go.WideShapes Go.ChangeAt Go.RowKit
/-- A style lies in block B. -/
def StAt (w : World) (B : Nat) (s : St) : Prop :=
  B < w.heap.size ∧ (w.cell? ⟨B, 0, none⟩ = some (.int .i64 s.fore) ∧ w.cell? ⟨B, 1, none⟩ = some (.int .i64 s.back) ∧ w.cell? ⟨B, 2, none⟩ = some (.bool s.bold) ∧ w.cell? ⟨B, 3, none⟩ = some (.bool s.under) ∧ w.cell? ⟨B, 4, none⟩ = some (.bool s.turned)) ∧
    (w.frozen? ⟨B, 0, none⟩ = false ∧ w.frozen? ⟨B, 1, none⟩ = false ∧ w.frozen? ⟨B, 2, none⟩ = false ∧ w.frozen? ⟨B, 3, none⟩ = false ∧ w.frozen? ⟨B, 4, none⟩ = false)
theorem StAt.grown {w w' : World} {B : Nat} {s : St} {row : Option Nat} (h : StAt w B s) (hg : w.grownBy w' row) (hr : row ≠ some B) : StAt w' B s := by
  have hb := hg.block B h.1 (Ne.symm hr)
  have hc : ∀ k, w'.cell? ⟨B, k, none⟩ = w.cell? ⟨B, k, none⟩ := fun k => World.cell?_of_block (w := w) hb
  have hz : ∀ k, w'.frozen? ⟨B, k, none⟩ = w.frozen? ⟨B, k, none⟩ := fun k => World.frozen?_of_block (w := w) hb
  refine ⟨Nat.lt_of_lt_of_le h.1 hg.size, ?_, ?_⟩
  · rw [hc, hc, hc, hc, hc]; exact h.2.1
  · rw [hz, hz, hz, hz, hz]; exact h.2.2
theorem StAt.below {w w' : World} {B : Nat} {s : St} (h : StAt w B s) (hb : Below w.heap.size w w') : StAt w' B s := h.grown (gbl hb none) (by simp)
theorem StAt.new (w : World) (s : St) (t : TypeId) : StAt (w.alloc (.cells #[.int .i64 s.fore, .int .i64 s.back, .bool s.bold, .bool s.under, .bool s.turned] t)) w.heap.size s :=
  ⟨by simp, ⟨by simp [go_sem], by simp [go_sem], by simp [go_sem], by simp [go_sem], by simp [go_sem]⟩, ⟨by simp [go_sem], by simp [go_sem], by simp [go_sem], by simp [go_sem], by simp [go_sem]⟩⟩
/-- Another style is written there whole. -/
def putSt (w : World) (B : Nat) (s : St) : World :=
  ((((w.setCell ⟨B, 0, none⟩ (.int .i64 s.fore)).setCell ⟨B, 1, none⟩ (.int .i64 s.back)).setCell ⟨B, 2, none⟩ (.bool s.bold)).setCell ⟨B, 3, none⟩ (.bool s.under)).setCell ⟨B, 4, none⟩ (.bool s.turned)

theorem setCell_ne' (w : World) (B a b : Nat) (u : Value) (h : a ≠ b) : (w.setCell ⟨B, b, none⟩ u).cell? ⟨B, a, none⟩ = w.cell? ⟨B, a, none⟩ := by
  simp [World.setCell, World.cell?, Array.getElem?_modify]
  cases hh : w.heap[B]? with
  | none => simp
  | some o => cases o <;> simp [Ne.symm h]
theorem StAt.put {w : World} {B : Nat} {s : St} (h : StAt w B s) (s' : St) : StAt (putSt w B s') B s' := by
  obtain ⟨hlt, ⟨c0, c1, c2, c3, c4⟩, ⟨z0, z1, z2, z3, z4⟩⟩ := h
  refine ⟨by simpa [putSt] using hlt, ⟨?_, ?_, ?_, ?_, ?_⟩, ⟨?_, ?_, ?_, ?_, ?_⟩⟩
  all_goals simp only [putSt]
  · rw [setCell_ne' _ _ _ _ _ (by decide), setCell_ne' _ _ _ _ _ (by decide), setCell_ne' _ _ _ _ _ (by decide), setCell_ne' _ _ _ _ _ (by decide)]; simp [go_sem, c0]
  · rw [setCell_ne' _ _ _ _ _ (by decide), setCell_ne' _ _ _ _ _ (by decide), setCell_ne' _ _ _ _ _ (by decide)]; simp [go_sem, c1]
  · rw [setCell_ne' _ _ _ _ _ (by decide), setCell_ne' _ _ _ _ _ (by decide)]; simp [go_sem, c2]
  · rw [setCell_ne' _ _ _ _ _ (by decide)]; simp [go_sem, c3]
  · simp [go_sem, c4]
  · simp [go_sem, z0]
  · simp [go_sem, z1]
  · simp [go_sem, z2]
  · simp [go_sem, z3]
  · simp [go_sem, z4]
end Go.Proofs.YtngbndfnhpjmjabDoor
namespace Go.Proofs.YtngbndfnhpjmjabDoor
open Go.ChangeShapes Go.WideShapes Go.ChangeAt Go.RowKit
def ceL (c : Ce) : List Value := [.int .i64 c.rune, .int .i64 c.st.fore, .int .i64 c.st.back, .bool c.st.bold, .bool c.st.under, .bool c.st.turned, .int .i64 c.part]
def ceV (c : Ce) : Value := .agg #[.int .i64 c.rune, .int .i64 c.st.fore, .int .i64 c.st.back, .bool c.st.bold, .bool c.st.under, .bool c.st.turned, .int .i64 c.part]
def CeAt (w : World) (b o : Nat) (c : Ce) : Prop :=
  w.cell? ⟨b, o, none⟩ = some (.int .i64 c.rune) ∧ w.cell? ⟨b, o + 1, none⟩ = some (.int .i64 c.st.fore) ∧ w.cell? ⟨b, o + 2, none⟩ = some (.int .i64 c.st.back) ∧ w.cell? ⟨b, o + 3, none⟩ = some (.bool c.st.bold) ∧ w.cell? ⟨b, o + 4, none⟩ = some (.bool c.st.under) ∧ w.cell? ⟨b, o + 5, none⟩ = some (.bool c.st.turned) ∧ w.cell? ⟨b, o + 6, none⟩ = some (.int .i64 c.part)
theorem CeAt.below {w w' : World} {b o : Nat} {c : Ce} (h : CeAt w b o c) (hb : Below w.heap.size w w') (hlt : b < w.heap.size) : CeAt w' b o c := by
  have e : ∀ k, w'.cell? ⟨b, k, none⟩ = w.cell? ⟨b, k, none⟩ := fun k => hb.cell (p := ⟨b, k, none⟩) hlt
  unfold CeAt
  rw [e, e, e, e, e, e, e]
  exact h
theorem CeAt.grown {w w' : World} {b o : Nat} {c : Ce} {row : Option Nat} (h : CeAt w b o c) (hg : w.grownBy w' row) (hlt : b < w.heap.size) (hr : row ≠ some b) : CeAt w' b o c := by
  have hb := hg.block b hlt (Ne.symm hr)
  have e : ∀ k, w'.cell? ⟨b, k, none⟩ = w.cell? ⟨b, k, none⟩ := fun k => World.cell?_of_block (w := w) hb
  unfold CeAt
  rw [e, e, e, e, e, e, e]
  exact h
/-- A slice of cells that can be read. -/
def SlC (w : World) (v : Value) (xs : List Ce) : Prop :=
  ∃ a c, v = .slice a xs.length c ∧ xs.length ≤ c ∧ (a = none → c = 0) ∧ (xs = [] ∨ ∃ b off, a = some ⟨b, off, none⟩ ∧ b < w.heap.size ∧ ∀ i, i < xs.length → CeAt w b (off + i * 7) (atC xs i))
theorem SlC.below {w w' : World} {v : Value} {xs : List Ce} (h : SlC w v xs) (hb : Below w.heap.size w w') : SlC w' v xs := by
  obtain ⟨a, c, hv, hc, hn, h | ⟨b, off, ha, hlt, hi⟩⟩ := h
  · exact ⟨a, c, hv, hc, hn, .inl h⟩
  · exact ⟨a, c, hv, hc, hn, .inr ⟨b, off, ha, Nat.lt_of_lt_of_le hlt hb.size, fun i h => (hi i h).below hb hlt⟩⟩
/-- A slice of cells that this call owns. -/
def OwnC (w : World) (base : Nat) (v : Value) (xs : List Ce) : Prop := w.ownsRow base 48 7 v xs.length (xs.flatMap ceL)
theorem flat_len (xs : List Ce) : (xs.flatMap ceL).length = xs.length * 7 := by
  induction xs with
  | nil => rfl
  | cons c xs ih => rw [List.flatMap_cons, List.length_append, ih, List.length_cons]; simp [ceL]; omega
theorem flat_get (xs : List Ce) : ∀ (i k : Nat), i < xs.length → k < 7 → (xs.flatMap ceL)[i * 7 + k]? = (ceL (atC xs i))[k]? := by
  induction xs with
  | nil => intro i k h; simp at h
  | cons c xs ih =>
    intro i k h hk
    rw [List.flatMap_cons]
    cases i with
    | zero =>
      rw [List.getElem?_append_left (by simp [ceL]; omega)]
      simp [atC]
    | succ i =>
      have hl : (ceL c).length = 7 := rfl
      rw [List.getElem?_append_right (by rw [hl]; omega), hl]
      have e : (i + 1) * 7 + k - 7 = i * 7 + k := by omega
      rw [e, ih i k (by simpa using h) hk]
      simp [atC]
theorem OwnC.at {w : World} {base g n cap : Nat} {xs : List Ce} (h : OwnC w base (.slice (some ⟨g, 0, none⟩) n cap) xs) (hn : xs.length = n) (i : Nat) (hi : i < n) : CeAt w g (i * 7) (atC xs i) := by
  subst hn
  have hc : ∀ k, k < 7 → w.cell? ⟨g, i * 7 + k, none⟩ = (ceL (atC xs i))[k]? := fun k hk => by
    rw [h.cellAt (i * 7 + k) (by omega), flat_get xs i k hi hk]
  exact ⟨hc 0 (by omega), hc 1 (by omega), hc 2 (by omega), hc 3 (by omega), hc 4 (by omega), hc 5 (by omega), hc 6 (by omega)⟩
theorem OwnC.shape {w : World} {base : Nat} {v : Value} {xs : List Ce} (h : OwnC w base v xs) : (v = .slice none 0 0 ∧ xs = []) ∨ ∃ g cap, v = .slice (some ⟨g, 0, none⟩) xs.length cap ∧ base ≤ g ∧ g < w.heap.size ∧ xs.length ≤ cap := by
  rcases h.2 with ⟨h1, h2⟩ | ⟨g, cap, cur, hv, hb, hg, hn, _⟩
  · exact .inl ⟨h1, List.eq_nil_of_length_eq_zero h2⟩
  · exact .inr ⟨g, cap, hv, hb, (Array.getElem?_eq_some_iff.1 hg).1, hn⟩
theorem SlC.of_own {w : World} {base : Nat} {v : Value} {xs : List Ce} (h : OwnC w base v xs) : SlC w v xs := by
  rcases h.shape with ⟨rfl, rfl⟩ | ⟨g, cap, rfl, hb, hg, hn⟩
  · exact ⟨none, 0, rfl, Nat.le_refl _, fun _ => rfl, .inl rfl⟩
  · exact ⟨_, cap, rfl, hn, (fun h => by cases h), .inr ⟨g, 0, rfl, hg, fun i hi => by rw [Nat.zero_add]; exact h.at rfl i hi⟩⟩
theorem OwnC.below {w w' : World} {base : Nat} {v : Value} {xs : List Ce} (h : OwnC w base v xs) (hb : Below w.heap.size w w') : OwnC w' base v xs := World.ownsRow.below (show w.ownsRow _ _ _ _ _ _ from h) hb
theorem OwnC.low {w : World} {base base' : Nat} {v : Value} {xs : List Ce} (h : OwnC w base v xs) (hb : base' ≤ base) : OwnC w base' v xs := by
  refine ⟨h.1, ?_⟩
  rcases h.2 with h2 | ⟨g, cap, cur, hv, hbg, r⟩
  · exact .inl h2
  · exact .inr ⟨g, cap, cur, hv, Nat.le_trans hb hbg, r⟩
theorem OwnC.lt {w : World} {base : Nat} {v : Value} {xs : List Ce} (h : OwnC w base v xs) : ∀ g, v.ownBlock = some g → base ≤ g ∧ g < w.heap.size := World.ownsRow.lt (show w.ownsRow _ _ _ _ _ _ from h)
/-- One cell is written whole. -/
def putCe (w : World) (g o : Nat) (c : Ce) : World :=
  ((((((w.setCell ⟨g, o, none⟩ (.int .i64 c.rune)).setCell ⟨g, o + 1, none⟩ (.int .i64 c.st.fore)).setCell ⟨g, o + 2, none⟩ (.int .i64 c.st.back)).setCell ⟨g, o + 3, none⟩ (.bool c.st.bold)).setCell ⟨g, o + 4, none⟩ (.bool c.st.under)).setCell ⟨g, o + 5, none⟩ (.bool c.st.turned)).setCell ⟨g, o + 6, none⟩ (.int .i64 c.part)
theorem flat_set (xs : List Ce) (c : Ce) : ∀ i, i < xs.length → ((((((((xs.flatMap ceL).set (i * 7) (.int .i64 c.rune)).set (i * 7 + 1) (.int .i64 c.st.fore)).set (i * 7 + 2) (.int .i64 c.st.back)).set (i * 7 + 3) (.bool c.st.bold)).set (i * 7 + 4) (.bool c.st.under)).set (i * 7 + 5) (.bool c.st.turned)).set (i * 7 + 6) (.int .i64 c.part)) = (xs.set i c).flatMap ceL := by
  induction xs with
  | nil => intro i h; simp at h
  | cons d xs ih =>
    intro i h
    cases i with
    | zero => simp [ceL]
    | succ i =>
      have e : ∀ k, (i + 1) * 7 + k = (i * 7 + k) + 7 := fun k => by omega
      have e0 : (i + 1) * 7 = (i * 7) + 7 := by omega
      rw [e 1, e 2, e 3, e 4, e 5, e 6, e0]
      have hs : ∀ (m : Nat) (u : Value) (l : List Value), ((ceL d ++ l).set (m + 7) u) = ceL d ++ l.set m u := fun m u l => by
        rw [List.set_append, if_neg (by simp [ceL])]
        simp [ceL]
      rw [List.flatMap_cons, hs, hs, hs, hs, hs, hs, hs, ih i (by simpa using h), List.set_cons_succ, List.flatMap_cons]
theorem OwnC.put {w : World} {base g n cap : Nat} {xs : List Ce} (h : OwnC w base (.slice (some ⟨g, 0, none⟩) n cap) xs) (hn : xs.length = n) (i : Nat) (hi : i < n) (c : Ce) :
    OwnC (putCe w g (i * 7) c) base (.slice (some ⟨g, 0, none⟩) n cap) (xs.set i c) ∧ w.grownBy (putCe w g (i * 7) c) (some g) := by
  subst hn
  have h0 := World.ownsRow.stored h (i * 7) (.int .i64 c.rune)
  have h1 := World.ownsRow.stored h0.1 (i * 7 + 1) (.int .i64 c.st.fore)
  have h2 := World.ownsRow.stored h1.1 (i * 7 + 2) (.int .i64 c.st.back)
  have h3 := World.ownsRow.stored h2.1 (i * 7 + 3) (.bool c.st.bold)
  have h4 := World.ownsRow.stored h3.1 (i * 7 + 4) (.bool c.st.under)
  have h5 := World.ownsRow.stored h4.1 (i * 7 + 5) (.bool c.st.turned)
  have h6 := World.ownsRow.stored h5.1 (i * 7 + 6) (.int .i64 c.part)
  refine ⟨?_, grown_tr (grown_tr (grown_tr (grown_tr (grown_tr (grown_tr h0.2 h1.2) h2.2) h3.2) h4.2) h5.2) h6.2⟩
  have := h6.1
  rw [flat_set xs c i hi] at this
  unfold OwnC putCe
  rw [List.length_set]
  exact this
theorem OwnC.frozen {w : World} {base g n cap : Nat} {xs : List Ce} (h : OwnC w base (.slice (some ⟨g, 0, none⟩) n cap) xs) (hn : xs.length = n) (j : Nat) : w.frozen? ⟨g, j, none⟩ = false := by
  subst hn
  exact World.ownsRow.frozenAt h j
theorem info_cell : (Tryd.prog.info? 48).map (fun i => (i.zero, i.size, i.bytes)) = some (some (ceV Ce.zero), 7, 40) := by kernel_rfl
end Go.Proofs.YtngbndfnhpjmjabDoor
namespace Go.Proofs.YtngbndfnhpjmjabDoor
open Go.ChangeShapes Go.WideShapes Go.ChangeAt Go.RowKit
section
instance : Inhabited Ce := ⟨Ce.zero⟩
variable {H : Type} {enc : TypeId × Value → H} {w : World} {base : Nat} {spare : Nat → Bool} {held : Bool}
set_option maxRecDepth 20000 in
theorem style_cs {fuel : Nat} {cs : List Value} {x : DataW H × List MemPlace} (hf : DataW.trod enc Tryd.prog w base spare held fuel 57 cs = some x) :
    ∃ s : St, cs = [.int .i64 s.fore, .int .i64 s.back, .bool s.bold, .bool s.under, .bool s.turned] := by
  obtain ⟨xs, n, _, _, hl, hlen, hfs⟩ := DataW.trod_struct Tryd.underlying57 hf
  have e : Tryd.prog.cellsOf 57 = 5 := by kernel_rfl
  have ei : Tryd.prog.cellsOf 2 = 1 := by kernel_rfl
  have eb : Tryd.prog.cellsOf 4 = 1 := by kernel_rfl
  match cs, hl.trans e, xs, hlen with
  | [c0, c1, c2, c3, c4], _, [x0, x1, x2, x3, x4], _ =>
    have h0 := hfs 0 _ rfl
    have h1 := hfs 1 _ rfl
    have h2 := hfs 2 _ rfl
    have h3 := hfs 3 _ rfl
    have h4 := hfs 4 _ rfl
    simp [ei, eb] at h0 h1 h2 h3 h4
    obtain ⟨k0, q0, _, _⟩ := DataW.trod_int Tryd.underlying2 h0
    obtain ⟨k1, q1, _, _⟩ := DataW.trod_int Tryd.underlying2 h1
    obtain ⟨k2, q2, _⟩ := DataW.trod_bool Tryd.underlying4 h2
    obtain ⟨k3, q3, _⟩ := DataW.trod_bool Tryd.underlying4 h3
    obtain ⟨k4, q4, _⟩ := DataW.trod_bool Tryd.underlying4 h4
    simp at q0 q1 q2 q3 q4
    subst q0; subst q1; subst q2; subst q3; subst q4
    exact ⟨⟨k0, k1, k2, k3, k4⟩, rfl⟩
set_option maxRecDepth 20000 in
theorem cell_cs {fuel : Nat} {cs : List Value} {x : DataW H × List MemPlace} (hf : DataW.trod enc Tryd.prog w base spare held fuel 59 cs = some x) :
    ∃ c : Ce, cs = ceL c := by
  obtain ⟨xs, n, _, _, hl, hlen, hfs⟩ := DataW.trod_struct Tryd.underlying59 hf
  have e : Tryd.prog.cellsOf 59 = 7 := by kernel_rfl
  have es : Tryd.prog.cellsOf 57 = 5 := by kernel_rfl
  have ei : Tryd.prog.cellsOf 2 = 1 := by kernel_rfl
  match cs, hl.trans e, xs, hlen with
  | [c0, c1, c2, c3, c4, c5, c6], _, [x0, x1, x2], _ =>
    have h0 := hfs 0 _ rfl
    have h1 := hfs 1 _ rfl
    have h2 := hfs 2 _ rfl
    simp [ei, es] at h0 h1 h2
    obtain ⟨k0, q0, _, _⟩ := DataW.trod_int Tryd.underlying2 h0
    obtain ⟨s, q1⟩ := style_cs h1
    obtain ⟨k2, q2, _, _⟩ := DataW.trod_int Tryd.underlying2 h2
    simp at q0 q1 q2
    obtain ⟨r1, r2, r3, r4, r5⟩ := q1
    subst q0; subst r1; subst r2; subst r3; subst r4; subst r5; subst q2
    exact ⟨⟨k0, s, k2⟩, rfl⟩
end
end Go.Proofs.YtngbndfnhpjmjabDoor
namespace Go.Proofs.YtngbndfnhpjmjabDoor
open Go.ChangeShapes Go.WideShapes Go.ChangeAt Go.RowKit
/-- A row of this call's own beside what stays. -/
def OC (base : Nat) (v : Value) (L : List Ce) (w0 W : World) : Prop := OwnC W base v L ∧ Below w0.heap.size w0 W ∧ base ≤ W.heap.size ∧ w0.heap.size ≤ base
theorem OC.below {base : Nat} {v : Value} {L : List Ce} {w0 W W' : World} (k : OC base v L w0 W) (hb : Below W.heap.size W W') : OC base v L w0 W' :=
  ⟨k.1.below hb, k.2.1.trans (hb.mono k.2.1.size), Nat.le_trans k.2.2.1 hb.size, k.2.2.2⟩
theorem OC.own {base : Nat} {v v' : Value} {L L' : List Ce} {w0 W W' : World} (k : OC base v L w0 W) (ho : OwnC W' base v' L') (hg : W.grownBy W' v.ownBlock) : OC base v' L' w0 W' :=
  ⟨ho, k.2.1.grown hg k.2.1.size (fun g e => Nat.le_trans k.2.2.2 (k.1.lt g e).1), Nat.le_trans k.2.2.1 hg.size, k.2.2.2⟩
theorem StAt.own {W W' : World} {B base : Nat} {s : St} {v : Value} {L : List Ce} (h : StAt W B s) (k : OwnC W base v L) (hB : B < base) (hg : W.grownBy W' v.ownBlock) : StAt W' B s :=
  h.grown hg (fun e => by have := (k.lt B e).1; omega)
end Go.Proofs.YtngbndfnhpjmjabDoor
namespace Go.Proofs.YtngbndfnhpjmjabDoor
open Go.ChangeShapes Go.WideShapes Go.ChangeAt Go.RowKit
def rowV (vs : List Value) (i : Nat) : Value := vs.getD i (.slice none 0 0)
def rowX (rows : List (List Ce)) (i : Nat) : List Ce := rows.getD i []
theorem rowV_lt {vs : List Value} {i : Nat} (h : i < vs.length) : rowV vs i = vs[i] := by simp [rowV, List.getD, h]
theorem rowX_lt {rows : List (List Ce)} {i : Nat} (h : i < rows.length) : rowX rows i = rows[i] := by simp [rowX, List.getD, h]
theorem rowV_get {vs : List Value} {i : Nat} (h : i < vs.length) : vs[i]? = some (rowV vs i) := by rw [rowV_lt h]; exact List.getElem?_eq_getElem h
/-- A slice of rows that can be read. -/
def SlG (w : World) (v : Value) (rows : List (List Ce)) : Prop :=
  ∃ a c vs, v = .slice a rows.length c ∧ rows.length ≤ c ∧ (a = none → c = 0) ∧ (rows = [] ∨ ∃ b off, a = some ⟨b, off, none⟩ ∧ b < w.heap.size ∧ ∀ i, i < rows.length → w.cell? ⟨b, off + i, none⟩ = some (rowV vs i)) ∧ ∀ i, i < rows.length → SlC w (rowV vs i) (rowX rows i)
theorem SlG.below {w w' : World} {v : Value} {rows : List (List Ce)} (h : SlG w v rows) (hb : Below w.heap.size w w') : SlG w' v rows := by
  obtain ⟨a, c, vs, hv, hc, hn, hr, hs⟩ := h
  refine ⟨a, c, vs, hv, hc, hn, ?_, fun i hi => (hs i hi).below hb⟩
  rcases hr with hr | ⟨b, off, ha, hlt, hi⟩
  · exact .inl hr
  · exact .inr ⟨b, off, ha, Nat.lt_of_lt_of_le hlt hb.size, fun i h => (hb.cell (p := ⟨b, off + i, none⟩) hlt).trans (hi i h)⟩
/-- A slice of rows that this call owns, each row in a block of its own below B. -/
def OwnG (w : World) (base B : Nat) (v : Value) (rows : List (List Ce)) : Prop :=
  ∃ vs : List Value, vs.length = rows.length ∧ w.ownsRow base 37 1 v rows.length vs ∧ (∀ i, i < rows.length → OwnC w base (rowV vs i) (rowX rows i)) ∧
    (∀ i, i < rows.length → ∀ g, (rowV vs i).ownBlock = some g → g < B) ∧ (∀ i j, i < j → j < rows.length → ∀ g, (rowV vs i).ownBlock = some g → (rowV vs j).ownBlock ≠ some g)
theorem OwnG.below {w w' : World} {base B : Nat} {v : Value} {rows : List (List Ce)} (h : OwnG w base B v rows) (hb : Below w.heap.size w w') : OwnG w' base B v rows := by
  obtain ⟨vs, hl, ho, hr, hB, hd⟩ := h
  exact ⟨vs, hl, World.ownsRow.below ho hb, fun i hi => (hr i hi).below hb, hB, hd⟩
theorem OwnG.low {w : World} {base base' B : Nat} {v : Value} {rows : List (List Ce)} (h : OwnG w base B v rows) (hb : base' ≤ base) : OwnG w base' B v rows := by
  obtain ⟨vs, hl, ho, hr, hB, hd⟩ := h
  refine ⟨vs, hl, ⟨ho.1, ?_⟩, fun i hi => (hr i hi).low hb, hB, hd⟩
  rcases ho.2 with h2 | ⟨g, cap, cur, hv, hbg, r⟩
  · exact .inl h2
  · exact .inr ⟨g, cap, cur, hv, Nat.le_trans hb hbg, r⟩
theorem OwnG.shape {w : World} {base B : Nat} {v : Value} {rows : List (List Ce)} (h : OwnG w base B v rows) : (v = .slice none 0 0 ∧ rows = []) ∨ ∃ g cap, v = .slice (some ⟨g, 0, none⟩) rows.length cap ∧ base ≤ g ∧ g < w.heap.size ∧ rows.length ≤ cap := by
  obtain ⟨vs, hl, ho, _⟩ := h
  rcases ho.2 with ⟨h1, h2⟩ | ⟨g, cap, cur, hv, hb, hg, hn, _⟩
  · exact .inl ⟨h1, List.eq_nil_of_length_eq_zero h2⟩
  · exact .inr ⟨g, cap, hv, hb, (Array.getElem?_eq_some_iff.1 hg).1, hn⟩
theorem SlG.of_own {w : World} {base B : Nat} {v : Value} {rows : List (List Ce)} (h : OwnG w base B v rows) : SlG w v rows := by
  obtain ⟨vs, hl, ho, hr, hB, hd⟩ := h
  rcases ho.2 with ⟨h1, h2⟩ | ⟨g, cap, cur, hv, hb, hg, hn, _, _, ht⟩
  · have : rows = [] := List.eq_nil_of_length_eq_zero h2
    subst this
    exact ⟨none, 0, vs, h1, Nat.le_refl _, fun _ => rfl, .inl rfl, fun i hi => absurd hi (Nat.not_lt_zero i)⟩
  · subst hv
    refine ⟨_, cap, vs, rfl, hn, (fun e => by cases e), .inr ⟨g, 0, rfl, (Array.getElem?_eq_some_iff.1 hg).1, fun i hi => ?_⟩, fun i hi => SlC.of_own (hr i hi)⟩
    rw [Nat.zero_add, World.ownsRow.cellAt ho i (by omega), rowV_get (by omega)]
/-- The outer block is none of the rows' blocks. -/
theorem outer_apart {w : World} {base base' n : Nat} {v r : Value} {vs : List Value} {xs : List Ce} (ho : w.ownsRow base 37 1 v n vs) (hr : OwnC w base' r xs) : r.ownBlock = none ∨ r.ownBlock ≠ v.ownBlock := by
  rcases ho.2 with ⟨h1, _⟩ | ⟨g, cap, cur, hv, _, hg, _⟩
  · cases hb : r.ownBlock with
    | none => exact .inl rfl
    | some q => right; rw [h1]; simp [Value.ownBlock]
  · rcases hr.2 with ⟨h1, _⟩ | ⟨g', cap', cur', hv', _, hg', _⟩
    · left; rw [h1]; rfl
    · right
      rw [hv, hv']
      intro e
      simp only [Value.ownBlock, Option.some.injEq] at e
      subst e
      rw [hg] at hg'
      simp only [Option.some.injEq, Obj.cells.injEq] at hg'
      exact absurd hg'.2.1 (by decide)
theorem OwnC.kept {w w' : World} {base : Nat} {r : Value} {xs : List Ce} {row : Option Nat} (h : OwnC w base r xs) (hg : w.grownBy w' row) (hne : r.ownBlock = none ∨ r.ownBlock ≠ row) : OwnC w' base r xs := World.ownsRow.kept (show w.ownsRow _ _ _ _ _ _ from h) hg hne
theorem info_row : (Tryd.prog.info? 37).map (fun i => (i.zero, i.size, i.bytes)) = some (some (.slice none 0 0), 1, 24) := by kernel_rfl
theorem under_rows : Tryd.prog.underlying 27 = some (.slice 37) := by kernel_rfl
end Go.Proofs.YtngbndfnhpjmjabDoor
namespace Go.Proofs.YtngbndfnhpjmjabDoor
def cellOkB (l : List Ce) (i : Nat) : Bool :=
  (atC l i).st.ok && (if (atC l i).part = 0 then decide (widthV (atC l i).rune = 1)
    else if (atC l i).part = 1 then decide (widthV (atC l i).rune = 2) && (decide (i + 1 < l.length) && (decide ((atC l (i + 1)).part = 2) && decide ((atC l (i + 1)).st = (atC l i).st)))
    else if (atC l i).part = 2 then decide ((atC l i).rune = 0) && (decide (0 < i) && decide ((atC l (i - 1)).part = 1))
    else false)
def rowOkB (l : List Ce) : Bool := decide (1 ≤ l.length ∧ l.length ≤ 60) && (List.range l.length).all (cellOkB l)
theorem rowOkB_no (l : List Ce) (i : Nat) (hi : i < l.length) (h : cellOkB l i = false) : rowOkB l = false := by
  unfold rowOkB
  have : (List.range l.length).all (cellOkB l) = false := by
    rw [List.all_eq_false]
    exact ⟨i, List.mem_range.2 hi, by simp [h]⟩
  rw [this, Bool.and_false]
theorem rowOkB_len (l : List Ce) (h : ¬ (1 ≤ l.length ∧ l.length ≤ 60)) : rowOkB l = false := by
  unfold rowOkB
  rw [decide_eq_false h, Bool.false_and]
theorem rowOkB_yes (l : List Ce) (h : 1 ≤ l.length ∧ l.length ≤ 60) (ha : ∀ i, i < l.length → cellOkB l i = true) : rowOkB l = true := by
  unfold rowOkB
  rw [decide_eq_true h, Bool.true_and, List.all_eq_true]
  exact fun i hi => ha i (List.mem_range.1 hi)
theorem rowOkB_iff (l : List Ce) : rowOkB l = true ↔ (1 ≤ l.length ∧ l.length ≤ 60) ∧ ∀ i, i < l.length → cellOkB l i = true := by
  constructor
  · intro h
    unfold rowOkB at h
    rw [Bool.and_eq_true, decide_eq_true_eq, List.all_eq_true] at h
    exact ⟨h.1, fun i hi => h.2 i (List.mem_range.2 hi)⟩
  · rintro ⟨h1, h2⟩; exact rowOkB_yes l h1 h2
end Go.Proofs.YtngbndfnhpjmjabDoor
namespace Go.Proofs.YtngbndfnhpjmjabDoor
def fitB (cols : Int) (r : List Ce) : Bool := decide ((r.length : Int) = cols) && rowOkB r
def gridOkB (cols : Int) (rows : List (List Ce)) : Bool := decide (1 ≤ cols ∧ cols ≤ 60) && (decide (1 ≤ rows.length ∧ rows.length ≤ 30) && rows.all (fitB cols))
theorem gridOk_cols {cols : Int} {rows : List (List Ce)} (h : ¬ (1 ≤ cols ∧ cols ≤ 60)) : gridOkB cols rows = false := by
  unfold gridOkB; rw [decide_eq_false h, Bool.false_and]
theorem gridOk_len {cols : Int} {rows : List (List Ce)} (h : ¬ (1 ≤ rows.length ∧ rows.length ≤ 30)) : gridOkB cols rows = false := by
  unfold gridOkB; rw [decide_eq_false h, Bool.false_and, Bool.and_false]
theorem gridOk_iff (cols : Int) (rows : List (List Ce)) : gridOkB cols rows = true ↔ (1 ≤ cols ∧ cols ≤ 60) ∧ (1 ≤ rows.length ∧ rows.length ≤ 30) ∧ ∀ i, i < rows.length → fitB cols (rows.getD i []) = true := by
  unfold gridOkB
  rw [Bool.and_eq_true, Bool.and_eq_true, decide_eq_true_eq, decide_eq_true_eq, List.all_eq_true]
  constructor
  · rintro ⟨h1, h2, h3⟩
    refine ⟨h1, h2, fun i hi => h3 _ ?_⟩
    have : rows.getD i [] = rows[i] := by simp [List.getD, hi]
    rw [this]; exact List.getElem_mem hi
  · rintro ⟨h1, h2, h3⟩
    refine ⟨h1, h2, fun r hr => ?_⟩
    obtain ⟨i, hi, e⟩ := List.getElem_of_mem hr
    have := h3 i hi
    have e2 : rows.getD i [] = rows[i] := by simp [List.getD, hi]
    rw [e2, e] at this; exact this
theorem gridOk_no {cols : Int} {rows : List (List Ce)} {i : Nat} (hi : i < rows.length) (h : fitB cols (rows.getD i []) = false) : gridOkB cols rows = false := by
  cases hg : gridOkB cols rows with
  | false => rfl
  | true =>
    have := ((gridOk_iff cols rows).1 hg).2.2 i hi
    rw [h] at this; cases this
end Go.Proofs.YtngbndfnhpjmjabDoor
namespace Go.Proofs.YtngbndfnhpjmjabDoor
open Go.ChangeShapes Go.WideShapes Go.ChangeAt Go.RowKit
def gridV (cols : Int) (v : Value) : Value := .agg #[.int .i64 cols, v]
/-- A grid in a block of its own. -/
def GrN (w : World) (B : Nat) (cols : Int) (v : Value) : Prop := B < w.heap.size ∧ w.cell? ⟨B, 0, none⟩ = some (.int .i64 cols) ∧ w.cell? ⟨B, 1, none⟩ = some v
theorem GrN.new (w : World) (cols : Int) (v : Value) (t : TypeId) : GrN (w.alloc (.cells #[.int .i64 cols, v] t)) w.heap.size cols v := ⟨by simp, by simp [go_sem], by simp [go_sem]⟩
theorem GrN.below {w w' : World} {B : Nat} {cols : Int} {v : Value} (h : GrN w B cols v) (hb : Below w.heap.size w w') : GrN w' B cols v :=
  ⟨Nat.lt_of_lt_of_le h.1 hb.size, (hb.cell (p := ⟨B, 0, none⟩) h.1).trans h.2.1, (hb.cell (p := ⟨B, 1, none⟩) h.1).trans h.2.2⟩
end Go.Proofs.YtngbndfnhpjmjabDoor
namespace Go.Proofs.YtngbndfnhpjmjabDoor
open Go.ChangeShapes Go.WideShapes Go.ChangeAt Go.RowKit
section
variable {H : Type} {enc : TypeId × Value → H} {w : World} {base : Nat} {spare : Nat → Bool} {held : Bool}
set_option maxRecDepth 20000 in
theorem cells_tr {fuel : Nat} {cs : List Value} {y : DataW H × List MemPlace} (hf : DataW.trod enc Tryd.prog w base spare held fuel 41 cs = some y) :
    ∃ (v : Value) (xs : List Ce), cs = [v] ∧ SlC w v xs ∧ xs.length ≤ maxLen := by
  have e : Tryd.prog.cellsOf 59 = 7 := by kernel_rfl
  rcases Go.Deep.open_slice Tryd.underlying41 hf with ⟨hcs, _⟩ | ⟨x, len, cap, m, n, D, Pl, hcs, _, hl, hm, hmm, _, hx⟩
  · exact ⟨_, [], hcs, ⟨none, 0, rfl, Nat.le_refl _, fun _ => rfl, .inl rfl⟩, by simp⟩
  · have hlm : len ≤ m := by rw [hmm]; split <;> omega
    rw [e] at hx
    obtain ⟨f, hfc⟩ := Go.Deep.choose_lt (α := Ce) (n := len) (p := fun i q => w.cells? base (x.add (i * 7)) 7 = some (ceL q)) (fun i hi => by
      obtain ⟨cs', h1, h2⟩ := hx i (by omega)
      obtain ⟨q, rfl⟩ := cell_cs h2
      exact ⟨q, h1⟩)
    have hlen : ((List.range len).map f).length = len := by simp
    refine ⟨_, (List.range len).map f, hcs, ⟨some x, cap, by rw [hlen], by rw [hlen]; exact hl, (fun h => by cases h), ?_⟩, by rw [hlen]; omega⟩
    by_cases h0 : len = 0
    · left; subst h0; rfl
    · right
      have hc : ∀ i, i < len → ∀ k, k < 7 → w.cell? ((x.add (i * 7)).add k) = (ceL (f i))[k]? := fun i hi k hk => by
        obtain ⟨_, hl7, hcell⟩ := World.cells?_some (hfc i hi)
        exact hcell k hk
      obtain ⟨b, off, spot⟩ := x
      have h1 := hc 0 (by omega) 0 (by decide)
      have hspot : spot = none := by
        have h1' : w.cell? ((⟨b, off, spot⟩ : Addr).add 0) = some (.int .i64 (f 0).rune) := by simpa [Addr.add, ceL] using h1
        simpa [Addr.add] using World.cell?_spot h1'
      subst hspot
      refine ⟨b, off, rfl, ?_, fun i hi => ?_⟩
      · have h1' : w.cell? ((⟨b, off, none⟩ : Addr).add 0) = some (.int .i64 (f 0).rune) := by simpa [Addr.add, ceL] using h1
        exact World.block_lt_of_cell? w _ h1'
      · rw [hlen] at hi
        have ef : atC ((List.range len).map f) i = f i := by simp [atC, hi]
        rw [ef]
        have g := fun k hk => hc i hi k hk
        have ea : ∀ k, (((⟨b, off, none⟩ : Addr).add (i * 7)).add k) = ⟨b, off + i * 7 + k, none⟩ := fun k => by rw [Addr.add_mid, Addr.add_mid]
        simp only [ea] at g
        exact ⟨by simpa [ceL] using g 0 (by decide), by simpa [ceL] using g 1 (by decide), by simpa [ceL] using g 2 (by decide), by simpa [ceL] using g 3 (by decide), by simpa [ceL] using g 4 (by decide), by simpa [ceL] using g 5 (by decide), by simpa [ceL] using g 6 (by decide)⟩
set_option maxRecDepth 20000 in
theorem rows_tr {fuel : Nat} {cs : List Value} {y : DataW H × List MemPlace} (hf : DataW.trod enc Tryd.prog w base spare held fuel 22 cs = some y) :
    ∃ (v : Value) (rows : List (List Ce)), cs = [v] ∧ SlG w v rows ∧ rows.length ≤ maxLen ∧ ∀ i, i < rows.length → (rowX rows i).length ≤ maxLen := by
  have e : Tryd.prog.cellsOf 41 = 1 := by kernel_rfl
  rcases Go.Deep.open_slice1 Tryd.underlying22 e hf with ⟨hcs, _⟩ | ⟨x, len, cap, m, n, V, D, Pl, hcs, _, hl, hm, hmm, _, hx⟩
  · exact ⟨_, [], hcs, ⟨none, 0, [], rfl, Nat.le_refl _, fun _ => rfl, .inl rfl, fun i h => absurd h (Nat.not_lt_zero i)⟩, by simp, fun i h => absurd h (Nat.not_lt_zero i)⟩
  · have hlm : len ≤ m := by rw [hmm]; split <;> omega
    obtain ⟨f, hfc⟩ := Go.Deep.choose_lt (α := List Ce) (n := len) (p := fun i xs => SlC w (V i) xs ∧ xs.length ≤ maxLen) (fun i hi => by
      obtain ⟨h1, h2⟩ := hx i (by omega)
      obtain ⟨v, xs, hv, hs, hle⟩ := cells_tr h2
      simp at hv
      subst hv
      exact ⟨xs, hs, hle⟩)
    have hlen : ((List.range len).map f).length = len := by simp
    have hvl : ((List.range len).map V).length = len := by simp
    have hX : ∀ i, i < len → rowX ((List.range len).map f) i = f i := fun i hi => by simp [rowX, List.getD, hi]
    have hV : ∀ i, i < len → rowV ((List.range len).map V) i = V i := fun i hi => by simp [rowV, List.getD, hi]
    refine ⟨_, (List.range len).map f, hcs, ⟨some x, cap, (List.range len).map V, by rw [hlen], by rw [hlen]; exact hl, (fun h => by cases h), ?_, fun i hi => ?_⟩, by rw [hlen]; omega, fun i hi => ?_⟩
    · by_cases h0 : len = 0
      · left; subst h0; rfl
      · right
        obtain ⟨b, off, spot⟩ := x
        have h1 := (hx 0 (by omega)).1
        have h1c : w.cell? ⟨b, off, spot⟩ = some (V 0) := by
          have : (⟨b, off, spot⟩ : Addr).add 0 = ⟨b, off, spot⟩ := by unfold Addr.add; split <;> simp_all
          rwa [this] at h1
        have hspot : spot = none := World.cell?_spot h1c
        subst hspot
        refine ⟨b, off, rfl, World.block_lt_of_cell? w _ h1c, fun i hi => ?_⟩
        rw [hlen] at hi
        rw [hV i hi, ← (hx i (by omega)).1, Addr.add_mid]
    · rw [hlen] at hi
      rw [hV i hi, hX i hi]
      exact (hfc i hi).1
    · rw [hlen] at hi
      rw [hX i hi]
      exact (hfc i hi).2
set_option maxRecDepth 20000 in
theorem grid_view {b0 : Nat} {r : Reach} {v : Value} {d : DataW H} {p : List MemPlace} (hv : Value.okWide Tryd.prog w r b0 24 v) (h : DataW.Trod enc Tryd.prog w base spare held 24 v d p) :
    ∃ (cols : Int) (u : Value) (rows : List (List Ce)), v = gridV cols u ∧ SlG w u rows ∧ rows.length ≤ maxLen ∧ ∀ i, i < rows.length → (rowX rows i).length ≤ maxLen := by
  obtain ⟨cs, rfl, hsz⟩ := okWide_struct Tryd.underlying24 hv
  obtain ⟨fuel, hf⟩ := h
  obtain ⟨xs, n, _, _, hl, hlen, hfs⟩ := DataW.trod_struct Tryd.underlying24 hf
  have e : Tryd.prog.cellsOf 24 = 2 := by kernel_rfl
  have ei : Tryd.prog.cellsOf 2 = 1 := by kernel_rfl
  have er : Tryd.prog.cellsOf 22 = 1 := by kernel_rfl
  obtain ⟨l⟩ := cs
  match l, hsz.trans e, xs, hlen with
  | [c0, c1], _, [x0, x1], _ =>
    have h0 := hfs 0 _ rfl
    have h1 := hfs 1 _ rfl
    simp [Value.cells, ei, er] at h0 h1
    obtain ⟨k0, q0, _, _⟩ := DataW.trod_int Tryd.underlying2 h0
    obtain ⟨u, rows, q1, hs, hle, hxl⟩ := rows_tr h1
    simp at q0 q1
    subst q0; subst q1
    exact ⟨_, _, rows, rfl, hs, hle, hxl⟩
end
end Go.Proofs.YtngbndfnhpjmjabDoor
namespace Go.Proofs.YtngbndfnhpjmjabDoor
open Go.ChangeShapes Go.WideShapes Go.ChangeAt Go.RowKit
/-- A grid in a block of its own, open to stores. -/
def GrW (w : World) (B : Nat) (cols : Int) (v : Value) : Prop :=
  B < w.heap.size ∧ (w.cell? ⟨B, 0, none⟩ = some (.int .i64 cols) ∧ w.cell? ⟨B, 1, none⟩ = some v) ∧ (w.frozen? ⟨B, 0, none⟩ = false ∧ w.frozen? ⟨B, 1, none⟩ = false)
theorem GrW.grown {w w' : World} {B : Nat} {cols : Int} {v : Value} {row : Option Nat} (h : GrW w B cols v) (hg : w.grownBy w' row) (hr : row ≠ some B) : GrW w' B cols v := by
  have hb := hg.block B h.1 (Ne.symm hr)
  have hc : ∀ k, w'.cell? ⟨B, k, none⟩ = w.cell? ⟨B, k, none⟩ := fun k => World.cell?_of_block (w := w) hb
  have hz : ∀ k, w'.frozen? ⟨B, k, none⟩ = w.frozen? ⟨B, k, none⟩ := fun k => World.frozen?_of_block (w := w) hb
  refine ⟨Nat.lt_of_lt_of_le h.1 hg.size, ?_, ?_⟩
  · rw [hc, hc]; exact h.2.1
  · rw [hz, hz]; exact h.2.2
theorem GrW.below {w w' : World} {B : Nat} {cols : Int} {v : Value} (h : GrW w B cols v) (hb : Below w.heap.size w w') : GrW w' B cols v := h.grown (gbl hb none) (by simp)
theorem GrW.new (w : World) (cols : Int) (v : Value) (t : TypeId) : GrW (w.alloc (.cells #[.int .i64 cols, v] t)) w.heap.size cols v :=
  ⟨by simp, ⟨by simp [go_sem], by simp [go_sem]⟩, ⟨by simp [go_sem], by simp [go_sem]⟩⟩
/-- Other rows are written there. -/
def putG (w : World) (B : Nat) (v : Value) : World := w.setCell ⟨B, 1, none⟩ v
theorem putG_grown (w : World) (B : Nat) (v : Value) : w.grownBy (putG w B v) (some B) := setCell_gr w B 1 _
theorem GrW.put {w : World} {B : Nat} {cols : Int} {v : Value} (h : GrW w B cols v) (v' : Value) : GrW (putG w B v') B cols v' := by
  obtain ⟨hlt, ⟨c0, c1⟩, ⟨z0, z1⟩⟩ := h
  refine ⟨by simpa [putG] using hlt, ⟨?_, ?_⟩, ⟨?_, ?_⟩⟩
  all_goals simp only [putG]
  · rw [setCell_ne' _ _ _ _ _ (by decide)]; exact c0
  · simp [go_sem, c1]
  · simp [go_sem, z0]
  · simp [go_sem, z1]
/-- Another grid is written there whole. -/
def putG2 (w : World) (B : Nat) (cols : Int) (v : Value) : World := (w.setCell ⟨B, 0, none⟩ (.int .i64 cols)).setCell ⟨B, 1, none⟩ v
theorem putG2_grown (w : World) (B : Nat) (cols : Int) (v : Value) : w.grownBy (putG2 w B cols v) (some B) := grown_tr (setCell_gr w B 0 _) (setCell_gr _ B 1 _)
theorem GrW.put2 {w : World} {B : Nat} {cols : Int} {v : Value} (h : GrW w B cols v) (cols' : Int) (v' : Value) : GrW (putG2 w B cols' v') B cols' v' := by
  obtain ⟨hlt, ⟨c0, c1⟩, ⟨z0, z1⟩⟩ := h
  refine ⟨by simpa [putG2] using hlt, ⟨?_, ?_⟩, ⟨?_, ?_⟩⟩
  all_goals simp only [putG2]
  · rw [setCell_ne' _ _ _ _ _ (by decide)]; simp [go_sem, c0]
  · simp [go_sem, c1]
  · simp [go_sem, z0]
  · simp [go_sem, z1]
theorem OwnG.kept {w w' : World} {base B : Nat} {v : Value} {rows : List (List Ce)} {row : Option Nat} (h : OwnG w base B v rows) (hg : w.grownBy w' row) (hne : ∀ g, row = some g → g < base) : OwnG w' base B v rows := by
  obtain ⟨vs, hl, ho, hr, hB, hd⟩ := h
  refine ⟨vs, hl, World.ownsRow.kept ho hg ?_, fun i hi => (hr i hi).kept hg ?_, hB, hd⟩
  · cases hv : v.ownBlock with
    | none => exact .inl rfl
    | some q => right; intro e; have := hne q e.symm; have := (ho.lt q hv).1; omega
  · cases hv : (rowV vs i).ownBlock with
    | none => exact .inl rfl
    | some q => right; intro e; have := hne q e.symm; have := ((hr i hi).lt q hv).1; omega
theorem OwnG.lt {w : World} {base B : Nat} {v : Value} {rows : List (List Ce)} (h : OwnG w base B v rows) : ∀ g, v.ownBlock = some g → base ≤ g ∧ g < w.heap.size := by
  obtain ⟨vs, hl, ho, _⟩ := h
  exact fun g e => ho.lt g e
theorem OwnG.up {w : World} {base B B' : Nat} {v : Value} {rows : List (List Ce)} (h : OwnG w base B v rows) (hb : B ≤ B') : OwnG w base B' v rows := by
  obtain ⟨vs, hl, ho, hr, hB, hd⟩ := h
  exact ⟨vs, hl, ho, hr, fun i hi g e => Nat.lt_of_lt_of_le (hB i hi g e) hb, hd⟩
end Go.Proofs.YtngbndfnhpjmjabDoor
namespace Go.Proofs.YtngbndfnhpjmjabDoor
open Go.ChangeShapes Go.WideShapes Go.ChangeAt Go.RowKit
/-- Nothing changes but the blocks from lo to below hi; new ones may come. -/
def GrB (lo hi : Nat) (w w' : World) : Prop := w'.os = w.os ∧ w'.tape = w.tape ∧ w'.output = w.output ∧ w.heap.size ≤ w'.heap.size ∧ ∀ k, k < w.heap.size → (k < lo ∨ hi ≤ k) → w'.heap[k]? = w.heap[k]?
theorem GrB.refl (lo hi : Nat) (w : World) : GrB lo hi w w := ⟨rfl, rfl, rfl, Nat.le_refl _, fun _ _ _ => rfl⟩
theorem GrB.trans {lo hi : Nat} {a b c : World} (h : GrB lo hi a b) (k : GrB lo hi b c) : GrB lo hi a c :=
  ⟨k.1.trans h.1, k.2.1.trans h.2.1, k.2.2.1.trans h.2.2.1, Nat.le_trans h.2.2.2.1 k.2.2.2.1, fun i hi ho => (k.2.2.2.2 i (Nat.lt_of_lt_of_le hi h.2.2.2.1) ho).trans (h.2.2.2.2 i hi ho)⟩
theorem GrB.size {lo hi : Nat} {w w' : World} (h : GrB lo hi w w') : w.heap.size ≤ w'.heap.size := h.2.2.2.1
theorem GrB.mono {lo hi lo' hi' : Nat} {w w' : World} (h : GrB lo hi w w') (h1 : lo' ≤ lo) (h2 : hi ≤ hi') : GrB lo' hi' w w' :=
  ⟨h.1, h.2.1, h.2.2.1, h.2.2.2.1, fun k hk ho => h.2.2.2.2 k hk (by omega)⟩
theorem GrB.cell {lo hi k o : Nat} {w w' : World} (h : GrB lo hi w w') (hk : k < w.heap.size) (ho : k < lo ∨ hi ≤ k) : w'.cell? ⟨k, o, none⟩ = w.cell? ⟨k, o, none⟩ := World.cell?_of_block (w := w) (h.2.2.2.2 k hk ho)
theorem GrB.frozen {lo hi k o : Nat} {w w' : World} (h : GrB lo hi w w') (hk : k < w.heap.size) (ho : k < lo ∨ hi ≤ k) : w'.frozen? ⟨k, o, none⟩ = w.frozen? ⟨k, o, none⟩ := World.frozen?_of_block (w := w) (h.2.2.2.2 k hk ho)
/-- A slice of rows of this call's own, its values named. -/
def OwnV (w : World) (base B : Nat) (v : Value) (vs : List Value) (rows : List (List Ce)) : Prop :=
  vs.length = rows.length ∧ w.ownsRow base 37 1 v rows.length vs ∧ (∀ i, i < rows.length → OwnC w base (rowV vs i) (rowX rows i)) ∧
    (∀ i, i < rows.length → ∀ g, (rowV vs i).ownBlock = some g → g < B) ∧ (∀ i j, i < j → j < rows.length → ∀ g, (rowV vs i).ownBlock = some g → (rowV vs j).ownBlock ≠ some g)
theorem OwnG.v {w : World} {base B : Nat} {v : Value} {rows : List (List Ce)} (h : OwnG w base B v rows) : ∃ vs, OwnV w base B v vs rows := h
theorem OwnV.g {w : World} {base B : Nat} {v : Value} {vs : List Value} {rows : List (List Ce)} (h : OwnV w base B v vs rows) : OwnG w base B v rows := ⟨vs, h⟩
theorem OwnV.below {w w' : World} {base B : Nat} {v : Value} {vs : List Value} {rows : List (List Ce)} (h : OwnV w base B v vs rows) (hb : Below w.heap.size w w') : OwnV w' base B v vs rows :=
  ⟨h.1, World.ownsRow.below h.2.1 hb, fun i hi => (h.2.2.1 i hi).below hb, h.2.2.2.1, h.2.2.2.2⟩
theorem OwnV.up {w : World} {base B B' : Nat} {v : Value} {vs : List Value} {rows : List (List Ce)} (h : OwnV w base B v vs rows) (hb : B ≤ B') : OwnV w base B' v vs rows :=
  ⟨h.1, h.2.1, h.2.2.1, fun i hi g e => Nat.lt_of_lt_of_le (h.2.2.2.1 i hi g e) hb, h.2.2.2.2⟩
theorem OwnV.shape {w : World} {base B : Nat} {v : Value} {vs : List Value} {rows : List (List Ce)} (h : OwnV w base B v vs rows) : (v = .slice none 0 0 ∧ rows = []) ∨ ∃ g cap, v = .slice (some ⟨g, 0, none⟩) rows.length cap ∧ base ≤ g ∧ g < w.heap.size ∧ rows.length ≤ cap := h.g.shape
theorem OwnV.cell {w : World} {base B g n cap : Nat} {vs : List Value} {rows : List (List Ce)} (h : OwnV w base B (.slice (some ⟨g, 0, none⟩) n cap) vs rows) (hn : rows.length = n) (i : Nat) (hi : i < n) : w.cell? ⟨g, i, none⟩ = some (rowV vs i) := by
  subst hn
  rw [World.ownsRow.cellAt h.2.1 i (by have := h.1; omega), rowV_get (by have := h.1; omega)]
theorem OwnV.frozen {w : World} {base B g n cap : Nat} {vs : List Value} {rows : List (List Ce)} (h : OwnV w base B (.slice (some ⟨g, 0, none⟩) n cap) vs rows) (hn : rows.length = n) (i : Nat) : w.frozen? ⟨g, i, none⟩ = false := by
  subst hn
  exact World.ownsRow.frozenAt h.2.1 i
/-- All of it lies from lo to below hi. -/
def OwnR (w : World) (lo hi : Nat) (v : Value) (rows : List (List Ce)) : Prop := OwnG w lo hi v rows ∧ (∀ g, v.ownBlock = some g → g < hi) ∧ hi ≤ w.heap.size
theorem OwnR.of {w : World} {lo : Nat} {v : Value} {rows : List (List Ce)} (h : OwnG w lo w.heap.size v rows) : OwnR w lo w.heap.size v rows := ⟨h, fun g e => (h.lt g e).2, Nat.le_refl _⟩
theorem OwnR.below {base B : Nat} {w w' : World} {v : Value} {rows : List (List Ce)} (h : OwnR w base B v rows) (hb : Below w.heap.size w w') : OwnR w' base B v rows := ⟨h.1.below hb, h.2.1, Nat.le_trans h.2.2 hb.size⟩
end Go.Proofs.YtngbndfnhpjmjabDoor
namespace Go.Proofs.YtngbndfnhpjmjabDoor
theorem atC_ge {l : List Ce} {i : Nat} (h : l.length ≤ i) : atC l i = Ce.zero := by simp [atC, List.getD, List.getElem?_eq_none h]
/-- A cell that is right by itself. -/
def c1 (c : Ce) : Prop := c.st.ok = true ∧ ((c.part = 0 ∧ widthV c.rune = 1) ∨ (c.part = 1 ∧ widthV c.rune = 2) ∨ (c.part = 2 ∧ c.rune = 0))
def Right (l : List Ce) : Prop :=
  (∀ i, i < l.length → c1 (atC l i)) ∧ (∀ i, (atC l i).part = 1 → (atC l (i + 1)).part = 2 ∧ (atC l (i + 1)).st = (atC l i).st) ∧ (∀ i, (atC l i).part = 2 → 0 < i ∧ (atC l (i - 1)).part = 1)
def Semi (l : List Ce) : Prop :=
  (∀ i, i < l.length → c1 (atC l i)) ∧ (∀ i, (atC l i).part = 1 → (atC l (i + 1)).part = 2 → (atC l (i + 1)).st = (atC l i).st)
theorem part_lt {l : List Ce} {i : Nat} (h : (atC l i).part ≠ 0) : i < l.length := by
  rcases Nat.lt_or_ge i l.length with h1 | h1
  · exact h1
  · rw [atC_ge h1] at h; exact absurd rfl h
theorem right_iff (l : List Ce) : rowOkB l = true ↔ (1 ≤ l.length ∧ l.length ≤ 60) ∧ Right l := by
  rw [rowOkB_iff]
  constructor
  · rintro ⟨hl, h⟩
    refine ⟨hl, ?_, ?_, ?_⟩
    · intro i hi
      have := h i hi
      unfold cellOkB at this
      rw [Bool.and_eq_true] at this
      refine ⟨this.1, ?_⟩
      have h2 := this.2
      by_cases h0 : (atC l i).part = 0
      · rw [if_pos h0] at h2; exact .inl ⟨h0, by simpa using h2⟩
      · rw [if_neg h0] at h2
        by_cases h1 : (atC l i).part = 1
        · rw [if_pos h1] at h2; simp at h2; exact .inr (.inl ⟨h1, h2.1⟩)
        · rw [if_neg h1] at h2
          by_cases h3 : (atC l i).part = 2
          · rw [if_pos h3] at h2; simp at h2; exact .inr (.inr ⟨h3, h2.1⟩)
          · rw [if_neg h3] at h2; cases h2
    · intro i h1
      have hi : i < l.length := part_lt (by rw [h1]; decide)
      have := h i hi
      unfold cellOkB at this
      rw [Bool.and_eq_true, if_neg (by rw [h1]; decide), if_pos h1] at this
      have h2 := this.2; simp at h2
      exact ⟨h2.2.2.1, h2.2.2.2⟩
    · intro i h1
      have hi : i < l.length := part_lt (by rw [h1]; decide)
      have := h i hi
      unfold cellOkB at this
      rw [Bool.and_eq_true, if_neg (by rw [h1]; decide), if_neg (by rw [h1]; decide), if_pos h1] at this
      have h2 := this.2; simp at h2
      exact h2.2
  · rintro ⟨hl, h1, h2, h3⟩
    refine ⟨hl, fun i hi => ?_⟩
    have hc := h1 i hi
    unfold cellOkB
    rw [hc.1, Bool.true_and]
    rcases hc.2 with ⟨e, ew⟩ | ⟨e, ew⟩ | ⟨e, ew⟩
    · rw [if_pos e, ew]; rfl
    · have := h2 i e
      have hlt : i + 1 < l.length := part_lt (by rw [this.1]; decide)
      rw [if_neg (by rw [e]; decide), if_pos e, ew]
      simp [hlt, this.1, this.2]
    · have := h3 i e
      rw [if_neg (by rw [e]; decide), if_neg (by rw [e]; decide), if_pos e, ew]
      simp [this.1, this.2]
theorem Right.c1 {l : List Ce} (h : Right l) {i : Nat} (hi : i < l.length) : c1 (atC l i) := h.1 i hi
theorem Semi.take {l : List Ce} (h : Semi l) (n : Nat) : Semi (l.take n) := by
  have e : ∀ i, atC (l.take n) i = if i < n then atC l i else Ce.zero := fun i => by
    by_cases hi : i < n
    · rw [if_pos hi, atC_take l n i hi]
    · rw [if_neg hi, atC_ge (by rw [List.length_take]; omega)]
  refine ⟨fun i hi => ?_, fun i h1 h2 => ?_⟩
  · rw [List.length_take] at hi
    rw [e, if_pos (by omega)]
    exact h.1 i (by omega)
  · rw [e] at h1 h2 ⊢
    rw [e]
    split at h1
    · split at h2
      · rename_i q1 q2
        rw [if_pos q2, if_pos q1]
        exact h.2 i h1 h2
      · exact absurd h2 (by decide)
    · exact absurd h1 (by decide)
theorem Semi.drop {l : List Ce} (h : Semi l) (n : Nat) : Semi (l.drop n) := by
  refine ⟨fun i hi => ?_, fun i h1 h2 => ?_⟩
  · rw [List.length_drop] at hi
    rw [atC_drop]; exact h.1 (n + i) (by omega)
  · rw [atC_drop] at h1 h2 ⊢
    rw [atC_drop]
    have := h.2 (n + i) h1 (by rw [Nat.add_assoc]; exact h2)
    rwa [Nat.add_assoc] at this
theorem app_at (l m : List Ce) (i : Nat) : atC (l ++ m) i = if i < l.length then atC l i else atC m (i - l.length) := by
  by_cases h : i < l.length
  · rw [if_pos h, atC_append_left l m i h]
  · rw [if_neg h]
    have := atC_append_right l m (i - l.length)
    rwa [show l.length + (i - l.length) = i by omega] at this
theorem Right.append {l m : List Ce} (h : Right l) (k : Right m) : Right (l ++ m) := by
  refine ⟨fun i hi => ?_, fun i h1 => ?_, fun i h2 => ?_⟩
  · rw [List.length_append] at hi
    rw [app_at]
    split
    · rename_i q; exact h.1 i q
    · exact k.1 _ (by omega)
  · rw [app_at] at h1
    split at h1
    · have := h.2.1 i h1
      have hlt : i + 1 < l.length := part_lt (by rw [this.1]; decide)
      rename_i q
      rw [app_at, app_at, if_pos hlt, if_pos q]; exact this
    · rename_i q
      have := k.2.1 _ h1
      rw [app_at, app_at, if_neg (by omega), if_neg q]
      rwa [show i + 1 - l.length = i - l.length + 1 by omega]
  · rw [app_at] at h2
    split at h2
    · rename_i q
      have := h.2.2 i h2
      rw [app_at, if_pos (by omega)]; exact this
    · rename_i q
      have := k.2.2 _ h2
      rw [app_at, if_neg (by omega)]
      refine ⟨by omega, ?_⟩
      rw [show i - 1 - l.length = i - l.length - 1 by omega]; exact this.2
end Go.Proofs.YtngbndfnhpjmjabDoor
namespace Go.Proofs.YtngbndfnhpjmjabDoor
open Go.ChangeShapes Go.WideShapes Go.ChangeAt Go.RowKit
theorem colorOk_any (x : Int) (w : World) :
    Calls Tryd.prog 47 #[.int .i64 x] w fun e w' => e = .returned (.bool (decide (0 ≤ x ∧ x ≤ 8))) ∧ w' = w := by
  by_cases h1 : 0 ≤ x
  · go_enter Tryd.func47, Tryd.ntmps47
    go_wp2
    go_ret
    exact ⟨ret_bool (by simp [h1]), rfl⟩
  · go_enter Tryd.func47, Tryd.ntmps47
    go_wp2
    go_ret
    exact ⟨ret_bool (by simp; omega), rfl⟩
set_option maxHeartbeats 400000 in
theorem implStyleOk_any (s : St) (w : World) :
    Calls Tryd.prog 41 #[stV s] w fun e w' => e = .returned (.bool s.ok) ∧ Below w.heap.size w w' := by
  obtain ⟨f, b, bo, un, tu⟩ := s
  have hok : Hid ((St.mk f b bo un tu).ok = decide (0 ≤ f ∧ f ≤ 8 ∧ 0 ≤ b ∧ b ≤ 8)) := rfl
  unfold stV
  simp only
  go_enter Tryd.func41, Tryd.ntmps41
  go_wp2_with (go_at_call 47; refine (colorOk_any _ _).mono ?_; rintro e w' ⟨rfl, hw⟩; subst hw)
  all_goals
    go_ret
    refine ⟨ret_bool ?_, (Below.refl _ _).alloc (Nat.le_refl _) _⟩
    rw [hok.out]
    clear hok
    by_cases h1 : 0 ≤ f ∧ f ≤ 8
    · by_cases h2 : 0 ≤ b ∧ b ≤ 8
      · have h3 : 0 ≤ f ∧ f ≤ 8 ∧ 0 ≤ b ∧ b ≤ 8 := ⟨h1.1, h1.2, h2⟩
        simp_all
      · have h3 : ¬ (0 ≤ f ∧ f ≤ 8 ∧ 0 ≤ b ∧ b ≤ 8) := fun h => h2 h.2.2
        simp_all
        try omega
    · have h3 : ¬ (0 ≤ f ∧ f ≤ 8 ∧ 0 ≤ b ∧ b ≤ 8) := fun h => h1 ⟨h.1, h.2.1⟩
      simp_all
end Go.Proofs.YtngbndfnhpjmjabDoor
namespace Go.Proofs.YtngbndfnhpjmjabDoor
open Go.ChangeShapes Go.WideShapes Go.ChangeAt Go.RowKit
theorem st_iff (f b : Int) (bo un tu : Bool) (f' b' : Int) (bo' un' tu' : Bool) : (St.mk f b bo un tu = St.mk f' b' bo' un' tu') ↔ (f = f' ∧ b = b' ∧ bo = bo' ∧ un = un' ∧ tu = tu') := by
  constructor
  · intro e; cases e; simp
  · rintro ⟨rfl, rfl, rfl, rfl, rfl⟩; rfl
set_option maxHeartbeats 1000000 in
theorem eq_st (a b : St) (W : World) : (Op.equalIn 10000 46 (.agg #[.int .i64 a.fore, .int .i64 a.back, .bool a.bold, .bool a.under, .bool a.turned]) (.agg #[.int .i64 b.fore, .int .i64 b.back, .bool b.bold, .bool b.under, .bool b.turned])).run Tryd.prog W = .ok (decide (a = b)) W := by
  have hu := Tryd.underlying46
  have hi := Tryd.underlying2
  have hb := Tryd.underlying4
  obtain ⟨f, g, bo, un, tu⟩ := a
  obtain ⟨f', g', bo', un', tu'⟩ := b
  simp only [st_iff]
  rw [run_equalIn_struct W 9999 _ _ _ (by simp [Program.fieldsOf, hu]) (by kernel_rfl)]
  by_cases h1 : f = f' <;> by_cases h2 : g = g' <;> by_cases h3 : bo = bo' <;> by_cases h4 : un = un' <;> by_cases h5 : tu = tu' <;> simp [Program.fieldsOf, hu, hi, hb, Op.eqFields, go_sem, h1, h2, h3, h4, h5, Result.andThen]
end Go.Proofs.YtngbndfnhpjmjabDoor
namespace Go.Proofs.YtngbndfnhpjmjabDoor
open Go.ChangeShapes Go.WideShapes Go.ChangeAt Go.RowKit
attribute [local go_sem ↓] eq_st
def c1B (c : Ce) : Bool := c.st.ok && (if c.part = 0 then decide (widthV c.rune = 1) else if c.part = 1 then decide (widthV c.rune = 2) else if c.part = 2 then decide (c.rune = 0) else false)
theorem c1B_iff (c : Ce) : c1B c = true ↔ c1 c := by
  unfold c1B c1
  rw [Bool.and_eq_true]
  constructor
  · rintro ⟨h, h2⟩
    refine ⟨h, ?_⟩
    split at h2
    · rename_i e; exact .inl ⟨e, by simpa using h2⟩
    · split at h2
      · rename_i e; exact .inr (.inl ⟨e, by simpa using h2⟩)
      · split at h2
        · rename_i e; exact .inr (.inr ⟨e, by simpa using h2⟩)
        · cases h2
  · rintro ⟨h, ⟨e, h2⟩ | ⟨e, h2⟩ | ⟨e, h2⟩⟩
    · exact ⟨h, by rw [if_pos e]; simpa using h2⟩
    · exact ⟨h, by rw [if_neg (by rw [e]; decide), if_pos e]; simpa using h2⟩
    · exact ⟨h, by rw [if_neg (by rw [e]; decide), if_neg (by rw [e]; decide), if_pos e]; simpa using h2⟩
def joinB (a c : Ce) : Bool := if a.part = 1 then decide (c.part = 2) && decide (c.st = a.st) else !decide (c.part = 2)
set_option maxHeartbeats 1000000 in
theorem cellOk_any (c : Ce) (w : World) (hS : SpansAt w) :
    Calls Tryd.prog 29 #[ceV c] w fun e w' => e = .returned (.bool (c1B c)) ∧ Below w.heap.size w w' := by
  obtain ⟨r, ⟨f, b, bo, un, tu⟩, p⟩ := c
  have hok := fun W => implStyleOk_any ⟨f, b, bo, un, tu⟩ W
  have hwd := fun W h => implWidth_any r W h
  have hB : Hid (c1B ⟨r, ⟨f, b, bo, un, tu⟩, p⟩ = ((St.mk f b bo un tu).ok && (if p = 0 then decide (widthV r = 1) else if p = 1 then decide (widthV r = 2) else if p = 2 then decide (r = 0) else false))) := rfl
  have hbA := bal' w (Obj.cells #[.int .i64 r, .int .i64 f, .int .i64 b, .bool bo, .bool un, .bool tu, .int .i64 p] 48)
  have hlt := hS.lt
  unfold ceV stV at *
  generalize (St.mk f b bo un tu).ok = ok at *
  generalize widthV r = wd at *
  cases ok
  · go_enter Tryd.func29, Tryd.ntmps29
    go_wp2_with fail
    refine (hok _).mono ?_
    rintro e w1 ⟨rfl, hb1⟩
    go_wp2
    go_ret
    exact ⟨by rw [hB.out]; rfl, hbA.trans (hb1.mono hbA.size)⟩
  · have hsp := hS.below hbA hlt
    have hcp : (w.alloc (Obj.cells #[.int .i64 r, .int .i64 f, .int .i64 b, .bool bo, .bool un, .bool tu, .int .i64 p] 48)).cell? ⟨w.heap.size, 6, none⟩ = some (.int .i64 p) := by simp [go_sem]
    have hcr : (w.alloc (Obj.cells #[.int .i64 r, .int .i64 f, .int .i64 b, .bool bo, .bool un, .bool tu, .int .i64 p] 48)).cell? ⟨w.heap.size, 0, none⟩ = some (.int .i64 r) := by simp [go_sem]
    have hsz : w.heap.size < (w.alloc (Obj.cells #[.int .i64 r, .int .i64 f, .int .i64 b, .bool bo, .bool un, .bool tu, .int .i64 p] 48)).heap.size := by simp
    go_enter Tryd.func29, Tryd.ntmps29
    go_wp2_with fail
    generalize w.alloc (Obj.cells #[.int .i64 r, .int .i64 f, .int .i64 b, .bool bo, .bool un, .bool tu, .int .i64 p] 48) = W0 at *
    refine (hok _).mono ?_
    rintro e w1 ⟨rfl, hb1⟩
    have d6 : w1.cell? ⟨w.heap.size, 6, none⟩ = some (.int .i64 p) := (hb1.cell (p := ⟨w.heap.size, 6, none⟩) hsz).trans hcp
    have d0 : w1.cell? ⟨w.heap.size, 0, none⟩ = some (.int .i64 r) := (hb1.cell (p := ⟨w.heap.size, 0, none⟩) hsz).trans hcr
    have hs1 := hsp.below hb1 hsp.lt
    have kb := hbA.trans (hb1.mono hbA.size)
    clear hb1 hcp hcr hok hsp hbA hsz
    have hwd1 := hwd w1 hs1
    clear hwd hs1 hS
    by_cases p0 : p = 0
    · have e0 : (p == 0) = true := by simp [p0]
      have hB2 : Hid (c1B ⟨r, ⟨f, b, bo, un, tu⟩, p⟩ = decide (wd = 1)) := by show _ = _; rw [hB.out, if_pos p0]; rfl
      clear p0 hB
      go_wp2_with fail
      refine hwd1.mono ?_
      rintro e w2 ⟨rfl, hb2⟩
      go_wp2
      go_ret
      exact ⟨by rw [hB2.out]; first | rfl | (simp; done), kb.trans (hb2.mono kb.size)⟩
    · have e0 : (p == 0) = false := by simp [p0]
      by_cases p1 : p = 1
      · have e1 : (p == 1) = true := by simp [p1]
        have hB2 : Hid (c1B ⟨r, ⟨f, b, bo, un, tu⟩, p⟩ = decide (wd = 2)) := by show _ = _; rw [hB.out, if_neg p0, if_pos p1]; rfl
        clear p0 p1 hB
        go_wp2_with fail
        refine hwd1.mono ?_
        rintro e w2 ⟨rfl, hb2⟩
        go_wp2
        go_ret
        exact ⟨by rw [hB2.out]; first | rfl | (simp; done), kb.trans (hb2.mono kb.size)⟩
      · have e1 : (p == 1) = false := by simp [p1]
        clear hwd1
        by_cases p2 : p = 2
        · have e2 : (p == 2) = true := by simp [p2]
          have hB2 : Hid (c1B ⟨r, ⟨f, b, bo, un, tu⟩, p⟩ = decide (r = 0)) := by show _ = _; rw [hB.out, if_neg p0, if_neg p1, if_pos p2]; rfl
          clear p0 p1 p2 hB
          go_wp2
          go_ret
          exact ⟨by rw [hB2.out]; first | rfl | (simp; done), kb⟩
        · have e2 : (p == 2) = false := by simp [p2]
          have hB2 : Hid (c1B ⟨r, ⟨f, b, bo, un, tu⟩, p⟩ = false) := by show _ = _; rw [hB.out, if_neg p0, if_neg p1, if_neg p2]; rfl
          clear p0 p1 p2 hB
          go_wp2
          go_ret
          exact ⟨by rw [hB2.out]; rfl, kb⟩
set_option maxHeartbeats 1000000 in
theorem joins_any (a c : Ce) (w : World) :
    Calls Tryd.prog 30 #[ceV a, ceV c] w fun e w' => e = .returned (.bool (joinB a c)) ∧ Below w.heap.size w w' := by
  have hB : Hid (joinB a c = if a.part = 1 then decide (c.part = 2) && decide (c.st = a.st) else !decide (c.part = 2)) := rfl
  have kb : Below w.heap.size w ((w.alloc (Obj.cells #[.int .i64 a.rune, .int .i64 a.st.fore, .int .i64 a.st.back, .bool a.st.bold, .bool a.st.under, .bool a.st.turned, .int .i64 a.part] 48)).alloc (Obj.cells #[.int .i64 c.rune, .int .i64 c.st.fore, .int .i64 c.st.back, .bool c.st.bold, .bool c.st.under, .bool c.st.turned, .int .i64 c.part] 48)) := ((Below.refl _ _).alloc (Nat.le_refl _) _).alloc (by simp) _
  unfold ceV
  by_cases h1 : a.part = 1
  · have b1 : (a.part == 1) = true := by simp [h1]
    by_cases h2 : c.part = 2
    · have b2 : (c.part == 2) = true := by simp [h2]
      have hB2 : Hid (joinB a c = decide (c.st = a.st)) := by show _ = _; rw [hB.out, if_pos h1, decide_eq_true h2]; rfl
      clear h1 h2 hB
      go_enter Tryd.func30, Tryd.ntmps30
      go_wp2
      go_ret
      exact ⟨by rw [hB2.out]; first | rfl | (simp; done), kb⟩
    · have b2 : (c.part == 2) = false := by simp [h2]
      have hB2 : Hid (joinB a c = false) := by show _ = _; rw [hB.out, if_pos h1, decide_eq_false h2]; rfl
      clear h1 h2 hB
      go_enter Tryd.func30, Tryd.ntmps30
      go_wp2
      go_ret
      exact ⟨by rw [hB2.out]; first | rfl | (simp; done), kb⟩
  · have b1 : (a.part == 1) = false := by simp [h1]
    have hB2 : Hid (joinB a c = !decide (c.part = 2)) := by show _ = _; rw [hB.out, if_neg h1]
    clear h1 hB
    go_enter Tryd.func30, Tryd.ntmps30
    go_wp2
    go_ret
    exact ⟨by rw [hB2.out]; first | rfl | (simp; done), kb⟩
end Go.Proofs.YtngbndfnhpjmjabDoor
namespace Go.Proofs.YtngbndfnhpjmjabDoor
open Go.ChangeShapes Go.WideShapes Go.ChangeAt Go.RowKit
/-- A cell whole in block B, writable. -/
def CeF (w : World) (B : Nat) (c : Ce) : Prop :=
  B < w.heap.size ∧ (w.cell? ⟨B, 0, none⟩ = some (.int .i64 c.rune) ∧ w.cell? ⟨B, 1, none⟩ = some (.int .i64 c.st.fore) ∧ w.cell? ⟨B, 2, none⟩ = some (.int .i64 c.st.back) ∧ w.cell? ⟨B, 3, none⟩ = some (.bool c.st.bold) ∧ w.cell? ⟨B, 4, none⟩ = some (.bool c.st.under) ∧ w.cell? ⟨B, 5, none⟩ = some (.bool c.st.turned) ∧ w.cell? ⟨B, 6, none⟩ = some (.int .i64 c.part)) ∧
    (w.frozen? ⟨B, 0, none⟩ = false ∧ w.frozen? ⟨B, 1, none⟩ = false ∧ w.frozen? ⟨B, 2, none⟩ = false ∧ w.frozen? ⟨B, 3, none⟩ = false ∧ w.frozen? ⟨B, 4, none⟩ = false ∧ w.frozen? ⟨B, 5, none⟩ = false ∧ w.frozen? ⟨B, 6, none⟩ = false)
theorem CeF.new (w : World) (c : Ce) (t : TypeId) : CeF (w.alloc (.cells #[.int .i64 c.rune, .int .i64 c.st.fore, .int .i64 c.st.back, .bool c.st.bold, .bool c.st.under, .bool c.st.turned, .int .i64 c.part] t)) w.heap.size c :=
  ⟨by simp, ⟨by simp [go_sem], by simp [go_sem], by simp [go_sem], by simp [go_sem], by simp [go_sem], by simp [go_sem], by simp [go_sem]⟩, ⟨by simp [go_sem], by simp [go_sem], by simp [go_sem], by simp [go_sem], by simp [go_sem], by simp [go_sem], by simp [go_sem]⟩⟩
theorem CeF.grown {w w' : World} {B : Nat} {c : Ce} {row : Option Nat} (h : CeF w B c) (hg : w.grownBy w' row) (hr : row ≠ some B) : CeF w' B c := by
  have hb := hg.block B h.1 (Ne.symm hr)
  have hc : ∀ k, w'.cell? ⟨B, k, none⟩ = w.cell? ⟨B, k, none⟩ := fun k => World.cell?_of_block (w := w) hb
  have hz : ∀ k, w'.frozen? ⟨B, k, none⟩ = w.frozen? ⟨B, k, none⟩ := fun k => World.frozen?_of_block (w := w) hb
  refine ⟨Nat.lt_of_lt_of_le h.1 hg.size, ?_, ?_⟩
  · rw [hc, hc, hc, hc, hc, hc, hc]; exact h.2.1
  · rw [hz, hz, hz, hz, hz, hz, hz]; exact h.2.2
theorem CeF.below {w w' : World} {B : Nat} {c : Ce} (h : CeF w B c) (hb : Below w.heap.size w w') : CeF w' B c := h.grown (gbl hb none) (by simp)
/-- Another cell is written there whole. -/
def putF (w : World) (B : Nat) (c : Ce) : World := (((((((w.setCell ⟨B, 0, none⟩ (.int .i64 c.rune)).setCell ⟨B, 1, none⟩ (.int .i64 c.st.fore)).setCell ⟨B, 2, none⟩ (.int .i64 c.st.back)).setCell ⟨B, 3, none⟩ (.bool c.st.bold)).setCell ⟨B, 4, none⟩ (.bool c.st.under)).setCell ⟨B, 5, none⟩ (.bool c.st.turned)).setCell ⟨B, 6, none⟩ (.int .i64 c.part))
theorem putF_grown (w : World) (B : Nat) (c : Ce) : w.grownBy (putF w B c) (some B) :=
  grown_tr (grown_tr (grown_tr (grown_tr (grown_tr (grown_tr (setCell_gr w B 0 _) (setCell_gr _ B 1 _)) (setCell_gr _ B 2 _)) (setCell_gr _ B 3 _)) (setCell_gr _ B 4 _)) (setCell_gr _ B 5 _)) (setCell_gr _ B 6 _)
theorem CeF.put {w : World} {B : Nat} {c : Ce} (h : CeF w B c) (c' : Ce) : CeF (putF w B c') B c' := by
  obtain ⟨hlt, ⟨c0, c1, c2, c3, c4, c5, c6⟩, ⟨z0, z1, z2, z3, z4, z5, z6⟩⟩ := h
  refine ⟨by simpa [putF] using hlt, ⟨?_, ?_, ?_, ?_, ?_, ?_, ?_⟩, ⟨?_, ?_, ?_, ?_, ?_, ?_, ?_⟩⟩
  all_goals simp only [putF]
  · rw [setCell_ne' _ _ _ _ _ (by decide), setCell_ne' _ _ _ _ _ (by decide), setCell_ne' _ _ _ _ _ (by decide), setCell_ne' _ _ _ _ _ (by decide), setCell_ne' _ _ _ _ _ (by decide), setCell_ne' _ _ _ _ _ (by decide)]; simp [go_sem, c0]
  · rw [setCell_ne' _ _ _ _ _ (by decide), setCell_ne' _ _ _ _ _ (by decide), setCell_ne' _ _ _ _ _ (by decide), setCell_ne' _ _ _ _ _ (by decide), setCell_ne' _ _ _ _ _ (by decide)]; simp [go_sem, c1]
  · rw [setCell_ne' _ _ _ _ _ (by decide), setCell_ne' _ _ _ _ _ (by decide), setCell_ne' _ _ _ _ _ (by decide), setCell_ne' _ _ _ _ _ (by decide)]; simp [go_sem, c2]
  · rw [setCell_ne' _ _ _ _ _ (by decide), setCell_ne' _ _ _ _ _ (by decide), setCell_ne' _ _ _ _ _ (by decide)]; simp [go_sem, c3]
  · rw [setCell_ne' _ _ _ _ _ (by decide), setCell_ne' _ _ _ _ _ (by decide)]; simp [go_sem, c4]
  · rw [setCell_ne' _ _ _ _ _ (by decide)]; simp [go_sem, c5]
  · simp [go_sem, c6]
  · simp [go_sem, z0]
  · simp [go_sem, z1]
  · simp [go_sem, z2]
  · simp [go_sem, z3]
  · simp [go_sem, z4]
  · simp [go_sem, z5]
  · simp [go_sem, z6]
theorem SlC.src {w : World} {a : Option Addr} {n c : Nat} {xs : List Ce} (h : SlC w (.slice a n c) xs) (h0 : 0 < xs.length) : ∃ b off, a = some ⟨b, off, none⟩ ∧ ∀ i, i < xs.length → CeAt w b (off + i * 7) (atC xs i) := by
  obtain ⟨a', c', e, _, _, hr⟩ := h
  simp only [Value.slice.injEq] at e
  obtain ⟨rfl, _, rfl⟩ := e
  rcases hr with h | ⟨b, off, ha, _, hi⟩
  · rw [h] at h0; simp at h0
  · exact ⟨b, off, ha, hi⟩
end Go.Proofs.YtngbndfnhpjmjabDoor
namespace Go.Proofs.YtngbndfnhpjmjabDoor
open Go.ChangeShapes Go.WideShapes Go.ChangeAt Go.RowKit
def aheadC (xs : List Ce) (j : Nat) : Ce := if j = 0 then Ce.zero else atC xs (j - 1)
theorem aheadC_zero (xs : List Ce) : aheadC xs 0 = Ce.zero := rfl
theorem aheadC_succ (xs : List Ce) (j : Nat) : aheadC xs (j + 1) = atC xs j := by simp [aheadC]
theorem row_joins {xs : List Ce} (h : Right xs) (i : Nat) : joinB (aheadC xs i) (atC xs i) = true := by
  unfold joinB
  cases i with
  | zero =>
    rw [aheadC_zero, if_neg (by decide)]
    have : ¬ (atC xs 0).part = 2 := fun e => absurd (h.2.2 0 e).1 (by decide)
    simp [this]
  | succ i =>
    rw [aheadC_succ]
    by_cases e : (atC xs i).part = 1
    · have := h.2.1 i e
      rw [if_pos e]; simp [this.1, this.2]
    · rw [if_neg e]
      have : ¬ (atC xs (i + 1)).part = 2 := fun e2 => by
        have := (h.2.2 _ e2).2
        rw [Nat.add_sub_cancel] at this; exact e this
      simp [this]
theorem row_no_cell {xs : List Ce} {i : Nat} (hi : i < xs.length) (h : c1B (atC xs i) = false) : rowOkB xs = false := by
  cases hr : rowOkB xs with
  | false => rfl
  | true =>
    have := (c1B_iff _).2 (((right_iff xs).1 hr).2.1 i hi)
    rw [h] at this; cases this
theorem row_no_join {xs : List Ce} {i : Nat} (h : joinB (aheadC xs i) (atC xs i) = false) : rowOkB xs = false := by
  cases hr : rowOkB xs with
  | false => rfl
  | true =>
    have := row_joins ((right_iff xs).1 hr).2 i
    rw [h] at this; cases this
theorem row_end {xs : List Ce} (hl : 1 ≤ xs.length ∧ xs.length ≤ 60) (h : ∀ i, i < xs.length → c1B (atC xs i) = true ∧ joinB (aheadC xs i) (atC xs i) = true) : rowOkB xs = !decide ((aheadC xs xs.length).part = 1) := by
  have hlast : aheadC xs xs.length = atC xs (xs.length - 1) := by unfold aheadC; rw [if_neg (by omega)]
  by_cases e : (aheadC xs xs.length).part = 1
  · rw [decide_eq_true e]
    cases hr : rowOkB xs with
    | false => rfl
    | true =>
      rw [hlast] at e
      have := (((right_iff xs).1 hr).2.2.1 _ e).1
      rw [atC_ge (by omega)] at this
      exact absurd this (by decide)
  · rw [decide_eq_false e]
    show rowOkB xs = true
    rw [right_iff]
    refine ⟨hl, fun i hi => (c1B_iff _).1 (h i hi).1, fun i h1 => ?_, fun i h2 => ?_⟩
    · have hi : i < xs.length := part_lt (by rw [h1]; decide)
      by_cases c : i + 1 < xs.length
      · have := (h (i + 1) c).2
        unfold joinB at this
        rw [aheadC_succ, if_pos h1] at this
        simpa using this
      · exfalso
        rw [hlast, show xs.length - 1 = i by omega] at e
        exact e h1
    · have hi : i < xs.length := part_lt (by rw [h2]; decide)
      have := (h i hi).2
      unfold joinB at this
      cases i with
      | zero => rw [aheadC_zero, if_neg (by decide), h2] at this; simp at this
      | succ i =>
        rw [aheadC_succ] at this
        by_cases c : (atC xs i).part = 1
        · exact ⟨by omega, by rw [Nat.add_sub_cancel]; exact c⟩
        · rw [if_neg c, h2] at this; simp at this
set_option maxHeartbeats 4000000 in
set_option maxRecDepth 20000 in
theorem implRowOk_any (v : Value) (xs : List Ce) (w : World) (hS : SpansAt w) (hv : SlC w v xs) (hl : xs.length ≤ 1048576) :
    Calls Tryd.prog 21 #[v] w fun e w' => e = .returned (.bool (rowOkB xs)) ∧ Below w.heap.size w w' := by
  obtain ⟨a, c, rfl, hcp, hnc, _⟩ := id hv
  have hlt := hS.lt
  by_cases h0 : xs.length < 1
  · have h0i : (xs.length : Int) < 1 := by omega
    have hV : Hid (rowOkB xs = false) := rowOkB_len xs (by omega)
    go_enter Tryd.func21, Tryd.ntmps21
    go_wp2
    go_ret
    exact ⟨by rw [hV.out]; rfl, Below.refl _ _⟩
  · have h0i : ¬ (xs.length : Int) < 1 := by omega
    by_cases h60 : 60 < xs.length
    · have h60i : (60 : Int) < (xs.length : Int) := by omega
      have hV : Hid (rowOkB xs = false) := rowOkB_len xs (by omega)
      go_enter Tryd.func21, Tryd.ntmps21
      go_wp2
      go_ret
      exact ⟨by rw [hV.out]; rfl, Below.refl _ _⟩
    · have h60i : ¬ (60 : Int) < (xs.length : Int) := by omega
      have hco := fun c W h => cellOk_any c W h
      have hjo := fun a c W => joins_any a c W
      have hbA := bal' w (Obj.cells #[.int .i64 0, .int .i64 0, .int .i64 0, .bool false, .bool false, .bool false, .int .i64 0] 48)
      have hz := CeF.new w Ce.zero 48
      simp only [Ce.zero, St.zero] at hz
      unfold ceV at *
      go_enter Tryd.func21, Tryd.ntmps21
      go_wp2
      go_loopw [17, 5] (fun i _ wr => ∃ j : Nat, i = .int .i64 j ∧ j ≤ xs.length ∧ CeF wr w.heap.size (aheadC xs j) ∧ Below w.heap.size w wr ∧ Hid (∀ i, i < j → c1B (atC xs i) = true ∧ joinB (aheadC xs i) (atC xs i) = true)) (fun i _ _ => xs.length - (intOf i).toNat)
      case atStart => exact ⟨0, rfl, Nat.zero_le _, hz, hbA, fun i h => absurd h (Nat.not_lt_zero i)⟩
      case round =>
        clear hz hbA
        obtain ⟨j, rfl, hj, hA, hb, hall⟩ := hrel
        by_cases hlj : j < xs.length
        · have hji : (j : Int) < (xs.length : Int) := by omega
          have hj0 : (0 : Int) ≤ (j : Int) := by omega
          obtain ⟨b, off, rfl, hsrc⟩ := (hv.below hb).src (by omega)
          have hat := hsrc j hlj
          have hno1 := fun h => row_no_cell (xs := xs) hlj h
          have hno2 := fun h => row_no_join (xs := xs) (i := j) h
          have hsu : Hid (aheadC xs (j + 1) = atC xs j) := aheadC_succ xs j
          have hX := CeF.new wr (atC xs j) 48
          have hbX := bal' wr (Obj.cells #[.int .i64 (atC xs j).rune, .int .i64 (atC xs j).st.fore, .int .i64 (atC xs j).st.back, .bool (atC xs j).st.bold, .bool (atC xs j).st.under, .bool (atC xs j).st.turned, .int .i64 (atC xs j).part] 48)
          have hA1 := hA.below hbX
          have hb1 := hb.trans (hbX.mono hb.size)
          have hstep : c1B (atC xs j) = true → joinB (aheadC xs j) (atC xs j) = true → Hid (∀ i, i < j + 1 → c1B (atC xs i) = true ∧ joinB (aheadC xs i) (atC xs i) = true) := fun h1 h2 => (show ∀ i, i < j + 1 → c1B (atC xs i) = true ∧ joinB (aheadC xs i) (atC xs i) = true from fun i hi => by
            by_cases e : i = j
            · rw [e]; exact ⟨h1, h2⟩
            · exact hall.out i (by omega))
          obtain ⟨c0, c1, c2, c3, c4, c5, c6⟩ := hat
          have hne : w.heap.size ≠ wr.heap.size := by have := hA.1; omega
          generalize atC xs j = x at *
          generalize aheadC xs j = ah at *
          clear hsrc hall hA hb hbX
          go_wp2_with fail
          generalize wr.alloc (Obj.cells #[.int .i64 x.rune, .int .i64 x.st.fore, .int .i64 x.st.back, .bool x.st.bold, .bool x.st.under, .bool x.st.turned, .int .i64 x.part] 48) = W1 at *
          refine (hco x _ (hS.below hb1 hlt)).mono ?_
          rintro e w2 ⟨rfl, hb2⟩
          have hX2 := hX.below hb2
          have hA2 := hA1.below hb2
          have hb2' := hb1.trans (hb2.mono hb1.size)
          clear hX hA1 hb2 c0 c1 c2 c3 c4 c5 c6 hb1 hco
          cases hc1 : c1B x
          · have hV : Hid (rowOkB xs = false) := hno1 hc1
            clear hno1 hno2 hstep hc1 hX2 hA2 hjo
            go_wp2
            go_ret
            exact ⟨by rw [hV.out]; rfl, hb2'⟩
          · obtain ⟨_, ⟨c0, c1, c2, c3, c4, c5, c6⟩, _⟩ := id hX2
            obtain ⟨_, ⟨d0, d1, d2, d3, d4, d5, d6⟩, _⟩ := id hA2
            go_wp2_with fail
            refine (hjo ah x _).mono ?_
            rintro e w3 ⟨rfl, hb3⟩
            have hX3 := hX2.below hb3
            have hA3 := hA2.below hb3
            have hb3' := hb2'.trans (hb3.mono hb2'.size)
            clear hX2 hA2 hb3 c0 c1 c2 c3 c4 c5 c6 d0 d1 d2 d3 d4 d5 d6 hb2' hjo
            cases hc2 : joinB ah x
            · have hV : Hid (rowOkB xs = false) := hno2 hc2
              clear hno1 hno2 hstep hc1 hc2 hX3 hA3
              go_wp2
              go_ret
              exact ⟨by rw [hV.out]; rfl, hb3'⟩
            · have hall := hstep hc1 hc2
              have hAp := hA3.put x
              have hbp := hb3'.grown (putF_grown w3 w.heap.size x) hb3'.size (fun k hk => by cases hk; exact Nat.le_refl _)
              obtain ⟨_, ⟨c0, c1, c2, c3, c4, c5, c6⟩, _⟩ := id hX3
              obtain ⟨_, ⟨d0, d1, d2, d3, d4, d5, d6⟩, ⟨f0, f1, f2, f3, f4, f5, f6⟩⟩ := id hA3
              clear hno1 hno2 hstep hc1 hc2 hX3 hA3
              simp only [putF] at hAp hbp
              go_wp2
              go_roundw
              case rel => exact ⟨j + 1, by go_num, by omega, by rw [hsu.out]; exact hAp, hbp, hall⟩
              case measure => simp [intOf]; omega
        · have hjn : j = xs.length := by omega
          have hji : ¬ (j : Int) < (xs.length : Int) := by omega
          have hV : Hid (rowOkB xs = !decide ((aheadC xs xs.length).part = 1)) := row_end ⟨by omega, by omega⟩ (by rw [← hjn]; exact hall.out)
          rw [← hjn] at hV
          obtain ⟨_, ⟨d0, d1, d2, d3, d4, d5, d6⟩, _⟩ := id hA
          clear hco hjo hall
          generalize aheadC xs j = ah at *
          go_wp2
          go_ret
          exact ⟨by rw [hV.out]; first | rfl | (simp; done), hb⟩
end Go.Proofs.YtngbndfnhpjmjabDoor
namespace Go.Proofs.YtngbndfnhpjmjabDoor
open Go.ChangeShapes Go.WideShapes Go.ChangeAt Go.RowKit
theorem gridOk_of {cols : Int} {rows : List (List Ce)} (hn : 1 ≤ rows.length ∧ rows.length ≤ 30) (h : ∀ i, i < rows.length → fitB cols (rowX rows i) = true) : gridOkB cols rows = true := by
  rw [gridOk_iff]
  refine ⟨?_, hn, h⟩
  have h0 := h 0 (by omega)
  unfold fitB at h0
  rw [Bool.and_eq_true, decide_eq_true_eq] at h0
  have := ((right_iff _).1 h0.2).1
  omega
set_option maxHeartbeats 4000000 in
set_option maxRecDepth 20000 in
theorem implGridOk_any (cols : Int) (v : Value) (rows : List (List Ce)) (w : World) (hS : SpansAt w) (hv : SlG w v rows) (hl : rows.length ≤ 1048576) (hx : ∀ i, i < rows.length → (rowX rows i).length ≤ 1048576) :
    Calls Tryd.prog 13 #[gridV cols v] w fun e w' => e = .returned (.bool (gridOkB cols rows)) ∧ Below w.heap.size w w' := by
  have hb0 := bal' w (Obj.cells #[.int .i64 cols, v] 29)
  have hG0 := GrN.new w cols v 29
  obtain ⟨a, c, vs, rfl, hcp, _, hr, hs⟩ := id hv
  unfold gridV
  obtain ⟨_, g0, g1⟩ := id hG0
  by_cases hn1 : rows.length < 1
  · have hn1i : (rows.length : Int) < 1 := by omega
    have hV : Hid (gridOkB cols rows = false) := gridOk_len (by omega)
    clear hs hr
    go_enter Tryd.func13, Tryd.ntmps13
    go_wp2
    go_ret
    exact ⟨by rw [hV.out]; rfl, hb0⟩
  · have hn1i : ¬ (rows.length : Int) < 1 := by omega
    by_cases hn2 : 30 < rows.length
    · have hn2i : 30 < (rows.length : Int) := by omega
      have hV : Hid (gridOkB cols rows = false) := gridOk_len (by omega)
      clear hs hr
      go_enter Tryd.func13, Tryd.ntmps13
      go_wp2
      go_ret
      exact ⟨by rw [hV.out]; rfl, hb0⟩
    · have hn2i : ¬ 30 < (rows.length : Int) := by omega
      rcases hr with h | ⟨b, off, rfl, hbb, hrc⟩
      · rw [h] at hn1; simp at hn1
      go_enter Tryd.func13, Tryd.ntmps13
      go_wp2
      go_loopw [4, 18] (fun _ i wr => ∃ j : Nat, i = .int .i64 j ∧ j ≤ rows.length ∧ Hid (∀ k, k < j → fitB cols (rowX rows k) = true) ∧ GrN wr w.heap.size cols (.slice (some ⟨b, off, none⟩) rows.length c) ∧ Below w.heap.size w wr) (fun _ i _ => rows.length - (intOf i).toNat)
      case atStart => exact ⟨0, rfl, Nat.zero_le _, (fun k hk => absurd hk (Nat.not_lt_zero k)), hG0, hb0⟩
      case round =>
        clear hG0 hb0
        obtain ⟨j, rfl, hj, hall, hG, kb⟩ := hrel
        obtain ⟨_, g0, g1⟩ := id hG
        by_cases hlt : j < rows.length
        · have hji : (j : Int) < (rows.length : Int) := by omega
          have hj0 : (0 : Int) ≤ (j : Int) := by omega
          have hcj := (kb.cell (p := ⟨b, off + j, none⟩) hbb).trans (hrc j hlt)
          have hsj := (hs j hlt).below kb
          obtain ⟨aj, cj, ev, _⟩ := id hsj
          rw [ev] at hcj hsj
          have hno : fitB cols (rowX rows j) = false → Hid (gridOkB cols rows = false) := fun h => gridOk_no hlt h
          have hstep : fitB cols (rowX rows j) = true → Hid (∀ k, k < j + 1 → fitB cols (rowX rows k) = true) := fun h => (show ∀ k, k < j + 1 → fitB cols (rowX rows k) = true from fun k hk => by
            by_cases e : k = j
            · rw [e]; exact h
            · exact hall.out k (by omega))
          have hok := implRowOk_any _ _ wr (hS.below kb hS.lt) hsj (hx j hlt)
          have hfit : fitB cols (rowX rows j) = (decide (((rowX rows j).length : Int) = cols) && rowOkB (rowX rows j)) := rfl
          clear hs hrc ev hsj hall
          by_cases hc : ((rowX rows j).length : Int) = cols
          · have hcb : (((rowX rows j).length : Int) != cols) = false := by simp [hc]
            rw [decide_eq_true hc, Bool.true_and] at hfit
            rw [hfit] at hno hstep
            clear hfit
            generalize rowOkB (rowX rows j) = ok at *
            clear hc
            go_wp2_with fail
            refine hok.mono ?_
            rintro e w2 ⟨rfl, hb2⟩
            have hG2 := hG.below hb2
            have kb2 := kb.trans (hb2.mono kb.size)
            clear hG kb hb2 hok g0 g1
            cases ok
            · have hV := hno rfl
              clear hno hstep
              go_wp2
              go_ret
              exact ⟨by rw [hV.out]; rfl, kb2⟩
            · have hall2 := hstep rfl
              clear hno hstep
              go_wp2
              go_roundw
              case rel => exact ⟨j + 1, by go_num, by omega, hall2, hG2, kb2⟩
              case measure => simp [intOf]; omega
          · have hcb : (((rowX rows j).length : Int) != cols) = true := by simp [hc]
            rw [decide_eq_false hc, Bool.false_and] at hfit
            have hV := hno hfit
            clear hok hno hstep hfit hc
            go_wp2
            go_ret
            exact ⟨by rw [hV.out]; rfl, kb⟩
        · have hjn : j = rows.length := by omega
          have hji : ¬ (j : Int) < (rows.length : Int) := by omega
          have hV : Hid (gridOkB cols rows = true) := gridOk_of ⟨by omega, by omega⟩ (by rw [← hjn]; exact hall.out)
          subst hjn
          clear hs hrc hall
          go_wp2
          go_ret
          exact ⟨by rw [hV.out]; rfl, kb⟩
end Go.Proofs.YtngbndfnhpjmjabDoor
