/- Contracts of spec.l1Put, and bytes made a string. -/
import Derived.Test.YteimcepkoclpbabDoorBase1
import Derived.Laws.BytesArg
namespace Go.Proofs.YteimcepkoclpbabDoor
open Go.ChangeShapes Go.WideShapes Go.ChangeAt Go.RowKit
theorem make_1 (w : World) : (Instr.makeSlice 50 (.int .i64 1) (.int .i64 1)).run Tryd.prog w = .ok (.slice (some ⟨w.heap.size, 0, none⟩) 1 1) (w.alloc (.cells #[.int .u8 0] 5)) := by kernel_rfl
theorem conv_1 (w : World) (g : Nat) (hg : g = w.heap.size) (a : Int) : (convert 50 9 (.slice (some ⟨g, 0, none⟩) 1 1)).run Tryd.prog (w.alloc (.cells #[.int .u8 a] 5)) = .ok (.string (strOfNums [a])) (w.alloc (.cells #[.int .u8 a] 5))   := by
  subst hg
  refine run_convert_bytes_arg _ 50 5 Tryd.underlying50 Tryd.underlying5 _ 0 1 1 [a] rfl ?_ _ Tryd.underlying9
  intro i hi
  match i, hi with
  | 0, _ => simp [go_sem]
theorem make_2 (w : World) : (Instr.makeSlice 50 (.int .i64 2) (.int .i64 2)).run Tryd.prog w = .ok (.slice (some ⟨w.heap.size, 0, none⟩) 2 2) (w.alloc (.cells #[.int .u8 0, .int .u8 0] 5)) := by kernel_rfl
theorem conv_2 (w : World) (g : Nat) (hg : g = w.heap.size) (a b : Int) : (convert 50 9 (.slice (some ⟨g, 0, none⟩) 2 2)).run Tryd.prog (w.alloc (.cells #[.int .u8 a, .int .u8 b] 5)) = .ok (.string (strOfNums [a, b])) (w.alloc (.cells #[.int .u8 a, .int .u8 b] 5))   := by
  subst hg
  refine run_convert_bytes_arg _ 50 5 Tryd.underlying50 Tryd.underlying5 _ 0 2 2 [a, b] rfl ?_ _ Tryd.underlying9
  intro i hi
  match i, hi with
  | 0, _ => simp [go_sem]
  | 1, _ => simp [go_sem]
theorem make_3 (w : World) : (Instr.makeSlice 50 (.int .i64 3) (.int .i64 3)).run Tryd.prog w = .ok (.slice (some ⟨w.heap.size, 0, none⟩) 3 3) (w.alloc (.cells #[.int .u8 0, .int .u8 0, .int .u8 0] 5)) := by kernel_rfl
theorem conv_3 (w : World) (g : Nat) (hg : g = w.heap.size) (a b c : Int) : (convert 50 9 (.slice (some ⟨g, 0, none⟩) 3 3)).run Tryd.prog (w.alloc (.cells #[.int .u8 a, .int .u8 b, .int .u8 c] 5)) = .ok (.string (strOfNums [a, b, c])) (w.alloc (.cells #[.int .u8 a, .int .u8 b, .int .u8 c] 5))   := by
  subst hg
  refine run_convert_bytes_arg _ 50 5 Tryd.underlying50 Tryd.underlying5 _ 0 3 3 [a, b, c] rfl ?_ _ Tryd.underlying9
  intro i hi
  match i, hi with
  | 0, _ => simp [go_sem]
  | 1, _ => simp [go_sem]
  | 2, _ => simp [go_sem]
theorem make_4 (w : World) : (Instr.makeSlice 50 (.int .i64 4) (.int .i64 4)).run Tryd.prog w = .ok (.slice (some ⟨w.heap.size, 0, none⟩) 4 4) (w.alloc (.cells #[.int .u8 0, .int .u8 0, .int .u8 0, .int .u8 0] 5)) := by kernel_rfl
theorem conv_4 (w : World) (g : Nat) (hg : g = w.heap.size) (a b c d : Int) : (convert 50 9 (.slice (some ⟨g, 0, none⟩) 4 4)).run Tryd.prog (w.alloc (.cells #[.int .u8 a, .int .u8 b, .int .u8 c, .int .u8 d] 5)) = .ok (.string (strOfNums [a, b, c, d])) (w.alloc (.cells #[.int .u8 a, .int .u8 b, .int .u8 c, .int .u8 d] 5))   := by
  subst hg
  refine run_convert_bytes_arg _ 50 5 Tryd.underlying50 Tryd.underlying5 _ 0 4 4 [a, b, c, d] rfl ?_ _ Tryd.underlying9
  intro i hi
  match i, hi with
  | 0, _ => simp [go_sem]
  | 1, _ => simp [go_sem]
  | 2, _ => simp [go_sem]
  | 3, _ => simp [go_sem]

theorem ret_str {a b : ByteArray} (h : a = b) : Ending.returned (.string a) = .returned (.string b) := by rw [h]
theorem l1PutA_1 (r : Int) (w : World) (hb : 0 ≤ r ∧ r ≤ 1114111) (h : r < 128) :
    Calls Tryd.prog 52 #[.int .i64 r] w fun e w' => e = .returned (.slice (some ⟨w.heap.size, 0, none⟩) 1 1) ∧ w' = w.alloc (.cells #[.int .u8 r] 5) := by
  go_enter Tryd.func52, Tryd.ntmps52
  go_wp2
  go_ret
  exact ⟨rfl, rfl⟩

theorem l1PutA_2 (r : Int) (w : World) (hb : 0 ≤ r ∧ r ≤ 1114111) (h0 : 128 ≤ r) (h : r < 2048) :
    Calls Tryd.prog 52 #[.int .i64 r] w fun e w' => e = .returned (.slice (some ⟨w.heap.size, 0, none⟩) 2 2) ∧ w' = w.alloc (.cells #[.int .u8 (192 + r / 64), .int .u8 (128 + r % 64)] 5) := by
  go_enter Tryd.func52, Tryd.ntmps52
  go_wp2
  go_ret
  exact ⟨rfl, rfl⟩

theorem l1PutA_3 (r : Int) (w : World) (hb : 0 ≤ r ∧ r ≤ 1114111) (h0 : 2048 ≤ r) (h : r < 65536) :
    Calls Tryd.prog 52 #[.int .i64 r] w fun e w' => e = .returned (.slice (some ⟨w.heap.size, 0, none⟩) 3 3) ∧ w' = w.alloc (.cells #[.int .u8 (224 + r / 4096), .int .u8 (128 + r / 64 % 64), .int .u8 (128 + r % 64)] 5) := by
  go_enter Tryd.func52, Tryd.ntmps52
  go_wp2
  go_ret
  exact ⟨rfl, rfl⟩

theorem l1PutA_4 (r : Int) (w : World) (hb : 0 ≤ r ∧ r ≤ 1114111) (h0 : 65536 ≤ r) :
    Calls Tryd.prog 52 #[.int .i64 r] w fun e w' => e = .returned (.slice (some ⟨w.heap.size, 0, none⟩) 4 4) ∧ w' = w.alloc (.cells #[.int .u8 (240 + r / 262144), .int .u8 (128 + r / 4096 % 64), .int .u8 (128 + r / 64 % 64), .int .u8 (128 + r % 64)] 5) := by
  go_enter Tryd.func52, Tryd.ntmps52
  go_wp2
  go_ret
  exact ⟨rfl, rfl⟩

end Go.Proofs.YteimcepkoclpbabDoor
