/- Contracts of Width. -/
import Derived.Test.YteimcepkoclpbaaDoorJBase0
import Derived.Test.YteimcepkoclpbaaDoorJM2
import Derived.Laws.Rows
namespace Go.Proofs.YteimcepkoclpbaaDoor
open Go.ChangeShapes Go.WideShapes Go.ChangeAt Go.RowKit

theorem ret_i {a b : Int} (h : a = b) : Ending.returned (.int .i64 a) = .returned (.int .i64 b) := by rw [h]
set_option maxHeartbeats 1000000 in
theorem specWidth_any (r : Int) (w : World) :
    Calls Tryd.prog 23 #[.int .i64 r] w fun e w' => e = .returned (.int .i64 (widthV r)) ∧ w' = w := by
  by_cases hr : runeOk r = true
  · have hb := (runeOk_iff r).1 hr
    have hw : Hid (widthV r = if r < 32 ∨ (127 ≤ r ∧ r ≤ 159) ∨ (768 ≤ r ∧ r ≤ 879) then 0 else if (4352 ≤ r ∧ r ≤ 4447) ∨ (12288 ≤ r ∧ r ≤ 55295) ∨ (127744 ≤ r ∧ r ≤ 131071) then 2 else 1) := by show _ = _; simp [widthV, hr]
    go_enter Tryd.func23, Tryd.ntmps23
    go_wp2_with (first | (go_at_call 59; refine (specRuneOk_any _ _).mono ?_; rw [hr]; rintro e w' ⟨rfl, rfl⟩) | (go_at_call 49; refine (l1In_any _ _ _ _).mono ?_; rintro e w' ⟨rfl, rfl⟩))
    all_goals
      go_ret
      refine ⟨ret_i ?_, rfl⟩
      rw [hw.out]
      clear hw hr
      (try simp at *)
      omega
  · have hr : runeOk r = false := by simpa using hr
    have hw : Hid (widthV r = 0) := by show _ = _; simp [widthV, hr]
    go_enter Tryd.func23, Tryd.ntmps23
    go_wp2_with (first | (go_at_call 59; refine (specRuneOk_any _ _).mono ?_; rw [hr]; rintro e w' ⟨rfl, rfl⟩) | (go_at_call 49; refine (l1In_any _ _ _ _).mono ?_; rintro e w' ⟨rfl, rfl⟩))
    all_goals
      go_ret
      exact ⟨ret_i hw.out.symm, rfl⟩
end Go.Proofs.YteimcepkoclpbaaDoor
