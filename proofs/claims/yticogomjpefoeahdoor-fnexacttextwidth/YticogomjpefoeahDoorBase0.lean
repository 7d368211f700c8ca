/- Contracts of the rune functions. -/
import Derived.Test.YticogomjpefoeahDoorRows
import Derived.WalkKit
import Derived.ProofKit
import Derived.OpenShut
import Derived.ShutString
import Derived.LoopN
import Derived.Test.YticogomjpefoeahDoorM1
namespace Go.Proofs.YticogomjpefoeahDoor
open Go.ChangeShapes Go.WideShapes Go.ChangeAt Go.RowKit

theorem ret_bool {a b : Bool} (h : a = b) : Ending.returned (.bool a) = .returned (.bool b) := by rw [h]

theorem l1In_any (x lo hi : Int) (w : World) :
    Calls Tryd.prog 13 #[.int .i64 x, .int .i64 lo, .int .i64 hi] w fun e w' => e = .returned (.bool (decide (lo ≤ x ∧ x ≤ hi))) ∧ w' = w := by
  by_cases h1 : lo ≤ x
  · go_enter Tryd.func13, Tryd.ntmps13
    go_wp2
    go_ret
    exact ⟨ret_bool (by simp [h1]), rfl⟩
  · go_enter Tryd.func13, Tryd.ntmps13
    go_wp2
    go_ret
    exact ⟨ret_bool (by simp; omega), rfl⟩

theorem implRuneOk_any (r : Int) (w : World) :
    Calls Tryd.prog 14 #[.int .i64 r] w fun e w' => e = .returned (.bool (runeOk r)) ∧ w' = w := by
  go_enter Tryd.func14, Tryd.ntmps14
  go_wp2
  all_goals
    go_ret
    exact ⟨ret_bool (runeOk_is _ _ (by simp <;> omega)), rfl⟩

set_option maxHeartbeats 400000 in
theorem specRuneOk_any (r : Int) (w : World) :
    Calls Tryd.prog 12 #[.int .i64 r] w fun e w' => e = .returned (.bool (runeOk r)) ∧ w' = w := by
  go_enter Tryd.func12, Tryd.ntmps12
  go_wp2_with (go_at_call 13; refine (l1In_any _ _ _ _).mono ?_; rintro e w' ⟨rfl, rfl⟩)
  all_goals
    go_ret
    exact ⟨ret_bool (runeOk_is _ _ (by simp <;> omega)), rfl⟩

end Go.Proofs.YticogomjpefoeahDoor
