/- Contracts of the rune functions. -/
import Derived.Test.YteimcepkoclpbaaDoorBase0S
namespace Go.Proofs.YteimcepkoclpbaaDoor
open Go.ChangeShapes Go.WideShapes Go.ChangeAt Go.RowKit

theorem implRuneOk_any (r : Int) (w : World) :
    Calls Tryd.prog 69 #[.int .i64 r] w fun e w' => e = .returned (.bool (runeOk r)) ∧ w' = w := by
  go_enter Tryd.func69, Tryd.ntmps69
  go_wp2
  all_goals
    go_ret
    exact ⟨ret_bool (runeOk_is _ _ (by simp <;> omega)), rfl⟩

set_option maxHeartbeats 400000 in
theorem specRuneOk_any (r : Int) (w : World) :
    Calls Tryd.prog 59 #[.int .i64 r] w fun e w' => e = .returned (.bool (runeOk r)) ∧ w' = w := by
  go_enter Tryd.func59, Tryd.ntmps59
  go_wp2_with (go_at_call 49; refine (l1In_any _ _ _ _).mono ?_; rintro e w' ⟨rfl, rfl⟩)
  all_goals
    go_ret
    exact ⟨ret_bool (runeOk_is _ _ (by simp <;> omega)), rfl⟩

end Go.Proofs.YteimcepkoclpbaaDoor
