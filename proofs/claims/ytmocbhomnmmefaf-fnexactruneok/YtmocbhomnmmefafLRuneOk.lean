/- The walk of the law of RuneOk. -/
import Derived.Test.YtmocbhomnmmefafBase0
namespace Go.Proofs.Ytmocbhomnmmefaf
open Go.ChangeShapes Go.WideShapes Go.ChangeAt Go.RowKit
theorem walk_FnExactRuneOk (w : World) (r : Int) (_wf : (Lit.int .i64 r).wf = true) :
    Calls Try.prog 3 #[.int .i64 r] w fun e w' => e = .returned (.bool true) ∧ Below w.heap.size w w' := by
  go_enter Try.func3, Try.ntmps3
  go_wp2_with (first | (go_at_call 5; refine (implRuneOk_any _ _).mono ?_; rintro e w1 ⟨rfl, rfl⟩) | (go_at_call 4; refine (specRuneOk_any _ _).mono ?_; rintro e w2 ⟨rfl, rfl⟩))
  go_ret
  exact ⟨rfl, Below.refl _ _⟩
end Go.Proofs.Ytmocbhomnmmefaf
