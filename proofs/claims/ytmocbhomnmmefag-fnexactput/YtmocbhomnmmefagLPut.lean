/- The walk of the law of Put. -/
import Derived.Test.YtmocbhomnmmefagPut
namespace Go.Proofs.Ytmocbhomnmmefag
open Go.ChangeShapes Go.WideShapes Go.ChangeAt Go.RowKit
set_option linter.unusedVariables false
theorem walk_FnExactPut (w : World) (r : Int) (_wf : (Lit.int .i64 r).wf = true) :
    Calls Try.prog 3 #[.int .i64 r] w fun e w' => e = .returned (.bool true) ∧ Below w.heap.size w w' := by
  go_enter Try.func3, Try.ntmps3
  go_wp2_with (first | (go_at_call 10; refine (implPut_any _ _).mono ?_; rintro e w1 ⟨rfl, hb1⟩) | (go_at_call 9; refine (specPut_any _ _).mono ?_; rintro e w2 ⟨rfl, hb2⟩))
  go_ret
  trace_state
  exact ⟨rfl, hb2.trans (hb1.mono hb2.size)⟩
end Go.Proofs.Ytmocbhomnmmefag
