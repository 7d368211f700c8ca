/- The walk of the law of Width. -/
import Derived.Test.YticogomjpefoeahDoorW1
namespace Go.Proofs.YticogomjpefoeahDoor
open Go.ChangeShapes Go.WideShapes Go.ChangeAt Go.RowKit
theorem walk_FnExactWidth (w : World) (hS : SpansAt w) (r : Int) (_hr : (Lit.int .i64 r).wf = true) :
    Calls Tryd.prog 3 #[.int .i64 r] w fun e w' => e = .returned (.bool true) ∧ Below w.heap.size w w' := by
  go_enter Tryd.func3, Tryd.ntmps3
  go_wp2_with fail
  refine (specWidth_any r _).mono ?_
  rintro e w1 ⟨rfl, hw1⟩
  subst hw1
  go_wp2_with fail
  refine (implWidth_any r _ hS).mono ?_
  rintro e w2 ⟨rfl, hb2⟩
  go_wp2
  go_ret
  exact ⟨rfl, hb2⟩
end Go.Proofs.YticogomjpefoeahDoor
