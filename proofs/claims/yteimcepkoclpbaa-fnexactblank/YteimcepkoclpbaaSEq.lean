/- A style is like itself. -/
import Derived.Test.YteimcepkoclpbaaS0A
namespace Go.Proofs.Yteimcepkoclpbaa
open Go.ChangeShapes Go.WideShapes Go.ChangeAt Go.RowKit

theorem eqStyle_same (s : St) (w : World) :
    Calls Try.prog 18 #[stV s, stV s] w fun e w' => e = .returned (.bool true) ∧ Below w.heap.size w w' := by
  obtain ⟨f, b, bo, un, tu⟩ := s
  unfold stV
  simp only
  go_enter Try.func18, Try.ntmps18
  go_wp2
  go_ret
  exact ⟨rfl, ((Below.refl _ _).alloc (Nat.le_refl _) _).alloc (by simp) _⟩
end Go.Proofs.Yteimcepkoclpbaa
