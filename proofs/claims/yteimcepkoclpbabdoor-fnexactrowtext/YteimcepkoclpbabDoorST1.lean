/- The laws' own copy of a style. -/
import Derived.Test.YteimcepkoclpbabDoorS0A
namespace Go.Proofs.YteimcepkoclpbabDoor
open Go.ChangeShapes Go.WideShapes Go.ChangeAt Go.RowKit

theorem toStyle_any (s : St) (w : World) :
    Calls Tryd.prog 9 #[stV s] w fun e w' => e = .returned (stV s) ∧ Below w.heap.size w w' := by
  obtain ⟨f, b, bo, un, tu⟩ := s
  unfold stV
  simp only
  go_enter Tryd.func9, Tryd.ntmps9
  go_wp2
  refine bodyPost_ret (v := .agg #[.int .i64 f, .int .i64 b, .bool bo, .bool un, .bool tu]) (by simp [results, Tryd.results9, go_sem]) rfl ⟨rfl, ?_⟩
  exact (((Below.refl _ _).alloc (Nat.le_refl _) _).alloc (by simp) _).alloc (by simp; omega) _
end Go.Proofs.YteimcepkoclpbabDoor
