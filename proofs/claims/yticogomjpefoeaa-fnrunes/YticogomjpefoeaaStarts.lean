/- Contracts of Starts. -/
import Derived.Test.YticogomjpefoeaaM7
import Derived.Test.YticogomjpefoeaaBase0
namespace Go.Proofs.Yticogomjpefoeaa
open Go.ChangeShapes Go.WideShapes Go.ChangeAt Go.RowKit
theorem implStarts_s (b : Int) (w : World) :
    Calls Try.prog 20 #[.int .u8 b] w fun e w' => e = .returned (.bool (stB b)) ∧ w' = w := by
  by_cases h1 : b < 128
  · go_enter Try.func20, Try.ntmps20
    go_wp2
    go_ret
    exact ⟨ret_bool (by simp [stB, h1]), rfl⟩
  · go_enter Try.func20, Try.ntmps20
    go_wp2
    go_ret
    exact ⟨ret_bool (by simp [stB]; omega), rfl⟩
theorem specStarts_s (b : Int) (w : World) :
    Calls Try.prog 21 #[.int .u8 b] w fun e w' => e = .returned (.bool (stB b)) ∧ w' = w := by
  by_cases h1 : b < 128
  · go_enter Try.func21, Try.ntmps21
    go_wp2
    go_ret
    exact ⟨ret_bool (by simp [stB, h1]), rfl⟩
  · go_enter Try.func21, Try.ntmps21
    go_wp2
    go_ret
    exact ⟨ret_bool (by simp [stB]; omega), rfl⟩
end Go.Proofs.Yticogomjpefoeaa
