/- How long the answers on rows are at most. -/
import Derived.Test.YteimcepkoclpbaaDoorRC6
import Derived.Test.YteimcepkoclpbaaDoorRP
namespace Go.Proofs.YteimcepkoclpbaaDoor

theorem clearedV_len (xs : List Ce) (f t : Int) (s : St) : (clearedV xs f t s).length ≤ 60 := by
  unfold clearedV
  split
  · rename_i h; rw [clearL_len]; exact ((right_iff xs).1 h.1).1.2
  · simp
theorem writtenV_len (xs : List Ce) (p r : Int) (s : St) : (writtenV xs p r s).length ≤ 60 := by
  unfold writtenV
  split
  · rename_i h; rw [writeL_len]; exact ((right_iff xs).1 h.1).1.2
  · simp
end Go.Proofs.YteimcepkoclpbaaDoor
