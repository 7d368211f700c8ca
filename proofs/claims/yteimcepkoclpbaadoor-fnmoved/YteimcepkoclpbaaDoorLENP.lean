/- How long the answers on pushed and pulled rows are at most. -/
import Derived.Test.YteimcepkoclpbaaDoorRC8
import Derived.Test.YteimcepkoclpbaaDoorRP
namespace Go.Proofs.YteimcepkoclpbaaDoor

theorem pushedV_len (xs : List Ce) (f t : Int) (s : St) : (pushedV xs f t s).length ≤ 60 := by
  unfold pushedV
  split
  · rename_i h
    have := pushV_len xs f.toNat t.toNat s
    unfold pushV at this
    unfold pushL
    rw [this]; exact ((right_iff xs).1 h.1).1.2
  · simp
theorem pulledV_len (xs : List Ce) (f t : Int) (s : St) : (pulledV xs f t s).length ≤ 60 := by
  unfold pulledV
  split
  · rename_i h
    have h60 := ((right_iff xs).1 h.1).1.2
    have := pullV_len xs f.toNat t.toNat s (by have := h.2.2.1; omega)
    unfold pullV at this
    unfold pullL
    rw [this]; exact h60
  · simp
end Go.Proofs.YteimcepkoclpbaaDoor
