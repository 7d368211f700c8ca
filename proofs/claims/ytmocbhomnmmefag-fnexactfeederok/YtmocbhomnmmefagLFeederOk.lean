/- The walk of the law of FeederOk. -/
import Derived.Test.YtmocbhomnmmefagFeederOk
namespace Go.Proofs.Ytmocbhomnmmefag
open Go.ChangeShapes Go.WideShapes Go.ChangeAt Go.RowKit

theorem walk_FnExactFeederOk (w : World) (h : ByteArray) (hs : h.size ≤ maxLen) :
    Calls Try.prog 8 #[.agg #[.string h]] w fun e w' => e = .returned (.bool true) ∧ Below w.heap.size w w' := by
  have hy0 := fun o => (Below.refl w.heap.size w).alloc (Nat.le_refl _) o
  have hsz := fun W => szFeeder_any h 1048576 W hs (by omega)
  by_cases hl : 1048576 - (h.size : Int) < 0
  · have hsz := fun W => by have := hsz W; rw [if_pos hl] at this; exact this
    go_enter Try.func8, Try.ntmps8
    go_wp2_with fail
    refine (hsz _).mono ?_
    rintro e w1 ⟨rfl, hb1⟩
    go_wp2
    go_ret
    exact ⟨rfl, (hy0 _).trans (hb1.mono (by simp))⟩
  · have hsz := fun W => by have := hsz W; rw [if_neg hl] at this; exact this
    go_enter Try.func8, Try.ntmps8
    go_wp2_with fail
    refine (hsz _).mono ?_
    rintro e w1 ⟨rfl, hb1⟩
    have hbl := (hy0 _).trans (hb1.mono (by simp))
    have hc : w1.cell? ⟨w.heap.size, 0, none⟩ = some (.string h) := (hb1.cell (p := ⟨w.heap.size, 0, none⟩) (by simp)).trans (by simp [go_sem])
    have hz1 : w.heap.size < w1.heap.size := by have := hb1.size; simp at this; omega
    clear hb1 hsz
    go_wp2_with fail
    refine (toFeeder_any h _).mono ?_
    rintro e w2 ⟨rfl, hb2⟩
    have hbl2 := hbl.trans (hb2.mono hbl.size)
    have hc2 := (hb2.cell (p := ⟨w.heap.size, 0, none⟩) hz1).trans hc
    have hz2 := Nat.lt_of_lt_of_le hz1 hb2.size
    clear hb2 hbl hc hz1
    go_wp2_with fail
    refine (specFeederOk_any h _).mono ?_
    rintro e w3 ⟨rfl, hb3⟩
    have hbl3 := hbl2.trans (hb3.mono hbl2.size)
    have hc3 := (hb3.cell (p := ⟨w.heap.size, 0, none⟩) hz2).trans hc2
    have hz3 := Nat.lt_of_lt_of_le hz2 hb3.size
    clear hb3 hbl2 hc2 hz2
    go_wp2_with fail
    refine (toFeeder_any h _).mono ?_
    rintro e w4 ⟨rfl, hb4⟩
    have hbl4 := hbl3.trans (hb4.mono hbl3.size)
    clear hb4 hbl3 hc3 hz3
    go_wp2_with fail
    refine (implFeederOk_any h _).mono ?_
    rintro e w5 ⟨rfl, hb5⟩
    go_wp2
    go_ret
    exact ⟨rfl, hbl4.trans (hb5.mono hbl4.size)⟩
end Go.Proofs.Ytmocbhomnmmefag
