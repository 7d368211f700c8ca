/- The walk of the law of Text. -/
import Derived.Test.YtmocbhomnmmefagIText
namespace Go.Proofs.Ytmocbhomnmmefag
open Go.ChangeShapes Go.WideShapes Go.ChangeAt Go.RowKit

theorem bdM {B : Nat} {a w : World} (h : Below B a w) (n : Nat) : Below B a (w.drewN n) := ⟨h.os, h.tape, h.output, h.size, h.block⟩
theorem walk_FnExactText (w : World) (a : Option Addr) (len cap : Nat) (zs : List Int) (hr : IsRow .i64 w a len cap zs) :
    Calls Try.prog 7 #[.slice a len cap] w fun e w' => e = .returned (.bool true) ∧ Below w.heap.size w w' := by
  obtain ⟨hv, hlen⟩ := SlI.of_row hr
  clear hr
  generalize zs.take len = xs at *
  by_cases hL : (len : Int) ≤ 1048576
  · have hxl : xs.length ≤ 1048576 := by omega
    clear hlen
    go_enter Try.func7, Try.ntmps7
    go_wp2_with fail
    refine (toI_copy _ xs _ hv (by omega)).mono ?_
    rintro e w1 ⟨v1, rfl, ho1, hb1⟩
    go_wp2_with fail
    refine (specText_any _ xs _ (SlI.of_own ho1) hxl).mono ?_
    rintro e w2 ⟨rfl, hb2⟩
    have hb2' := hb1.trans (hb2.mono hb1.size)
    go_wp2_with fail
    refine (toI_copy _ xs _ (hv.below hb2') (by omega)).mono ?_
    rintro e w3 ⟨v3, rfl, ho3, hb3⟩
    have hb3' := hb2'.trans (hb3.mono hb2'.size)
    go_wp2_with fail
    refine (implText_any _ xs _ (SlI.of_own ho3) hxl).mono ?_
    rintro e w4 ⟨rfl, hb4⟩
    have hb4' := hb3'.trans (hb4.mono hb3'.size)
    go_wp2_with fail
    refine (toI_copy _ xs _ (hv.below hb4') (by omega)).mono ?_
    rintro e w5 ⟨v5, rfl, ho5, hb5⟩
    have hb5' := hb4'.trans (hb5.mono hb4'.size)
    go_wp2_with fail
    refine (eqI_same _ _ xs _ (SlI.of_own ((ho3.below hb4).below hb5)) (SlI.of_own ho5) (by omega)).mono ?_
    rintro e w6 ⟨rfl, n6, rfl⟩
    go_wp2
    go_ret
    exact ⟨rfl, bdM hb5' n6⟩
  · go_enter Try.func7, Try.ntmps7
    go_wp2
    go_ret
    exact ⟨rfl, Below.refl _ _⟩
end Go.Proofs.Ytmocbhomnmmefag
