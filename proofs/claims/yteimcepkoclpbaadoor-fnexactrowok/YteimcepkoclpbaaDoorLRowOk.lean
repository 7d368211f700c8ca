/- The walk of the exact law of RowOk. The program's contract is its hypothesis. -/
import Derived.Test.YteimcepkoclpbaaDoorKE
import Derived.Test.YteimcepkoclpbaaDoorRC4
import Derived.Test.YteimcepkoclpbaaDoorRK5
namespace Go.Proofs.YteimcepkoclpbaaDoor
open Go.ChangeShapes Go.WideShapes Go.ChangeAt Go.RowKit

set_option maxHeartbeats 4000000 in
set_option maxRecDepth 20000 in
theorem walk_FnExactRowOk' (w : World) (v : Value) (xs : List Ce) (y : Bool) (hv : SlC w v xs) (hl0 : xs.length ≤ maxLen)
    (hsp : ∀ v W, SlC W v xs → xs.length ≤ 1048576 → Calls Tryd.prog 20 #[v] W fun e w' => e = .returned (.bool y) ∧ Below W.heap.size W w')
    (him : ∀ v W, Below w.heap.size w W → SlC W v xs → xs.length ≤ 1048576 → Calls Tryd.prog 19 #[v] W fun e w' => e = .returned (.bool y) ∧ Below W.heap.size W w') :
    Calls Tryd.prog 5 #[v] w fun e w' => e = .returned (.bool true) ∧ Below w.heap.size w w' := by
  obtain ⟨a, c, rfl, hcp, hnc, _⟩ := id hv
  have hz := fun W h => szC_any (.slice a xs.length c) xs 1048576 W h hl0 (by decide)
  by_cases hL : xs.length ≤ 1048576
  · have hne : ¬ (1048576 < xs.length) := by omega
    rw [if_neg hne] at hz
    have hzz : ¬ (((1048576 - xs.length : Nat) : Int) < 0) := by omega
    generalize 1048576 - xs.length = zz at *
    clear hnc
    go_enter Tryd.func5, Tryd.ntmps5
    go_wp2_with fail
    refine (hz _ hv).mono ?_
    rintro e w1 ⟨rfl, hw⟩
    subst hw
    go_wp2_with fail
    refine (toCS_copy _ xs _ hv (by omega)).mono ?_
    rintro e w2 ⟨u1, rfl, ho2, hb2⟩
    go_wp2_with fail
    refine (hsp _ _ (SlC.of_own ho2) hL).mono ?_
    rintro e w3 ⟨rfl, hb⟩
    have kb3 := hb2.trans (hb.mono hb2.size)
    clear ho2 hb2 hb
    go_wp2_with fail
    refine (toCS_copy _ xs _ (hv.below kb3) (by omega)).mono ?_
    rintro e w4 ⟨ux, rfl, ho4, hb⟩
    have kb4 := kb3.trans (hb.mono kb3.size)
    clear kb3 hb
    go_wp2_with fail
    refine (him _ _ kb4 (SlC.of_own ho4) hL).mono ?_
    rintro e w5 ⟨rfl, hb⟩
    have kb5 := kb4.trans (hb.mono kb4.size)
    have ho5 := ho4.below hb
    clear kb4 hb ho4
    cases y
    all_goals
      go_wp2_with fail
      refine (toCS_copy _ xs _ (hv.below kb5) (by omega)).mono ?_
      rintro e w6 ⟨uy, rfl, ho6, hb⟩
      have kb6 := kb5.trans (hb.mono kb5.size)
      have hx6 := ho5.below hb
      clear kb5 hb ho5
      go_wp2_with fail
      refine (eqC_same _ _ xs _ (SlC.of_own hx6) (SlC.of_own ho6) (by omega)).mono ?_
      rintro e w7 ⟨rfl, hb⟩
      have kb7 := kb6.trans (hb.mono kb6.size)
      clear hx6 ho6 hb kb6
      go_wp2
      go_ret
      exact ⟨rfl, kb7⟩
  · have hne : 1048576 < xs.length := by omega
    rw [if_pos hne] at hz
    clear hsp him
    go_enter Tryd.func5, Tryd.ntmps5
    go_wp2_with fail
    refine (hz _ hv).mono ?_
    rintro e w1 ⟨rfl, hw⟩
    subst hw
    go_wp2
    go_ret
    exact ⟨rfl, Below.refl _ _⟩
theorem walk_FnExactRowOk (w : World) (hS : SpansAt w) (v : Value) (xs : List Ce) (hv : SlC w v xs) (hl0 : xs.length ≤ maxLen) :
    Calls Tryd.prog 5 #[v] w fun e w' => e = .returned (.bool true) ∧ Below w.heap.size w w' :=
  walk_FnExactRowOk' w v xs (rowOkB xs) hv hl0 (fun v W h hl => specRowOk_any v xs W h hl) (fun v W hb h hl => implRowOk_any v xs W (hS.below hb hS.lt) h hl)
end Go.Proofs.YteimcepkoclpbaaDoor
