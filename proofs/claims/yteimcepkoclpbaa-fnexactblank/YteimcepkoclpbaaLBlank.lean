/- The walk of the exact law of Blank. -/
import Derived.Test.YteimcepkoclpbaaKEA
import Derived.Test.YteimcepkoclpbaaRK6
namespace Go.Proofs.Yteimcepkoclpbaa
open Go.ChangeShapes Go.WideShapes Go.ChangeAt Go.RowKit

theorem blankV_len (n : Int) (s : St) : (blankV n s).length ≤ 60 := by
  unfold blankV
  split
  · rw [rowL_len]; omega
  · simp
set_option maxHeartbeats 8000000 in
set_option maxRecDepth 20000 in
theorem walk_FnExactBlank (w : World) (n : Int) (_hn : (Lit.int .i64 n).wf = true) (s : St) :
    Calls Try.prog 3 #[.int .i64 n, stV s] w fun e w' => e = .returned (.bool true) ∧ Below w.heap.size w w' := by
  have hbA := bal' w (Obj.cells #[.int .i64 s.fore, .int .i64 s.back, .bool s.bold, .bool s.under, .bool s.turned] 23)
  have k0 : KE w.heap.size s (.slice none 0 0) [] w (w.alloc (Obj.cells #[.int .i64 s.fore, .int .i64 s.back, .bool s.bold, .bool s.under, .bool s.turned] 23)) := ⟨StAt.new w s _, ⟨none, 0, rfl, Nat.le_refl _, fun _ => rfl, .inl rfl⟩, hbA⟩
  have hto := fun W => toStyle_any s W
  have hsp := fun W => specBlank_any n s W
  have him := fun W => implBlank_any n s W
  have hY : (blankV n s).length ≤ 1073741824 := Nat.le_trans (blankV_len n s) (by omega)
  generalize blankV n s = Y at *
  have hmy := fun base u W h => markC_own base u 1 Y W h (by decide) hY
  have hhy := fun u W h => heldC_marks u 1 Y.length W h (by decide) hY
  have ny : ¬ (((1 + 7 * Y.length : Nat) : Int) < 0) := by omega
  generalize 1 + 7 * Y.length = MY at *
  clear hbA
  unfold stV at *
  go_enter Try.func3, Try.ntmps3
  have c0 := k0.all
  obtain ⟨c0, c1, c2, c3, c4, _⟩ := c0
  go_wp2_with fail
  generalize w.alloc (Obj.cells #[.int .i64 s.fore, .int .i64 s.back, .bool s.bold, .bool s.under, .bool s.turned] 23) = W0 at *
  refine (hto _).mono ?_
  rintro e w1 ⟨rfl, hb⟩
  have k1 := k0.below hb
  clear k0 c0 c1 c2 c3 c4 hb
  go_wp2_with fail
  refine (hsp _).mono ?_
  rintro e w2 ⟨uw, rfl, hw2, hb⟩
  have k2 := k1.below hb
  have y2 : SlU w2.heap.size w2 uw Y := SlU.of (SlC.of_own hw2)
  have hBc : w.heap.size < w2.heap.size := k2.1.1
  clear k1 hb hw2
  obtain ⟨c0, c1, c2, c3, c4, _⟩ := id k2.all
  go_wp2_with fail
  refine (hto _).mono ?_
  rintro e w3 ⟨rfl, hb⟩
  have k3 := k2.below hb
  have y3 := y2.below hb
  have hs3 := hb.size
  clear k2 y2 hb c0 c1 c2 c3 c4
  go_wp2_with fail
  refine (him _).mono ?_
  rintro e w4 ⟨ug, rfl, hg4, hb⟩
  have k4 := k3.below hb
  have y4 := y3.below (hb.mono hs3)
  have hs4 := Nat.le_trans hs3 hb.size
  clear k3 y3 hb
  go_wp2_with fail
  refine (eqC_same _ _ Y _ (SlC.of_own hg4) y4.sl hY).mono ?_
  rintro e w5 ⟨rfl, hb⟩
  have k5 := k4.below hb
  have y5 := y4.below (hb.mono hs4)
  have hg5 := hg4.below hb
  have hs5 := Nat.le_trans hs4 hb.size
  clear k4 y4 hg4 hb hs4
  go_wp2_with fail
  refine (hmy _ _ _ hg5).mono ?_
  rintro e wA ⟨rfl, hgA, hgr⟩
  have kA := k5.own hg5 (Nat.lt_of_lt_of_le hBc hs3) (Nat.le_refl _) hgr
  have yA := y5.own hg5 hs3 hs5 hgr
  have hsA := Nat.le_trans hs5 hgr.size
  clear k5 y5 hg5 hgr hs5
  go_wp2_with fail
  refine (hhy _ _ (SlC.of_own hgA)).mono ?_
  rintro e wB ⟨rfl, hw⟩
  subst hw
  obtain ⟨c0, c1, c2, c3, c4, _⟩ := id kA.all
  go_wp2_with fail
  refine (hto _).mono ?_
  rintro e wC ⟨rfl, hb⟩
  have kC := kA.below hb
  have yC := yA.below (hb.mono hsA)
  have hgC := hgA.below hb
  have hsC := Nat.le_trans hsA hb.size
  clear kA yA hgA hb c0 c1 c2 c3 c4
  go_wp2_with fail
  refine (him _).mono ?_
  rintro e wD ⟨uh, rfl, hoh, hb⟩
  have kD := kC.below hb
  have yD := yC.below (hb.mono hsC)
  have hgD := hgC.below hb
  clear kC yC hgC hb
  go_wp2_with fail
  refine (eqC_same _ _ Y _ (SlC.of_own hoh) yD.sl hY).mono ?_
  rintro e wE ⟨rfl, hb⟩
  have kE := kD.below hb
  have hgE := hgD.below hb
  clear kD hgD hb yD hoh
  go_wp2_with fail
  refine (hhy _ _ (SlC.of_own hgE)).mono ?_
  rintro e wF ⟨rfl, hw⟩
  subst hw
  go_wp2
  go_ret
  exact ⟨rfl, kE.2.2⟩
end Go.Proofs.Yteimcepkoclpbaa
