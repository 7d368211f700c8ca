/- The walk of the exact law of Cleared. -/
import Derived.Test.YteimcepkoclpbaaDoorKE
import Derived.Test.YteimcepkoclpbaaDoorLENC
import Derived.Test.YteimcepkoclpbaaDoorRC5
import Derived.Test.YteimcepkoclpbaaDoorRK7
namespace Go.Proofs.YteimcepkoclpbaaDoor
open Go.ChangeShapes Go.WideShapes Go.ChangeAt Go.RowKit

set_option maxHeartbeats 8000000 in
set_option maxRecDepth 20000 in
theorem walk_FnExactCleared' (w : World) (v : Value) (xs : List Ce) (a0 a1 : Int) (s : St) (Y : List Ce) (hv : SlC w v xs) (hl0 : xs.length ≤ maxLen) (hY : Y.length ≤ 1073741824)
    (hsp : ∀ v W, SlC W v xs → xs.length ≤ 1048576 → Calls Tryd.prog 17 #[v, .int .i64 a0, .int .i64 a1, stV s] W fun e w' => ∃ u, e = .returned u ∧ OwnC w' W.heap.size u Y ∧ Below W.heap.size W w')
    (him : ∀ v W, Below w.heap.size w W → SlC W v xs → xs.length ≤ 1048576 → Calls Tryd.prog 12 #[v, .int .i64 a0, .int .i64 a1, stV s] W fun e w' => ∃ u, e = .returned u ∧ OwnC w' W.heap.size u Y ∧ Below W.heap.size W w') :
    Calls Tryd.prog 6 #[v, .int .i64 a0, .int .i64 a1, stV s] w fun e w' => e = .returned (.bool true) ∧ Below w.heap.size w w' := by
  obtain ⟨a, c, rfl, hcp, hnc, _⟩ := id hv
  have hbA := bal' w (Obj.cells #[.int .i64 s.fore, .int .i64 s.back, .bool s.bold, .bool s.under, .bool s.turned] 43)
  have hz := fun W h => szC_any (.slice a xs.length c) xs 1048576 W h hl0 (by decide)
  by_cases hL : xs.length ≤ 1048576
  · have k0 : KE w.heap.size s (.slice a xs.length c) xs w (w.alloc (Obj.cells #[.int .i64 s.fore, .int .i64 s.back, .bool s.bold, .bool s.under, .bool s.turned] 43)) := ⟨StAt.new w s _, ((SlU.of hv).below hbA).up (Nat.le_succ _), hbA⟩
    have hne : ¬ (1048576 < xs.length) := by omega
    rw [if_neg hne] at hz
    have hzz : ¬ (((1048576 - xs.length : Nat) : Int) < 0) := by omega
    have hsz0 : (w.alloc (Obj.cells #[.int .i64 s.fore, .int .i64 s.back, .bool s.bold, .bool s.under, .bool s.turned] 43)).heap.size = w.heap.size + 1 := by simp
    have hv0 := k0.2.1.sl
    have hto := fun W => toStyle_any s W
    have hmx := fun base u W h => markC_own base u 1 xs W h (by decide) (by omega)
    have hmy := fun base u W h => markC_own base u 1 Y W h (by decide) hY
    have hhy := fun u W h => heldC_marks u 1 Y.length W h (by decide) hY
    have nx : ¬ (((1 + 7 * xs.length : Nat) : Int) < 0) := by omega
    have ny : ¬ (((1 + 7 * Y.length : Nat) : Int) < 0) := by omega
    generalize 1 + 7 * xs.length = MX at *
    generalize 1 + 7 * Y.length = MY at *
    clear hv hbA hnc
    unfold stV at *
    go_enter Tryd.func6, Tryd.ntmps6
    generalize 1048576 - xs.length = zz at *
    go_wp2_with fail
    generalize w.alloc (Obj.cells #[.int .i64 s.fore, .int .i64 s.back, .bool s.bold, .bool s.under, .bool s.turned] 43) = W0 at *
    refine (hz _ hv0).mono ?_
    rintro e w1 ⟨rfl, hw⟩
    subst hw
    go_wp2
    go_region_held3 (fun W => W.cell? ⟨w.heap.size, 0, none⟩ = some (.int .i64 s.fore) ∧ W.cell? ⟨w.heap.size, 1, none⟩ = some (.int .i64 s.back) ∧ W.cell? ⟨w.heap.size, 2, none⟩ = some (.bool s.bold) ∧ W.cell? ⟨w.heap.size, 3, none⟩ = some (.bool s.under) ∧ W.cell? ⟨w.heap.size, 4, none⟩ = some (.bool s.turned) ∧ KE w.heap.size s (.slice a xs.length c) xs w W) (first | assumption | exact k0.drew)
      (first
        | (go_at_call 30; refine (toCS_ke w.heap.size s _ xs w _ (by omega) (by assumption)).mono ?_; rintro e wa ⟨u1, rfl, ho1, hb1, hk1⟩)
        | (go_at_call 32; refine (toStyle_ke w.heap.size s _ xs w _ (by assumption)).mono ?_; rintro e wb ⟨rfl, hb2, hk2⟩)
        | (go_at_call 17; refine (row_ke w.heap.size s _ xs w _ _ _ Y (hsp _ _ (SlC.of_own (ho1.below hb2)) hL) (by assumption)).mono ?_; rintro e wc ⟨u2, rfl, ho2, hb3, hk3⟩))
    have k1 := hk3.2.2.2.2.2
    have y1 : SlU wc.heap.size wc u2 Y := SlU.of (SlC.of_own ho2)
    have hBc : w.heap.size < wc.heap.size := k1.1.1
    clear hk1 hk2 hk3 ho1 ho2 hb1 hb2 hb3 k0 hv0 hsz0
    go_wp2_with fail
    refine (toCS_copy _ xs _ k1.2.1.sl (by omega)).mono ?_
    rintro e w2 ⟨ux, rfl, hx2, hb⟩
    have k2 := k1.below hb
    have y2 := y1.below hb
    have hs2 := hb.size
    clear k1 y1 hb
    obtain ⟨_, ⟨c0, c1, c2, c3, c4⟩, _⟩ := id k2.1
    go_wp2_with fail
    refine (hto _).mono ?_
    rintro e w3 ⟨rfl, hb⟩
    have k3 := k2.below hb
    have y3 := y2.below (hb.mono hs2)
    have hx3 := hx2.below hb
    have hs3 := Nat.le_trans hs2 hb.size
    clear k2 y2 hx2 hb c0 c1 c2 c3 c4 hs2
    go_wp2_with fail
    refine (him _ _ k3.2.2 (SlC.of_own hx3) hL).mono ?_
    rintro e w4 ⟨ug, rfl, hg4, hb⟩
    have k4 := k3.below hb
    have y4 := y3.below (hb.mono hs3)
    have hx4 := hx3.below hb
    have hs4 := Nat.le_trans hs3 hb.size
    have hxg := fun g e => (hx3.lt g e).2
    clear k3 y3 hx3 hb
    go_wp2_with fail
    refine (eqC_same _ _ Y _ (SlC.of_own hg4) y4.sl hY).mono ?_
    rintro e w5 ⟨rfl, hb⟩
    have k5 := k4.below hb
    have y5 := y4.below (hb.mono hs4)
    have hx5 := hx4.below hb
    have hg5 := hg4.below hb
    have hs5 := Nat.le_trans hs4 hb.size
    clear k4 y4 hx4 hg4 hb hs4
    go_wp2_with fail
    refine (toCS_copy _ xs _ k5.2.1.sl (by omega)).mono ?_
    rintro e w6 ⟨uy, rfl, hy6, hb⟩
    have k6 := k5.below hb
    have y6 := y5.below (hb.mono hs5)
    have hx6 := hx5.below hb
    have hg6 := hg5.below hb
    have hs6 := Nat.le_trans hs5 hb.size
    clear k5 y5 hx5 hg5 hb hs5
    go_wp2_with fail
    refine (eqC_same _ _ xs _ (SlC.of_own hx6) (SlC.of_own hy6) (by omega)).mono ?_
    rintro e w7 ⟨rfl, hb⟩
    have k7 := k6.below hb
    have y7 := y6.below (hb.mono hs6)
    have hx7 := hx6.below hb
    have hg7 := hg6.below hb
    have hs7 := Nat.le_trans hs6 hb.size
    clear k6 y6 hx6 hg6 hb hs6 hy6
    go_wp2_with fail
    refine (hmx _ _ _ hx7).mono ?_
    rintro e w8 ⟨rfl, hx8, hgr⟩
    have k8 := k7.own hx7 hBc (Nat.le_refl _) hgr
    have y8 := y7.own hx7 (Nat.le_refl _) hs7 hgr
    have hg8 := hg7.apart hx7 hxg hgr
    have hs8 := Nat.le_trans hs7 hgr.size
    clear k7 y7 hx7 hg7 hgr hs7 hx8
    go_wp2_with fail
    refine (eqC_same _ _ Y _ (SlC.of_own hg8) y8.sl hY).mono ?_
    rintro e w9 ⟨rfl, hb⟩
    have k9 := k8.below hb
    have y9 := y8.below (hb.mono hs8)
    have hg9 := hg8.below hb
    have hs9 := Nat.le_trans hs8 hb.size
    clear k8 y8 hg8 hb hs8
    go_wp2_with fail
    refine (hmy _ _ _ hg9).mono ?_
    rintro e wA ⟨rfl, hgA, hgr⟩
    have kA := k9.own hg9 (Nat.lt_of_lt_of_le hBc hs3) (Nat.le_refl _) hgr
    have yA := y9.own hg9 hs3 hs9 hgr
    have hsA := Nat.le_trans hs9 hgr.size
    clear k9 y9 hg9 hgr hs9
    go_wp2_with fail
    refine (hhy _ _ (SlC.of_own hgA)).mono ?_
    rintro e wB ⟨rfl, hw⟩
    subst hw
    go_wp2
    go_region_held3 (fun W => W.cell? ⟨w.heap.size, 0, none⟩ = some (.int .i64 s.fore) ∧ W.cell? ⟨w.heap.size, 1, none⟩ = some (.int .i64 s.back) ∧ W.cell? ⟨w.heap.size, 2, none⟩ = some (.bool s.bold) ∧ W.cell? ⟨w.heap.size, 3, none⟩ = some (.bool s.under) ∧ W.cell? ⟨w.heap.size, 4, none⟩ = some (.bool s.turned) ∧ KE w.heap.size s (.slice a xs.length c) xs w W) (first | assumption | exact kA.drew)
      (first
        | (go_at_call 30; refine (toCS_ke w.heap.size s _ xs w _ (by omega) (by assumption)).mono ?_; rintro e wa ⟨u1, rfl, ho1, hb1, hk1⟩)
        | (go_at_call 32; refine (toStyle_ke w.heap.size s _ xs w _ (by assumption)).mono ?_; rintro e wb ⟨rfl, hb2, hk2⟩)
        | (go_at_call 12; refine (row_ke w.heap.size s _ xs w _ _ _ Y (him _ _ hk2.2.2.2.2.2.2.2 (SlC.of_own (ho1.below hb2)) hL) (by assumption)).mono ?_; rintro e wd ⟨uh, rfl, hoh, hb3, hk3⟩))
    have kC := hk3.2.2.2.2.2
    have hbT := (hb1.trans (hb2.mono hb1.size)).trans (hb3.mono (Nat.le_trans hb1.size hb2.size))
    have hbU : Below wB.heap.size wB wd := (bdr wB).trans hbT
    have yC := yA.below (hbU.mono hsA)
    have hgC := hgA.below hbU
    clear hk1 hk2 hk3 ho1 hb1 hb2 hb3 kA yA hgA hbT hbU him hsp hto
    go_wp2_with fail
    refine (eqC_same _ _ Y _ (SlC.of_own hoh) yC.sl hY).mono ?_
    rintro e wE ⟨rfl, hb⟩
    have kE := kC.below hb
    have hgE := hgC.below hb
    clear kC hgC hb yC hoh
    go_wp2_with fail
    refine (hhy _ _ (SlC.of_own hgE)).mono ?_
    rintro e wF ⟨rfl, hw⟩
    subst hw
    go_wp2
    go_ret
    exact ⟨rfl, kE.2.2⟩
  · have hne : 1048576 < xs.length := by omega
    rw [if_pos hne] at hz
    have hv0 := hv.below hbA
    clear hsp him hv
    unfold stV at *
    go_enter Tryd.func6, Tryd.ntmps6
    go_wp2_with fail
    refine (hz _ hv0).mono ?_
    rintro e w1 ⟨rfl, hw⟩
    subst hw
    go_wp2
    go_ret
    exact ⟨rfl, hbA⟩
theorem walk_FnExactCleared (w : World) (hS : SpansAt w) (v : Value) (xs : List Ce) (hv : SlC w v xs) (hl0 : xs.length ≤ maxLen) (a0 : Int) (_ha0 : (Lit.int .i64 a0).wf = true) (a1 : Int) (_ha1 : (Lit.int .i64 a1).wf = true) (s : St) :
    Calls Tryd.prog 6 #[v, .int .i64 a0, .int .i64 a1, stV s] w fun e w' => e = .returned (.bool true) ∧ Below w.heap.size w w' := by
  by_cases hL : xs.length ≤ 1048576
  · exact walk_FnExactCleared' w v xs a0 a1 s (clearedV xs a0 a1 s) hv hl0 (Nat.le_trans (clearedV_len xs a0 a1 s) (by omega)) (fun v W h hl => specCleared_any v xs a0 a1 s W h hl) (fun v W hb h hl => implCleared_any v xs a0 a1 s W (hS.below hb hS.lt) h hl)
  · exact walk_FnExactCleared' w v xs a0 a1 s [] hv hl0 (Nat.zero_le _) (fun _ _ _ hl => absurd hl hL) (fun _ _ _ _ hl => absurd hl hL)
end Go.Proofs.YteimcepkoclpbaaDoor
