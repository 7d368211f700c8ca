/- Contract of the specification's cleared row. -/
import Derived.Test.YteimcepkoclpbaaDoorRC2
namespace Go.Proofs.YteimcepkoclpbaaDoor
open Go.ChangeShapes Go.WideShapes Go.ChangeAt Go.RowKit

set_option maxHeartbeats 4000000 in
set_option maxRecDepth 20000 in
theorem l4Cleared_any (v : Value) (xs : List Ce) (p q : Nat) (s : St) (w : World) (hv : SlC w v xs) (hpq : p ≤ q) (hq : q ≤ xs.length) (hl : xs.length ≤ 1000) :
    Calls Tryd.prog 52 #[v, .int .i64 p, .int .i64 q, stV s] w fun e w' => ∃ u, e = .returned u ∧ OwnC w' w.heap.size u (clearL xs p q s) ∧ Below w.heap.size w w' := by
  have hbl := fun W => l4Blank_any s W
  have hme := fun u W h => l4Mended_any u (fillUp xs p q s) W h (by rw [fillUp_len]; omega)
  have hcl : Hid (clearL xs p q s = mendV (fillUp xs p q s)) := rfl
  obtain ⟨a, c, rfl, hr⟩ := id hv
  have h2 := StAt.new w s 26
  have hbA := bal' w (Obj.cells #[.int .i64 s.fore, .int .i64 s.back, .bool s.bold, .bool s.under, .bool s.turned] 26)
  have k00 := ownC_nil (w.alloc (Obj.cells #[.int .i64 s.fore, .int .i64 s.back, .bool s.bold, .bool s.under, .bool s.turned] 26)) (w.heap.size + 1) (by simp)
  have e1 : (w.alloc (Obj.cells #[.int .i64 s.fore, .int .i64 s.back, .bool s.bold, .bool s.under, .bool s.turned] 26)).heap.size = w.heap.size + 1 := by simp
  rw [e1] at k00
  have hv0 := (hv.below hbA).below (bal' _ (Obj.cells #[] 37))
  have hs0 := h2.below (bal' _ (Obj.cells #[] 37))
  have hb0 := hbA.trans ((bal' _ (Obj.cells #[] 37)).mono hbA.size)
  unfold stV ceV blankC at *
  simp only at hbl
  go_enter Tryd.func52, Tryd.ntmps52
  go_wp2_with (at_builtin; refine append_os rfl _ _ rfl (w.heap.size + 1) _ [] rfl (by exact k00) (by simp) _ xs hv0 rfl (by simp; omega) ?_; intro u w1 ho1 hg1)
  have k0 : OC (w.heap.size + 1) (.slice (some ⟨w.heap.size + 1, 0, none⟩) 0 0) [] w ((w.alloc (Obj.cells #[.int .i64 s.fore, .int .i64 s.back, .bool s.bold, .bool s.under, .bool s.turned] 26)).alloc (Obj.cells #[] 37)) := ⟨k00, hb0, by simp, by omega⟩
  have k1 : OC (w.heap.size + 1) u xs w w1 := k0.own (by simpa using ho1) hg1
  have hs1 : StAt w1 w.heap.size s := hs0.own k00 (Nat.lt_succ_self _) hg1
  clear k00 hv0 ho1 hg1 k0 hs0 hb0 hbA h2 e1 hr hv
  rcases k1.1.shape with ⟨rfl, rfl⟩ | ⟨g, cap, rfl, hbg, hlg, hcap⟩
  · have hp0 : p = 0 := by simp at hq; omega
    have hq0 : q = 0 := by simpa using hq
    subst hp0 hq0
    go_wp2
    refine wp_loop_rounds 1 ?_
    rw [rounds_succ]
    go_wp2_with fail
    refine (hme _ _ (by rw [fillUp_zero]; exact SlC.of_own k1.1)).mono ?_
    rintro e w2 ⟨u2, rfl, ho2, hb2⟩
    go_wp2
    go_ret
    exact ⟨u2, rfl, by rw [hcl.out]; exact ho2.low k1.2.1.size, k1.2.1.trans (hb2.mono k1.2.1.size)⟩
  · go_wp2
    go_loopw [10] (fun i wr => ∃ j : Nat, i = .int .i64 j ∧ p ≤ j ∧ j ≤ q ∧ OC (w.heap.size + 1) (.slice (some ⟨g, 0, none⟩) xs.length cap) (fillUp xs p j s) w wr ∧ StAt wr w.heap.size s) (fun i _ => q - (intOf i).toNat)
    case atStart => exact ⟨p, rfl, Nat.le_refl _, hpq, by rw [fillUp_zero]; exact k1, hs1⟩
    case round =>
      clear k1 hs1
      obtain ⟨j, rfl, hpj, hj, k, hs⟩ := hrel
      by_cases hlt : j < q
      · have hji : (j : Int) < (q : Int) := by omega
        have hj0 : (0 : Int) ≤ (j : Int) := by omega
        have hjx : j < xs.length := by omega
        have hjxi : (j : Int) < (xs.length : Int) := by omega
        have hst : Hid (fillUp xs p (j + 1) s = (fillUp xs p j s).set j ⟨32, s, 0⟩) := fillUp_step xs p j s hpj hjx
        have hsz : (fillUp xs p j s).length = xs.length := fillUp_len _ _ _ _
        obtain ⟨_, ⟨d0, d1, d2, d3, d4⟩, _⟩ := id hs
        go_wp2_with fail
        refine (hbl _).mono ?_
        rintro e w2 ⟨rfl, hb2⟩
        have k2 := k.below hb2
        have hs2 := hs.below hb2
        have hp := k2.1.put hsz j hjx ⟨32, s, 0⟩
        have kk : OC (w.heap.size + 1) (.slice (some ⟨g, 0, none⟩) xs.length cap) (fillUp xs p (j + 1) s) w (putCe w2 g (j * 7) ⟨32, s, 0⟩) := by rw [hst.out]; exact k2.own hp.1 hp.2
        have hsk : StAt (putCe w2 g (j * 7) ⟨32, s, 0⟩) w.heap.size s := hs2.own k2.1 (Nat.lt_succ_self _) hp.2
        have hat := k2.1.at hsz j hjx
        have f0 := k2.1.frozen hsz (j * 7)
        have f1 := k2.1.frozen hsz (j * 7 + 1)
        have f2 := k2.1.frozen hsz (j * 7 + 2)
        have f3 := k2.1.frozen hsz (j * 7 + 3)
        have f4 := k2.1.frozen hsz (j * 7 + 4)
        have f5 := k2.1.frozen hsz (j * 7 + 5)
        have f6 := k2.1.frozen hsz (j * 7 + 6)
        clear hp k hb2 hbl hst d0 d1 d2 d3 d4 hs hs2 k2 hme
        obtain ⟨c0, c1, c2, c3, c4, c5, c6⟩ := hat
        simp only [putCe] at kk hsk
        go_wp2
        go_roundw
        case rel => exact ⟨j + 1, by go_num, by omega, by omega, kk, hsk⟩
        case measure => simp [intOf]; omega
      · have hjn : j = q := by omega
        have hji : ¬ (j : Int) < (q : Int) := by omega
        subst hjn
        have hm2 := hme (.slice (some ⟨g, 0, none⟩) xs.length cap) wr (SlC.of_own k.1)
        clear hbl hs hme
        go_wp2_with fail
        refine hm2.mono ?_
        rintro e w2 ⟨u2, rfl, ho2, hb2⟩
        go_wp2
        go_ret
        exact ⟨u2, rfl, by rw [hcl.out]; exact ho2.low k.2.1.size, k.2.1.trans (hb2.mono k.2.1.size)⟩
end Go.Proofs.YteimcepkoclpbaaDoor
