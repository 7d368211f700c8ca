/- Contract of the specification's mended row. Contract of the specification's cleared row. -/
import Derived.Test.YteimcepkoclpbaaDoorJRC0
namespace Go.Proofs.YteimcepkoclpbaaDoor
open Go.ChangeShapes Go.WideShapes Go.ChangeAt Go.RowKit

set_option maxHeartbeats 4000000 in
set_option maxRecDepth 20000 in
theorem l4Mended_any (v : Value) (xs : List Ce) (w : World) (hv : SlC w v xs) (hl : xs.length ≤ 1000000) :
    Calls Tryd.prog 73 #[v] w fun e w' => ∃ u, e = .returned u ∧ OwnC w' w.heap.size u (mendV xs) ∧ Below w.heap.size w w' := by
  have hbl := fun s W => l4Blank_any s W
  obtain ⟨a, c, rfl, hr⟩ := id hv
  have k00 := ownC_nil w w.heap.size (Nat.le_refl _)
  have hv0 := hv.below (bal' w (Obj.cells #[] 37))
  go_enter Tryd.func73, Tryd.ntmps73
  go_wp2_with (at_builtin; refine append_os rfl _ _ rfl w.heap.size _ [] rfl (by exact k00) (by simp) _ xs hv0 rfl (by simp; omega) ?_; intro u w1 ho1 hg1)
  have k1 : OC w.heap.size u xs w w1 := by
    have k : OC w.heap.size (.slice (some ⟨w.heap.size, 0, none⟩) 0 0) [] w (w.alloc (Obj.cells #[] 37)) := ⟨k00, bal' _ _, by simp, Nat.le_refl _⟩
    exact k.own (by simpa using ho1) hg1
  clear k00 hv0 ho1 hg1
  rcases k1.1.shape with ⟨rfl, rfl⟩ | ⟨g, cap, rfl, hbg, hlg, hcap⟩
  · clear hr
    go_wp2
    refine wp_loop_rounds 1 ?_
    rw [rounds_succ]
    go_wp2
    go_ret
    exact ⟨_, rfl, k1.1, k1.2.1⟩
  · go_wp2
    go_loopw [4] (fun i wr => ∃ j : Nat, i = .int .i64 j ∧ j ≤ xs.length ∧ OC w.heap.size (.slice (some ⟨g, 0, none⟩) xs.length cap) (mendUp xs j) w wr) (fun i _ => xs.length - (intOf i).toNat)
    case atStart => exact ⟨0, rfl, Nat.zero_le _, by rw [mendUp_zero]; exact k1⟩
    case round =>
      clear k1
      obtain ⟨j, rfl, hj, k⟩ := hrel
      by_cases hlt : j < xs.length
      · have hji : (j : Int) < (xs.length : Int) := by omega
        have hj0 : (0 : Int) ≤ (j : Int) := by omega
        have hat := k.1.at (mendUp_len xs j) j hlt
        rw [mendUp_at xs j j hlt, if_neg (Nat.lt_irrefl j)] at hat
        have hsz : (mendUp xs j).length = xs.length := mendUp_len xs j
        have hsrc : ∀ i, i < xs.length → ∃ b off, a = some ⟨b, off, none⟩ ∧ CeAt wr b (off + i * 7) (atC xs i) := by
          intro i hi
          rcases hr.2.2 with h | ⟨b, off, ha, hlt, hc⟩
          · rw [h] at hi; simp at hi
          · exact ⟨b, off, ha, (hc i hi).below k.2.1 hlt⟩
        have hkeep : aloneB xs j = false → OC w.heap.size (.slice (some ⟨g, 0, none⟩) xs.length cap) (mendUp xs (j + 1)) w wr := fun h => by rw [mendUp_keep xs j hlt h]; exact k
        have hstep : aloneB xs j = true → mendUp xs (j + 1) = (mendUp xs j).set j (blankC (atC xs j).st) := fun h => by rw [mendUp_step xs j hlt, mendC, if_pos h]
        have hal : aloneB xs j = (((atC xs j).part == 1 && (decide (j + 1 = xs.length) || (atC xs (j + 1)).part != 2)) || ((atC xs j).part == 2 && (decide (j = 0) || (atC xs (j - 1)).part != 1))) := rfl
        have hnext : j + 1 < xs.length → CeAt wr g ((j + 1) * 7) (atC xs (j + 1)) := fun h => by
          have := k.1.at (mendUp_len xs j) (j + 1) h
          rwa [mendUp_at xs j (j + 1) h, if_neg (by omega)] at this
        obtain ⟨p0, p1, p2, p3, p4, p5, p6⟩ := id hat
        by_cases e1 : (atC xs j).part = 1
        · have b1 : ((atC xs j).part == 1) = true := by simp [e1]
          by_cases e2 : j + 1 = xs.length
          · have e2i : ((j : Int) + 1 == (xs.length : Int)) = true := by simp; omega
            have ha : aloneB xs j = true := by rw [hal]; simp [e1, e2]
            have hst := hstep ha
            clear hkeep hstep hal ha hsrc hnext hv hr
            obtain ⟨c0, c1, c2, c3, c4, c5, c6⟩ := id hat
            have hb1 := hbl (atC xs j).st
            unfold stV ceV blankC at hb1
            simp only at hb1
            go_wp2_with fail
            refine (hb1 _).mono ?_
            rintro e w2 ⟨rfl, hb2⟩
            have k2 := k.below hb2
            have hat2 := hat.below hb2 (by have := k.1.lt g rfl; exact this.2)
            have hp := k2.1.put hsz j hlt ⟨32, (atC xs j).st, 0⟩
            have kk : OC w.heap.size (.slice (some ⟨g, 0, none⟩) xs.length cap) (mendUp xs (j + 1)) w (putCe w2 g (j * 7) ⟨32, (atC xs j).st, 0⟩) := by rw [hst]; exact k2.own hp.1 hp.2
            have f0 := k2.1.frozen hsz (j * 7)
            have f1 := k2.1.frozen hsz (j * 7 + 1)
            have f2 := k2.1.frozen hsz (j * 7 + 2)
            have f3 := k2.1.frozen hsz (j * 7 + 3)
            have f4 := k2.1.frozen hsz (j * 7 + 4)
            have f5 := k2.1.frozen hsz (j * 7 + 5)
            have f6 := k2.1.frozen hsz (j * 7 + 6)
            clear hp hat k hb1 hb2 hbl hst c0 c1 c2 c3 c4 c5 c6
            obtain ⟨c0, c1, c2, c3, c4, c5, c6⟩ := hat2
            clear k2
            simp only [putCe] at kk
            go_wp2
            go_roundw
            case rel => exact ⟨j + 1, by go_num, by omega, kk⟩
            case measure => simp [intOf]; omega
          · have e2i : ((j : Int) + 1 == (xs.length : Int)) = false := by simp; omega
            have hj1 : j + 1 < xs.length := by omega
            have hj1i : (j : Int) + 1 < (xs.length : Int) := by omega
            obtain ⟨q0, q1, q2, q3, q4, q5, q6⟩ := hnext hj1
            by_cases e3 : (atC xs (j + 1)).part = 2
            · have b3 : ((atC xs (j + 1)).part != 2) = false := by simp [e3]
              have b4 : ((atC xs j).part == 2) = false := by simp [e1]
              have ha : aloneB xs j = false := by rw [hal]; simp [e1, e2, e3]
              have kk := hkeep ha
              clear hkeep hstep hal ha hsrc hnext hbl k hv hr
              go_wp2
              go_roundw
              case rel => exact ⟨j + 1, by go_num, by omega, kk⟩
              case measure => simp [intOf]; omega
            · have b3 : ((atC xs (j + 1)).part != 2) = true := by simp [e3]
              have ha : aloneB xs j = true := by rw [hal]; simp [e1, e3]
              have hst := hstep ha
              clear hkeep hstep hal ha hsrc hnext hv hr
              obtain ⟨c0, c1, c2, c3, c4, c5, c6⟩ := id hat
              have hb1 := hbl (atC xs j).st
              unfold stV ceV blankC at hb1
              simp only at hb1
              go_wp2_with fail
              refine (hb1 _).mono ?_
              rintro e w2 ⟨rfl, hb2⟩
              have k2 := k.below hb2
              have hat2 := hat.below hb2 (by have := k.1.lt g rfl; exact this.2)
              have hp := k2.1.put hsz j hlt ⟨32, (atC xs j).st, 0⟩
              have kk : OC w.heap.size (.slice (some ⟨g, 0, none⟩) xs.length cap) (mendUp xs (j + 1)) w (putCe w2 g (j * 7) ⟨32, (atC xs j).st, 0⟩) := by rw [hst]; exact k2.own hp.1 hp.2
              have f0 := k2.1.frozen hsz (j * 7)
              have f1 := k2.1.frozen hsz (j * 7 + 1)
              have f2 := k2.1.frozen hsz (j * 7 + 2)
              have f3 := k2.1.frozen hsz (j * 7 + 3)
              have f4 := k2.1.frozen hsz (j * 7 + 4)
              have f5 := k2.1.frozen hsz (j * 7 + 5)
              have f6 := k2.1.frozen hsz (j * 7 + 6)
              clear hp hat k hb1 hb2 hbl hst c0 c1 c2 c3 c4 c5 c6
              obtain ⟨c0, c1, c2, c3, c4, c5, c6⟩ := hat2
              clear k2
              simp only [putCe] at kk
              go_wp2
              go_roundw
              case rel => exact ⟨j + 1, by go_num, by omega, kk⟩
              case measure => simp [intOf]; omega
        · have b1 : ((atC xs j).part == 1) = false := by simp [e1]
          by_cases e2 : (atC xs j).part = 2
          · have b2 : ((atC xs j).part == 2) = true := by simp [e2]
            by_cases e3 : j = 0
            · have e3i : ((j : Int) == 0) = true := by simp [e3]
              have ha : aloneB xs j = true := by rw [hal]; rw [show decide (j = 0) = true from decide_eq_true e3]; simp [e2]
              clear e3
              have hst := hstep ha
              clear hkeep hstep hal ha hsrc hnext hv hr
              obtain ⟨c0, c1, c2, c3, c4, c5, c6⟩ := id hat
              have hb1 := hbl (atC xs j).st
              unfold stV ceV blankC at hb1
              simp only at hb1
              go_wp2_with fail
              refine (hb1 _).mono ?_
              rintro e w2 ⟨rfl, hb2⟩
              have k2 := k.below hb2
              have hat2 := hat.below hb2 (by have := k.1.lt g rfl; exact this.2)
              have hp := k2.1.put hsz j hlt ⟨32, (atC xs j).st, 0⟩
              have kk : OC w.heap.size (.slice (some ⟨g, 0, none⟩) xs.length cap) (mendUp xs (j + 1)) w (putCe w2 g (j * 7) ⟨32, (atC xs j).st, 0⟩) := by rw [hst]; exact k2.own hp.1 hp.2
              have f0 := k2.1.frozen hsz (j * 7)
              have f1 := k2.1.frozen hsz (j * 7 + 1)
              have f2 := k2.1.frozen hsz (j * 7 + 2)
              have f3 := k2.1.frozen hsz (j * 7 + 3)
              have f4 := k2.1.frozen hsz (j * 7 + 4)
              have f5 := k2.1.frozen hsz (j * 7 + 5)
              have f6 := k2.1.frozen hsz (j * 7 + 6)
              clear hp hat k hb1 hb2 hbl hst c0 c1 c2 c3 c4 c5 c6
              obtain ⟨c0, c1, c2, c3, c4, c5, c6⟩ := hat2
              clear k2
              simp only [putCe] at kk
              go_wp2
              go_roundw
              case rel => exact ⟨j + 1, by go_num, by omega, kk⟩
              case measure => simp [intOf]; omega
            · obtain ⟨m, rfl⟩ : ∃ m, j = m + 1 := ⟨j - 1, by omega⟩
              obtain ⟨b, off, rfl, q0, q1, q2, q3, q4, q5, q6⟩ := hsrc m (by omega)
              have e3i : ((m : Int) + 1 == 0) = false := by simp; omega
              have hmi : (m : Int) < (xs.length : Int) := by omega
              by_cases e4 : (atC xs m).part = 1
              · have b4 : ((atC xs m).part != 1) = false := by simp [e4]
                have ha : aloneB xs (m + 1) = false := by rw [hal]; simp [e2, e4]
                have kk := hkeep ha
                clear hkeep hstep hal ha hsrc hnext hbl k hv hr
                go_wp2
                go_roundw
                case rel => exact ⟨m + 1 + 1, by go_num, by omega, kk⟩
                case measure => simp [intOf]; omega
              · have b4 : ((atC xs m).part != 1) = true := by simp [e4]
                have ha : aloneB xs (m + 1) = true := by rw [hal]; simp [e2, e4]
                have hst := hstep ha
                clear hkeep hstep hal ha hsrc hnext hv hr
                obtain ⟨c0, c1, c2, c3, c4, c5, c6⟩ := id hat
                have hb1 := hbl (atC xs (m + 1)).st
                unfold stV ceV blankC at hb1
                simp only at hb1
                go_wp2_with fail
                refine (hb1 _).mono ?_
                rintro e w2 ⟨rfl, hb2⟩
                have k2 := k.below hb2
                have hat2 := hat.below hb2 (by have := k.1.lt g rfl; exact this.2)
                have hp := k2.1.put hsz (m + 1) hlt ⟨32, (atC xs (m + 1)).st, 0⟩
                have kk : OC w.heap.size (.slice (some ⟨g, 0, none⟩) xs.length cap) (mendUp xs ((m + 1) + 1)) w (putCe w2 g ((m + 1) * 7) ⟨32, (atC xs (m + 1)).st, 0⟩) := by rw [hst]; exact k2.own hp.1 hp.2
                have f0 := k2.1.frozen hsz ((m + 1) * 7)
                have f1 := k2.1.frozen hsz ((m + 1) * 7 + 1)
                have f2 := k2.1.frozen hsz ((m + 1) * 7 + 2)
                have f3 := k2.1.frozen hsz ((m + 1) * 7 + 3)
                have f4 := k2.1.frozen hsz ((m + 1) * 7 + 4)
                have f5 := k2.1.frozen hsz ((m + 1) * 7 + 5)
                have f6 := k2.1.frozen hsz ((m + 1) * 7 + 6)
                clear hp hat k hb1 hb2 hbl hst c0 c1 c2 c3 c4 c5 c6
                obtain ⟨c0, c1, c2, c3, c4, c5, c6⟩ := hat2
                clear k2
                simp only [putCe] at kk
                go_wp2
                go_roundw
                case rel => exact ⟨m + 1 + 1, by go_num, by omega, kk⟩
                case measure => simp [intOf]; omega
          · have b2 : ((atC xs j).part == 2) = false := by simp [e2]
            have ha : aloneB xs j = false := by rw [hal]; simp [e1, e2]
            have kk := hkeep ha
            clear hkeep hstep hal ha hsrc hnext hbl k hv hr
            go_wp2
            go_roundw
            case rel => exact ⟨j + 1, by go_num, by omega, kk⟩
            case measure => simp [intOf]; omega
      · have hjn : j = xs.length := by omega
        have hji : ¬ (j : Int) < (xs.length : Int) := by omega
        subst hjn
        clear hbl hv hr
        go_wp2
        go_ret
        exact ⟨_, rfl, k.1, k.2.1⟩
end Go.Proofs.YteimcepkoclpbaaDoor
namespace Go.Proofs.YteimcepkoclpbaaDoor
open Go.ChangeShapes Go.WideShapes Go.ChangeAt Go.RowKit

set_option maxHeartbeats 4000000 in
set_option maxRecDepth 20000 in
theorem l4Cleared_any (v : Value) (xs : List Ce) (p q : Nat) (s : St) (w : World) (hv : SlC w v xs) (hpq : p ≤ q) (hq : q ≤ xs.length) (hl : xs.length ≤ 1000) :
    Calls Tryd.prog 52 #[v, .int .i64 p, .int .i64 q, stV s] w fun e w' => ∃ u, e = .returned u ∧ OwnC w' w.heap.size u (clearL xs p q s) ∧ Below w.heap.size w w' := by
  have hbl := fun W => l4Blank_any s W
  have hme := fun u W h => l4Mended_any u (fillUp xs p q s) W h (by rw [fillUp_len]; omega)
  have hcl : Hid (clearL xs p q s = mendV (fillUp xs p q s)) := rfl
  obtain ⟨a, c, rfl, hr⟩ := id hv
  have h2 := StAt.new w s 26
  have hbA := bal' w (Obj.cells #[.int .i64 s.fore, .int .i64 s.back, .bool s.bold, .bool s.under, .bool s.turned] 26)
  have k00 := ownC_nil (w.alloc (Obj.cells #[.int .i64 s.fore, .int .i64 s.back, .bool s.bold, .bool s.under, .bool s.turned] 26)) (w.heap.size + 1) (by simp)
  have e1 : (w.alloc (Obj.cells #[.int .i64 s.fore, .int .i64 s.back, .bool s.bold, .bool s.under, .bool s.turned] 26)).heap.size = w.heap.size + 1 := by simp
  rw [e1] at k00
  have hv0 := (hv.below hbA).below (bal' _ (Obj.cells #[] 37))
  have hs0 := h2.below (bal' _ (Obj.cells #[] 37))
  have hb0 := hbA.trans ((bal' _ (Obj.cells #[] 37)).mono hbA.size)
  unfold stV ceV blankC at *
  simp only at hbl
  go_enter Tryd.func52, Tryd.ntmps52
  go_wp2_with (at_builtin; refine append_os rfl _ _ rfl (w.heap.size + 1) _ [] rfl (by exact k00) (by simp) _ xs hv0 rfl (by simp; omega) ?_; intro u w1 ho1 hg1)
  have k0 : OC (w.heap.size + 1) (.slice (some ⟨w.heap.size + 1, 0, none⟩) 0 0) [] w ((w.alloc (Obj.cells #[.int .i64 s.fore, .int .i64 s.back, .bool s.bold, .bool s.under, .bool s.turned] 26)).alloc (Obj.cells #[] 37)) := ⟨k00, hb0, by simp, by omega⟩
  have k1 : OC (w.heap.size + 1) u xs w w1 := k0.own (by simpa using ho1) hg1
  have hs1 : StAt w1 w.heap.size s := hs0.own k00 (Nat.lt_succ_self _) hg1
  clear k00 hv0 ho1 hg1 k0 hs0 hb0 hbA h2 e1 hr hv
  rcases k1.1.shape with ⟨rfl, rfl⟩ | ⟨g, cap, rfl, hbg, hlg, hcap⟩
  · have hp0 : p = 0 := by simp at hq; omega
    have hq0 : q = 0 := by simpa using hq
    subst hp0 hq0
    go_wp2
    refine wp_loop_rounds 1 ?_
    rw [rounds_succ]
    go_wp2_with fail
    refine (hme _ _ (by rw [fillUp_zero]; exact SlC.of_own k1.1)).mono ?_
    rintro e w2 ⟨u2, rfl, ho2, hb2⟩
    go_wp2
    go_ret
    exact ⟨u2, rfl, by rw [hcl.out]; exact ho2.low k1.2.1.size, k1.2.1.trans (hb2.mono k1.2.1.size)⟩
  · go_wp2
    go_loopw [10] (fun i wr => ∃ j : Nat, i = .int .i64 j ∧ p ≤ j ∧ j ≤ q ∧ OC (w.heap.size + 1) (.slice (some ⟨g, 0, none⟩) xs.length cap) (fillUp xs p j s) w wr ∧ StAt wr w.heap.size s) (fun i _ => q - (intOf i).toNat)
    case atStart => exact ⟨p, rfl, Nat.le_refl _, hpq, by rw [fillUp_zero]; exact k1, hs1⟩
    case round =>
      clear k1 hs1
      obtain ⟨j, rfl, hpj, hj, k, hs⟩ := hrel
      by_cases hlt : j < q
      · have hji : (j : Int) < (q : Int) := by omega
        have hj0 : (0 : Int) ≤ (j : Int) := by omega
        have hjx : j < xs.length := by omega
        have hjxi : (j : Int) < (xs.length : Int) := by omega
        have hst : Hid (fillUp xs p (j + 1) s = (fillUp xs p j s).set j ⟨32, s, 0⟩) := fillUp_step xs p j s hpj hjx
        have hsz : (fillUp xs p j s).length = xs.length := fillUp_len _ _ _ _
        obtain ⟨_, ⟨d0, d1, d2, d3, d4⟩, _⟩ := id hs
        go_wp2_with fail
        refine (hbl _).mono ?_
        rintro e w2 ⟨rfl, hb2⟩
        have k2 := k.below hb2
        have hs2 := hs.below hb2
        have hp := k2.1.put hsz j hjx ⟨32, s, 0⟩
        have kk : OC (w.heap.size + 1) (.slice (some ⟨g, 0, none⟩) xs.length cap) (fillUp xs p (j + 1) s) w (putCe w2 g (j * 7) ⟨32, s, 0⟩) := by rw [hst.out]; exact k2.own hp.1 hp.2
        have hsk : StAt (putCe w2 g (j * 7) ⟨32, s, 0⟩) w.heap.size s := hs2.own k2.1 (Nat.lt_succ_self _) hp.2
        have hat := k2.1.at hsz j hjx
        have f0 := k2.1.frozen hsz (j * 7)
        have f1 := k2.1.frozen hsz (j * 7 + 1)
        have f2 := k2.1.frozen hsz (j * 7 + 2)
        have f3 := k2.1.frozen hsz (j * 7 + 3)
        have f4 := k2.1.frozen hsz (j * 7 + 4)
        have f5 := k2.1.frozen hsz (j * 7 + 5)
        have f6 := k2.1.frozen hsz (j * 7 + 6)
        clear hp k hb2 hbl hst d0 d1 d2 d3 d4 hs hs2 k2 hme
        obtain ⟨c0, c1, c2, c3, c4, c5, c6⟩ := hat
        simp only [putCe] at kk hsk
        go_wp2
        go_roundw
        case rel => exact ⟨j + 1, by go_num, by omega, by omega, kk, hsk⟩
        case measure => simp [intOf]; omega
      · have hjn : j = q := by omega
        have hji : ¬ (j : Int) < (q : Int) := by omega
        subst hjn
        have hm2 := hme (.slice (some ⟨g, 0, none⟩) xs.length cap) wr (SlC.of_own k.1)
        clear hbl hs hme
        go_wp2_with fail
        refine hm2.mono ?_
        rintro e w2 ⟨u2, rfl, ho2, hb2⟩
        go_wp2
        go_ret
        exact ⟨u2, rfl, by rw [hcl.out]; exact ho2.low k.2.1.size, k.2.1.trans (hb2.mono k.2.1.size)⟩
end Go.Proofs.YteimcepkoclpbaaDoor
