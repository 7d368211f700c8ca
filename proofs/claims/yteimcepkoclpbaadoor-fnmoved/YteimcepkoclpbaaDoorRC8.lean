/- Contracts of the specification's faces on rows: Pushed, Pulled. -/
import Derived.Test.YteimcepkoclpbaaDoorRC4
import Derived.Test.YteimcepkoclpbaaDoorRC7
namespace Go.Proofs.YteimcepkoclpbaaDoor
open Go.ChangeShapes Go.WideShapes Go.ChangeAt Go.RowKit

def pushedV (xs : List Ce) (f t : Int) (s : St) : List Ce := if rowOkB xs = true ∧ s.ok = true ∧ (0 ≤ f ∧ f ≤ xs.length - 1) ∧ (0 ≤ t ∧ t ≤ xs.length) then pushL xs f.toNat t.toNat s else []
set_option maxHeartbeats 4000000 in
theorem specPushed_any (v : Value) (xs : List Ce) (f t : Int) (s : St) (w : World) (hv : SlC w v xs) (hl : xs.length ≤ 1048576) :
    Calls Tryd.prog 27 #[v, .int .i64 f, .int .i64 t, stV s] w fun e w' => ∃ u, e = .returned u ∧ OwnC w' w.heap.size u (pushedV xs f t s) ∧ Below w.heap.size w w' := by
  have h2 := StAt.new w s 26
  have hbA := bal' w (Obj.cells #[.int .i64 s.fore, .int .i64 s.back, .bool s.bold, .bool s.under, .bool s.turned] 26)
  have hOK := specStyleOk_any s
  have hnil : ∀ W : World, w.heap.size ≤ W.heap.size → OwnC (W.alloc (Obj.cells #[] 37)) w.heap.size (.slice (some ⟨W.heap.size, 0, none⟩) 0 0) [] := fun W h => ownC_nil W _ h
  have hro := specRowOk_any v xs _ (hv.below hbA) hl
  have hv1 := hv.below hbA
  obtain ⟨a, c, rfl, hcp, _⟩ := id hv
  unfold stV at *
  go_enter Tryd.func27, Tryd.ntmps27
  go_wp2_with fail
  refine hro.mono ?_
  rintro e w2 ⟨rfl, hb2⟩
  have kb := hbA.trans (hb2.mono hbA.size)
  have hs := h2.below hb2
  have hv2 := hv1.below hb2
  clear hbA hb2 h2 hro hv1 hv
  cases hr : rowOkB xs
  · have hV : Hid (pushedV xs f t s = []) := by show _ = _; unfold pushedV; rw [if_neg (fun h => by rw [hr] at h; exact absurd h.1 (by decide))]
    clear hOK
    go_wp2
    go_ret
    exact ⟨_, rfl, by rw [hV.out]; exact hnil w2 kb.size, kb.trans ((bal' _ _).mono kb.size)⟩
  · obtain ⟨_, ⟨c0, c1, c2, c3, c4⟩, _⟩ := id hs
    go_wp2_with fail
    refine (hOK _).mono ?_
    rintro e w3 ⟨rfl, hb3⟩
    have kb := kb.trans (hb3.mono kb.size)
    have hs := hs.below hb3
    have hv3 := hv2.below hb3
    clear hb3 hOK hv2 c0 c1 c2 c3 c4
    cases ho : s.ok
    · have hV : Hid (pushedV xs f t s = []) := by show _ = _; unfold pushedV; rw [if_neg (fun h => by rw [ho] at h; exact absurd h.2.1 (by decide))]
      go_wp2
      go_ret
      exact ⟨_, rfl, by rw [hV.out]; exact hnil w3 kb.size, kb.trans ((bal' _ _).mono kb.size)⟩
    · have hin1 := fun W => l1In_any f 0 ((xs.length : Int) - 1) W
      have hx60 := ((rowOkB_iff xs).1 hr).1
      by_cases h1 : 0 ≤ f ∧ f ≤ (xs.length : Int) - 1
      · have e1 : decide ((0 : Int) ≤ f ∧ f ≤ (xs.length : Int) - 1) = true := decide_eq_true h1
        rw [e1] at hin1
        clear e1
        have hin2 := fun W => l1In_any t 0 (xs.length : Int) W
        go_wp2_with fail
        refine (hin1 _).mono ?_
        rintro e w4 ⟨rfl, hw⟩
        subst hw
        by_cases h3 : 0 ≤ t ∧ t ≤ (xs.length : Int)
        · have e1 : decide ((0 : Int) ≤ t ∧ t ≤ (xs.length : Int)) = true := decide_eq_true h3
          rw [e1] at hin2
          clear e1
          have hV : Hid (pushedV xs f t s = pushL xs f.toNat t.toNat s) := by show _ = _; unfold pushedV; rw [if_pos ⟨hr, ho, h1, h3⟩]
          have hcl := fun W h => l4Pushed_any (.slice a xs.length c) xs f.toNat t.toNat s W h (by omega) (by omega) (by omega)
          have ef : ((f.toNat : Nat) : Int) = f := by omega
          have et : ((t.toNat : Nat) : Int) = t := by omega
          rw [ef, et] at hcl
          unfold stV at hcl
          clear ef et
          obtain ⟨_, ⟨c0, c1, c2, c3, c4⟩, _⟩ := id hs
          go_wp2_with (go_at_call 49; refine (hin2 _).mono ?_; rintro e w5 ⟨rfl, hw⟩; subst hw)
          refine (hcl _ hv3).mono ?_
          rintro e w5 ⟨u, rfl, ho5, hb5⟩
          go_wp2
          go_ret
          exact ⟨u, rfl, by rw [hV.out]; exact ho5.low kb.size, kb.trans (hb5.mono kb.size)⟩
        · have hV : Hid (pushedV xs f t s = []) := by show _ = _; unfold pushedV; rw [if_neg (fun h => h3 h.2.2.2)]
          have e1 : decide ((0 : Int) ≤ t ∧ t ≤ (xs.length : Int)) = false := decide_eq_false h3
          rw [e1] at hin2
          clear e1 h3
          go_wp2_with (go_at_call 49; refine (hin2 _).mono ?_; rintro e w5 ⟨rfl, hw⟩; subst hw)
          go_ret
          exact ⟨_, rfl, by rw [hV.out]; exact hnil _ kb.size, kb.trans ((bal' _ _).mono kb.size)⟩
      · have e1 : decide ((0 : Int) ≤ f ∧ f ≤ (xs.length : Int) - 1) = false := decide_eq_false h1
        rw [e1] at hin1
        have hV : Hid (pushedV xs f t s = []) := by show _ = _; unfold pushedV; rw [if_neg (fun h => h1 h.2.2.1)]
        clear e1 h1
        go_wp2_with (go_at_call 49; refine (hin1 _).mono ?_; rintro e w4 ⟨rfl, hw⟩; subst hw)
        go_ret
        exact ⟨_, rfl, by rw [hV.out]; exact hnil _ kb.size, kb.trans ((bal' _ _).mono kb.size)⟩
def pulledV (xs : List Ce) (f t : Int) (s : St) : List Ce := if rowOkB xs = true ∧ s.ok = true ∧ (0 ≤ f ∧ f ≤ xs.length - 1) ∧ (0 ≤ t ∧ t ≤ xs.length) then pullL xs f.toNat t.toNat s else []
set_option maxHeartbeats 4000000 in
theorem specPulled_any (v : Value) (xs : List Ce) (f t : Int) (s : St) (w : World) (hv : SlC w v xs) (hl : xs.length ≤ 1048576) :
    Calls Tryd.prog 28 #[v, .int .i64 f, .int .i64 t, stV s] w fun e w' => ∃ u, e = .returned u ∧ OwnC w' w.heap.size u (pulledV xs f t s) ∧ Below w.heap.size w w' := by
  have h2 := StAt.new w s 26
  have hbA := bal' w (Obj.cells #[.int .i64 s.fore, .int .i64 s.back, .bool s.bold, .bool s.under, .bool s.turned] 26)
  have hOK := specStyleOk_any s
  have hnil : ∀ W : World, w.heap.size ≤ W.heap.size → OwnC (W.alloc (Obj.cells #[] 37)) w.heap.size (.slice (some ⟨W.heap.size, 0, none⟩) 0 0) [] := fun W h => ownC_nil W _ h
  have hro := specRowOk_any v xs _ (hv.below hbA) hl
  have hv1 := hv.below hbA
  obtain ⟨a, c, rfl, hcp, _⟩ := id hv
  unfold stV at *
  go_enter Tryd.func28, Tryd.ntmps28
  go_wp2_with fail
  refine hro.mono ?_
  rintro e w2 ⟨rfl, hb2⟩
  have kb := hbA.trans (hb2.mono hbA.size)
  have hs := h2.below hb2
  have hv2 := hv1.below hb2
  clear hbA hb2 h2 hro hv1 hv
  cases hr : rowOkB xs
  · have hV : Hid (pulledV xs f t s = []) := by show _ = _; unfold pulledV; rw [if_neg (fun h => by rw [hr] at h; exact absurd h.1 (by decide))]
    clear hOK
    go_wp2
    go_ret
    exact ⟨_, rfl, by rw [hV.out]; exact hnil w2 kb.size, kb.trans ((bal' _ _).mono kb.size)⟩
  · obtain ⟨_, ⟨c0, c1, c2, c3, c4⟩, _⟩ := id hs
    go_wp2_with fail
    refine (hOK _).mono ?_
    rintro e w3 ⟨rfl, hb3⟩
    have kb := kb.trans (hb3.mono kb.size)
    have hs := hs.below hb3
    have hv3 := hv2.below hb3
    clear hb3 hOK hv2 c0 c1 c2 c3 c4
    cases ho : s.ok
    · have hV : Hid (pulledV xs f t s = []) := by show _ = _; unfold pulledV; rw [if_neg (fun h => by rw [ho] at h; exact absurd h.2.1 (by decide))]
      go_wp2
      go_ret
      exact ⟨_, rfl, by rw [hV.out]; exact hnil w3 kb.size, kb.trans ((bal' _ _).mono kb.size)⟩
    · have hin1 := fun W => l1In_any f 0 ((xs.length : Int) - 1) W
      have hx60 := ((rowOkB_iff xs).1 hr).1
      by_cases h1 : 0 ≤ f ∧ f ≤ (xs.length : Int) - 1
      · have e1 : decide ((0 : Int) ≤ f ∧ f ≤ (xs.length : Int) - 1) = true := decide_eq_true h1
        rw [e1] at hin1
        clear e1
        have hin2 := fun W => l1In_any t 0 (xs.length : Int) W
        go_wp2_with fail
        refine (hin1 _).mono ?_
        rintro e w4 ⟨rfl, hw⟩
        subst hw
        by_cases h3 : 0 ≤ t ∧ t ≤ (xs.length : Int)
        · have e1 : decide ((0 : Int) ≤ t ∧ t ≤ (xs.length : Int)) = true := decide_eq_true h3
          rw [e1] at hin2
          clear e1
          have hV : Hid (pulledV xs f t s = pullL xs f.toNat t.toNat s) := by show _ = _; unfold pulledV; rw [if_pos ⟨hr, ho, h1, h3⟩]
          have hcl := fun W h => l4Pulled_any (.slice a xs.length c) xs f.toNat t.toNat s W h (by omega) (by omega) (by omega)
          have ef : ((f.toNat : Nat) : Int) = f := by omega
          have et : ((t.toNat : Nat) : Int) = t := by omega
          rw [ef, et] at hcl
          unfold stV at hcl
          clear ef et
          obtain ⟨_, ⟨c0, c1, c2, c3, c4⟩, _⟩ := id hs
          go_wp2_with (go_at_call 49; refine (hin2 _).mono ?_; rintro e w5 ⟨rfl, hw⟩; subst hw)
          refine (hcl _ hv3).mono ?_
          rintro e w5 ⟨u, rfl, ho5, hb5⟩
          go_wp2
          go_ret
          exact ⟨u, rfl, by rw [hV.out]; exact ho5.low kb.size, kb.trans (hb5.mono kb.size)⟩
        · have hV : Hid (pulledV xs f t s = []) := by show _ = _; unfold pulledV; rw [if_neg (fun h => h3 h.2.2.2)]
          have e1 : decide ((0 : Int) ≤ t ∧ t ≤ (xs.length : Int)) = false := decide_eq_false h3
          rw [e1] at hin2
          clear e1 h3
          go_wp2_with (go_at_call 49; refine (hin2 _).mono ?_; rintro e w5 ⟨rfl, hw⟩; subst hw)
          go_ret
          exact ⟨_, rfl, by rw [hV.out]; exact hnil _ kb.size, kb.trans ((bal' _ _).mono kb.size)⟩
      · have e1 : decide ((0 : Int) ≤ f ∧ f ≤ (xs.length : Int) - 1) = false := decide_eq_false h1
        rw [e1] at hin1
        have hV : Hid (pulledV xs f t s = []) := by show _ = _; unfold pulledV; rw [if_neg (fun h => h1 h.2.2.1)]
        clear e1 h1
        go_wp2_with (go_at_call 49; refine (hin1 _).mono ?_; rintro e w4 ⟨rfl, hw⟩; subst hw)
        go_ret
        exact ⟨_, rfl, by rw [hV.out]; exact hnil _ kb.size, kb.trans ((bal' _ _).mono kb.size)⟩
end Go.Proofs.YteimcepkoclpbaaDoor
