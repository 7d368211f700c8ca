/- Contracts of the specification's faces on rows: Cleared. Contracts of the specification's written row. -/
import Derived.Test.YteimcepkoclpbaaDoorJRC2
import Derived.Test.YteimcepkoclpbaaDoorRC4
namespace Go.Proofs.YteimcepkoclpbaaDoor
open Go.ChangeShapes Go.WideShapes Go.ChangeAt Go.RowKit

def clearedV (xs : List Ce) (f t : Int) (s : St) : List Ce := if rowOkB xs = true ∧ s.ok = true ∧ (0 ≤ f ∧ f ≤ t) ∧ t ≤ xs.length then clearL xs f.toNat t.toNat s else []
set_option maxHeartbeats 4000000 in
theorem specCleared_any (v : Value) (xs : List Ce) (f t : Int) (s : St) (w : World) (hv : SlC w v xs) (hl : xs.length ≤ 1048576) :
    Calls Tryd.prog 17 #[v, .int .i64 f, .int .i64 t, stV s] w fun e w' => ∃ u, e = .returned u ∧ OwnC w' w.heap.size u (clearedV xs f t s) ∧ Below w.heap.size w w' := by
  have h2 := StAt.new w s 26
  have hbA := bal' w (Obj.cells #[.int .i64 s.fore, .int .i64 s.back, .bool s.bold, .bool s.under, .bool s.turned] 26)
  have hOK := specStyleOk_any s
  have hnil : ∀ W : World, w.heap.size ≤ W.heap.size → OwnC (W.alloc (Obj.cells #[] 37)) w.heap.size (.slice (some ⟨W.heap.size, 0, none⟩) 0 0) [] := fun W h => ownC_nil W _ h
  have hro := specRowOk_any v xs _ (hv.below hbA) hl
  have hv1 := hv.below hbA
  obtain ⟨a, c, rfl, hcp, _⟩ := id hv
  unfold stV at *
  go_enter Tryd.func17, Tryd.ntmps17
  go_wp2_with fail
  refine hro.mono ?_
  rintro e w2 ⟨rfl, hb2⟩
  have kb := hbA.trans (hb2.mono hbA.size)
  have hs := h2.below hb2
  have hv2 := hv1.below hb2
  clear hbA hb2 h2 hro hv1 hv
  cases hr : rowOkB xs
  · have hV : Hid (clearedV xs f t s = []) := by show _ = _; unfold clearedV; rw [if_neg (fun h => by rw [hr] at h; exact absurd h.1 (by decide))]
    clear hOK
    go_wp2
    go_ret
    exact ⟨_, rfl, by rw [hV.out]; exact hnil w2 kb.size, kb.trans ((bal' _ _).mono kb.size)⟩
  · obtain ⟨_, ⟨c0, c1, c2, c3, c4⟩, _⟩ := id hs
    go_wp2_with fail
    refine (hOK _).mono ?_
    rintro e w3 ⟨rfl, hb3⟩
    have kb := kb.trans (hb3.mono kb.size)
    have hs := hs.below hb3
    have hv3 := hv2.below hb3
    clear hb3 hOK hv2 c0 c1 c2 c3 c4
    cases ho : s.ok
    · have hV : Hid (clearedV xs f t s = []) := by show _ = _; unfold clearedV; rw [if_neg (fun h => by rw [ho] at h; exact absurd h.2.1 (by decide))]
      go_wp2
      go_ret
      exact ⟨_, rfl, by rw [hV.out]; exact hnil w3 kb.size, kb.trans ((bal' _ _).mono kb.size)⟩
    · have hin := fun W => l1In_any f 0 t W
      by_cases h1 : 0 ≤ f ∧ f ≤ t
      · have e1 : decide ((0 : Int) ≤ f ∧ f ≤ t) = true := decide_eq_true h1
        rw [e1] at hin
        clear e1
        by_cases h3 : t ≤ (xs.length : Int)
        · have hV : Hid (clearedV xs f t s = clearL xs f.toNat t.toNat s) := by show _ = _; unfold clearedV; rw [if_pos ⟨hr, ho, h1, h3⟩]
          have hx60 := ((rowOkB_iff xs).1 hr).1
          have hcl := fun W h => l4Cleared_any (.slice a xs.length c) xs f.toNat t.toNat s W h (by omega) (by omega) (by omega)
          have ef : ((f.toNat : Nat) : Int) = f := by omega
          have et : ((t.toNat : Nat) : Int) = t := by omega
          rw [ef, et] at hcl
          unfold stV at hcl
          clear ef et h1 hx60
          have h3n : ¬ (xs.length : Int) < t := by omega
          obtain ⟨_, ⟨c0, c1, c2, c3, c4⟩, _⟩ := id hs
          go_wp2_with (go_at_call 49; refine (hin _).mono ?_; rintro e w4 ⟨rfl, hw⟩; subst hw)
          refine (hcl _ hv3).mono ?_
          rintro e w5 ⟨u, rfl, ho5, hb5⟩
          go_wp2
          go_ret
          exact ⟨u, rfl, by rw [hV.out]; exact ho5.low kb.size, kb.trans (hb5.mono kb.size)⟩
        · have hV : Hid (clearedV xs f t s = []) := by show _ = _; unfold clearedV; rw [if_neg (fun h => h3 h.2.2.2)]
          have h3n : (xs.length : Int) < t := by omega
          go_wp2_with (go_at_call 49; refine (hin _).mono ?_; rintro e w4 ⟨rfl, hw⟩; subst hw)
          go_ret
          exact ⟨_, rfl, by rw [hV.out]; exact hnil _ kb.size, kb.trans ((bal' _ _).mono kb.size)⟩
      · have e1 : decide ((0 : Int) ≤ f ∧ f ≤ t) = false := decide_eq_false h1
        rw [e1] at hin
        have hV : Hid (clearedV xs f t s = []) := by show _ = _; unfold clearedV; rw [if_neg (fun h => h1 h.2.2.1)]
        clear e1 h1
        go_wp2_with (go_at_call 49; refine (hin _).mono ?_; rintro e w4 ⟨rfl, hw⟩; subst hw)
        go_ret
        exact ⟨_, rfl, by rw [hV.out]; exact hnil _ kb.size, kb.trans ((bal' _ _).mono kb.size)⟩
end Go.Proofs.YteimcepkoclpbaaDoor
namespace Go.Proofs.YteimcepkoclpbaaDoor
open Go.ChangeShapes Go.WideShapes Go.ChangeAt Go.RowKit

def writeL (xs : List Ce) (p : Nat) (r : Int) (s : St) : List Ce :=
  if widthV r = 2 then ((clearL xs p (p + (widthV r).toNat) s).set p ⟨r, s, widthV r - 1⟩).set (p + 1) ⟨0, s, 2⟩ else (clearL xs p (p + (widthV r).toNat) s).set p ⟨r, s, widthV r - 1⟩
theorem writeL_len (xs : List Ce) (p : Nat) (r : Int) (s : St) : (writeL xs p r s).length = xs.length := by
  unfold writeL
  split <;> simp [clearL_len]
set_option maxHeartbeats 4000000 in
set_option maxRecDepth 20000 in
theorem l4Written_any (v : Value) (xs : List Ce) (p : Nat) (r : Int) (s : St) (w : World) (hv : SlC w v xs) (hw1 : 1 ≤ widthV r) (hp : (p : Int) + widthV r ≤ xs.length) (hl : xs.length ≤ 1000) :
    Calls Tryd.prog 51 #[v, .int .i64 p, .int .i64 r, stV s] w fun e w' => ∃ u, e = .returned u ∧ OwnC w' w.heap.size u (writeL xs p r s) ∧ Below w.heap.size w w' := by
  have h2 := StAt.new w s 26
  have hbA := bal' w (Obj.cells #[.int .i64 s.fore, .int .i64 s.back, .bool s.bold, .bool s.under, .bool s.turned] 26)
  have hsz : (w.alloc (Obj.cells #[.int .i64 s.fore, .int .i64 s.back, .bool s.bold, .bool s.under, .bool s.turned] 26)).heap.size = w.heap.size + 1 := by simp
  have hwd := fun W => specWidth_any r W
  have hbd := widthV_bd r
  have hv1 := hv.below hbA
  have hcl := l4Cleared_any v xs p (p + (widthV r).toNat) s _ hv1 (by omega) (by omega) hl
  have hwl : Hid (writeL xs p r s = if widthV r = 2 then ((clearL xs p (p + (widthV r).toNat) s).set p ⟨r, s, widthV r - 1⟩).set (p + 1) ⟨0, s, 2⟩ else (clearL xs p (p + (widthV r).toNat) s).set p ⟨r, s, widthV r - 1⟩) := rfl
  have hcLen := clearL_len xs p (p + (widthV r).toNat) s
  have eW : ((p + (widthV r).toNat : Nat) : Int) = (p : Int) + widthV r := by omega
  rw [eW] at hcl
  generalize clearL xs p (p + (widthV r).toNat) s = L at *
  generalize widthV r = W at *
  clear eW hv1
  obtain ⟨a, c, rfl, hcp, _⟩ := hv
  obtain ⟨_, ⟨c0, c1, c2, c3, c4⟩, _⟩ := id h2
  unfold stV at *
  go_enter Tryd.func51, Tryd.ntmps51
  go_wp2_with (go_at_call 23; refine (hwd _).mono ?_; rintro e w4 ⟨rfl, hw⟩; subst hw)
  refine hcl.mono ?_
  rintro e w5 ⟨u, rfl, ho5, hb5⟩
  have ko : OC (w.heap.size + 1) u L w w5 := ⟨ho5.low (by rw [hsz]; exact Nat.le_refl _), hbA.trans (hb5.mono hbA.size), by have := hb5.size; rw [hsz] at this; exact this, by omega⟩
  have hs := h2.below hb5
  clear hcl ho5 hb5 h2 hbA c0 c1 c2 c3 c4 hwd hsz
  have hpx : p < xs.length := by omega
  rcases ko.1.shape with ⟨_, hx⟩ | ⟨g, cap, rfl, hbg, hlg, hcap⟩
  · rw [hx] at hcLen; simp at hcLen; omega
  · rw [hcLen] at ko hcap ⊢
    have hp1 := ko.1.put hcLen p hpx ⟨r, s, W - 1⟩
    have k2 : OC (w.heap.size + 1) (.slice (some ⟨g, 0, none⟩) xs.length cap) (L.set p ⟨r, s, W - 1⟩) w (putCe w5 g (p * 7) ⟨r, s, W - 1⟩) := ko.own hp1.1 hp1.2
    have hs2 := hs.own ko.1 (Nat.lt_succ_self _) hp1.2
    have hat := ko.1.at hcLen p hpx
    have f0 := ko.1.frozen hcLen (p * 7)
    have f1 := ko.1.frozen hcLen (p * 7 + 1)
    have f2 := ko.1.frozen hcLen (p * 7 + 2)
    have f3 := ko.1.frozen hcLen (p * 7 + 3)
    have f4 := ko.1.frozen hcLen (p * 7 + 4)
    have f5 := ko.1.frozen hcLen (p * 7 + 5)
    have f6 := ko.1.frozen hcLen (p * 7 + 6)
    have hlen2 : (L.set p ⟨r, s, W - 1⟩).length = xs.length := by rw [List.length_set]; exact hcLen
    obtain ⟨_, ⟨c0, c1, c2, c3, c4⟩, _⟩ := id hs
    obtain ⟨d0, d1, d2, d3, d4, d5, d6⟩ := hat
    have hpi : (p : Int) < (xs.length : Int) := by omega
    have hp0 : (0 : Int) ≤ (p : Int) := by omega
    by_cases hW : W = 2
    · have hWb : (W == 2) = true := by simp [hW]
      have hp1x : p + 1 < xs.length := by omega
      have hp1i : (p : Int) + 1 < (xs.length : Int) := by omega
      have hq1 := k2.1.put hlen2 (p + 1) hp1x ⟨0, s, 2⟩
      have k3 : OC (w.heap.size + 1) (.slice (some ⟨g, 0, none⟩) xs.length cap) ((L.set p ⟨r, s, W - 1⟩).set (p + 1) ⟨0, s, 2⟩) w (putCe (putCe w5 g (p * 7) ⟨r, s, W - 1⟩) g ((p + 1) * 7) ⟨0, s, 2⟩) := k2.own hq1.1 hq1.2
      have hat2 := k2.1.at hlen2 (p + 1) hp1x
      have g0 := k2.1.frozen hlen2 ((p + 1) * 7)
      have g1 := k2.1.frozen hlen2 ((p + 1) * 7 + 1)
      have g2 := k2.1.frozen hlen2 ((p + 1) * 7 + 2)
      have g3 := k2.1.frozen hlen2 ((p + 1) * 7 + 3)
      have g4 := k2.1.frozen hlen2 ((p + 1) * 7 + 4)
      have g5 := k2.1.frozen hlen2 ((p + 1) * 7 + 5)
      have g6 := k2.1.frozen hlen2 ((p + 1) * 7 + 6)
      obtain ⟨_, ⟨b0, b1, b2, b3, b4⟩, _⟩ := id hs2
      obtain ⟨e0, e1, e2, e3, e4, e5, e6⟩ := hat2
      have hwl' : Hid (writeL xs p r s = (L.set p ⟨r, s, W - 1⟩).set (p + 1) ⟨0, s, 2⟩) := by show _ = _; rw [hwl.out, if_pos hW]
      clear hp1 hq1 k2 hs hs2 ko hwl hW
      generalize hY : putCe w5 g (p * 7) ⟨r, s, W - 1⟩ = Y at *
      simp only [putCe] at hY
      generalize hZ : putCe Y g ((p + 1) * 7) ⟨0, s, 2⟩ = Z at *
      simp only [putCe] at hZ
      go_wp2
      go_ret
      exact ⟨_, rfl, by rw [hwl'.out]; exact k3.1.low (by omega), k3.2.1⟩
    · have hWb : (W == 2) = false := by simp [hW]
      have hwl' : Hid (writeL xs p r s = L.set p ⟨r, s, W - 1⟩) := by show _ = _; rw [hwl.out, if_neg hW]
      clear hp1 hs hs2 ko hwl hW
      generalize hY : putCe w5 g (p * 7) ⟨r, s, W - 1⟩ = Y at *
      simp only [putCe] at hY
      go_wp2
      go_ret
      exact ⟨_, rfl, by rw [hwl'.out]; exact k2.1.low (by omega), k2.2.1⟩
def writtenV (xs : List Ce) (at_ r : Int) (s : St) : List Ce := if rowOkB xs = true ∧ widthV r ≠ 0 ∧ (0 ≤ at_ ∧ at_ ≤ xs.length - widthV r) ∧ s.ok = true then writeL xs at_.toNat r s else []
set_option maxHeartbeats 4000000 in
theorem specWritten_any (v : Value) (xs : List Ce) (p r : Int) (s : St) (w : World) (hv : SlC w v xs) (hl : xs.length ≤ 1048576) :
    Calls Tryd.prog 16 #[v, .int .i64 p, .int .i64 r, stV s] w fun e w' => ∃ u, e = .returned u ∧ OwnC w' w.heap.size u (writtenV xs p r s) ∧ Below w.heap.size w w' := by
  have h2 := StAt.new w s 26
  have hbA := bal' w (Obj.cells #[.int .i64 s.fore, .int .i64 s.back, .bool s.bold, .bool s.under, .bool s.turned] 26)
  have hOK := specStyleOk_any s
  have hnil : ∀ W : World, w.heap.size ≤ W.heap.size → OwnC (W.alloc (Obj.cells #[] 37)) w.heap.size (.slice (some ⟨W.heap.size, 0, none⟩) 0 0) [] := fun W h => ownC_nil W _ h
  have hro := specRowOk_any v xs _ (hv.below hbA) hl
  have hv1 := hv.below hbA
  have hwd := fun W => specWidth_any r W
  have hbd := widthV_bd r
  obtain ⟨a, c, rfl, hcp, _⟩ := id hv
  unfold stV at *
  go_enter Tryd.func16, Tryd.ntmps16
  go_wp2_with (go_at_call 23; refine (hwd _).mono ?_; rintro e w1 ⟨rfl, hw⟩; subst hw)
  refine hro.mono ?_
  rintro e w2 ⟨rfl, hb2⟩
  have kb := hbA.trans (hb2.mono hbA.size)
  have hs := h2.below hb2
  have hv2 := hv1.below hb2
  clear hbA hb2 h2 hro hv1 hv hwd
  cases hr : rowOkB xs
  · have hV : Hid (writtenV xs p r s = []) := by show _ = _; unfold writtenV; rw [if_neg (fun h => by rw [hr] at h; exact absurd h.1 (by decide))]
    clear hOK
    go_wp2
    go_ret
    exact ⟨_, rfl, by rw [hV.out]; exact hnil _ kb.size, kb.trans ((bal' _ _).mono kb.size)⟩
  · by_cases hw0 : widthV r = 0
    · have hwb : (widthV r == 0) = true := by simp [hw0]
      have hV : Hid (writtenV xs p r s = []) := by show _ = _; unfold writtenV; rw [if_neg (fun h => h.2.1 hw0)]
      clear hOK hw0
      go_wp2
      go_ret
      exact ⟨_, rfl, by rw [hV.out]; exact hnil _ kb.size, kb.trans ((bal' _ _).mono kb.size)⟩
    · have hwb : (widthV r == 0) = false := by simp [hw0]
      have hx60 := ((rowOkB_iff xs).1 hr).1
      have hin := fun W => l1In_any p 0 ((xs.length : Int) - widthV r) W
      by_cases h1 : 0 ≤ p ∧ p ≤ (xs.length : Int) - widthV r
      · have e1 : decide ((0 : Int) ≤ p ∧ p ≤ (xs.length : Int) - widthV r) = true := decide_eq_true h1
        rw [e1] at hin
        clear e1
        obtain ⟨_, ⟨c0, c1, c2, c3, c4⟩, _⟩ := id hs
        go_wp2_with (go_at_call 49; refine (hin _).mono ?_; rintro e w3 ⟨rfl, hw⟩; subst hw)
        refine (hOK _).mono ?_
        rintro e w4 ⟨rfl, hb4⟩
        have kb := kb.trans (hb4.mono kb.size)
        have hs := hs.below hb4
        have hv4 := hv2.below hb4
        clear hb4 hOK hv2 c0 c1 c2 c3 c4 hin
        cases ho : s.ok
        · have hV : Hid (writtenV xs p r s = []) := by show _ = _; unfold writtenV; rw [if_neg (fun h => by rw [ho] at h; exact absurd h.2.2.2 (by decide))]
          go_wp2
          go_ret
          exact ⟨_, rfl, by rw [hV.out]; exact hnil _ kb.size, kb.trans ((bal' _ _).mono kb.size)⟩
        · have hV : Hid (writtenV xs p r s = writeL xs p.toNat r s) := by show _ = _; unfold writtenV; rw [if_pos ⟨hr, hw0, h1, ho⟩]
          have hcl := fun W h => l4Written_any (.slice a xs.length c) xs p.toNat r s W h (by omega) (by omega) (by omega)
          have ef : ((p.toNat : Nat) : Int) = p := by omega
          rw [ef] at hcl
          unfold stV at hcl
          clear ef
          obtain ⟨_, ⟨c0, c1, c2, c3, c4⟩, _⟩ := id hs
          go_wp2_with fail
          refine (hcl _ hv4).mono ?_
          rintro e w5 ⟨u, rfl, ho5, hb5⟩
          go_wp2
          go_ret
          exact ⟨u, rfl, by rw [hV.out]; exact ho5.low kb.size, kb.trans (hb5.mono kb.size)⟩
      · have e1 : decide ((0 : Int) ≤ p ∧ p ≤ (xs.length : Int) - widthV r) = false := decide_eq_false h1
        rw [e1] at hin
        have hV : Hid (writtenV xs p r s = []) := by show _ = _; unfold writtenV; rw [if_neg (fun h => h1 h.2.2.1)]
        clear e1 h1
        go_wp2_with (go_at_call 49; refine (hin _).mono ?_; rintro e w3 ⟨rfl, hw⟩; subst hw)
        go_ret
        exact ⟨_, rfl, by rw [hV.out]; exact hnil _ kb.size, kb.trans ((bal' _ _).mono kb.size)⟩
end Go.Proofs.YteimcepkoclpbaaDoor
