/- Contract of the program's Written. -/
import Derived.Test.YteimcepkoclpbaaDoorJRK6
import Derived.Test.YteimcepkoclpbaaDoorJRC5
namespace Go.Proofs.YteimcepkoclpbaaDoor
open Go.ChangeShapes Go.WideShapes Go.ChangeAt Go.RowKit

/-- What is cleared ahead of the writing, and when it is refused. -/
theorem written_way (xs : List Ce) (p r : Int) (s : St) (h0 : widthV r ≠ 0) :
    (clearedV xs p (IntKind.i64.wrap (p + widthV r)) s = [] ∧ writtenV xs p r s = []) ∨
      (∃ q : Nat, p = q ∧ q + (widthV r).toNat ≤ xs.length ∧ xs.length ≤ 60 ∧ Right xs ∧ s.ok = true ∧ clearedV xs p (IntKind.i64.wrap (p + widthV r)) s = clearL xs q (q + (widthV r).toNat) s ∧ writtenV xs p r s = writeL xs q r s) := by
  have hw := widthV_bd r
  unfold clearedV writtenV
  by_cases hr : rowOkB xs = true
  · obtain ⟨hl, hR⟩ := (right_iff xs).1 hr
    by_cases ho : s.ok = true
    · by_cases hp : 0 ≤ p ∧ p ≤ (xs.length : Int) - widthV r
      · have e : IntKind.i64.wrap (p + widthV r) = p + widthV r := by rw [IntKind.wrap_i64]; omega
        right
        refine ⟨p.toNat, by omega, by omega, hl.2, hR, ho, ?_, ?_⟩
        · rw [e, if_pos ⟨hr, ho, by omega, by omega⟩]
          congr 1
          omega
        · rw [if_pos ⟨hr, h0, hp, ho⟩]
      · left
        refine ⟨if_neg ?_, if_neg fun x => hp x.2.2.1⟩
        rintro ⟨_, _, x1, x2⟩
        apply hp
        refine ⟨x1.1, ?_⟩
        have h1 := x1.2
        have e : IntKind.i64.wrap (p + widthV r) = p + widthV r := by rw [IntKind.wrap_i64]; omega
        rw [e] at x2; omega
    · left; exact ⟨if_neg fun x => ho x.2.1, if_neg fun x => ho x.2.2.2⟩
  · left; exact ⟨if_neg fun x => hr x.1, if_neg fun x => hr x.1⟩
theorem clear_in {l : List Ce} (a b : Nat) (s : St) (hb : b ≤ l.length) (i : Nat) (h1 : a ≤ i) (h2 : i < b) : atC (clearL l a b s) i = blankC s := by
  have e : atC (fillUp l a b s) i = blankC s := by rw [fill_at _ _ _ _ _ hb, if_pos ⟨h1, h2⟩]
  rw [clearL, mendV_all, mendC]
  have : ¬ aloneB (fillUp l a b s) i = true := by rw [alone_iff, e]; simp [blankC]
  rw [if_neg this, e]
set_option maxHeartbeats 4000000 in
set_option maxRecDepth 20000 in
theorem implWritten_any (v : Value) (xs : List Ce) (p r : Int) (s : St) (w : World) (hS : SpansAt w) (hv : SlC w v xs) (hl : xs.length ≤ 1048576) :
    Calls Tryd.prog 10 #[v, .int .i64 p, .int .i64 r, stV s] w fun e w' => ∃ u, e = .returned u ∧ OwnC w' w.heap.size u (writtenV xs p r s) ∧ Below w.heap.size w w' := by
  have h2 := StAt.new w s 26
  have hbA := bal' w (Obj.cells #[.int .i64 s.fore, .int .i64 s.back, .bool s.bold, .bool s.under, .bool s.turned] 26)
  have hno : ∀ W : World, OwnC W w.heap.size (.slice none 0 0) [] := fun W => ownC_none W _
  have hv1 := hv.below hbA
  have hwd := implWidth_any r _ (hS.below hbA hS.lt)
  have hbd := widthV_bd r
  have hSl := hS.lt
  obtain ⟨a, c, rfl, hcp, _⟩ := id hv
  unfold stV at *
  go_enter Tryd.func10, Tryd.ntmps10
  go_wp2_with fail
  refine hwd.mono ?_
  rintro e w2 ⟨rfl, hb2⟩
  have kb := hbA.trans (hb2.mono hbA.size)
  have hs := h2.below hb2
  have hv2 := hv1.below hb2
  have hcl := implCleared_any _ xs p (IntKind.i64.wrap (p + widthV r)) s w2 (hS.below kb hSl) hv2 hl
  clear hbA hb2 h2 hwd hv1
  obtain ⟨_, ⟨c0, c1, c2, c3, c4⟩, _⟩ := id hs
  have hway := fun h => written_way xs p r s h
  have hWL : Hid (∀ q, writeL xs q r s = if widthV r = 2 then ((clearL xs q (q + (widthV r).toNat) s).set q ⟨r, s, widthV r - 1⟩).set (q + 1) ⟨0, s, 2⟩ else (clearL xs q (q + (widthV r).toNat) s).set q ⟨r, s, widthV r - 1⟩) := fun _ => rfl
  have hV0 : widthV r = 0 → writtenV xs p r s = [] := fun h => by unfold writtenV; rw [if_neg (fun x => x.2.1 h)]
  generalize widthV r = W at *
  unfold stV at hcl
  generalize hT : IntKind.i64.wrap (p + W) = T at *
  go_wp2_with fail
  refine hcl.mono ?_
  clear hcl
  rintro e w3 ⟨u, rfl, ho3, hb3⟩
  have hs3 := hs.below hb3
  have kb3 := kb.trans (hb3.mono kb.size)
  have hgB : ∀ g, u.ownBlock = some g → w.heap.size < g := fun g e => Nat.lt_of_lt_of_le hs.1 (ho3.lt g e).1
  have ho3 := ho3.low kb.size
  clear c0 c1 c2 c3 c4 hb3 hs hv2
  by_cases hW0 : W = 0
  · have hWb : (W == 0) = true := by simp [hW0]
    have hV : Hid (writtenV xs p r s = []) := hV0 hW0
    clear hW0 hway hV0 hs3 ho3
    go_wp2
    go_ret
    exact ⟨_, rfl, by rw [hV.out]; exact hno _, kb3⟩
  · have hWb : (W == 0) = false := by simp [hW0]
    rcases hway hW0 with ⟨hZ, hV⟩ | ⟨q, hpq, hq, hx60, hR, hok, hZ, hV⟩
    · have hV : Hid (writtenV xs p r s = []) := hV
      rw [hZ] at ho3
      rcases ho3.shape with ⟨rfl, _⟩ | ⟨g, cap, rfl, _⟩
      all_goals
        clear hway hV0 hs3 ho3 hZ hW0 hgB
        go_wp2
        go_ret
        exact ⟨_, rfl, by rw [hV.out]; exact hno _, kb3⟩
    · have hV : Hid (writtenV xs p r s = writeL xs q r s) := hV
      have hV2 := hWL.out q
      rw [hZ] at ho3
      have hcLen := clearL_len xs q (q + W.toNat) s
      have hc0 := clear_in (l := xs) q (q + W.toNat) s hq q (Nat.le_refl _) (by omega)
      subst hpq
      clear hway hV0 hZ hWL hT hno
      generalize clearL xs q (q + W.toNat) s = L at *
      have hqx : q < xs.length := by omega
      have hqi : (q : Int) < (xs.length : Int) := by omega
      have hq0 : (0 : Int) ≤ (q : Int) := by omega
      rcases ho3.shape with ⟨_, hx⟩ | ⟨g, cap, rfl, hbg, hlg, hcap⟩
      · rw [hx] at hcLen; simp at hcLen; omega
      · rw [hcLen] at ho3 hcap ⊢
        have hBg := hgB g rfl
        have hl0 : ((xs.length : Int) == 0) = false := beq_eq_false_iff_ne.2 (by omega)
        have hp1 := ho3.put1 hcLen q hqx 0 (by decide) (.int .i64 r) ⟨r, s, 0⟩ (by rw [hc0]; rfl)
        have hlen1 : (L.set q ⟨r, s, 0⟩).length = xs.length := by rw [List.length_set]; exact hcLen
        have hat0 := ho3.at hcLen q hqx
        have f0 := ho3.frozen hcLen (q * 7)
        have kb4 := kb3.grown hp1.2 kb3.size (fun k hk => by cases hk; omega)
        by_cases hW2 : W = 2
        · have hWb2 : (W == 2) = true := by simp [hW2]
          have hc1 : atC (L.set q ⟨r, s, 0⟩) q = ⟨r, s, 0⟩ := by rw [atC_set, if_pos ⟨rfl, by omega⟩]
          have hp2 := hp1.1.put1 hlen1 q hqx 6 (by decide) (.int .i64 1) ⟨r, s, 1⟩ (by rw [hc1]; rfl)
          have hlen2 : ((L.set q ⟨r, s, 0⟩).set q ⟨r, s, 1⟩).length = xs.length := by rw [List.length_set]; exact hlen1
          have hp3 := hp2.1.put hlen2 (q + 1) (by omega) ⟨0, s, 2⟩
          have hat1 := hp1.1.at hlen1 q hqx
          have f1 := hp1.1.frozen hlen1 (q * 7 + 6)
          have hat2 := hp2.1.at hlen2 (q + 1) (by omega)
          have g0 := hp2.1.frozen hlen2 ((q + 1) * 7)
          have g1 := hp2.1.frozen hlen2 ((q + 1) * 7 + 1)
          have g2 := hp2.1.frozen hlen2 ((q + 1) * 7 + 2)
          have g3 := hp2.1.frozen hlen2 ((q + 1) * 7 + 3)
          have g4 := hp2.1.frozen hlen2 ((q + 1) * 7 + 4)
          have g5 := hp2.1.frozen hlen2 ((q + 1) * 7 + 5)
          have g6 := hp2.1.frozen hlen2 ((q + 1) * 7 + 6)
          have kb5 := kb4.grown hp2.2 kb4.size (fun k hk => by cases hk; omega)
          have kb6 := kb5.grown hp3.2 kb5.size (fun k hk => by cases hk; omega)
          have hs5 := (hs3.grown hp1.2 (by simp; omega)).grown hp2.2 (by simp; omega)
          have ho6 := hp3.1
          rw [List.set_set] at ho6
          have hfin : Hid (writtenV xs (q : Int) r s = (L.set q ⟨r, s, 1⟩).set (q + 1) ⟨0, s, 2⟩) := by show _ = _; rw [hV.out, hV2, if_pos hW2, hW2]; rfl
          have hq1i : (q : Int) + 1 < (xs.length : Int) := by omega
          have hq1 : q + 1 < xs.length := by omega
          obtain ⟨_, ⟨b0, b1, b2, b3, b4⟩, _⟩ := id hs5
          obtain ⟨d0, d1, d2, d3, d4, d5, d6⟩ := hat0
          obtain ⟨e0, e1, e2, e3, e4, e5, e6⟩ := hat1
          obtain ⟨h0, h1, h2, h3, h4, h5, h6⟩ := hat2
          clear hp1 hp2 hp3 hV hV2 hW2 hs3 hs5 kb3 kb4 kb5 ho3 hc0 hc1
          generalize hX : w3.setCell ⟨g, q * 7 + 0, none⟩ (.int .i64 r) = X at *
          rw [Nat.add_zero] at hX
          generalize hY : X.setCell ⟨g, q * 7 + 6, none⟩ (.int .i64 1) = Y at *
          generalize hZZ : putCe Y g ((q + 1) * 7) ⟨0, s, 2⟩ = Z at *
          simp only [putCe] at hZZ
          go_wp2
          go_ret
          exact ⟨_, rfl, by rw [hfin.out]; exact ho6, kb6⟩
        · have hWb2 : (W == 2) = false := by simp [hW2]
          have hW1 : W = 1 := by omega
          have hfin : Hid (writtenV xs (q : Int) r s = L.set q ⟨r, s, 0⟩) := by show _ = _; rw [hV.out, hV2, if_neg hW2, hW1]; rfl
          have ho4 := hp1.1
          obtain ⟨d0, d1, d2, d3, d4, d5, d6⟩ := hat0
          clear hp1 hV hV2 hW2 hW1 hs3 kb3 ho3 hc0
          generalize hX : w3.setCell ⟨g, q * 7 + 0, none⟩ (.int .i64 r) = X at *
          rw [Nat.add_zero] at hX
          go_wp2
          go_ret
          exact ⟨_, rfl, by rw [hfin.out]; exact ho4, kb4⟩
end Go.Proofs.YteimcepkoclpbaaDoor
