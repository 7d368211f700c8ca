/- Contract of the specification's RowOk. Contract of the specification's GridOk. Contract of the specification's TermOk. Contracts of the specification's new grids. What changes within a range of blocks alone; a grid's rows within a range. Right rows: what keeps them right. Plain mathematics. -/
import Derived.Test.YtpmaibkakkfaeaaDoorP2
import Derived.Deep.RegionHeld3
namespace Go.Proofs.YtpmaibkakkfaeaaDoor
open Go.ChangeShapes Go.WideShapes Go.ChangeAt Go.RowKit
attribute [local go_sem ↓] eq_st
/-- A cell in a block of its own. -/
def CeN (w : World) (B : Nat) (c : Ce) : Prop :=
  w.cell? ⟨B, 0, none⟩ = some (.int .i64 c.rune) ∧ w.cell? ⟨B, 1, none⟩ = some (.int .i64 c.st.fore) ∧ w.cell? ⟨B, 2, none⟩ = some (.int .i64 c.st.back) ∧ w.cell? ⟨B, 3, none⟩ = some (.bool c.st.bold) ∧ w.cell? ⟨B, 4, none⟩ = some (.bool c.st.under) ∧ w.cell? ⟨B, 5, none⟩ = some (.bool c.st.turned) ∧ w.cell? ⟨B, 6, none⟩ = some (.int .i64 c.part)
theorem CeN.new (w : World) (c : Ce) (t : TypeId) : CeN (w.alloc (.cells #[.int .i64 c.rune, .int .i64 c.st.fore, .int .i64 c.st.back, .bool c.st.bold, .bool c.st.under, .bool c.st.turned, .int .i64 c.part] t)) w.heap.size c :=
  ⟨by simp [go_sem], by simp [go_sem], by simp [go_sem], by simp [go_sem], by simp [go_sem], by simp [go_sem], by simp [go_sem]⟩
theorem CeN.below {w w' : World} {B : Nat} {c : Ce} (h : CeN w B c) (hb : Below w.heap.size w w') (hlt : B < w.heap.size) : CeN w' B c := by
  have e : ∀ k, w'.cell? ⟨B, k, none⟩ = w.cell? ⟨B, k, none⟩ := fun k => hb.cell (p := ⟨B, k, none⟩) hlt
  unfold CeN
  rw [e, e, e, e, e, e, e]
  exact h
set_option maxHeartbeats 16000000 in
set_option maxRecDepth 20000 in
theorem specRowOk_any (v : Value) (xs : List Ce) (w : World) (hv : SlC w v xs) (hl : xs.length ≤ 1048576) :
    Calls Tryd.prog 38 #[v] w fun e w' => e = .returned (.bool (rowOkB xs)) ∧ Below w.heap.size w w' := by
  have hOK := fun s W => specStyleOk_any s W
  obtain ⟨a, c, rfl, hcp, _, hr⟩ := id hv
  by_cases hn : 1 ≤ xs.length ∧ xs.length ≤ 60
  · obtain ⟨hn1, hn2⟩ := hn
    have hn1i : ¬ (xs.length : Int) < 1 := by omega
    have hn2i : ¬ 60 < (xs.length : Int) := by omega
    rcases hr with h | ⟨b, off, rfl, hbb, hsrc0⟩
    · rw [h] at hn1; simp at hn1
    unfold stV at hOK
    go_enter Tryd.func38, Tryd.ntmps38
    go_wp2
    go_loopw [4] (fun i wr => ∃ j : Nat, i = .int .i64 j ∧ j ≤ xs.length ∧ Hid (∀ k, k < j → cellOkB xs k = true) ∧ Below w.heap.size w wr) (fun i _ => xs.length - (intOf i).toNat)
    case atStart => exact ⟨0, rfl, Nat.zero_le _, (fun k hk => absurd hk (Nat.not_lt_zero k)), Below.refl _ _⟩
    case round =>
      obtain ⟨j, rfl, hj, hall, kb⟩ := hrel
      by_cases hlt : j < xs.length
      · have hji : (j : Int) < (xs.length : Int) := by omega
        have hj0 : (0 : Int) ≤ (j : Int) := by omega
        have hat := (hsrc0 j hlt).below kb hbb
        obtain ⟨c0, c1, c2, c3, c4, c5, c6⟩ := hat
        have hx := CeN.new wr (atC xs j) 79
        have kb1 := kb.trans ((bal' wr (Obj.cells #[.int .i64 (atC xs j).rune, .int .i64 (atC xs j).st.fore, .int .i64 (atC xs j).st.back, .bool (atC xs j).st.bold, .bool (atC xs j).st.under, .bool (atC xs j).st.turned, .int .i64 (atC xs j).part] 79)).mono kb.size)
        have hst := hOK (atC xs j).st
        obtain ⟨d0, d1, d2, d3, d4, d5, d6⟩ := id hx
        go_wp2_with fail
        refine (hst _).mono ?_
        rintro e w2 ⟨rfl, hb2⟩
        have hx2 := hx.below hb2 (by simp)
        have kb2 := kb1.trans (hb2.mono kb1.size)
        have hsrc : ∀ i, i < xs.length → CeAt w2 b (off + i * 7) (atC xs i) := fun i hi => (hsrc0 i hi).below kb2 hbb
        clear hx kb1 hb2 kb hst c0 c1 c2 c3 c4 c5 c6 d0 d1 d2 d3 d4 d5 d6 hv
        obtain ⟨d0, d1, d2, d3, d4, d5, d6⟩ := hx2
        cases hso : (atC xs j).st.ok
        · have hno : rowOkB xs = false := rowOkB_no xs j hlt (by unfold cellOkB; rw [hso]; rfl)
          clear hall hsrc
          go_wp2
          go_ret
          first | exact ⟨ret_bool hno.symm, kb2⟩ | exact ⟨rfl, kb2⟩ | exact ⟨rfl, kb2.drew⟩ | exact ⟨ret_bool hno.symm, kb2.drew⟩
        · by_cases e0 : (atC xs j).part = 0
          · have b0 : ((atC xs j).part == 0) = true := by simp [e0]
            have hwd := specWidth_any (atC xs j).rune
            by_cases e1 : widthV (atC xs j).rune = 1
            · have b1 : (widthV (atC xs j).rune != 1) = false := by simp [e1]
              have hyes : cellOkB xs j = true := by unfold cellOkB; rw [hso, if_pos e0]; simp [e1]
              have hall' : Hid (∀ k, k < j + 1 → cellOkB xs k = true) := fun k hk => by rcases Nat.lt_succ_iff_lt_or_eq.1 hk with h | rfl; exact hall.out k h; exact hyes
              clear hall hsrc hyes e1
              go_wp2_with fail
              refine (hwd _).mono ?_
              rintro e w3 ⟨rfl, hw3⟩
              subst hw3
              go_wp2
              go_roundw
              case rel => exact ⟨j + 1, by go_num, by omega, hall', (by first | exact kb2 | exact kb2.drew)⟩
              case measure => simp [intOf]; omega
            · have b1 : (widthV (atC xs j).rune != 1) = true := by simp [e1]
              have hno : rowOkB xs = false := rowOkB_no xs j hlt (by unfold cellOkB; rw [hso, if_pos e0]; simp [e1])
              clear hall hsrc e1
              go_wp2_with fail
              refine (hwd _).mono ?_
              rintro e w3 ⟨rfl, hw3⟩
              subst hw3
              go_wp2
              go_ret
              first | exact ⟨ret_bool hno.symm, kb2⟩ | exact ⟨rfl, kb2⟩ | exact ⟨rfl, kb2.drew⟩ | exact ⟨ret_bool hno.symm, kb2.drew⟩
          · have b0 : ((atC xs j).part == 0) = false := by simp [e0]
            by_cases e1 : (atC xs j).part = 1
            · have b1 : ((atC xs j).part == 1) = true := by simp [e1]
              have hlj : j < xs.length := hlt
              by_cases e2 : widthV (atC xs j).rune = 2
              · have b2 : (widthV (atC xs j).rune != 2) = false := by simp [e2]
                by_cases e3 : j + 1 = xs.length
                · have b3 : ((j : Int) + 1 == (xs.length : Int)) = true := by simp; omega
                  have hwr : IntKind.i64.wrap ((j : Int) + 1) = (j : Int) + 1 := by simp [IntKind.wrap_i64]; omega
                  have hno : rowOkB xs = false := rowOkB_no xs j hlt (by unfold cellOkB; rw [hso, if_neg e0, if_pos e1, decide_eq_false (show ¬ j + 1 < xs.length by omega)]; simp)
                  clear hall hsrc e2 e3
                  go_wp2
                  refine wp_region_noPanic ?_
                  refine wp_region_held_drew (S := fun W => W = w2.drew) (by kernel_rfl) rfl (fun hHeld => ?_)
                  refine' wpAnyH_take (i := 0) (v := _) rfl (by kernel_rfl) (by kernel_rfl) (by kernel_rfl) (fun _ _ _ h => h) (Or.inl ⟨by rfl, ?hy1⟩) hHeld ?hr1
                  case hy1 => (intro w hSw; (try dsimp only at hSw); subst hSw; go_simp; (try with_reducible rfl))
                  simp only [Act.put, List.setIfInBounds_toArray, List.set_cons_zero, List.set_cons_succ, List.getElem_toArray, List.getElem_cons_zero]
                  refine' wpAnyH_take (i := 1) (v := _) rfl (by kernel_rfl) (by kernel_rfl) (by kernel_rfl) (fun _ _ _ h => h) (Or.inl ⟨by rfl, ?hy2⟩) hHeld ?hr2
                  case hy2 => (intro w hSw; (try dsimp only at hSw); subst hSw; go_simp; (try with_reducible rfl))
                  simp only [Act.put, List.setIfInBounds_toArray, List.set_cons_zero, List.set_cons_succ, List.getElem_toArray, List.getElem_cons_zero, List.getElem_cons_succ]
                  refine wpAnyH_ready (rs := [2]) (by kernel_rfl) (by simp) (AllReadyH.cons rfl (fun K hK => ?_) AllReadyH.nil)
                  go_simp
                  refine (specWidth_any _ _).mono ?_
                  rintro e wk ⟨rfl, hwk⟩
                  subst hwk
                  go_wp2_with fail
                  refine hK.out _ _ (by rfl) (fun hHeld => ?_)
                  clear hK K
                  (try simp only [Act.put, List.setIfInBounds_toArray, List.set_cons_zero, List.set_cons_succ])
                  refine' wpAnyH_take (i := 3) (v := _) rfl (by kernel_rfl) (by kernel_rfl) (by kernel_rfl) (fun _ _ _ h => h) (Or.inl ⟨by rfl, ?hy3⟩) hHeld ?hr3
                  case hy3 => (intro w hSw; (try dsimp only at hSw); subst hSw; go_simp; (try with_reducible rfl))
                  simp only [Act.put, List.setIfInBounds_toArray, List.set_cons_zero, List.set_cons_succ, List.getElem_toArray, List.getElem_cons_zero, List.getElem_cons_succ]
                  refine' wpAnyH_take (i := 4) (v := _) rfl (by kernel_rfl) (by kernel_rfl) (by kernel_rfl) (fun _ _ _ h => h) (Or.inl ⟨by rfl, ?hy4⟩) hHeld ?hr4
                  case hy4 => (intro w hSw; (try dsimp only at hSw); subst hSw; go_simp; (try with_reducible rfl))
                  simp only [Act.put, List.setIfInBounds_toArray, List.set_cons_zero, List.set_cons_succ, List.getElem_toArray, List.getElem_cons_zero, List.getElem_cons_succ]
                  refine' wpAnyH_take (i := 5) (v := _) rfl (by kernel_rfl) (by kernel_rfl) (by kernel_rfl) (fun _ _ _ h => h) (Or.inl ⟨by rfl, ?hy5⟩) hHeld ?hr5
                  case hy5 => (intro w hSw; (try dsimp only at hSw); subst hSw; go_simp; (try with_reducible rfl))
                  simp only [Act.put, List.setIfInBounds_toArray, List.set_cons_zero, List.set_cons_succ, List.getElem_toArray, List.getElem_cons_zero, List.getElem_cons_succ]
                  refine' wpAnyH_take (i := 6) (v := _) rfl (by kernel_rfl) (by kernel_rfl) (by kernel_rfl) (fun _ _ _ h => h) (Or.inl ⟨by rfl, ?hy6⟩) hHeld ?hr6
                  case hy6 => (intro w hSw; (try dsimp only at hSw); subst hSw; go_simp; (try with_reducible rfl))
                  simp only [Act.put, List.setIfInBounds_toArray, List.set_cons_zero, List.set_cons_succ, List.getElem_toArray, List.getElem_cons_zero, List.getElem_cons_succ]
                  refine' wpAnyH_take (i := 7) (v := _) rfl (by kernel_rfl) (by kernel_rfl) (by kernel_rfl) (fun _ _ _ h => h) (Or.inl ⟨by rfl, ?hy7⟩) hHeld ?hr7
                  case hy7 => (intro w hSw; (try dsimp only at hSw); subst hSw; go_simp; (try with_reducible rfl))
                  simp only [Act.put, List.setIfInBounds_toArray, List.set_cons_zero, List.set_cons_succ, List.getElem_toArray, List.getElem_cons_zero, List.getElem_cons_succ]
                  refine' wpAnyH_take (i := 8) (v := _) rfl (by kernel_rfl) (by kernel_rfl) (by kernel_rfl) (fun _ _ _ h => h) (Or.inl ⟨by rfl, ?hy8⟩) hHeld ?hr8
                  case hy8 => (intro w hSw; (try dsimp only at hSw); subst hSw; go_simp; (try with_reducible rfl))
                  simp only [Act.put, List.setIfInBounds_toArray, List.set_cons_zero, List.set_cons_succ, List.getElem_toArray, List.getElem_cons_zero, List.getElem_cons_succ]
                  refine' wpAnyH_take (i := 9) (v := _) rfl (by kernel_rfl) (by kernel_rfl) (by kernel_rfl) (fun _ _ _ h => h) (Or.inl ⟨by rfl, ?hy9⟩) hHeld ?hr9
                  case hy9 => (intro w hSw; (try dsimp only at hSw); subst hSw; go_simp; (try with_reducible rfl))
                  simp only [Act.put, List.setIfInBounds_toArray, List.set_cons_zero, List.set_cons_succ, List.getElem_toArray, List.getElem_cons_zero, List.getElem_cons_succ]
                  refine' wpAnyH_take (i := 10) (v := _) rfl (by kernel_rfl) (by kernel_rfl) (by kernel_rfl) (fun _ _ _ h => h) (Or.inl ⟨by rfl, ?hy10⟩) hHeld ?hr10
                  case hy10 => (intro w hSw; (try dsimp only at hSw); subst hSw; go_simp; (try with_reducible rfl))
                  simp only [Act.put, List.setIfInBounds_toArray, List.set_cons_zero, List.set_cons_succ, List.getElem_toArray, List.getElem_cons_zero, List.getElem_cons_succ]
                  refine wpAnyH_take (i := 11) (v := undef) rfl (by kernel_rfl) (by kernel_rfl) (by kernel_rfl) (fun _ _ _ h => h) (Or.inr ⟨by rfl, rfl⟩) hHeld ?_
                  simp only [Act.put, List.setIfInBounds_toArray, List.set_cons_zero, List.set_cons_succ, List.getElem_toArray, List.getElem_cons_zero, List.getElem_cons_succ]
                  refine wpAnyH_take (i := 12) (v := undef) rfl (by kernel_rfl) (by kernel_rfl) (by kernel_rfl) (fun _ _ _ h => h) (Or.inr ⟨by rfl, rfl⟩) hHeld ?_
                  simp only [Act.put, List.setIfInBounds_toArray, List.set_cons_zero, List.set_cons_succ, List.getElem_toArray, List.getElem_cons_zero, List.getElem_cons_succ]
                  refine wpAnyH_take (i := 13) (v := undef) rfl (by kernel_rfl) (by kernel_rfl) (by kernel_rfl) (fun _ _ _ h => h) (Or.inr ⟨by rfl, rfl⟩) hHeld ?_
                  simp only [Act.put, List.setIfInBounds_toArray, List.set_cons_zero, List.set_cons_succ, List.getElem_toArray, List.getElem_cons_zero, List.getElem_cons_succ]
                  refine wpAnyH_take (i := 14) (v := undef) rfl (by kernel_rfl) (by kernel_rfl) (by kernel_rfl) (fun _ _ _ h => h) (Or.inr ⟨by rfl, rfl⟩) hHeld ?_
                  simp only [Act.put, List.setIfInBounds_toArray, List.set_cons_zero, List.set_cons_succ, List.getElem_toArray, List.getElem_cons_zero, List.getElem_cons_succ]
                  refine wpAnyH_take (i := 15) (v := undef) rfl (by kernel_rfl) (by kernel_rfl) (by kernel_rfl) (fun _ _ _ h => h) (Or.inr ⟨by rfl, rfl⟩) hHeld ?_
                  simp only [Act.put, List.setIfInBounds_toArray, List.set_cons_zero, List.set_cons_succ, List.getElem_toArray, List.getElem_cons_zero, List.getElem_cons_succ]
                  refine wpAnyH_take (i := 16) (v := undef) rfl (by kernel_rfl) (by kernel_rfl) (by kernel_rfl) (fun _ _ _ h => h) (Or.inr ⟨by rfl, rfl⟩) hHeld ?_
                  simp only [Act.put, List.setIfInBounds_toArray, List.set_cons_zero, List.set_cons_succ, List.getElem_toArray, List.getElem_cons_zero, List.getElem_cons_succ]
                  refine wpAnyH_take (i := 17) (v := undef) rfl (by kernel_rfl) (by kernel_rfl) (by kernel_rfl) (fun _ _ _ h => h) (Or.inr ⟨by rfl, rfl⟩) hHeld ?_
                  simp only [Act.put, List.setIfInBounds_toArray, List.set_cons_zero, List.set_cons_succ, List.getElem_toArray, List.getElem_cons_zero, List.getElem_cons_succ]
                  refine' wpAnyH_take (i := 18) (v := _) rfl (by kernel_rfl) (by kernel_rfl) (by kernel_rfl) (fun _ _ _ h => h) (Or.inl ⟨by rfl, ?hy11⟩) hHeld ?hr11
                  case hy11 => (intro w hSw; (try dsimp only at hSw); subst hSw; go_simp; (try with_reducible rfl))
                  simp only [Act.put, List.setIfInBounds_toArray, List.set_cons_zero, List.set_cons_succ, List.getElem_toArray, List.getElem_cons_zero, List.getElem_cons_succ]
                  refine' wpAnyH_take (i := 19) (v := _) rfl (by kernel_rfl) (by kernel_rfl) (by kernel_rfl) (fun _ _ _ h => h) (Or.inl ⟨by rfl, ?hy12⟩) hHeld ?hr12
                  case hy12 => (intro w hSw; (try dsimp only at hSw); subst hSw; go_simp; (try with_reducible rfl))
                  simp only [Act.put, List.setIfInBounds_toArray, List.set_cons_zero, List.set_cons_succ, List.getElem_toArray, List.getElem_cons_zero, List.getElem_cons_succ]
                  refine wpAnyH_take (i := 20) (v := undef) rfl (by kernel_rfl) (by kernel_rfl) (by kernel_rfl) (fun _ _ _ h => h) (Or.inr ⟨by rfl, rfl⟩) hHeld ?_
                  simp only [Act.put, List.setIfInBounds_toArray, List.set_cons_zero, List.set_cons_succ, List.getElem_toArray, List.getElem_cons_zero, List.getElem_cons_succ]
                  refine wpAnyH_take (i := 21) (v := undef) rfl (by kernel_rfl) (by kernel_rfl) (by kernel_rfl) (fun _ _ _ h => h) (Or.inr ⟨by rfl, rfl⟩) hHeld ?_
                  simp only [Act.put, List.setIfInBounds_toArray, List.set_cons_zero, List.set_cons_succ, List.getElem_toArray, List.getElem_cons_zero, List.getElem_cons_succ]
                  refine wpAnyH_take (i := 22) (v := undef) rfl (by kernel_rfl) (by kernel_rfl) (by kernel_rfl) (fun _ _ _ h => h) (Or.inr ⟨by rfl, rfl⟩) hHeld ?_
                  simp only [Act.put, List.setIfInBounds_toArray, List.set_cons_zero, List.set_cons_succ, List.getElem_toArray, List.getElem_cons_zero, List.getElem_cons_succ]
                  refine wpAnyH_take (i := 23) (v := undef) rfl (by kernel_rfl) (by kernel_rfl) (by kernel_rfl) (fun _ _ _ h => h) (Or.inr ⟨by rfl, rfl⟩) hHeld ?_
                  simp only [Act.put, List.setIfInBounds_toArray, List.set_cons_zero, List.set_cons_succ, List.getElem_toArray, List.getElem_cons_zero, List.getElem_cons_succ]
                  refine wpAnyH_take (i := 24) (v := undef) rfl (by kernel_rfl) (by kernel_rfl) (by kernel_rfl) (fun _ _ _ h => h) (Or.inr ⟨by rfl, rfl⟩) hHeld ?_
                  simp only [Act.put, List.setIfInBounds_toArray, List.set_cons_zero, List.set_cons_succ, List.getElem_toArray, List.getElem_cons_zero, List.getElem_cons_succ]
                  refine wpAnyH_take (i := 25) (v := undef) rfl (by kernel_rfl) (by kernel_rfl) (by kernel_rfl) (fun _ _ _ h => h) (Or.inr ⟨by rfl, rfl⟩) hHeld ?_
                  simp only [Act.put, List.setIfInBounds_toArray, List.set_cons_zero, List.set_cons_succ, List.getElem_toArray, List.getElem_cons_zero, List.getElem_cons_succ]
                  refine wpAnyH_take (i := 26) (v := undef) rfl (by kernel_rfl) (by kernel_rfl) (by kernel_rfl) (fun _ _ _ h => h) (Or.inr ⟨by rfl, rfl⟩) hHeld ?_
                  simp only [Act.put, List.setIfInBounds_toArray, List.set_cons_zero, List.set_cons_succ, List.getElem_toArray, List.getElem_cons_zero, List.getElem_cons_succ]
                  refine wpAnyH_take (i := 27) (v := undef) rfl (by kernel_rfl) (by kernel_rfl) (by kernel_rfl) (fun _ _ _ h => h) (Or.inr ⟨by rfl, rfl⟩) hHeld ?_
                  simp only [Act.put, List.setIfInBounds_toArray, List.set_cons_zero, List.set_cons_succ, List.getElem_toArray, List.getElem_cons_zero, List.getElem_cons_succ]
                  refine wpAnyH_take (i := 28) (v := undef) rfl (by kernel_rfl) (by kernel_rfl) (by kernel_rfl) (fun _ _ _ h => h) (Or.inr ⟨by rfl, rfl⟩) hHeld ?_
                  simp only [Act.put, List.setIfInBounds_toArray, List.set_cons_zero, List.set_cons_succ, List.getElem_toArray, List.getElem_cons_zero, List.getElem_cons_succ]
                  refine' wpAnyH_take (i := 29) (v := _) rfl (by kernel_rfl) (by kernel_rfl) (by kernel_rfl) (fun _ _ _ h => h) (Or.inl ⟨by rfl, ?hy13⟩) hHeld ?hr13
                  case hy13 => (intro w hSw; (try dsimp only at hSw); subst hSw; go_simp; (try with_reducible rfl))
                  simp only [Act.put, List.setIfInBounds_toArray, List.set_cons_zero, List.set_cons_succ, List.getElem_toArray, List.getElem_cons_zero, List.getElem_cons_succ]
                  refine wpAnyH_done (by kernel_rfl) ?_ _
                  refine NoPanic.normal ?_
                  go_wp2
                  go_ret
                  first | exact ⟨ret_bool hno.symm, kb2⟩ | exact ⟨rfl, kb2⟩ | exact ⟨rfl, kb2.drew⟩ | exact ⟨ret_bool hno.symm, kb2.drew⟩
                · have b3 : ((j : Int) + 1 == (xs.length : Int)) = false := by simp; omega
                  have hwr : IntKind.i64.wrap ((j : Int) + 1) = (j : Int) + 1 := by simp [IntKind.wrap_i64]; omega
                  have hj1 : j + 1 < xs.length := by omega
                  have hj1i : (j : Int) + 1 < (xs.length : Int) := by omega
                  have hj1z : (0 : Int) ≤ (j : Int) + 1 := by omega
                  obtain ⟨q0, q1, q2, q3, q4, q5, q6⟩ := hsrc (j + 1) hj1
                  by_cases e4 : (atC xs (j + 1)).part = 2
                  · have b4 : ((atC xs (j + 1)).part != 2) = false := by simp [e4]
                    by_cases e5 : (atC xs (j + 1)).st = (atC xs j).st
                    · have b5 : decide ((atC xs (j + 1)).st = (atC xs j).st) = true := decide_eq_true e5
                      have hyes : cellOkB xs j = true := by unfold cellOkB; rw [hso, if_neg e0, if_pos e1, decide_eq_true e2, decide_eq_true hj1, decide_eq_true e4, b5]; rfl
                      have hall' : Hid (∀ k, k < j + 1 → cellOkB xs k = true) := fun k hk => by rcases Nat.lt_succ_iff_lt_or_eq.1 hk with h | rfl; exact hall.out k h; exact hyes
                      clear hall hsrc hyes e2 e5
                      go_wp2
                      refine wp_region_noPanic ?_
                      refine wp_region_held_drew (S := fun W => W = w2.drew) (by kernel_rfl) rfl (fun hHeld => ?_)
                      refine' wpAnyH_take (i := 0) (v := _) rfl (by kernel_rfl) (by kernel_rfl) (by kernel_rfl) (fun _ _ _ h => h) (Or.inl ⟨by rfl, ?hy14⟩) hHeld ?hr14
                      case hy14 => (intro w hSw; (try dsimp only at hSw); subst hSw; go_simp; (try with_reducible rfl))
                      simp only [Act.put, List.setIfInBounds_toArray, List.set_cons_zero, List.set_cons_succ, List.getElem_toArray, List.getElem_cons_zero]
                      refine' wpAnyH_take (i := 1) (v := _) rfl (by kernel_rfl) (by kernel_rfl) (by kernel_rfl) (fun _ _ _ h => h) (Or.inl ⟨by rfl, ?hy15⟩) hHeld ?hr15
                      case hy15 => (intro w hSw; (try dsimp only at hSw); subst hSw; go_simp; (try with_reducible rfl))
                      simp only [Act.put, List.setIfInBounds_toArray, List.set_cons_zero, List.set_cons_succ, List.getElem_toArray, List.getElem_cons_zero, List.getElem_cons_succ]
                      refine wpAnyH_ready (rs := [2]) (by kernel_rfl) (by simp) (AllReadyH.cons rfl (fun K hK => ?_) AllReadyH.nil)
                      go_simp
                      refine (specWidth_any _ _).mono ?_
                      rintro e wk ⟨rfl, hwk⟩
                      subst hwk
                      go_wp2_with fail
                      refine hK.out _ _ (by rfl) (fun hHeld => ?_)
                      clear hK K
                      (try simp only [Act.put, List.setIfInBounds_toArray, List.set_cons_zero, List.set_cons_succ])
                      refine' wpAnyH_take (i := 3) (v := _) rfl (by kernel_rfl) (by kernel_rfl) (by kernel_rfl) (fun _ _ _ h => h) (Or.inl ⟨by rfl, ?hy16⟩) hHeld ?hr16
                      case hy16 => (intro w hSw; (try dsimp only at hSw); subst hSw; go_simp; (try with_reducible rfl))
                      simp only [Act.put, List.setIfInBounds_toArray, List.set_cons_zero, List.set_cons_succ, List.getElem_toArray, List.getElem_cons_zero, List.getElem_cons_succ]
                      refine' wpAnyH_take (i := 4) (v := _) rfl (by kernel_rfl) (by kernel_rfl) (by kernel_rfl) (fun _ _ _ h => h) (Or.inl ⟨by rfl, ?hy17⟩) hHeld ?hr17
                      case hy17 => (intro w hSw; (try dsimp only at hSw); subst hSw; go_simp; (try with_reducible rfl))
                      simp only [Act.put, List.setIfInBounds_toArray, List.set_cons_zero, List.set_cons_succ, List.getElem_toArray, List.getElem_cons_zero, List.getElem_cons_succ]
                      refine' wpAnyH_take (i := 5) (v := _) rfl (by kernel_rfl) (by kernel_rfl) (by kernel_rfl) (fun _ _ _ h => h) (Or.inl ⟨by rfl, ?hy18⟩) hHeld ?hr18
                      case hy18 => (intro w hSw; (try dsimp only at hSw); subst hSw; go_simp; (try with_reducible rfl))
                      simp only [Act.put, List.setIfInBounds_toArray, List.set_cons_zero, List.set_cons_succ, List.getElem_toArray, List.getElem_cons_zero, List.getElem_cons_succ]
                      refine' wpAnyH_take (i := 6) (v := _) rfl (by kernel_rfl) (by kernel_rfl) (by kernel_rfl) (fun _ _ _ h => h) (Or.inl ⟨by rfl, ?hy19⟩) hHeld ?hr19
                      case hy19 => (intro w hSw; (try dsimp only at hSw); subst hSw; go_simp; (try with_reducible rfl))
                      simp only [Act.put, List.setIfInBounds_toArray, List.set_cons_zero, List.set_cons_succ, List.getElem_toArray, List.getElem_cons_zero, List.getElem_cons_succ]
                      refine' wpAnyH_take (i := 7) (v := _) rfl (by kernel_rfl) (by kernel_rfl) (by kernel_rfl) (fun _ _ _ h => h) (Or.inl ⟨by rfl, ?hy20⟩) hHeld ?hr20
                      case hy20 => (intro w hSw; (try dsimp only at hSw); subst hSw; go_simp; (try with_reducible rfl))
                      simp only [Act.put, List.setIfInBounds_toArray, List.set_cons_zero, List.set_cons_succ, List.getElem_toArray, List.getElem_cons_zero, List.getElem_cons_succ]
                      refine' wpAnyH_take (i := 8) (v := _) rfl (by kernel_rfl) (by kernel_rfl) (by kernel_rfl) (fun _ _ _ h => h) (Or.inl ⟨by rfl, ?hy21⟩) hHeld ?hr21
                      case hy21 => (intro w hSw; (try dsimp only at hSw); subst hSw; go_simp; (try with_reducible rfl))
                      simp only [Act.put, List.setIfInBounds_toArray, List.set_cons_zero, List.set_cons_succ, List.getElem_toArray, List.getElem_cons_zero, List.getElem_cons_succ]
                      refine' wpAnyH_take (i := 9) (v := _) rfl (by kernel_rfl) (by kernel_rfl) (by kernel_rfl) (fun _ _ _ h => h) (Or.inl ⟨by rfl, ?hy22⟩) hHeld ?hr22
                      case hy22 => (intro w hSw; (try dsimp only at hSw); subst hSw; go_simp; (try with_reducible rfl))
                      simp only [Act.put, List.setIfInBounds_toArray, List.set_cons_zero, List.set_cons_succ, List.getElem_toArray, List.getElem_cons_zero, List.getElem_cons_succ]
                      refine' wpAnyH_take (i := 10) (v := _) rfl (by kernel_rfl) (by kernel_rfl) (by kernel_rfl) (fun _ _ _ h => h) (Or.inl ⟨by rfl, ?hy23⟩) hHeld ?hr23
                      case hy23 => (intro w hSw; (try dsimp only at hSw); subst hSw; go_simp; (try with_reducible rfl))
                      simp only [Act.put, List.setIfInBounds_toArray, List.set_cons_zero, List.set_cons_succ, List.getElem_toArray, List.getElem_cons_zero, List.getElem_cons_succ]
                      refine' wpAnyH_take (i := 11) (v := _) rfl (by kernel_rfl) (by kernel_rfl) (by kernel_rfl) (fun _ _ _ h => h) (Or.inl ⟨by rfl, ?hy24⟩) hHeld ?hr24
                      case hy24 => (intro w hSw; (try dsimp only at hSw); subst hSw; go_simp; (try with_reducible rfl))
                      simp only [Act.put, List.setIfInBounds_toArray, List.set_cons_zero, List.set_cons_succ, List.getElem_toArray, List.getElem_cons_zero, List.getElem_cons_succ]
                      refine' wpAnyH_take (i := 12) (v := _) rfl (by kernel_rfl) (by kernel_rfl) (by kernel_rfl) (fun _ _ _ h => h) (Or.inl ⟨by rfl, ?hy25⟩) hHeld ?hr25
                      case hy25 => (intro w hSw; (try dsimp only at hSw); subst hSw; go_simp; (try with_reducible rfl))
                      simp only [Act.put, List.setIfInBounds_toArray, List.set_cons_zero, List.set_cons_succ, List.getElem_toArray, List.getElem_cons_zero, List.getElem_cons_succ]
                      refine' wpAnyH_take (i := 13) (v := _) rfl (by kernel_rfl) (by kernel_rfl) (by kernel_rfl) (fun _ _ _ h => h) (Or.inl ⟨by rfl, ?hy26⟩) hHeld ?hr26
                      case hy26 => (intro w hSw; (try dsimp only at hSw); subst hSw; go_simp; (try with_reducible rfl))
                      simp only [Act.put, List.setIfInBounds_toArray, List.set_cons_zero, List.set_cons_succ, List.getElem_toArray, List.getElem_cons_zero, List.getElem_cons_succ]
                      refine' wpAnyH_take (i := 14) (v := _) rfl (by kernel_rfl) (by kernel_rfl) (by kernel_rfl) (fun _ _ _ h => h) (Or.inl ⟨by rfl, ?hy27⟩) hHeld ?hr27
                      case hy27 => (intro w hSw; (try dsimp only at hSw); subst hSw; go_simp; (try with_reducible rfl))
                      simp only [Act.put, List.setIfInBounds_toArray, List.set_cons_zero, List.set_cons_succ, List.getElem_toArray, List.getElem_cons_zero, List.getElem_cons_succ]
                      refine' wpAnyH_take (i := 15) (v := _) rfl (by kernel_rfl) (by kernel_rfl) (by kernel_rfl) (fun _ _ _ h => h) (Or.inl ⟨by rfl, ?hy28⟩) hHeld ?hr28
                      case hy28 => (intro w hSw; (try dsimp only at hSw); subst hSw; go_simp; (try with_reducible rfl))
                      simp only [Act.put, List.setIfInBounds_toArray, List.set_cons_zero, List.set_cons_succ, List.getElem_toArray, List.getElem_cons_zero, List.getElem_cons_succ]
                      refine' wpAnyH_take (i := 16) (v := _) rfl (by kernel_rfl) (by kernel_rfl) (by kernel_rfl) (fun _ _ _ h => h) (Or.inl ⟨by rfl, ?hy29⟩) hHeld ?hr29
                      case hy29 => (intro w hSw; (try dsimp only at hSw); subst hSw; go_simp; (try with_reducible rfl))
                      simp only [Act.put, List.setIfInBounds_toArray, List.set_cons_zero, List.set_cons_succ, List.getElem_toArray, List.getElem_cons_zero, List.getElem_cons_succ]
                      refine' wpAnyH_take (i := 17) (v := _) rfl (by kernel_rfl) (by kernel_rfl) (by kernel_rfl) (fun _ _ _ h => h) (Or.inl ⟨by rfl, ?hy30⟩) hHeld ?hr30
                      case hy30 => (intro w hSw; (try dsimp only at hSw); subst hSw; go_simp; (try with_reducible rfl))
                      simp only [Act.put, List.setIfInBounds_toArray, List.set_cons_zero, List.set_cons_succ, List.getElem_toArray, List.getElem_cons_zero, List.getElem_cons_succ]
                      refine' wpAnyH_take (i := 18) (v := _) rfl (by kernel_rfl) (by kernel_rfl) (by kernel_rfl) (fun _ _ _ h => h) (Or.inl ⟨by rfl, ?hy31⟩) hHeld ?hr31
                      case hy31 => (intro w hSw; (try dsimp only at hSw); subst hSw; go_simp; (try with_reducible rfl))
                      simp only [Act.put, List.setIfInBounds_toArray, List.set_cons_zero, List.set_cons_succ, List.getElem_toArray, List.getElem_cons_zero, List.getElem_cons_succ]
                      refine' wpAnyH_take (i := 19) (v := _) rfl (by kernel_rfl) (by kernel_rfl) (by kernel_rfl) (fun _ _ _ h => h) (Or.inl ⟨by rfl, ?hy32⟩) hHeld ?hr32
                      case hy32 => (intro w hSw; (try dsimp only at hSw); subst hSw; go_simp; (try with_reducible rfl))
                      simp only [Act.put, List.setIfInBounds_toArray, List.set_cons_zero, List.set_cons_succ, List.getElem_toArray, List.getElem_cons_zero, List.getElem_cons_succ]
                      refine' wpAnyH_take (i := 20) (v := _) rfl (by kernel_rfl) (by kernel_rfl) (by kernel_rfl) (fun _ _ _ h => h) (Or.inl ⟨by rfl, ?hy33⟩) hHeld ?hr33
                      case hy33 => (intro w hSw; (try dsimp only at hSw); subst hSw; go_simp; (try with_reducible rfl))
                      simp only [Act.put, List.setIfInBounds_toArray, List.set_cons_zero, List.set_cons_succ, List.getElem_toArray, List.getElem_cons_zero, List.getElem_cons_succ]
                      refine' wpAnyH_take (i := 21) (v := _) rfl (by kernel_rfl) (by kernel_rfl) (by kernel_rfl) (fun _ _ _ h => h) (Or.inl ⟨by rfl, ?hy34⟩) hHeld ?hr34
                      case hy34 => (intro w hSw; (try dsimp only at hSw); subst hSw; go_simp; (try with_reducible rfl))
                      simp only [Act.put, List.setIfInBounds_toArray, List.set_cons_zero, List.set_cons_succ, List.getElem_toArray, List.getElem_cons_zero, List.getElem_cons_succ]
                      refine' wpAnyH_take (i := 22) (v := _) rfl (by kernel_rfl) (by kernel_rfl) (by kernel_rfl) (fun _ _ _ h => h) (Or.inl ⟨by rfl, ?hy35⟩) hHeld ?hr35
                      case hy35 => (intro w hSw; (try dsimp only at hSw); subst hSw; go_simp; (try with_reducible rfl))
                      simp only [Act.put, List.setIfInBounds_toArray, List.set_cons_zero, List.set_cons_succ, List.getElem_toArray, List.getElem_cons_zero, List.getElem_cons_succ]
                      refine' wpAnyH_take (i := 23) (v := _) rfl (by kernel_rfl) (by kernel_rfl) (by kernel_rfl) (fun _ _ _ h => h) (Or.inl ⟨by rfl, ?hy36⟩) hHeld ?hr36
                      case hy36 => (intro w hSw; (try dsimp only at hSw); subst hSw; go_simp; (try with_reducible rfl))
                      simp only [Act.put, List.setIfInBounds_toArray, List.set_cons_zero, List.set_cons_succ, List.getElem_toArray, List.getElem_cons_zero, List.getElem_cons_succ]
                      refine' wpAnyH_take (i := 24) (v := _) rfl (by kernel_rfl) (by kernel_rfl) (by kernel_rfl) (fun _ _ _ h => h) (Or.inl ⟨by rfl, ?hy37⟩) hHeld ?hr37
                      case hy37 => (intro w hSw; (try dsimp only at hSw); subst hSw; go_simp; (try with_reducible rfl))
                      simp only [Act.put, List.setIfInBounds_toArray, List.set_cons_zero, List.set_cons_succ, List.getElem_toArray, List.getElem_cons_zero, List.getElem_cons_succ]
                      refine' wpAnyH_take (i := 25) (v := _) rfl (by kernel_rfl) (by kernel_rfl) (by kernel_rfl) (fun _ _ _ h => h) (Or.inl ⟨by rfl, ?hy38⟩) hHeld ?hr38
                      case hy38 => (intro w hSw; (try dsimp only at hSw); subst hSw; go_simp; (try with_reducible rfl))
                      simp only [Act.put, List.setIfInBounds_toArray, List.set_cons_zero, List.set_cons_succ, List.getElem_toArray, List.getElem_cons_zero, List.getElem_cons_succ]
                      refine' wpAnyH_take (i := 26) (v := _) rfl (by kernel_rfl) (by kernel_rfl) (by kernel_rfl) (fun _ _ _ h => h) (Or.inl ⟨by rfl, ?hy39⟩) hHeld ?hr39
                      case hy39 => (intro w hSw; (try dsimp only at hSw); subst hSw; go_simp; (try with_reducible rfl))
                      simp only [Act.put, List.setIfInBounds_toArray, List.set_cons_zero, List.set_cons_succ, List.getElem_toArray, List.getElem_cons_zero, List.getElem_cons_succ]
                      refine' wpAnyH_take (i := 27) (v := _) rfl (by kernel_rfl) (by kernel_rfl) (by kernel_rfl) (fun _ _ _ h => h) (Or.inl ⟨by rfl, ?hy40⟩) hHeld ?hr40
                      case hy40 => (intro w hSw; (try dsimp only at hSw); subst hSw; go_simp; (try with_reducible rfl))
                      simp only [Act.put, List.setIfInBounds_toArray, List.set_cons_zero, List.set_cons_succ, List.getElem_toArray, List.getElem_cons_zero, List.getElem_cons_succ]
                      refine' wpAnyH_take (i := 28) (v := _) rfl (by kernel_rfl) (by kernel_rfl) (by kernel_rfl) (fun _ _ _ h => h) (Or.inl ⟨by rfl, ?hy41⟩) hHeld ?hr41
                      case hy41 => (intro w hSw; (try dsimp only at hSw); subst hSw; go_simp; (try with_reducible rfl))
                      simp only [Act.put, List.setIfInBounds_toArray, List.set_cons_zero, List.set_cons_succ, List.getElem_toArray, List.getElem_cons_zero, List.getElem_cons_succ]
                      refine' wpAnyH_take (i := 29) (v := _) rfl (by kernel_rfl) (by kernel_rfl) (by kernel_rfl) (fun _ _ _ h => h) (Or.inl ⟨by rfl, ?hy42⟩) hHeld ?hr42
                      case hy42 => (intro w hSw; (try dsimp only at hSw); subst hSw; go_simp; (try with_reducible rfl))
                      simp only [Act.put, List.setIfInBounds_toArray, List.set_cons_zero, List.set_cons_succ, List.getElem_toArray, List.getElem_cons_zero, List.getElem_cons_succ]
                      refine wpAnyH_done (by kernel_rfl) ?_ _
                      refine NoPanic.normal ?_
                      go_wp2
                      go_roundw
                      case rel => exact ⟨j + 1, by go_num, by omega, hall', (by first | exact kb2 | exact kb2.drew)⟩
                      case measure => simp [intOf]; omega
                    · have b5 : decide ((atC xs (j + 1)).st = (atC xs j).st) = false := decide_eq_false e5
                      have hno : rowOkB xs = false := rowOkB_no xs j hlt (by unfold cellOkB; rw [hso, if_neg e0, if_pos e1, b5]; simp)
                      clear hall hsrc e2 e5
                      go_wp2
                      refine wp_region_noPanic ?_
                      refine wp_region_held_drew (S := fun W => W = w2.drew) (by kernel_rfl) rfl (fun hHeld => ?_)
                      refine' wpAnyH_take (i := 0) (v := _) rfl (by kernel_rfl) (by kernel_rfl) (by kernel_rfl) (fun _ _ _ h => h) (Or.inl ⟨by rfl, ?hy43⟩) hHeld ?hr43
                      case hy43 => (intro w hSw; (try dsimp only at hSw); subst hSw; go_simp; (try with_reducible rfl))
                      simp only [Act.put, List.setIfInBounds_toArray, List.set_cons_zero, List.set_cons_succ, List.getElem_toArray, List.getElem_cons_zero]
                      refine' wpAnyH_take (i := 1) (v := _) rfl (by kernel_rfl) (by kernel_rfl) (by kernel_rfl) (fun _ _ _ h => h) (Or.inl ⟨by rfl, ?hy44⟩) hHeld ?hr44
                      case hy44 => (intro w hSw; (try dsimp only at hSw); subst hSw; go_simp; (try with_reducible rfl))
                      simp only [Act.put, List.setIfInBounds_toArray, List.set_cons_zero, List.set_cons_succ, List.getElem_toArray, List.getElem_cons_zero, List.getElem_cons_succ]
                      refine wpAnyH_ready (rs := [2]) (by kernel_rfl) (by simp) (AllReadyH.cons rfl (fun K hK => ?_) AllReadyH.nil)
                      go_simp
                      refine (specWidth_any _ _).mono ?_
                      rintro e wk ⟨rfl, hwk⟩
                      subst hwk
                      go_wp2_with fail
                      refine hK.out _ _ (by rfl) (fun hHeld => ?_)
                      clear hK K
                      (try simp only [Act.put, List.setIfInBounds_toArray, List.set_cons_zero, List.set_cons_succ])
                      refine' wpAnyH_take (i := 3) (v := _) rfl (by kernel_rfl) (by kernel_rfl) (by kernel_rfl) (fun _ _ _ h => h) (Or.inl ⟨by rfl, ?hy45⟩) hHeld ?hr45
                      case hy45 => (intro w hSw; (try dsimp only at hSw); subst hSw; go_simp; (try with_reducible rfl))
                      simp only [Act.put, List.setIfInBounds_toArray, List.set_cons_zero, List.set_cons_succ, List.getElem_toArray, List.getElem_cons_zero, List.getElem_cons_succ]
                      refine' wpAnyH_take (i := 4) (v := _) rfl (by kernel_rfl) (by kernel_rfl) (by kernel_rfl) (fun _ _ _ h => h) (Or.inl ⟨by rfl, ?hy46⟩) hHeld ?hr46
                      case hy46 => (intro w hSw; (try dsimp only at hSw); subst hSw; go_simp; (try with_reducible rfl))
                      simp only [Act.put, List.setIfInBounds_toArray, List.set_cons_zero, List.set_cons_succ, List.getElem_toArray, List.getElem_cons_zero, List.getElem_cons_succ]
                      refine' wpAnyH_take (i := 5) (v := _) rfl (by kernel_rfl) (by kernel_rfl) (by kernel_rfl) (fun _ _ _ h => h) (Or.inl ⟨by rfl, ?hy47⟩) hHeld ?hr47
                      case hy47 => (intro w hSw; (try dsimp only at hSw); subst hSw; go_simp; (try with_reducible rfl))
                      simp only [Act.put, List.setIfInBounds_toArray, List.set_cons_zero, List.set_cons_succ, List.getElem_toArray, List.getElem_cons_zero, List.getElem_cons_succ]
                      refine' wpAnyH_take (i := 6) (v := _) rfl (by kernel_rfl) (by kernel_rfl) (by kernel_rfl) (fun _ _ _ h => h) (Or.inl ⟨by rfl, ?hy48⟩) hHeld ?hr48
                      case hy48 => (intro w hSw; (try dsimp only at hSw); subst hSw; go_simp; (try with_reducible rfl))
                      simp only [Act.put, List.setIfInBounds_toArray, List.set_cons_zero, List.set_cons_succ, List.getElem_toArray, List.getElem_cons_zero, List.getElem_cons_succ]
                      refine' wpAnyH_take (i := 7) (v := _) rfl (by kernel_rfl) (by kernel_rfl) (by kernel_rfl) (fun _ _ _ h => h) (Or.inl ⟨by rfl, ?hy49⟩) hHeld ?hr49
                      case hy49 => (intro w hSw; (try dsimp only at hSw); subst hSw; go_simp; (try with_reducible rfl))
                      simp only [Act.put, List.setIfInBounds_toArray, List.set_cons_zero, List.set_cons_succ, List.getElem_toArray, List.getElem_cons_zero, List.getElem_cons_succ]
                      refine' wpAnyH_take (i := 8) (v := _) rfl (by kernel_rfl) (by kernel_rfl) (by kernel_rfl) (fun _ _ _ h => h) (Or.inl ⟨by rfl, ?hy50⟩) hHeld ?hr50
                      case hy50 => (intro w hSw; (try dsimp only at hSw); subst hSw; go_simp; (try with_reducible rfl))
                      simp only [Act.put, List.setIfInBounds_toArray, List.set_cons_zero, List.set_cons_succ, List.getElem_toArray, List.getElem_cons_zero, List.getElem_cons_succ]
                      refine' wpAnyH_take (i := 9) (v := _) rfl (by kernel_rfl) (by kernel_rfl) (by kernel_rfl) (fun _ _ _ h => h) (Or.inl ⟨by rfl, ?hy51⟩) hHeld ?hr51
                      case hy51 => (intro w hSw; (try dsimp only at hSw); subst hSw; go_simp; (try with_reducible rfl))
                      simp only [Act.put, List.setIfInBounds_toArray, List.set_cons_zero, List.set_cons_succ, List.getElem_toArray, List.getElem_cons_zero, List.getElem_cons_succ]
                      refine' wpAnyH_take (i := 10) (v := _) rfl (by kernel_rfl) (by kernel_rfl) (by kernel_rfl) (fun _ _ _ h => h) (Or.inl ⟨by rfl, ?hy52⟩) hHeld ?hr52
                      case hy52 => (intro w hSw; (try dsimp only at hSw); subst hSw; go_simp; (try with_reducible rfl))
                      simp only [Act.put, List.setIfInBounds_toArray, List.set_cons_zero, List.set_cons_succ, List.getElem_toArray, List.getElem_cons_zero, List.getElem_cons_succ]
                      refine' wpAnyH_take (i := 11) (v := _) rfl (by kernel_rfl) (by kernel_rfl) (by kernel_rfl) (fun _ _ _ h => h) (Or.inl ⟨by rfl, ?hy53⟩) hHeld ?hr53
                      case hy53 => (intro w hSw; (try dsimp only at hSw); subst hSw; go_simp; (try with_reducible rfl))
                      simp only [Act.put, List.setIfInBounds_toArray, List.set_cons_zero, List.set_cons_succ, List.getElem_toArray, List.getElem_cons_zero, List.getElem_cons_succ]
                      refine' wpAnyH_take (i := 12) (v := _) rfl (by kernel_rfl) (by kernel_rfl) (by kernel_rfl) (fun _ _ _ h => h) (Or.inl ⟨by rfl, ?hy54⟩) hHeld ?hr54
                      case hy54 => (intro w hSw; (try dsimp only at hSw); subst hSw; go_simp; (try with_reducible rfl))
                      simp only [Act.put, List.setIfInBounds_toArray, List.set_cons_zero, List.set_cons_succ, List.getElem_toArray, List.getElem_cons_zero, List.getElem_cons_succ]
                      refine' wpAnyH_take (i := 13) (v := _) rfl (by kernel_rfl) (by kernel_rfl) (by kernel_rfl) (fun _ _ _ h => h) (Or.inl ⟨by rfl, ?hy55⟩) hHeld ?hr55
                      case hy55 => (intro w hSw; (try dsimp only at hSw); subst hSw; go_simp; (try with_reducible rfl))
                      simp only [Act.put, List.setIfInBounds_toArray, List.set_cons_zero, List.set_cons_succ, List.getElem_toArray, List.getElem_cons_zero, List.getElem_cons_succ]
                      refine' wpAnyH_take (i := 14) (v := _) rfl (by kernel_rfl) (by kernel_rfl) (by kernel_rfl) (fun _ _ _ h => h) (Or.inl ⟨by rfl, ?hy56⟩) hHeld ?hr56
                      case hy56 => (intro w hSw; (try dsimp only at hSw); subst hSw; go_simp; (try with_reducible rfl))
                      simp only [Act.put, List.setIfInBounds_toArray, List.set_cons_zero, List.set_cons_succ, List.getElem_toArray, List.getElem_cons_zero, List.getElem_cons_succ]
                      refine' wpAnyH_take (i := 15) (v := _) rfl (by kernel_rfl) (by kernel_rfl) (by kernel_rfl) (fun _ _ _ h => h) (Or.inl ⟨by rfl, ?hy57⟩) hHeld ?hr57
                      case hy57 => (intro w hSw; (try dsimp only at hSw); subst hSw; go_simp; (try with_reducible rfl))
                      simp only [Act.put, List.setIfInBounds_toArray, List.set_cons_zero, List.set_cons_succ, List.getElem_toArray, List.getElem_cons_zero, List.getElem_cons_succ]
                      refine' wpAnyH_take (i := 16) (v := _) rfl (by kernel_rfl) (by kernel_rfl) (by kernel_rfl) (fun _ _ _ h => h) (Or.inl ⟨by rfl, ?hy58⟩) hHeld ?hr58
                      case hy58 => (intro w hSw; (try dsimp only at hSw); subst hSw; go_simp; (try with_reducible rfl))
                      simp only [Act.put, List.setIfInBounds_toArray, List.set_cons_zero, List.set_cons_succ, List.getElem_toArray, List.getElem_cons_zero, List.getElem_cons_succ]
                      refine' wpAnyH_take (i := 17) (v := _) rfl (by kernel_rfl) (by kernel_rfl) (by kernel_rfl) (fun _ _ _ h => h) (Or.inl ⟨by rfl, ?hy59⟩) hHeld ?hr59
                      case hy59 => (intro w hSw; (try dsimp only at hSw); subst hSw; go_simp; (try with_reducible rfl))
                      simp only [Act.put, List.setIfInBounds_toArray, List.set_cons_zero, List.set_cons_succ, List.getElem_toArray, List.getElem_cons_zero, List.getElem_cons_succ]
                      refine' wpAnyH_take (i := 18) (v := _) rfl (by kernel_rfl) (by kernel_rfl) (by kernel_rfl) (fun _ _ _ h => h) (Or.inl ⟨by rfl, ?hy60⟩) hHeld ?hr60
                      case hy60 => (intro w hSw; (try dsimp only at hSw); subst hSw; go_simp; (try with_reducible rfl))
                      simp only [Act.put, List.setIfInBounds_toArray, List.set_cons_zero, List.set_cons_succ, List.getElem_toArray, List.getElem_cons_zero, List.getElem_cons_succ]
                      refine' wpAnyH_take (i := 19) (v := _) rfl (by kernel_rfl) (by kernel_rfl) (by kernel_rfl) (fun _ _ _ h => h) (Or.inl ⟨by rfl, ?hy61⟩) hHeld ?hr61
                      case hy61 => (intro w hSw; (try dsimp only at hSw); subst hSw; go_simp; (try with_reducible rfl))
                      simp only [Act.put, List.setIfInBounds_toArray, List.set_cons_zero, List.set_cons_succ, List.getElem_toArray, List.getElem_cons_zero, List.getElem_cons_succ]
                      refine' wpAnyH_take (i := 20) (v := _) rfl (by kernel_rfl) (by kernel_rfl) (by kernel_rfl) (fun _ _ _ h => h) (Or.inl ⟨by rfl, ?hy62⟩) hHeld ?hr62
                      case hy62 => (intro w hSw; (try dsimp only at hSw); subst hSw; go_simp; (try with_reducible rfl))
                      simp only [Act.put, List.setIfInBounds_toArray, List.set_cons_zero, List.set_cons_succ, List.getElem_toArray, List.getElem_cons_zero, List.getElem_cons_succ]
                      refine' wpAnyH_take (i := 21) (v := _) rfl (by kernel_rfl) (by kernel_rfl) (by kernel_rfl) (fun _ _ _ h => h) (Or.inl ⟨by rfl, ?hy63⟩) hHeld ?hr63
                      case hy63 => (intro w hSw; (try dsimp only at hSw); subst hSw; go_simp; (try with_reducible rfl))
                      simp only [Act.put, List.setIfInBounds_toArray, List.set_cons_zero, List.set_cons_succ, List.getElem_toArray, List.getElem_cons_zero, List.getElem_cons_succ]
                      refine' wpAnyH_take (i := 22) (v := _) rfl (by kernel_rfl) (by kernel_rfl) (by kernel_rfl) (fun _ _ _ h => h) (Or.inl ⟨by rfl, ?hy64⟩) hHeld ?hr64
                      case hy64 => (intro w hSw; (try dsimp only at hSw); subst hSw; go_simp; (try with_reducible rfl))
                      simp only [Act.put, List.setIfInBounds_toArray, List.set_cons_zero, List.set_cons_succ, List.getElem_toArray, List.getElem_cons_zero, List.getElem_cons_succ]
                      refine' wpAnyH_take (i := 23) (v := _) rfl (by kernel_rfl) (by kernel_rfl) (by kernel_rfl) (fun _ _ _ h => h) (Or.inl ⟨by rfl, ?hy65⟩) hHeld ?hr65
                      case hy65 => (intro w hSw; (try dsimp only at hSw); subst hSw; go_simp; (try with_reducible rfl))
                      simp only [Act.put, List.setIfInBounds_toArray, List.set_cons_zero, List.set_cons_succ, List.getElem_toArray, List.getElem_cons_zero, List.getElem_cons_succ]
                      refine' wpAnyH_take (i := 24) (v := _) rfl (by kernel_rfl) (by kernel_rfl) (by kernel_rfl) (fun _ _ _ h => h) (Or.inl ⟨by rfl, ?hy66⟩) hHeld ?hr66
                      case hy66 => (intro w hSw; (try dsimp only at hSw); subst hSw; go_simp; (try with_reducible rfl))
                      simp only [Act.put, List.setIfInBounds_toArray, List.set_cons_zero, List.set_cons_succ, List.getElem_toArray, List.getElem_cons_zero, List.getElem_cons_succ]
                      refine' wpAnyH_take (i := 25) (v := _) rfl (by kernel_rfl) (by kernel_rfl) (by kernel_rfl) (fun _ _ _ h => h) (Or.inl ⟨by rfl, ?hy67⟩) hHeld ?hr67
                      case hy67 => (intro w hSw; (try dsimp only at hSw); subst hSw; go_simp; (try with_reducible rfl))
                      simp only [Act.put, List.setIfInBounds_toArray, List.set_cons_zero, List.set_cons_succ, List.getElem_toArray, List.getElem_cons_zero, List.getElem_cons_succ]
                      refine' wpAnyH_take (i := 26) (v := _) rfl (by kernel_rfl) (by kernel_rfl) (by kernel_rfl) (fun _ _ _ h => h) (Or.inl ⟨by rfl, ?hy68⟩) hHeld ?hr68
                      case hy68 => (intro w hSw; (try dsimp only at hSw); subst hSw; go_simp; (try with_reducible rfl))
                      simp only [Act.put, List.setIfInBounds_toArray, List.set_cons_zero, List.set_cons_succ, List.getElem_toArray, List.getElem_cons_zero, List.getElem_cons_succ]
                      refine' wpAnyH_take (i := 27) (v := _) rfl (by kernel_rfl) (by kernel_rfl) (by kernel_rfl) (fun _ _ _ h => h) (Or.inl ⟨by rfl, ?hy69⟩) hHeld ?hr69
                      case hy69 => (intro w hSw; (try dsimp only at hSw); subst hSw; go_simp; (try with_reducible rfl))
                      simp only [Act.put, List.setIfInBounds_toArray, List.set_cons_zero, List.set_cons_succ, List.getElem_toArray, List.getElem_cons_zero, List.getElem_cons_succ]
                      refine' wpAnyH_take (i := 28) (v := _) rfl (by kernel_rfl) (by kernel_rfl) (by kernel_rfl) (fun _ _ _ h => h) (Or.inl ⟨by rfl, ?hy70⟩) hHeld ?hr70
                      case hy70 => (intro w hSw; (try dsimp only at hSw); subst hSw; go_simp; (try with_reducible rfl))
                      simp only [Act.put, List.setIfInBounds_toArray, List.set_cons_zero, List.set_cons_succ, List.getElem_toArray, List.getElem_cons_zero, List.getElem_cons_succ]
                      refine' wpAnyH_take (i := 29) (v := _) rfl (by kernel_rfl) (by kernel_rfl) (by kernel_rfl) (fun _ _ _ h => h) (Or.inl ⟨by rfl, ?hy71⟩) hHeld ?hr71
                      case hy71 => (intro w hSw; (try dsimp only at hSw); subst hSw; go_simp; (try with_reducible rfl))
                      simp only [Act.put, List.setIfInBounds_toArray, List.set_cons_zero, List.set_cons_succ, List.getElem_toArray, List.getElem_cons_zero, List.getElem_cons_succ]
                      refine wpAnyH_done (by kernel_rfl) ?_ _
                      refine NoPanic.normal ?_
                      go_wp2
                      go_ret
                      first | exact ⟨ret_bool hno.symm, kb2⟩ | exact ⟨rfl, kb2⟩ | exact ⟨rfl, kb2.drew⟩ | exact ⟨ret_bool hno.symm, kb2.drew⟩
                  · have b4 : ((atC xs (j + 1)).part != 2) = true := by simp [e4]
                    have hno : rowOkB xs = false := rowOkB_no xs j hlt (by unfold cellOkB; rw [hso, if_neg e0, if_pos e1, decide_eq_false e4]; simp)
                    clear hall hsrc e2
                    go_wp2
                    refine wp_region_noPanic ?_
                    refine wp_region_held_drew (S := fun W => W = w2.drew) (by kernel_rfl) rfl (fun hHeld => ?_)
                    refine' wpAnyH_take (i := 0) (v := _) rfl (by kernel_rfl) (by kernel_rfl) (by kernel_rfl) (fun _ _ _ h => h) (Or.inl ⟨by rfl, ?hy72⟩) hHeld ?hr72
                    case hy72 => (intro w hSw; (try dsimp only at hSw); subst hSw; go_simp; (try with_reducible rfl))
                    simp only [Act.put, List.setIfInBounds_toArray, List.set_cons_zero, List.set_cons_succ, List.getElem_toArray, List.getElem_cons_zero]
                    refine' wpAnyH_take (i := 1) (v := _) rfl (by kernel_rfl) (by kernel_rfl) (by kernel_rfl) (fun _ _ _ h => h) (Or.inl ⟨by rfl, ?hy73⟩) hHeld ?hr73
                    case hy73 => (intro w hSw; (try dsimp only at hSw); subst hSw; go_simp; (try with_reducible rfl))
                    simp only [Act.put, List.setIfInBounds_toArray, List.set_cons_zero, List.set_cons_succ, List.getElem_toArray, List.getElem_cons_zero, List.getElem_cons_succ]
                    refine wpAnyH_ready (rs := [2]) (by kernel_rfl) (by simp) (AllReadyH.cons rfl (fun K hK => ?_) AllReadyH.nil)
                    go_simp
                    refine (specWidth_any _ _).mono ?_
                    rintro e wk ⟨rfl, hwk⟩
                    subst hwk
                    go_wp2_with fail
                    refine hK.out _ _ (by rfl) (fun hHeld => ?_)
                    clear hK K
                    (try simp only [Act.put, List.setIfInBounds_toArray, List.set_cons_zero, List.set_cons_succ])
                    refine' wpAnyH_take (i := 3) (v := _) rfl (by kernel_rfl) (by kernel_rfl) (by kernel_rfl) (fun _ _ _ h => h) (Or.inl ⟨by rfl, ?hy74⟩) hHeld ?hr74
                    case hy74 => (intro w hSw; (try dsimp only at hSw); subst hSw; go_simp; (try with_reducible rfl))
                    simp only [Act.put, List.setIfInBounds_toArray, List.set_cons_zero, List.set_cons_succ, List.getElem_toArray, List.getElem_cons_zero, List.getElem_cons_succ]
                    refine' wpAnyH_take (i := 4) (v := _) rfl (by kernel_rfl) (by kernel_rfl) (by kernel_rfl) (fun _ _ _ h => h) (Or.inl ⟨by rfl, ?hy75⟩) hHeld ?hr75
                    case hy75 => (intro w hSw; (try dsimp only at hSw); subst hSw; go_simp; (try with_reducible rfl))
                    simp only [Act.put, List.setIfInBounds_toArray, List.set_cons_zero, List.set_cons_succ, List.getElem_toArray, List.getElem_cons_zero, List.getElem_cons_succ]
                    refine' wpAnyH_take (i := 5) (v := _) rfl (by kernel_rfl) (by kernel_rfl) (by kernel_rfl) (fun _ _ _ h => h) (Or.inl ⟨by rfl, ?hy76⟩) hHeld ?hr76
                    case hy76 => (intro w hSw; (try dsimp only at hSw); subst hSw; go_simp; (try with_reducible rfl))
                    simp only [Act.put, List.setIfInBounds_toArray, List.set_cons_zero, List.set_cons_succ, List.getElem_toArray, List.getElem_cons_zero, List.getElem_cons_succ]
                    refine' wpAnyH_take (i := 6) (v := _) rfl (by kernel_rfl) (by kernel_rfl) (by kernel_rfl) (fun _ _ _ h => h) (Or.inl ⟨by rfl, ?hy77⟩) hHeld ?hr77
                    case hy77 => (intro w hSw; (try dsimp only at hSw); subst hSw; go_simp; (try with_reducible rfl))
                    simp only [Act.put, List.setIfInBounds_toArray, List.set_cons_zero, List.set_cons_succ, List.getElem_toArray, List.getElem_cons_zero, List.getElem_cons_succ]
                    refine' wpAnyH_take (i := 7) (v := _) rfl (by kernel_rfl) (by kernel_rfl) (by kernel_rfl) (fun _ _ _ h => h) (Or.inl ⟨by rfl, ?hy78⟩) hHeld ?hr78
                    case hy78 => (intro w hSw; (try dsimp only at hSw); subst hSw; go_simp; (try with_reducible rfl))
                    simp only [Act.put, List.setIfInBounds_toArray, List.set_cons_zero, List.set_cons_succ, List.getElem_toArray, List.getElem_cons_zero, List.getElem_cons_succ]
                    refine' wpAnyH_take (i := 8) (v := _) rfl (by kernel_rfl) (by kernel_rfl) (by kernel_rfl) (fun _ _ _ h => h) (Or.inl ⟨by rfl, ?hy79⟩) hHeld ?hr79
                    case hy79 => (intro w hSw; (try dsimp only at hSw); subst hSw; go_simp; (try with_reducible rfl))
                    simp only [Act.put, List.setIfInBounds_toArray, List.set_cons_zero, List.set_cons_succ, List.getElem_toArray, List.getElem_cons_zero, List.getElem_cons_succ]
                    refine' wpAnyH_take (i := 9) (v := _) rfl (by kernel_rfl) (by kernel_rfl) (by kernel_rfl) (fun _ _ _ h => h) (Or.inl ⟨by rfl, ?hy80⟩) hHeld ?hr80
                    case hy80 => (intro w hSw; (try dsimp only at hSw); subst hSw; go_simp; (try with_reducible rfl))
                    simp only [Act.put, List.setIfInBounds_toArray, List.set_cons_zero, List.set_cons_succ, List.getElem_toArray, List.getElem_cons_zero, List.getElem_cons_succ]
                    refine' wpAnyH_take (i := 10) (v := _) rfl (by kernel_rfl) (by kernel_rfl) (by kernel_rfl) (fun _ _ _ h => h) (Or.inl ⟨by rfl, ?hy81⟩) hHeld ?hr81
                    case hy81 => (intro w hSw; (try dsimp only at hSw); subst hSw; go_simp; (try with_reducible rfl))
                    simp only [Act.put, List.setIfInBounds_toArray, List.set_cons_zero, List.set_cons_succ, List.getElem_toArray, List.getElem_cons_zero, List.getElem_cons_succ]
                    refine' wpAnyH_take (i := 11) (v := _) rfl (by kernel_rfl) (by kernel_rfl) (by kernel_rfl) (fun _ _ _ h => h) (Or.inl ⟨by rfl, ?hy82⟩) hHeld ?hr82
                    case hy82 => (intro w hSw; (try dsimp only at hSw); subst hSw; go_simp; (try with_reducible rfl))
                    simp only [Act.put, List.setIfInBounds_toArray, List.set_cons_zero, List.set_cons_succ, List.getElem_toArray, List.getElem_cons_zero, List.getElem_cons_succ]
                    refine' wpAnyH_take (i := 12) (v := _) rfl (by kernel_rfl) (by kernel_rfl) (by kernel_rfl) (fun _ _ _ h => h) (Or.inl ⟨by rfl, ?hy83⟩) hHeld ?hr83
                    case hy83 => (intro w hSw; (try dsimp only at hSw); subst hSw; go_simp; (try with_reducible rfl))
                    simp only [Act.put, List.setIfInBounds_toArray, List.set_cons_zero, List.set_cons_succ, List.getElem_toArray, List.getElem_cons_zero, List.getElem_cons_succ]
                    refine' wpAnyH_take (i := 13) (v := _) rfl (by kernel_rfl) (by kernel_rfl) (by kernel_rfl) (fun _ _ _ h => h) (Or.inl ⟨by rfl, ?hy84⟩) hHeld ?hr84
                    case hy84 => (intro w hSw; (try dsimp only at hSw); subst hSw; go_simp; (try with_reducible rfl))
                    simp only [Act.put, List.setIfInBounds_toArray, List.set_cons_zero, List.set_cons_succ, List.getElem_toArray, List.getElem_cons_zero, List.getElem_cons_succ]
                    refine' wpAnyH_take (i := 14) (v := _) rfl (by kernel_rfl) (by kernel_rfl) (by kernel_rfl) (fun _ _ _ h => h) (Or.inl ⟨by rfl, ?hy85⟩) hHeld ?hr85
                    case hy85 => (intro w hSw; (try dsimp only at hSw); subst hSw; go_simp; (try with_reducible rfl))
                    simp only [Act.put, List.setIfInBounds_toArray, List.set_cons_zero, List.set_cons_succ, List.getElem_toArray, List.getElem_cons_zero, List.getElem_cons_succ]
                    refine' wpAnyH_take (i := 15) (v := _) rfl (by kernel_rfl) (by kernel_rfl) (by kernel_rfl) (fun _ _ _ h => h) (Or.inl ⟨by rfl, ?hy86⟩) hHeld ?hr86
                    case hy86 => (intro w hSw; (try dsimp only at hSw); subst hSw; go_simp; (try with_reducible rfl))
                    simp only [Act.put, List.setIfInBounds_toArray, List.set_cons_zero, List.set_cons_succ, List.getElem_toArray, List.getElem_cons_zero, List.getElem_cons_succ]
                    refine' wpAnyH_take (i := 16) (v := _) rfl (by kernel_rfl) (by kernel_rfl) (by kernel_rfl) (fun _ _ _ h => h) (Or.inl ⟨by rfl, ?hy87⟩) hHeld ?hr87
                    case hy87 => (intro w hSw; (try dsimp only at hSw); subst hSw; go_simp; (try with_reducible rfl))
                    simp only [Act.put, List.setIfInBounds_toArray, List.set_cons_zero, List.set_cons_succ, List.getElem_toArray, List.getElem_cons_zero, List.getElem_cons_succ]
                    refine' wpAnyH_take (i := 17) (v := _) rfl (by kernel_rfl) (by kernel_rfl) (by kernel_rfl) (fun _ _ _ h => h) (Or.inl ⟨by rfl, ?hy88⟩) hHeld ?hr88
                    case hy88 => (intro w hSw; (try dsimp only at hSw); subst hSw; go_simp; (try with_reducible rfl))
                    simp only [Act.put, List.setIfInBounds_toArray, List.set_cons_zero, List.set_cons_succ, List.getElem_toArray, List.getElem_cons_zero, List.getElem_cons_succ]
                    refine' wpAnyH_take (i := 18) (v := _) rfl (by kernel_rfl) (by kernel_rfl) (by kernel_rfl) (fun _ _ _ h => h) (Or.inl ⟨by rfl, ?hy89⟩) hHeld ?hr89
                    case hy89 => (intro w hSw; (try dsimp only at hSw); subst hSw; go_simp; (try with_reducible rfl))
                    simp only [Act.put, List.setIfInBounds_toArray, List.set_cons_zero, List.set_cons_succ, List.getElem_toArray, List.getElem_cons_zero, List.getElem_cons_succ]
                    refine' wpAnyH_take (i := 19) (v := _) rfl (by kernel_rfl) (by kernel_rfl) (by kernel_rfl) (fun _ _ _ h => h) (Or.inl ⟨by rfl, ?hy90⟩) hHeld ?hr90
                    case hy90 => (intro w hSw; (try dsimp only at hSw); subst hSw; go_simp; (try with_reducible rfl))
                    simp only [Act.put, List.setIfInBounds_toArray, List.set_cons_zero, List.set_cons_succ, List.getElem_toArray, List.getElem_cons_zero, List.getElem_cons_succ]
                    refine wpAnyH_take (i := 20) (v := undef) rfl (by kernel_rfl) (by kernel_rfl) (by kernel_rfl) (fun _ _ _ h => h) (Or.inr ⟨by rfl, rfl⟩) hHeld ?_
                    simp only [Act.put, List.setIfInBounds_toArray, List.set_cons_zero, List.set_cons_succ, List.getElem_toArray, List.getElem_cons_zero, List.getElem_cons_succ]
                    refine wpAnyH_take (i := 21) (v := undef) rfl (by kernel_rfl) (by kernel_rfl) (by kernel_rfl) (fun _ _ _ h => h) (Or.inr ⟨by rfl, rfl⟩) hHeld ?_
                    simp only [Act.put, List.setIfInBounds_toArray, List.set_cons_zero, List.set_cons_succ, List.getElem_toArray, List.getElem_cons_zero, List.getElem_cons_succ]
                    refine wpAnyH_take (i := 22) (v := undef) rfl (by kernel_rfl) (by kernel_rfl) (by kernel_rfl) (fun _ _ _ h => h) (Or.inr ⟨by rfl, rfl⟩) hHeld ?_
                    simp only [Act.put, List.setIfInBounds_toArray, List.set_cons_zero, List.set_cons_succ, List.getElem_toArray, List.getElem_cons_zero, List.getElem_cons_succ]
                    refine wpAnyH_take (i := 23) (v := undef) rfl (by kernel_rfl) (by kernel_rfl) (by kernel_rfl) (fun _ _ _ h => h) (Or.inr ⟨by rfl, rfl⟩) hHeld ?_
                    simp only [Act.put, List.setIfInBounds_toArray, List.set_cons_zero, List.set_cons_succ, List.getElem_toArray, List.getElem_cons_zero, List.getElem_cons_succ]
                    refine wpAnyH_take (i := 24) (v := undef) rfl (by kernel_rfl) (by kernel_rfl) (by kernel_rfl) (fun _ _ _ h => h) (Or.inr ⟨by rfl, rfl⟩) hHeld ?_
                    simp only [Act.put, List.setIfInBounds_toArray, List.set_cons_zero, List.set_cons_succ, List.getElem_toArray, List.getElem_cons_zero, List.getElem_cons_succ]
                    refine wpAnyH_take (i := 25) (v := undef) rfl (by kernel_rfl) (by kernel_rfl) (by kernel_rfl) (fun _ _ _ h => h) (Or.inr ⟨by rfl, rfl⟩) hHeld ?_
                    simp only [Act.put, List.setIfInBounds_toArray, List.set_cons_zero, List.set_cons_succ, List.getElem_toArray, List.getElem_cons_zero, List.getElem_cons_succ]
                    refine wpAnyH_take (i := 26) (v := undef) rfl (by kernel_rfl) (by kernel_rfl) (by kernel_rfl) (fun _ _ _ h => h) (Or.inr ⟨by rfl, rfl⟩) hHeld ?_
                    simp only [Act.put, List.setIfInBounds_toArray, List.set_cons_zero, List.set_cons_succ, List.getElem_toArray, List.getElem_cons_zero, List.getElem_cons_succ]
                    refine wpAnyH_take (i := 27) (v := undef) rfl (by kernel_rfl) (by kernel_rfl) (by kernel_rfl) (fun _ _ _ h => h) (Or.inr ⟨by rfl, rfl⟩) hHeld ?_
                    simp only [Act.put, List.setIfInBounds_toArray, List.set_cons_zero, List.set_cons_succ, List.getElem_toArray, List.getElem_cons_zero, List.getElem_cons_succ]
                    refine wpAnyH_take (i := 28) (v := undef) rfl (by kernel_rfl) (by kernel_rfl) (by kernel_rfl) (fun _ _ _ h => h) (Or.inr ⟨by rfl, rfl⟩) hHeld ?_
                    simp only [Act.put, List.setIfInBounds_toArray, List.set_cons_zero, List.set_cons_succ, List.getElem_toArray, List.getElem_cons_zero, List.getElem_cons_succ]
                    refine' wpAnyH_take (i := 29) (v := _) rfl (by kernel_rfl) (by kernel_rfl) (by kernel_rfl) (fun _ _ _ h => h) (Or.inl ⟨by rfl, ?hy91⟩) hHeld ?hr91
                    case hy91 => (intro w hSw; (try dsimp only at hSw); subst hSw; go_simp; (try with_reducible rfl))
                    simp only [Act.put, List.setIfInBounds_toArray, List.set_cons_zero, List.set_cons_succ, List.getElem_toArray, List.getElem_cons_zero, List.getElem_cons_succ]
                    refine wpAnyH_done (by kernel_rfl) ?_ _
                    refine NoPanic.normal ?_
                    go_wp2
                    go_ret
                    first | exact ⟨ret_bool hno.symm, kb2⟩ | exact ⟨rfl, kb2⟩ | exact ⟨rfl, kb2.drew⟩ | exact ⟨ret_bool hno.symm, kb2.drew⟩
              · have b2 : (widthV (atC xs j).rune != 2) = true := by simp [e2]
                have hno : rowOkB xs = false := rowOkB_no xs j hlt (by unfold cellOkB; rw [hso, if_neg e0, if_pos e1, decide_eq_false e2]; simp)
                clear hall hsrc e2
                go_wp2
                refine wp_region_noPanic ?_
                refine wp_region_held_drew (S := fun W => W = w2.drew) (by kernel_rfl) rfl (fun hHeld => ?_)
                refine' wpAnyH_take (i := 0) (v := _) rfl (by kernel_rfl) (by kernel_rfl) (by kernel_rfl) (fun _ _ _ h => h) (Or.inl ⟨by rfl, ?hy92⟩) hHeld ?hr92
                case hy92 => (intro w hSw; (try dsimp only at hSw); subst hSw; go_simp; (try with_reducible rfl))
                simp only [Act.put, List.setIfInBounds_toArray, List.set_cons_zero, List.set_cons_succ, List.getElem_toArray, List.getElem_cons_zero]
                refine' wpAnyH_take (i := 1) (v := _) rfl (by kernel_rfl) (by kernel_rfl) (by kernel_rfl) (fun _ _ _ h => h) (Or.inl ⟨by rfl, ?hy93⟩) hHeld ?hr93
                case hy93 => (intro w hSw; (try dsimp only at hSw); subst hSw; go_simp; (try with_reducible rfl))
                simp only [Act.put, List.setIfInBounds_toArray, List.set_cons_zero, List.set_cons_succ, List.getElem_toArray, List.getElem_cons_zero, List.getElem_cons_succ]
                refine wpAnyH_ready (rs := [2]) (by kernel_rfl) (by simp) (AllReadyH.cons rfl (fun K hK => ?_) AllReadyH.nil)
                go_simp
                refine (specWidth_any _ _).mono ?_
                rintro e wk ⟨rfl, hwk⟩
                subst hwk
                go_wp2_with fail
                refine hK.out _ _ (by rfl) (fun hHeld => ?_)
                clear hK K
                (try simp only [Act.put, List.setIfInBounds_toArray, List.set_cons_zero, List.set_cons_succ])
                refine' wpAnyH_take (i := 3) (v := _) rfl (by kernel_rfl) (by kernel_rfl) (by kernel_rfl) (fun _ _ _ h => h) (Or.inl ⟨by rfl, ?hy94⟩) hHeld ?hr94
                case hy94 => (intro w hSw; (try dsimp only at hSw); subst hSw; go_simp; (try with_reducible rfl))
                simp only [Act.put, List.setIfInBounds_toArray, List.set_cons_zero, List.set_cons_succ, List.getElem_toArray, List.getElem_cons_zero, List.getElem_cons_succ]
                refine' wpAnyH_take (i := 4) (v := _) rfl (by kernel_rfl) (by kernel_rfl) (by kernel_rfl) (fun _ _ _ h => h) (Or.inl ⟨by rfl, ?hy95⟩) hHeld ?hr95
                case hy95 => (intro w hSw; (try dsimp only at hSw); subst hSw; go_simp; (try with_reducible rfl))
                simp only [Act.put, List.setIfInBounds_toArray, List.set_cons_zero, List.set_cons_succ, List.getElem_toArray, List.getElem_cons_zero, List.getElem_cons_succ]
                refine wpAnyH_take (i := 5) (v := undef) rfl (by kernel_rfl) (by kernel_rfl) (by kernel_rfl) (fun _ _ _ h => h) (Or.inr ⟨by rfl, rfl⟩) hHeld ?_
                simp only [Act.put, List.setIfInBounds_toArray, List.set_cons_zero, List.set_cons_succ, List.getElem_toArray, List.getElem_cons_zero, List.getElem_cons_succ]
                refine wpAnyH_take (i := 6) (v := undef) rfl (by kernel_rfl) (by kernel_rfl) (by kernel_rfl) (fun _ _ _ h => h) (Or.inr ⟨by rfl, rfl⟩) hHeld ?_
                simp only [Act.put, List.setIfInBounds_toArray, List.set_cons_zero, List.set_cons_succ, List.getElem_toArray, List.getElem_cons_zero, List.getElem_cons_succ]
                refine wpAnyH_take (i := 7) (v := undef) rfl (by kernel_rfl) (by kernel_rfl) (by kernel_rfl) (fun _ _ _ h => h) (Or.inr ⟨by rfl, rfl⟩) hHeld ?_
                simp only [Act.put, List.setIfInBounds_toArray, List.set_cons_zero, List.set_cons_succ, List.getElem_toArray, List.getElem_cons_zero, List.getElem_cons_succ]
                refine wpAnyH_take (i := 8) (v := undef) rfl (by kernel_rfl) (by kernel_rfl) (by kernel_rfl) (fun _ _ _ h => h) (Or.inr ⟨by rfl, rfl⟩) hHeld ?_
                simp only [Act.put, List.setIfInBounds_toArray, List.set_cons_zero, List.set_cons_succ, List.getElem_toArray, List.getElem_cons_zero, List.getElem_cons_succ]
                refine' wpAnyH_take (i := 9) (v := _) rfl (by kernel_rfl) (by kernel_rfl) (by kernel_rfl) (fun _ _ _ h => h) (Or.inl ⟨by rfl, ?hy96⟩) hHeld ?hr96
                case hy96 => (intro w hSw; (try dsimp only at hSw); subst hSw; go_simp; (try with_reducible rfl))
                simp only [Act.put, List.setIfInBounds_toArray, List.set_cons_zero, List.set_cons_succ, List.getElem_toArray, List.getElem_cons_zero, List.getElem_cons_succ]
                refine' wpAnyH_take (i := 10) (v := _) rfl (by kernel_rfl) (by kernel_rfl) (by kernel_rfl) (fun _ _ _ h => h) (Or.inl ⟨by rfl, ?hy97⟩) hHeld ?hr97
                case hy97 => (intro w hSw; (try dsimp only at hSw); subst hSw; go_simp; (try with_reducible rfl))
                simp only [Act.put, List.setIfInBounds_toArray, List.set_cons_zero, List.set_cons_succ, List.getElem_toArray, List.getElem_cons_zero, List.getElem_cons_succ]
                refine wpAnyH_take (i := 11) (v := undef) rfl (by kernel_rfl) (by kernel_rfl) (by kernel_rfl) (fun _ _ _ h => h) (Or.inr ⟨by rfl, rfl⟩) hHeld ?_
                simp only [Act.put, List.setIfInBounds_toArray, List.set_cons_zero, List.set_cons_succ, List.getElem_toArray, List.getElem_cons_zero, List.getElem_cons_succ]
                refine wpAnyH_take (i := 12) (v := undef) rfl (by kernel_rfl) (by kernel_rfl) (by kernel_rfl) (fun _ _ _ h => h) (Or.inr ⟨by rfl, rfl⟩) hHeld ?_
                simp only [Act.put, List.setIfInBounds_toArray, List.set_cons_zero, List.set_cons_succ, List.getElem_toArray, List.getElem_cons_zero, List.getElem_cons_succ]
                refine wpAnyH_take (i := 13) (v := undef) rfl (by kernel_rfl) (by kernel_rfl) (by kernel_rfl) (fun _ _ _ h => h) (Or.inr ⟨by rfl, rfl⟩) hHeld ?_
                simp only [Act.put, List.setIfInBounds_toArray, List.set_cons_zero, List.set_cons_succ, List.getElem_toArray, List.getElem_cons_zero, List.getElem_cons_succ]
                refine wpAnyH_take (i := 14) (v := undef) rfl (by kernel_rfl) (by kernel_rfl) (by kernel_rfl) (fun _ _ _ h => h) (Or.inr ⟨by rfl, rfl⟩) hHeld ?_
                simp only [Act.put, List.setIfInBounds_toArray, List.set_cons_zero, List.set_cons_succ, List.getElem_toArray, List.getElem_cons_zero, List.getElem_cons_succ]
                refine wpAnyH_take (i := 15) (v := undef) rfl (by kernel_rfl) (by kernel_rfl) (by kernel_rfl) (fun _ _ _ h => h) (Or.inr ⟨by rfl, rfl⟩) hHeld ?_
                simp only [Act.put, List.setIfInBounds_toArray, List.set_cons_zero, List.set_cons_succ, List.getElem_toArray, List.getElem_cons_zero, List.getElem_cons_succ]
                refine wpAnyH_take (i := 16) (v := undef) rfl (by kernel_rfl) (by kernel_rfl) (by kernel_rfl) (fun _ _ _ h => h) (Or.inr ⟨by rfl, rfl⟩) hHeld ?_
                simp only [Act.put, List.setIfInBounds_toArray, List.set_cons_zero, List.set_cons_succ, List.getElem_toArray, List.getElem_cons_zero, List.getElem_cons_succ]
                refine wpAnyH_take (i := 17) (v := undef) rfl (by kernel_rfl) (by kernel_rfl) (by kernel_rfl) (fun _ _ _ h => h) (Or.inr ⟨by rfl, rfl⟩) hHeld ?_
                simp only [Act.put, List.setIfInBounds_toArray, List.set_cons_zero, List.set_cons_succ, List.getElem_toArray, List.getElem_cons_zero, List.getElem_cons_succ]
                refine' wpAnyH_take (i := 18) (v := _) rfl (by kernel_rfl) (by kernel_rfl) (by kernel_rfl) (fun _ _ _ h => h) (Or.inl ⟨by rfl, ?hy98⟩) hHeld ?hr98
                case hy98 => (intro w hSw; (try dsimp only at hSw); subst hSw; go_simp; (try with_reducible rfl))
                simp only [Act.put, List.setIfInBounds_toArray, List.set_cons_zero, List.set_cons_succ, List.getElem_toArray, List.getElem_cons_zero, List.getElem_cons_succ]
                refine' wpAnyH_take (i := 19) (v := _) rfl (by kernel_rfl) (by kernel_rfl) (by kernel_rfl) (fun _ _ _ h => h) (Or.inl ⟨by rfl, ?hy99⟩) hHeld ?hr99
                case hy99 => (intro w hSw; (try dsimp only at hSw); subst hSw; go_simp; (try with_reducible rfl))
                simp only [Act.put, List.setIfInBounds_toArray, List.set_cons_zero, List.set_cons_succ, List.getElem_toArray, List.getElem_cons_zero, List.getElem_cons_succ]
                refine wpAnyH_take (i := 20) (v := undef) rfl (by kernel_rfl) (by kernel_rfl) (by kernel_rfl) (fun _ _ _ h => h) (Or.inr ⟨by rfl, rfl⟩) hHeld ?_
                simp only [Act.put, List.setIfInBounds_toArray, List.set_cons_zero, List.set_cons_succ, List.getElem_toArray, List.getElem_cons_zero, List.getElem_cons_succ]
                refine wpAnyH_take (i := 21) (v := undef) rfl (by kernel_rfl) (by kernel_rfl) (by kernel_rfl) (fun _ _ _ h => h) (Or.inr ⟨by rfl, rfl⟩) hHeld ?_
                simp only [Act.put, List.setIfInBounds_toArray, List.set_cons_zero, List.set_cons_succ, List.getElem_toArray, List.getElem_cons_zero, List.getElem_cons_succ]
                refine wpAnyH_take (i := 22) (v := undef) rfl (by kernel_rfl) (by kernel_rfl) (by kernel_rfl) (fun _ _ _ h => h) (Or.inr ⟨by rfl, rfl⟩) hHeld ?_
                simp only [Act.put, List.setIfInBounds_toArray, List.set_cons_zero, List.set_cons_succ, List.getElem_toArray, List.getElem_cons_zero, List.getElem_cons_succ]
                refine wpAnyH_take (i := 23) (v := undef) rfl (by kernel_rfl) (by kernel_rfl) (by kernel_rfl) (fun _ _ _ h => h) (Or.inr ⟨by rfl, rfl⟩) hHeld ?_
                simp only [Act.put, List.setIfInBounds_toArray, List.set_cons_zero, List.set_cons_succ, List.getElem_toArray, List.getElem_cons_zero, List.getElem_cons_succ]
                refine wpAnyH_take (i := 24) (v := undef) rfl (by kernel_rfl) (by kernel_rfl) (by kernel_rfl) (fun _ _ _ h => h) (Or.inr ⟨by rfl, rfl⟩) hHeld ?_
                simp only [Act.put, List.setIfInBounds_toArray, List.set_cons_zero, List.set_cons_succ, List.getElem_toArray, List.getElem_cons_zero, List.getElem_cons_succ]
                refine wpAnyH_take (i := 25) (v := undef) rfl (by kernel_rfl) (by kernel_rfl) (by kernel_rfl) (fun _ _ _ h => h) (Or.inr ⟨by rfl, rfl⟩) hHeld ?_
                simp only [Act.put, List.setIfInBounds_toArray, List.set_cons_zero, List.set_cons_succ, List.getElem_toArray, List.getElem_cons_zero, List.getElem_cons_succ]
                refine wpAnyH_take (i := 26) (v := undef) rfl (by kernel_rfl) (by kernel_rfl) (by kernel_rfl) (fun _ _ _ h => h) (Or.inr ⟨by rfl, rfl⟩) hHeld ?_
                simp only [Act.put, List.setIfInBounds_toArray, List.set_cons_zero, List.set_cons_succ, List.getElem_toArray, List.getElem_cons_zero, List.getElem_cons_succ]
                refine wpAnyH_take (i := 27) (v := undef) rfl (by kernel_rfl) (by kernel_rfl) (by kernel_rfl) (fun _ _ _ h => h) (Or.inr ⟨by rfl, rfl⟩) hHeld ?_
                simp only [Act.put, List.setIfInBounds_toArray, List.set_cons_zero, List.set_cons_succ, List.getElem_toArray, List.getElem_cons_zero, List.getElem_cons_succ]
                refine wpAnyH_take (i := 28) (v := undef) rfl (by kernel_rfl) (by kernel_rfl) (by kernel_rfl) (fun _ _ _ h => h) (Or.inr ⟨by rfl, rfl⟩) hHeld ?_
                simp only [Act.put, List.setIfInBounds_toArray, List.set_cons_zero, List.set_cons_succ, List.getElem_toArray, List.getElem_cons_zero, List.getElem_cons_succ]
                refine' wpAnyH_take (i := 29) (v := _) rfl (by kernel_rfl) (by kernel_rfl) (by kernel_rfl) (fun _ _ _ h => h) (Or.inl ⟨by rfl, ?hy100⟩) hHeld ?hr100
                case hy100 => (intro w hSw; (try dsimp only at hSw); subst hSw; go_simp; (try with_reducible rfl))
                simp only [Act.put, List.setIfInBounds_toArray, List.set_cons_zero, List.set_cons_succ, List.getElem_toArray, List.getElem_cons_zero, List.getElem_cons_succ]
                refine wpAnyH_done (by kernel_rfl) ?_ _
                refine NoPanic.normal ?_
                go_wp2
                go_ret
                first | exact ⟨ret_bool hno.symm, kb2⟩ | exact ⟨rfl, kb2⟩ | exact ⟨rfl, kb2.drew⟩ | exact ⟨ret_bool hno.symm, kb2.drew⟩
            · have b1 : ((atC xs j).part == 1) = false := by simp [e1]
              by_cases e2 : (atC xs j).part = 2
              · have b2 : ((atC xs j).part == 2) = true := by simp [e2]
                by_cases e3 : (atC xs j).rune = 0
                · have b3 : ((atC xs j).rune != 0) = false := by simp [e3]
                  by_cases e4 : j = 0
                  · have b4 : ((j : Int) == 0) = true := by simp [e4]
                    have hno : rowOkB xs = false := rowOkB_no xs j hlt (by unfold cellOkB; rw [hso, if_neg e0, if_neg e1, if_pos e2, decide_eq_false (show ¬ 0 < j by omega)]; simp)
                    clear hall hsrc e4
                    go_wp2
                    go_ret
                    first | exact ⟨ret_bool hno.symm, kb2⟩ | exact ⟨rfl, kb2⟩ | exact ⟨rfl, kb2.drew⟩ | exact ⟨ret_bool hno.symm, kb2.drew⟩
                  · obtain ⟨m, rfl⟩ : ∃ m, j = m + 1 := ⟨j - 1, by omega⟩
                    have b4 : ((m : Int) + 1 == 0) = false := by simp; omega
                    have hmi : (m : Int) < (xs.length : Int) := by omega
                    obtain ⟨q0, q1, q2, q3, q4, q5, q6⟩ := hsrc m (by omega)
                    by_cases e5 : (atC xs m).part = 1
                    · have b5 : ((atC xs m).part != 1) = false := by simp [e5]
                      have hyes : cellOkB xs (m + 1) = true := by unfold cellOkB; rw [hso, if_neg e0, if_neg e1, if_pos e2, decide_eq_true e3]; simp [e5]
                      have hall' : Hid (∀ k, k < m + 1 + 1 → cellOkB xs k = true) := fun k hk => by rcases Nat.lt_succ_iff_lt_or_eq.1 hk with h | rfl; exact hall.out k h; exact hyes
                      clear hall hsrc hyes
                      go_wp2
                      go_roundw
                      case rel => exact ⟨m + 1 + 1, by go_num, by omega, hall', (by first | exact kb2 | exact kb2.drew)⟩
                      case measure => simp [intOf]; omega
                    · have b5 : ((atC xs m).part != 1) = true := by simp [e5]
                      have hno : rowOkB xs = false := rowOkB_no xs (m + 1) hlt (by unfold cellOkB; rw [hso, if_neg e0, if_neg e1, if_pos e2]; simp [e5])
                      clear hall hsrc
                      go_wp2
                      go_ret
                      first | exact ⟨ret_bool hno.symm, kb2⟩ | exact ⟨rfl, kb2⟩ | exact ⟨rfl, kb2.drew⟩ | exact ⟨ret_bool hno.symm, kb2.drew⟩
                · have b3 : ((atC xs j).rune != 0) = true := by simp [e3]
                  have hno : rowOkB xs = false := rowOkB_no xs j hlt (by unfold cellOkB; rw [hso, if_neg e0, if_neg e1, if_pos e2, decide_eq_false e3]; simp)
                  clear hall hsrc
                  go_wp2
                  go_ret
                  first | exact ⟨ret_bool hno.symm, kb2⟩ | exact ⟨rfl, kb2⟩ | exact ⟨rfl, kb2.drew⟩ | exact ⟨ret_bool hno.symm, kb2.drew⟩
              · have b2 : ((atC xs j).part == 2) = false := by simp [e2]
                have hno : rowOkB xs = false := rowOkB_no xs j hlt (by unfold cellOkB; rw [hso, if_neg e0, if_neg e1, if_neg e2]; rfl)
                clear hall hsrc
                go_wp2
                go_ret
                first | exact ⟨ret_bool hno.symm, kb2⟩ | exact ⟨rfl, kb2⟩ | exact ⟨rfl, kb2.drew⟩ | exact ⟨ret_bool hno.symm, kb2.drew⟩
      · have hjn : j = xs.length := by omega
        have hji : ¬ (j : Int) < (xs.length : Int) := by omega
        subst hjn
        have hyes : rowOkB xs = true := rowOkB_yes xs ⟨hn1, hn2⟩ hall.out
        clear hall hOK hv
        go_wp2
        go_ret
        first | exact ⟨ret_bool hyes.symm, kb⟩ | exact ⟨rfl, kb⟩
  · have hno := rowOkB_len xs hn
    by_cases h0 : xs.length < 1
    · have hi : (xs.length : Int) < 1 := by omega
      go_enter Tryd.func38, Tryd.ntmps38
      go_wp2
      go_ret
      first | exact ⟨ret_bool hno.symm, Below.refl _ _⟩ | exact ⟨rfl, Below.refl _ _⟩
    · have hi : ¬ (xs.length : Int) < 1 := by omega
      have hi2 : 60 < (xs.length : Int) := by omega
      go_enter Tryd.func38, Tryd.ntmps38
      go_wp2
      go_ret
      first | exact ⟨ret_bool hno.symm, Below.refl _ _⟩ | exact ⟨rfl, Below.refl _ _⟩
end Go.Proofs.YtpmaibkakkfaeaaDoor
namespace Go.Proofs.YtpmaibkakkfaeaaDoor
open Go.ChangeShapes Go.WideShapes Go.ChangeAt Go.RowKit
/-- What a row's judge leaves. -/
def KG (M : Nat) (w0 : World) (r : Value) (x : List Ce) (W : World) : Prop := SlC W r x ∧ M ≤ W.heap.size ∧ Below w0.heap.size w0 W
theorem KG.below {M : Nat} {w0 : World} {r : Value} {x : List Ce} {W W' : World} (k : KG M w0 r x W) (hb : Below W.heap.size W W') : KG M w0 r x W' :=
  ⟨k.1.below hb, Nat.le_trans k.2.1 hb.size, k.2.2.trans (hb.mono k.2.2.size)⟩
theorem KG.drew {M : Nat} {w0 : World} {r : Value} {x : List Ce} {W : World} (k : KG M w0 r x W) : KG M w0 r x W.drew := k.below (Below.refl _ _).drew
theorem rowOk_gk (M B b o : Nat) (w0 : World) (r : Value) (x : List Ce) (u0 u1 u2 : Value) (hl : x.length ≤ 1048576) (hB : B < M) (hb : b < M) {W : World}
    (h : W.cell? ⟨B, 0, none⟩ = some u0 ∧ W.cell? ⟨B, 1, none⟩ = some u1 ∧ W.cell? ⟨b, o, none⟩ = some u2 ∧ KG M w0 r x W) :
    Calls Tryd.prog 38 #[r] W fun e W' => e = .returned (.bool (rowOkB x)) ∧ (W'.cell? ⟨B, 0, none⟩ = some u0 ∧ W'.cell? ⟨B, 1, none⟩ = some u1 ∧ W'.cell? ⟨b, o, none⟩ = some u2 ∧ KG M w0 r x W') := by
  obtain ⟨h0, h1, h2, k⟩ := h
  refine (specRowOk_any r x W k.1 hl).mono ?_
  rintro e W' ⟨rfl, hw⟩
  have hM := k.2.1
  exact ⟨rfl, (hw.cell (p := ⟨B, 0, none⟩) (show B < _ by omega)).trans h0, (hw.cell (p := ⟨B, 1, none⟩) (show B < _ by omega)).trans h1, (hw.cell (p := ⟨b, o, none⟩) (show b < _ by omega)).trans h2, k.below hw⟩
set_option maxHeartbeats 16000000 in
set_option maxRecDepth 20000 in
theorem specGridOk_any (cols : Int) (v : Value) (rows : List (List Ce)) (w : World) (hv : SlG w v rows) (hl : rows.length ≤ 1048576) (hx : ∀ i, i < rows.length → (rowX rows i).length ≤ 1048576) :
    Calls Tryd.prog 13 #[gridV cols v] w fun e w' => e = .returned (.bool (gridOkB cols rows)) ∧ Below w.heap.size w w' := by
  have hbB := bal' w (Obj.cells #[.int .i64 cols, v] 38)
  have hG := GrN.new w cols v 38
  obtain ⟨a, c, vs, rfl, hcp, _, hr, hs⟩ := id hv
  have hin := fun W => l1In_any cols 1 60 W
  unfold gridV
  by_cases h1 : (1 : Int) ≤ cols ∧ cols ≤ 60
  · have e1 : decide ((1 : Int) ≤ cols ∧ cols ≤ 60) = true := decide_eq_true h1
    rw [e1] at hin
    by_cases hn : 1 ≤ rows.length ∧ rows.length ≤ 30
    · obtain ⟨hn1, hn2⟩ := hn
      have hn1i : ¬ (rows.length : Int) < 1 := by omega
      have hn2i : ¬ 30 < (rows.length : Int) := by omega
      rcases hr with h | ⟨b, off, rfl, hbb, hrc⟩
      · rw [h] at hn1; simp at hn1
      go_enter Tryd.func13, Tryd.ntmps13
      go_wp2_with (go_at_call 15; refine (hin _).mono ?_; rintro e w1 ⟨rfl, hw⟩; subst hw)
      go_loopw [3] (fun i wr => ∃ j : Nat, i = .int .i64 j ∧ j ≤ rows.length ∧ Hid (∀ k, k < j → fitB cols (rowX rows k) = true) ∧ GrN wr w.heap.size cols (.slice (some ⟨b, off, none⟩) rows.length c) ∧ Below w.heap.size w wr) (fun i _ => rows.length - (intOf i).toNat)
      case atStart => exact ⟨0, rfl, Nat.zero_le _, (fun k hk => absurd hk (Nat.not_lt_zero k)), hG, hbB⟩
      case round =>
        clear hG hbB
        obtain ⟨j, rfl, hj, hall, hG, kb⟩ := hrel
        obtain ⟨hB, c0, c1⟩ := id hG
        by_cases hlt : j < rows.length
        · have hji : (j : Int) < (rows.length : Int) := by omega
          have hj0 : (0 : Int) ≤ (j : Int) := by omega
          have c2 := (kb.cell (p := ⟨b, off + j, none⟩) hbb).trans (hrc j hlt)
          have hsj := (hs j hlt).below kb
          obtain ⟨aj, cj, ev, hjc, _, _⟩ := id hsj
          have kg : KG (w.heap.size + 1) w (rowV vs j) (rowX rows j) wr := ⟨hsj, hB, kb⟩
          rw [ev] at c2 kg
          clear hsj hG hrc hs hv ev hin
          by_cases e2 : ((rowX rows j).length : Int) = cols
          · have b1 : (((rowX rows j).length : Int) != cols) = false := by simp [e2]
            cases hro : rowOkB (rowX rows j)
            · have hno : gridOkB cols rows = false := gridOk_no hlt (by show fitB cols (rowX rows j) = false; unfold fitB; rw [hro, Bool.and_false])
              clear hall
              go_wp2
              refine wp_region_noPanic ?_
              refine wp_region_held_drew (S := (fun W => W.cell? ⟨w.heap.size, 0, none⟩ = some (.int .i64 cols) ∧ W.cell? ⟨w.heap.size, 1, none⟩ = some (.slice (some ⟨b, off, none⟩) rows.length c) ∧ W.cell? ⟨b, off + j, none⟩ = some (.slice aj (rowX rows j).length cj) ∧ KG (w.heap.size + 1) w (.slice aj (rowX rows j).length cj) (rowX rows j) W)) (by kernel_rfl) ⟨c0, c1, c2, kg.drew⟩ (fun hHeld => ?_)
              refine' wpAnyH_take (i := 0) (v := _) rfl (by kernel_rfl) (by kernel_rfl) (by kernel_rfl) (fun _ _ _ h => h) (Or.inl ⟨by rfl, ?hy1⟩) hHeld ?hr1
              case hy1 => (intro w hSw; (try dsimp only at hSw); go_simp; (try with_reducible rfl))
              simp only [Act.put, List.setIfInBounds_toArray, List.set_cons_zero, List.set_cons_succ, List.getElem_toArray, List.getElem_cons_zero]
              refine' wpAnyH_take (i := 1) (v := _) rfl (by kernel_rfl) (by kernel_rfl) (by kernel_rfl) (fun _ _ _ h => h) (Or.inl ⟨by rfl, ?hy2⟩) hHeld ?hr2
              case hy2 => (intro w hSw; (try dsimp only at hSw); go_simp; (try with_reducible rfl))
              simp only [Act.put, List.setIfInBounds_toArray, List.set_cons_zero, List.set_cons_succ, List.getElem_toArray, List.getElem_cons_zero, List.getElem_cons_succ]
              refine' wpAnyH_take (i := 2) (v := _) rfl (by kernel_rfl) (by kernel_rfl) (by kernel_rfl) (fun _ _ _ h => h) (Or.inl ⟨by rfl, ?hy3⟩) hHeld ?hr3
              case hy3 => (intro w hSw; (try dsimp only at hSw); go_simp; (try with_reducible rfl))
              simp only [Act.put, List.setIfInBounds_toArray, List.set_cons_zero, List.set_cons_succ, List.getElem_toArray, List.getElem_cons_zero, List.getElem_cons_succ]
              refine' wpAnyH_take (i := 3) (v := _) rfl (by kernel_rfl) (by kernel_rfl) (by kernel_rfl) (fun _ _ _ h => h) (Or.inl ⟨by rfl, ?hy4⟩) hHeld ?hr4
              case hy4 => (intro w hSw; (try dsimp only at hSw); go_simp; (try with_reducible rfl))
              simp only [Act.put, List.setIfInBounds_toArray, List.set_cons_zero, List.set_cons_succ, List.getElem_toArray, List.getElem_cons_zero, List.getElem_cons_succ]
              refine' wpAnyH_take (i := 4) (v := _) rfl (by kernel_rfl) (by kernel_rfl) (by kernel_rfl) (fun _ _ _ h => h) (Or.inl ⟨by rfl, ?hy5⟩) hHeld ?hr5
              case hy5 => (intro w hSw; (try dsimp only at hSw); go_simp; (try with_reducible rfl))
              simp only [Act.put, List.setIfInBounds_toArray, List.set_cons_zero, List.set_cons_succ, List.getElem_toArray, List.getElem_cons_zero, List.getElem_cons_succ]
              refine' wpAnyH_take (i := 5) (v := _) rfl (by kernel_rfl) (by kernel_rfl) (by kernel_rfl) (fun _ _ _ h => h) (Or.inl ⟨by rfl, ?hy6⟩) hHeld ?hr6
              case hy6 => (intro w hSw; (try dsimp only at hSw); go_simp; (try with_reducible rfl))
              simp only [Act.put, List.setIfInBounds_toArray, List.set_cons_zero, List.set_cons_succ, List.getElem_toArray, List.getElem_cons_zero, List.getElem_cons_succ]
              refine' wpAnyH_take (i := 6) (v := _) rfl (by kernel_rfl) (by kernel_rfl) (by kernel_rfl) (fun _ _ _ h => h) (Or.inl ⟨by rfl, ?hy7⟩) hHeld ?hr7
              case hy7 => (intro w hSw; (try dsimp only at hSw); go_simp; (try with_reducible rfl))
              simp only [Act.put, List.setIfInBounds_toArray, List.set_cons_zero, List.set_cons_succ, List.getElem_toArray, List.getElem_cons_zero, List.getElem_cons_succ]
              refine' wpAnyH_take (i := 7) (v := _) rfl (by kernel_rfl) (by kernel_rfl) (by kernel_rfl) (fun _ _ _ h => h) (Or.inl ⟨by rfl, ?hy8⟩) hHeld ?hr8
              case hy8 => (intro w hSw; (try dsimp only at hSw); go_simp; (try with_reducible rfl))
              simp only [Act.put, List.setIfInBounds_toArray, List.set_cons_zero, List.set_cons_succ, List.getElem_toArray, List.getElem_cons_zero, List.getElem_cons_succ]
              refine' wpAnyH_take (i := 8) (v := _) rfl (by kernel_rfl) (by kernel_rfl) (by kernel_rfl) (fun _ _ _ h => h) (Or.inl ⟨by rfl, ?hy9⟩) hHeld ?hr9
              case hy9 => (intro w hSw; (try dsimp only at hSw); go_simp; (try with_reducible rfl))
              simp only [Act.put, List.setIfInBounds_toArray, List.set_cons_zero, List.set_cons_succ, List.getElem_toArray, List.getElem_cons_zero, List.getElem_cons_succ]
              refine' wpAnyH_take (i := 9) (v := _) rfl (by kernel_rfl) (by kernel_rfl) (by kernel_rfl) (fun _ _ _ h => h) (Or.inl ⟨by rfl, ?hy10⟩) hHeld ?hr10
              case hy10 => (intro w hSw; (try dsimp only at hSw); go_simp; (try with_reducible rfl))
              simp only [Act.put, List.setIfInBounds_toArray, List.set_cons_zero, List.set_cons_succ, List.getElem_toArray, List.getElem_cons_zero, List.getElem_cons_succ]
              refine' wpAnyH_take (i := 10) (v := _) rfl (by kernel_rfl) (by kernel_rfl) (by kernel_rfl) (fun _ _ _ h => h) (Or.inl ⟨by rfl, ?hy11⟩) hHeld ?hr11
              case hy11 => (intro w hSw; (try dsimp only at hSw); go_simp; (try with_reducible rfl))
              simp only [Act.put, List.setIfInBounds_toArray, List.set_cons_zero, List.set_cons_succ, List.getElem_toArray, List.getElem_cons_zero, List.getElem_cons_succ]
              refine' wpAnyH_take (i := 11) (v := _) rfl (by kernel_rfl) (by kernel_rfl) (by kernel_rfl) (fun _ _ _ h => h) (Or.inl ⟨by rfl, ?hy12⟩) hHeld ?hr12
              case hy12 => (intro w hSw; (try dsimp only at hSw); go_simp; (try with_reducible rfl))
              simp only [Act.put, List.setIfInBounds_toArray, List.set_cons_zero, List.set_cons_succ, List.getElem_toArray, List.getElem_cons_zero, List.getElem_cons_succ]
              refine' wpAnyH_take (i := 12) (v := _) rfl (by kernel_rfl) (by kernel_rfl) (by kernel_rfl) (fun _ _ _ h => h) (Or.inl ⟨by rfl, ?hy13⟩) hHeld ?hr13
              case hy13 => (intro w hSw; (try dsimp only at hSw); go_simp; (try with_reducible rfl))
              simp only [Act.put, List.setIfInBounds_toArray, List.set_cons_zero, List.set_cons_succ, List.getElem_toArray, List.getElem_cons_zero, List.getElem_cons_succ]
              refine' wpAnyH_take (i := 13) (v := _) rfl (by kernel_rfl) (by kernel_rfl) (by kernel_rfl) (fun _ _ _ h => h) (Or.inl ⟨by rfl, ?hy14⟩) hHeld ?hr14
              case hy14 => (intro w hSw; (try dsimp only at hSw); go_simp; (try with_reducible rfl))
              simp only [Act.put, List.setIfInBounds_toArray, List.set_cons_zero, List.set_cons_succ, List.getElem_toArray, List.getElem_cons_zero, List.getElem_cons_succ]
              refine' wpAnyH_take (i := 14) (v := _) rfl (by kernel_rfl) (by kernel_rfl) (by kernel_rfl) (fun _ _ _ h => h) (Or.inl ⟨by rfl, ?hy15⟩) hHeld ?hr15
              case hy15 => (intro w hSw; (try dsimp only at hSw); go_simp; (try with_reducible rfl))
              simp only [Act.put, List.setIfInBounds_toArray, List.set_cons_zero, List.set_cons_succ, List.getElem_toArray, List.getElem_cons_zero, List.getElem_cons_succ]
              refine wpAnyH_ready (rs := [15]) (by kernel_rfl) (by simp) (AllReadyH.cons rfl (fun K hK => ?_) AllReadyH.nil)
              go_simp
              refine (rowOk_gk (w.heap.size + 1) w.heap.size b (off + j) w _ (rowX rows j) _ _ _ (hx j hlt) (by omega) (by omega) (by assumption)).mono ?_; rintro e wk ⟨rfl, hk⟩
              go_wp2_with fail
              refine hK.out _ _ (by assumption) (fun hHeld => ?_)
              clear hK K
              (try simp only [Act.put, List.setIfInBounds_toArray, List.set_cons_zero, List.set_cons_succ])
              refine' wpAnyH_take (i := 16) (v := _) rfl (by kernel_rfl) (by kernel_rfl) (by kernel_rfl) (fun _ _ _ h => h) (Or.inl ⟨by rfl, ?hy16⟩) hHeld ?hr16
              case hy16 => (intro w hSw; (try dsimp only at hSw); go_simp; (try with_reducible rfl))
              simp only [Act.put, List.setIfInBounds_toArray, List.set_cons_zero, List.set_cons_succ, List.getElem_toArray, List.getElem_cons_zero, List.getElem_cons_succ]
              refine' wpAnyH_take (i := 17) (v := _) rfl (by kernel_rfl) (by kernel_rfl) (by kernel_rfl) (fun _ _ _ h => h) (Or.inl ⟨by rfl, ?hy17⟩) hHeld ?hr17
              case hy17 => (intro w hSw; (try dsimp only at hSw); go_simp; (try with_reducible rfl))
              simp only [Act.put, List.setIfInBounds_toArray, List.set_cons_zero, List.set_cons_succ, List.getElem_toArray, List.getElem_cons_zero, List.getElem_cons_succ]
              refine wpAnyH_done (by kernel_rfl) ?_ _
              refine NoPanic.normal ?_
              have kb2 := hHeld.2.2.2.2.2
              clear hHeld
              go_wp2
              go_ret
              first | exact ⟨ret_bool hno.symm, kb2⟩ | exact ⟨rfl, kb2⟩
            · have hyes : fitB cols (rowX rows j) = true := by unfold fitB; rw [hro, decide_eq_true e2]; rfl
              have hall' : Hid (∀ k, k < j + 1 → fitB cols (rowX rows k) = true) := fun k hk => by rcases Nat.lt_succ_iff_lt_or_eq.1 hk with h | rfl; exact hall.out k h; exact hyes
              clear hall hyes
              go_wp2
              refine wp_region_noPanic ?_
              refine wp_region_held_drew (S := (fun W => W.cell? ⟨w.heap.size, 0, none⟩ = some (.int .i64 cols) ∧ W.cell? ⟨w.heap.size, 1, none⟩ = some (.slice (some ⟨b, off, none⟩) rows.length c) ∧ W.cell? ⟨b, off + j, none⟩ = some (.slice aj (rowX rows j).length cj) ∧ KG (w.heap.size + 1) w (.slice aj (rowX rows j).length cj) (rowX rows j) W)) (by kernel_rfl) ⟨c0, c1, c2, kg.drew⟩ (fun hHeld => ?_)
              refine' wpAnyH_take (i := 0) (v := _) rfl (by kernel_rfl) (by kernel_rfl) (by kernel_rfl) (fun _ _ _ h => h) (Or.inl ⟨by rfl, ?hy18⟩) hHeld ?hr18
              case hy18 => (intro w hSw; (try dsimp only at hSw); go_simp; (try with_reducible rfl))
              simp only [Act.put, List.setIfInBounds_toArray, List.set_cons_zero, List.set_cons_succ, List.getElem_toArray, List.getElem_cons_zero]
              refine' wpAnyH_take (i := 1) (v := _) rfl (by kernel_rfl) (by kernel_rfl) (by kernel_rfl) (fun _ _ _ h => h) (Or.inl ⟨by rfl, ?hy19⟩) hHeld ?hr19
              case hy19 => (intro w hSw; (try dsimp only at hSw); go_simp; (try with_reducible rfl))
              simp only [Act.put, List.setIfInBounds_toArray, List.set_cons_zero, List.set_cons_succ, List.getElem_toArray, List.getElem_cons_zero, List.getElem_cons_succ]
              refine' wpAnyH_take (i := 2) (v := _) rfl (by kernel_rfl) (by kernel_rfl) (by kernel_rfl) (fun _ _ _ h => h) (Or.inl ⟨by rfl, ?hy20⟩) hHeld ?hr20
              case hy20 => (intro w hSw; (try dsimp only at hSw); go_simp; (try with_reducible rfl))
              simp only [Act.put, List.setIfInBounds_toArray, List.set_cons_zero, List.set_cons_succ, List.getElem_toArray, List.getElem_cons_zero, List.getElem_cons_succ]
              refine' wpAnyH_take (i := 3) (v := _) rfl (by kernel_rfl) (by kernel_rfl) (by kernel_rfl) (fun _ _ _ h => h) (Or.inl ⟨by rfl, ?hy21⟩) hHeld ?hr21
              case hy21 => (intro w hSw; (try dsimp only at hSw); go_simp; (try with_reducible rfl))
              simp only [Act.put, List.setIfInBounds_toArray, List.set_cons_zero, List.set_cons_succ, List.getElem_toArray, List.getElem_cons_zero, List.getElem_cons_succ]
              refine' wpAnyH_take (i := 4) (v := _) rfl (by kernel_rfl) (by kernel_rfl) (by kernel_rfl) (fun _ _ _ h => h) (Or.inl ⟨by rfl, ?hy22⟩) hHeld ?hr22
              case hy22 => (intro w hSw; (try dsimp only at hSw); go_simp; (try with_reducible rfl))
              simp only [Act.put, List.setIfInBounds_toArray, List.set_cons_zero, List.set_cons_succ, List.getElem_toArray, List.getElem_cons_zero, List.getElem_cons_succ]
              refine' wpAnyH_take (i := 5) (v := _) rfl (by kernel_rfl) (by kernel_rfl) (by kernel_rfl) (fun _ _ _ h => h) (Or.inl ⟨by rfl, ?hy23⟩) hHeld ?hr23
              case hy23 => (intro w hSw; (try dsimp only at hSw); go_simp; (try with_reducible rfl))
              simp only [Act.put, List.setIfInBounds_toArray, List.set_cons_zero, List.set_cons_succ, List.getElem_toArray, List.getElem_cons_zero, List.getElem_cons_succ]
              refine' wpAnyH_take (i := 6) (v := _) rfl (by kernel_rfl) (by kernel_rfl) (by kernel_rfl) (fun _ _ _ h => h) (Or.inl ⟨by rfl, ?hy24⟩) hHeld ?hr24
              case hy24 => (intro w hSw; (try dsimp only at hSw); go_simp; (try with_reducible rfl))
              simp only [Act.put, List.setIfInBounds_toArray, List.set_cons_zero, List.set_cons_succ, List.getElem_toArray, List.getElem_cons_zero, List.getElem_cons_succ]
              refine' wpAnyH_take (i := 7) (v := _) rfl (by kernel_rfl) (by kernel_rfl) (by kernel_rfl) (fun _ _ _ h => h) (Or.inl ⟨by rfl, ?hy25⟩) hHeld ?hr25
              case hy25 => (intro w hSw; (try dsimp only at hSw); go_simp; (try with_reducible rfl))
              simp only [Act.put, List.setIfInBounds_toArray, List.set_cons_zero, List.set_cons_succ, List.getElem_toArray, List.getElem_cons_zero, List.getElem_cons_succ]
              refine' wpAnyH_take (i := 8) (v := _) rfl (by kernel_rfl) (by kernel_rfl) (by kernel_rfl) (fun _ _ _ h => h) (Or.inl ⟨by rfl, ?hy26⟩) hHeld ?hr26
              case hy26 => (intro w hSw; (try dsimp only at hSw); go_simp; (try with_reducible rfl))
              simp only [Act.put, List.setIfInBounds_toArray, List.set_cons_zero, List.set_cons_succ, List.getElem_toArray, List.getElem_cons_zero, List.getElem_cons_succ]
              refine' wpAnyH_take (i := 9) (v := _) rfl (by kernel_rfl) (by kernel_rfl) (by kernel_rfl) (fun _ _ _ h => h) (Or.inl ⟨by rfl, ?hy27⟩) hHeld ?hr27
              case hy27 => (intro w hSw; (try dsimp only at hSw); go_simp; (try with_reducible rfl))
              simp only [Act.put, List.setIfInBounds_toArray, List.set_cons_zero, List.set_cons_succ, List.getElem_toArray, List.getElem_cons_zero, List.getElem_cons_succ]
              refine' wpAnyH_take (i := 10) (v := _) rfl (by kernel_rfl) (by kernel_rfl) (by kernel_rfl) (fun _ _ _ h => h) (Or.inl ⟨by rfl, ?hy28⟩) hHeld ?hr28
              case hy28 => (intro w hSw; (try dsimp only at hSw); go_simp; (try with_reducible rfl))
              simp only [Act.put, List.setIfInBounds_toArray, List.set_cons_zero, List.set_cons_succ, List.getElem_toArray, List.getElem_cons_zero, List.getElem_cons_succ]
              refine' wpAnyH_take (i := 11) (v := _) rfl (by kernel_rfl) (by kernel_rfl) (by kernel_rfl) (fun _ _ _ h => h) (Or.inl ⟨by rfl, ?hy29⟩) hHeld ?hr29
              case hy29 => (intro w hSw; (try dsimp only at hSw); go_simp; (try with_reducible rfl))
              simp only [Act.put, List.setIfInBounds_toArray, List.set_cons_zero, List.set_cons_succ, List.getElem_toArray, List.getElem_cons_zero, List.getElem_cons_succ]
              refine' wpAnyH_take (i := 12) (v := _) rfl (by kernel_rfl) (by kernel_rfl) (by kernel_rfl) (fun _ _ _ h => h) (Or.inl ⟨by rfl, ?hy30⟩) hHeld ?hr30
              case hy30 => (intro w hSw; (try dsimp only at hSw); go_simp; (try with_reducible rfl))
              simp only [Act.put, List.setIfInBounds_toArray, List.set_cons_zero, List.set_cons_succ, List.getElem_toArray, List.getElem_cons_zero, List.getElem_cons_succ]
              refine' wpAnyH_take (i := 13) (v := _) rfl (by kernel_rfl) (by kernel_rfl) (by kernel_rfl) (fun _ _ _ h => h) (Or.inl ⟨by rfl, ?hy31⟩) hHeld ?hr31
              case hy31 => (intro w hSw; (try dsimp only at hSw); go_simp; (try with_reducible rfl))
              simp only [Act.put, List.setIfInBounds_toArray, List.set_cons_zero, List.set_cons_succ, List.getElem_toArray, List.getElem_cons_zero, List.getElem_cons_succ]
              refine' wpAnyH_take (i := 14) (v := _) rfl (by kernel_rfl) (by kernel_rfl) (by kernel_rfl) (fun _ _ _ h => h) (Or.inl ⟨by rfl, ?hy32⟩) hHeld ?hr32
              case hy32 => (intro w hSw; (try dsimp only at hSw); go_simp; (try with_reducible rfl))
              simp only [Act.put, List.setIfInBounds_toArray, List.set_cons_zero, List.set_cons_succ, List.getElem_toArray, List.getElem_cons_zero, List.getElem_cons_succ]
              refine wpAnyH_ready (rs := [15]) (by kernel_rfl) (by simp) (AllReadyH.cons rfl (fun K hK => ?_) AllReadyH.nil)
              go_simp
              refine (rowOk_gk (w.heap.size + 1) w.heap.size b (off + j) w _ (rowX rows j) _ _ _ (hx j hlt) (by omega) (by omega) (by assumption)).mono ?_; rintro e wk ⟨rfl, hk⟩
              go_wp2_with fail
              refine hK.out _ _ (by assumption) (fun hHeld => ?_)
              clear hK K
              (try simp only [Act.put, List.setIfInBounds_toArray, List.set_cons_zero, List.set_cons_succ])
              refine' wpAnyH_take (i := 16) (v := _) rfl (by kernel_rfl) (by kernel_rfl) (by kernel_rfl) (fun _ _ _ h => h) (Or.inl ⟨by rfl, ?hy33⟩) hHeld ?hr33
              case hy33 => (intro w hSw; (try dsimp only at hSw); go_simp; (try with_reducible rfl))
              simp only [Act.put, List.setIfInBounds_toArray, List.set_cons_zero, List.set_cons_succ, List.getElem_toArray, List.getElem_cons_zero, List.getElem_cons_succ]
              refine' wpAnyH_take (i := 17) (v := _) rfl (by kernel_rfl) (by kernel_rfl) (by kernel_rfl) (fun _ _ _ h => h) (Or.inl ⟨by rfl, ?hy34⟩) hHeld ?hr34
              case hy34 => (intro w hSw; (try dsimp only at hSw); go_simp; (try with_reducible rfl))
              simp only [Act.put, List.setIfInBounds_toArray, List.set_cons_zero, List.set_cons_succ, List.getElem_toArray, List.getElem_cons_zero, List.getElem_cons_succ]
              refine wpAnyH_done (by kernel_rfl) ?_ _
              refine NoPanic.normal ?_
              have kb2 := hHeld.2.2.2.2.2
              have hG2 : GrN _ w.heap.size cols (.slice (some ⟨b, off, none⟩) rows.length c) := ⟨Nat.lt_of_lt_of_le (Nat.lt_succ_self _) hHeld.2.2.2.2.1, hHeld.1, hHeld.2.1⟩
              clear hHeld
              go_wp2
              go_roundw
              case rel => exact ⟨j + 1, by go_num, by omega, hall', hG2, kb2⟩
              case measure => simp [intOf]; omega
          · have b1 : (((rowX rows j).length : Int) != cols) = true := by simp [e2]
            have hno : gridOkB cols rows = false := gridOk_no hlt (by show fitB cols (rowX rows j) = false; unfold fitB; rw [decide_eq_false e2, Bool.false_and])
            clear hall
            go_wp2
            refine wp_region_noPanic ?_
            refine wp_region_held_drew (S := (fun W => W.cell? ⟨w.heap.size, 0, none⟩ = some (.int .i64 cols) ∧ W.cell? ⟨w.heap.size, 1, none⟩ = some (.slice (some ⟨b, off, none⟩) rows.length c) ∧ W.cell? ⟨b, off + j, none⟩ = some (.slice aj (rowX rows j).length cj) ∧ KG (w.heap.size + 1) w (.slice aj (rowX rows j).length cj) (rowX rows j) W)) (by kernel_rfl) ⟨c0, c1, c2, kg.drew⟩ (fun hHeld => ?_)
            refine' wpAnyH_take (i := 0) (v := _) rfl (by kernel_rfl) (by kernel_rfl) (by kernel_rfl) (fun _ _ _ h => h) (Or.inl ⟨by rfl, ?hy35⟩) hHeld ?hr35
            case hy35 => (intro w hSw; (try dsimp only at hSw); go_simp; (try with_reducible rfl))
            simp only [Act.put, List.setIfInBounds_toArray, List.set_cons_zero, List.set_cons_succ, List.getElem_toArray, List.getElem_cons_zero]
            refine' wpAnyH_take (i := 1) (v := _) rfl (by kernel_rfl) (by kernel_rfl) (by kernel_rfl) (fun _ _ _ h => h) (Or.inl ⟨by rfl, ?hy36⟩) hHeld ?hr36
            case hy36 => (intro w hSw; (try dsimp only at hSw); go_simp; (try with_reducible rfl))
            simp only [Act.put, List.setIfInBounds_toArray, List.set_cons_zero, List.set_cons_succ, List.getElem_toArray, List.getElem_cons_zero, List.getElem_cons_succ]
            refine' wpAnyH_take (i := 2) (v := _) rfl (by kernel_rfl) (by kernel_rfl) (by kernel_rfl) (fun _ _ _ h => h) (Or.inl ⟨by rfl, ?hy37⟩) hHeld ?hr37
            case hy37 => (intro w hSw; (try dsimp only at hSw); go_simp; (try with_reducible rfl))
            simp only [Act.put, List.setIfInBounds_toArray, List.set_cons_zero, List.set_cons_succ, List.getElem_toArray, List.getElem_cons_zero, List.getElem_cons_succ]
            refine' wpAnyH_take (i := 3) (v := _) rfl (by kernel_rfl) (by kernel_rfl) (by kernel_rfl) (fun _ _ _ h => h) (Or.inl ⟨by rfl, ?hy38⟩) hHeld ?hr38
            case hy38 => (intro w hSw; (try dsimp only at hSw); go_simp; (try with_reducible rfl))
            simp only [Act.put, List.setIfInBounds_toArray, List.set_cons_zero, List.set_cons_succ, List.getElem_toArray, List.getElem_cons_zero, List.getElem_cons_succ]
            refine' wpAnyH_take (i := 4) (v := _) rfl (by kernel_rfl) (by kernel_rfl) (by kernel_rfl) (fun _ _ _ h => h) (Or.inl ⟨by rfl, ?hy39⟩) hHeld ?hr39
            case hy39 => (intro w hSw; (try dsimp only at hSw); go_simp; (try with_reducible rfl))
            simp only [Act.put, List.setIfInBounds_toArray, List.set_cons_zero, List.set_cons_succ, List.getElem_toArray, List.getElem_cons_zero, List.getElem_cons_succ]
            refine' wpAnyH_take (i := 5) (v := _) rfl (by kernel_rfl) (by kernel_rfl) (by kernel_rfl) (fun _ _ _ h => h) (Or.inl ⟨by rfl, ?hy40⟩) hHeld ?hr40
            case hy40 => (intro w hSw; (try dsimp only at hSw); go_simp; (try with_reducible rfl))
            simp only [Act.put, List.setIfInBounds_toArray, List.set_cons_zero, List.set_cons_succ, List.getElem_toArray, List.getElem_cons_zero, List.getElem_cons_succ]
            refine' wpAnyH_take (i := 6) (v := _) rfl (by kernel_rfl) (by kernel_rfl) (by kernel_rfl) (fun _ _ _ h => h) (Or.inl ⟨by rfl, ?hy41⟩) hHeld ?hr41
            case hy41 => (intro w hSw; (try dsimp only at hSw); go_simp; (try with_reducible rfl))
            simp only [Act.put, List.setIfInBounds_toArray, List.set_cons_zero, List.set_cons_succ, List.getElem_toArray, List.getElem_cons_zero, List.getElem_cons_succ]
            refine' wpAnyH_take (i := 7) (v := _) rfl (by kernel_rfl) (by kernel_rfl) (by kernel_rfl) (fun _ _ _ h => h) (Or.inl ⟨by rfl, ?hy42⟩) hHeld ?hr42
            case hy42 => (intro w hSw; (try dsimp only at hSw); go_simp; (try with_reducible rfl))
            simp only [Act.put, List.setIfInBounds_toArray, List.set_cons_zero, List.set_cons_succ, List.getElem_toArray, List.getElem_cons_zero, List.getElem_cons_succ]
            refine' wpAnyH_take (i := 8) (v := _) rfl (by kernel_rfl) (by kernel_rfl) (by kernel_rfl) (fun _ _ _ h => h) (Or.inl ⟨by rfl, ?hy43⟩) hHeld ?hr43
            case hy43 => (intro w hSw; (try dsimp only at hSw); go_simp; (try with_reducible rfl))
            simp only [Act.put, List.setIfInBounds_toArray, List.set_cons_zero, List.set_cons_succ, List.getElem_toArray, List.getElem_cons_zero, List.getElem_cons_succ]
            refine' wpAnyH_take (i := 9) (v := _) rfl (by kernel_rfl) (by kernel_rfl) (by kernel_rfl) (fun _ _ _ h => h) (Or.inl ⟨by rfl, ?hy44⟩) hHeld ?hr44
            case hy44 => (intro w hSw; (try dsimp only at hSw); go_simp; (try with_reducible rfl))
            simp only [Act.put, List.setIfInBounds_toArray, List.set_cons_zero, List.set_cons_succ, List.getElem_toArray, List.getElem_cons_zero, List.getElem_cons_succ]
            refine wpAnyH_take (i := 10) (v := undef) rfl (by kernel_rfl) (by kernel_rfl) (by kernel_rfl) (fun _ _ _ h => h) (Or.inr ⟨by rfl, rfl⟩) hHeld ?_
            simp only [Act.put, List.setIfInBounds_toArray, List.set_cons_zero, List.set_cons_succ, List.getElem_toArray, List.getElem_cons_zero, List.getElem_cons_succ]
            refine wpAnyH_take (i := 11) (v := undef) rfl (by kernel_rfl) (by kernel_rfl) (by kernel_rfl) (fun _ _ _ h => h) (Or.inr ⟨by rfl, rfl⟩) hHeld ?_
            simp only [Act.put, List.setIfInBounds_toArray, List.set_cons_zero, List.set_cons_succ, List.getElem_toArray, List.getElem_cons_zero, List.getElem_cons_succ]
            refine wpAnyH_take (i := 12) (v := undef) rfl (by kernel_rfl) (by kernel_rfl) (by kernel_rfl) (fun _ _ _ h => h) (Or.inr ⟨by rfl, rfl⟩) hHeld ?_
            simp only [Act.put, List.setIfInBounds_toArray, List.set_cons_zero, List.set_cons_succ, List.getElem_toArray, List.getElem_cons_zero, List.getElem_cons_succ]
            refine wpAnyH_take (i := 13) (v := undef) rfl (by kernel_rfl) (by kernel_rfl) (by kernel_rfl) (fun _ _ _ h => h) (Or.inr ⟨by rfl, rfl⟩) hHeld ?_
            simp only [Act.put, List.setIfInBounds_toArray, List.set_cons_zero, List.set_cons_succ, List.getElem_toArray, List.getElem_cons_zero, List.getElem_cons_succ]
            refine wpAnyH_take (i := 14) (v := undef) rfl (by kernel_rfl) (by kernel_rfl) (by kernel_rfl) (fun _ _ _ h => h) (Or.inr ⟨by rfl, rfl⟩) hHeld ?_
            simp only [Act.put, List.setIfInBounds_toArray, List.set_cons_zero, List.set_cons_succ, List.getElem_toArray, List.getElem_cons_zero, List.getElem_cons_succ]
            refine wpAnyH_take (i := 15) (v := undef) rfl (by kernel_rfl) (by kernel_rfl) (by kernel_rfl) (fun _ _ _ h => h) (Or.inr ⟨by rfl, rfl⟩) hHeld ?_
            simp only [Act.put, List.setIfInBounds_toArray, List.set_cons_zero, List.set_cons_succ, List.getElem_toArray, List.getElem_cons_zero, List.getElem_cons_succ]
            refine wpAnyH_take (i := 16) (v := undef) rfl (by kernel_rfl) (by kernel_rfl) (by kernel_rfl) (fun _ _ _ h => h) (Or.inr ⟨by rfl, rfl⟩) hHeld ?_
            simp only [Act.put, List.setIfInBounds_toArray, List.set_cons_zero, List.set_cons_succ, List.getElem_toArray, List.getElem_cons_zero, List.getElem_cons_succ]
            refine' wpAnyH_take (i := 17) (v := _) rfl (by kernel_rfl) (by kernel_rfl) (by kernel_rfl) (fun _ _ _ h => h) (Or.inl ⟨by rfl, ?hy45⟩) hHeld ?hr45
            case hy45 => (intro w hSw; (try dsimp only at hSw); go_simp; (try with_reducible rfl))
            simp only [Act.put, List.setIfInBounds_toArray, List.set_cons_zero, List.set_cons_succ, List.getElem_toArray, List.getElem_cons_zero, List.getElem_cons_succ]
            refine wpAnyH_done (by kernel_rfl) ?_ _
            refine NoPanic.normal ?_
            have kb2 := hHeld.2.2.2.2.2
            clear hHeld
            go_wp2
            go_ret
            first | exact ⟨ret_bool hno.symm, kb2⟩ | exact ⟨rfl, kb2⟩
        · have hjn : j = rows.length := by omega
          have hji : ¬ (j : Int) < (rows.length : Int) := by omega
          subst hjn
          have hyes : gridOkB cols rows = true := (gridOk_iff cols rows).2 ⟨h1, ⟨hn1, hn2⟩, hall.out⟩
          clear hall hv hin hs
          go_wp2
          go_ret
          first | exact ⟨ret_bool hyes.symm, kb⟩ | exact ⟨rfl, kb⟩
    · have hno := gridOk_len (cols := cols) hn
      clear hs hr
      by_cases h0 : rows.length < 1
      · have hi : (rows.length : Int) < 1 := by omega
        go_enter Tryd.func13, Tryd.ntmps13
        go_wp2_with (go_at_call 15; refine (hin _).mono ?_; rintro e w1 ⟨rfl, hw⟩; subst hw)
        go_ret
        first | exact ⟨ret_bool hno.symm, hbB⟩ | exact ⟨rfl, hbB⟩
      · have hi : ¬ (rows.length : Int) < 1 := by omega
        have hi2 : 30 < (rows.length : Int) := by omega
        go_enter Tryd.func13, Tryd.ntmps13
        go_wp2_with (go_at_call 15; refine (hin _).mono ?_; rintro e w1 ⟨rfl, hw⟩; subst hw)
        go_ret
        first | exact ⟨ret_bool hno.symm, hbB⟩ | exact ⟨rfl, hbB⟩
  · have e1 : decide ((1 : Int) ≤ cols ∧ cols ≤ 60) = false := decide_eq_false h1
    rw [e1] at hin
    have hno := gridOk_cols (rows := rows) h1
    clear e1 h1 hs hr
    go_enter Tryd.func13, Tryd.ntmps13
    go_wp2_with (go_at_call 15; refine (hin _).mono ?_; rintro e w1 ⟨rfl, hw⟩; subst hw)
    go_ret
    first | exact ⟨ret_bool hno.symm, hbB⟩ | exact ⟨rfl, hbB⟩
end Go.Proofs.YtpmaibkakkfaeaaDoor
namespace Go.Proofs.YtpmaibkakkfaeaaDoor
open Go.ChangeShapes Go.WideShapes Go.ChangeAt Go.RowKit
theorem l7Cell_any (gc r c : Int) (a : Option Addr) (n cp : Nat) (w : World) (h1 : 1 ≤ gc) (h2 : gc ≤ 60) (hn1 : 1 ≤ n) (hn : n ≤ 30) :
    Calls Tryd.prog 14 #[.agg #[.int .i64 gc, .slice a n cp], .int .i64 r, .int .i64 c] w fun e w' => e = .returned (.bool (cellB gc n r c)) ∧ Below w.heap.size w w' := by
  have hb0 := bal' w (Obj.cells #[.int .i64 gc, .slice a n cp] 38)
  have hi := fun x lo hi W => l1In_any x lo hi W
  obtain ⟨b1, e1⟩ : ∃ b, Hid (decide (0 ≤ r ∧ r ≤ (n : Int) - 1) = b) := ⟨_, rfl⟩
  obtain ⟨b2, e2⟩ : ∃ b, Hid (decide (0 ≤ c ∧ c ≤ gc - 1) = b) := ⟨_, rfl⟩
  have i1 := fun W => hi r 0 ((n : Int) - 1) W
  have i2 := fun W => hi c 0 (gc - 1) W
  rw [e1.out] at i1
  rw [e2.out] at i2
  have hv : Hid (cellB gc n r c = (b1 && b2)) := by show _ = _; unfold cellB; rw [e1.out, e2.out]
  rw [hv.out]
  have hn1i : (1 : Int) ≤ (n : Int) := by omega
  have hni : (n : Int) ≤ 30 := by omega
  clear hi e1 e2 hv hn1 hn
  cases b1
  · go_enter Tryd.func14, Tryd.ntmps14
    go_wp2_with fail
    refine (i1 _).mono ?_
    rintro e w1 ⟨rfl, hw⟩
    subst hw
    go_wp2
    go_ret
    exact ⟨rfl, hb0⟩
  · go_enter Tryd.func14, Tryd.ntmps14
    go_wp2_with fail
    refine (i1 _).mono ?_
    rintro e w1 ⟨rfl, hw⟩
    subst hw
    go_wp2_with fail
    refine (i2 _).mono ?_
    rintro e w2 ⟨rfl, hw⟩
    subst hw
    go_wp2
    go_ret
    exact ⟨rfl, hb0⟩
set_option maxHeartbeats 8000000 in
set_option maxRecDepth 20000 in
theorem specTermOk_any (t : Te) (v : Tv) (w : World) (h : SlT w t v) (hz : SzT 1048576 t) :
    Calls Tryd.prog 5 #[teV t v] w fun e w' => e = .returned (.bool (termOkB t)) ∧ Below w.heap.size w w' := by
  obtain ⟨vg, vo, vti, vpp, vpt⟩ := v
  obtain ⟨hg, ho, hti, hpp, hpt⟩ := h
  simp only at hg ho hti hpp hpt
  obtain ⟨z1, z2, z3, z4, z5, z6, z7⟩ := hz
  obtain ⟨rv, hrv⟩ : ∃ rv, Hid (rv = termOkB t) := ⟨_, rfl⟩
  rw [← hrv.out]
  have hb0 := bal' w (Obj.cells (teCs t ⟨vg, vo, vti, vpp, vpt⟩) 43)
  have hB := TeB.new w 43 t ⟨vg, vo, vti, vpp, vpt⟩
  have cG := fun W hW => specGridOk_any t.gc vg t.g W hW z1 z2
  have cO := fun W hW => specGridOk_any t.oc vo t.o W hW z3 z4
  have cS := fun W => specStyleOk_any t.st W
  have cSs := fun W => specStyleOk_any t.ss W
  have cT := fun W hW => specRunes6_any vti t.ti 40 W hW (by omega) (by decide)
  have cP := fun W h1 h2 => specParserOk_any t.pa vpp vpt W h1 h2 (by omega) (by omega)
  have cF := fun W => specFeederOk_any t.fe W
  obtain ⟨bG, eG⟩ : ∃ b, Hid (gridOkB t.gc t.g = b) := ⟨_, rfl⟩
  obtain ⟨bO, eO⟩ : ∃ b, Hid (gridOkB t.oc t.o = b) := ⟨_, rfl⟩
  obtain ⟨bS, eS⟩ : ∃ b, Hid (t.st.ok = b) := ⟨_, rfl⟩
  obtain ⟨bSs, eSs⟩ : ∃ b, Hid (t.ss.ok = b) := ⟨_, rfl⟩
  obtain ⟨bT, eT⟩ : ∃ b, Hid ((decide (t.ti.length ≤ 40) && runesB t.ti) = b) := ⟨_, rfl⟩
  obtain ⟨bP, eP⟩ : ∃ b, Hid (okV t.pa = b) := ⟨_, rfl⟩
  obtain ⟨bF, eF⟩ : ∃ b, Hid (feedOk t.fe = b) := ⟨_, rfl⟩
  rw [eG.out] at cG
  rw [eO.out] at cO
  rw [eS.out] at cS
  rw [eSs.out] at cSs
  rw [eT.out] at cT
  rw [eP.out] at cP
  rw [eF.out] at cF
  obtain ⟨ga, gp, hq1⟩ := slG_shp hg
  obtain ⟨oa, op, hq2⟩ := slG_shp ho
  obtain ⟨tia, tip, hq3⟩ := hti.shp
  obtain ⟨ppa, ppp, hq4⟩ := hpp.shp
  obtain ⟨pta, ptp, hq5⟩ := hpt.shp
  subst hq1; subst hq2; subst hq3; subst hq4; subst hq5
  unfold teV gridV stV paV at *
  obtain ⟨w1, hw1⟩ : ∃ w1, w1 = w.alloc (Obj.cells (teCs t ⟨.slice ga t.g.length gp, .slice oa t.o.length op, .slice tia t.ti.length tip, .slice ppa t.pa.params.length ppp, .slice pta t.pa.text.length ptp⟩) 43) := ⟨_, rfl⟩
  rw [← hw1] at hB hb0
  replace hw1 := (show Hid _ from hw1)
  clear z1 z2 z3 z4 z5 z6 z7
  go_enter Tryd.func5, Tryd.ntmps5
  refine wp_seq_k (fun K hK => ?_)
  have hH := (show Hid _ from hK)
  clear hK
  go_wp2
  refine hH.out _ _ ?_
  rw [← hw1.out]
  clear hH hw1
  obtain ⟨c0, c1, c2, c3, c4, c5, c6, c7, c8, c9, c10, c11, c12, c13, c14, c15, c16, c17, c18, c19, c20, c21, c22, c23, c24, c25, c26, c27, c28, c29⟩ := hB.cells
  go_wp2_with fail
  refine (cG _ (hg.below hb0)).mono ?_
  rintro e w1 ⟨rfl, hb⟩
  have hb1 := hb0.trans (hb.mono hb0.size)
  replace hB := hB.below hb
  clear c0 c1 c2 c3 c4 c5 c6 c7 c8 c9 c10 c11 c12 c13 c14 c15 c16 c17 c18 c19 c20 c21 c22 c23 c24 c25 c26 c27 c28 c29
  clear hb hb0
  obtain ⟨c0, c1, c2, c3, c4, c5, c6, c7, c8, c9, c10, c11, c12, c13, c14, c15, c16, c17, c18, c19, c20, c21, c22, c23, c24, c25, c26, c27, c28, c29⟩ := hB.cells
  cases bG
  case false =>
    have hv : Hid (rv = false) := by show _ = _; rw [hrv.out]; unfold termOkB; simp [eG.out]
    go_wp2
    go_ret
    exact ⟨by rw [hv.out]; rfl, hb1⟩
  go_wp2_with fail
  refine (cO _ (ho.below hb1)).mono ?_
  rintro e w2 ⟨rfl, hb⟩
  have hb2 := hb1.trans (hb.mono hb1.size)
  replace hB := hB.below hb
  clear c0 c1 c2 c3 c4 c5 c6 c7 c8 c9 c10 c11 c12 c13 c14 c15 c16 c17 c18 c19 c20 c21 c22 c23 c24 c25 c26 c27 c28 c29
  clear hb hb1
  obtain ⟨c0, c1, c2, c3, c4, c5, c6, c7, c8, c9, c10, c11, c12, c13, c14, c15, c16, c17, c18, c19, c20, c21, c22, c23, c24, c25, c26, c27, c28, c29⟩ := hB.cells
  cases bO
  case false =>
    have hv : Hid (rv = false) := by show _ = _; rw [hrv.out]; unfold termOkB; simp [eG.out, eO.out]
    go_wp2
    go_ret
    exact ⟨by rw [hv.out]; rfl, hb2⟩
  obtain ⟨⟨hc1, hc2⟩, ⟨hn1, hn2⟩, _⟩ := (gridOk_iff t.gc t.g).1 eG.out
  have hn1i : (1 : Int) ≤ (t.g.length : Int) := by omega
  have hn2i : (t.g.length : Int) ≤ 30 := by omega
  by_cases q3 : t.gc = t.oc
  case neg =>
    have hv : Hid (rv = false) := by show _ = _; rw [hrv.out]; unfold termOkB; simp [q3]
    have q3b : (t.gc != t.oc) = true := by simp [q3]
    go_wp2
    go_ret
    exact ⟨by rw [hv.out]; rfl, hb2⟩
  have q3b : (t.gc != t.oc) = false := by simp [q3]
  have q3h := (show Hid _ from q3)
  clear q3
  by_cases q4 : t.g.length = t.o.length
  case neg =>
    have hv : Hid (rv = false) := by show _ = _; rw [hrv.out]; unfold termOkB; simp [q4]
    have q4b : ((t.g.length : Int) != (t.o.length : Int)) = true := by simp; omega
    clear q4
    go_wp2
    go_ret
    exact ⟨by rw [hv.out]; rfl, hb2⟩
  have q4b : ((t.g.length : Int) != (t.o.length : Int)) = false := by simp; omega
  have q4h := (show Hid _ from q4)
  clear q4
  have cC := fun W => l7Cell_any t.gc t.row t.col ga t.g.length gp W hc1 hc2 hn1 hn2
  have cD := fun W => l7Cell_any t.gc t.sr t.sc ga t.g.length gp W hc1 hc2 hn1 hn2
  have cI := fun W => l1In_any t.top 0 t.bot W
  obtain ⟨bC, eC⟩ : ∃ b, Hid (cellB t.gc t.g.length t.row t.col = b) := ⟨_, rfl⟩
  obtain ⟨bD, eD⟩ : ∃ b, Hid (cellB t.gc t.g.length t.sr t.sc = b) := ⟨_, rfl⟩
  obtain ⟨bI, eI⟩ : ∃ b, Hid (decide (0 ≤ t.top ∧ t.top ≤ t.bot) = b) := ⟨_, rfl⟩
  rw [eC.out] at cC
  rw [eD.out] at cD
  rw [eI.out] at cI
  go_wp2_with fail
  refine (cC _).mono ?_
  rintro e w3 ⟨rfl, hb⟩
  have hb3 := hb2.trans (hb.mono hb2.size)
  replace hB := hB.below hb
  clear c0 c1 c2 c3 c4 c5 c6 c7 c8 c9 c10 c11 c12 c13 c14 c15 c16 c17 c18 c19 c20 c21 c22 c23 c24 c25 c26 c27 c28 c29
  clear hb hb2
  obtain ⟨c0, c1, c2, c3, c4, c5, c6, c7, c8, c9, c10, c11, c12, c13, c14, c15, c16, c17, c18, c19, c20, c21, c22, c23, c24, c25, c26, c27, c28, c29⟩ := hB.cells
  cases bC
  case false =>
    have hv : Hid (rv = false) := by show _ = _; rw [hrv.out]; unfold termOkB; simp [eC.out]
    go_wp2
    go_ret
    exact ⟨by rw [hv.out]; rfl, hb3⟩
  go_wp2_with fail
  refine (cD _).mono ?_
  rintro e w4 ⟨rfl, hb⟩
  have hb4 := hb3.trans (hb.mono hb3.size)
  replace hB := hB.below hb
  clear c0 c1 c2 c3 c4 c5 c6 c7 c8 c9 c10 c11 c12 c13 c14 c15 c16 c17 c18 c19 c20 c21 c22 c23 c24 c25 c26 c27 c28 c29
  clear hb hb3
  obtain ⟨c0, c1, c2, c3, c4, c5, c6, c7, c8, c9, c10, c11, c12, c13, c14, c15, c16, c17, c18, c19, c20, c21, c22, c23, c24, c25, c26, c27, c28, c29⟩ := hB.cells
  cases bD
  case false =>
    have hv : Hid (rv = false) := by show _ = _; rw [hrv.out]; unfold termOkB; simp [eD.out]
    go_wp2
    go_ret
    exact ⟨by rw [hv.out]; rfl, hb4⟩
  go_wp2_with fail
  refine (cI _).mono ?_
  rintro e w5 ⟨rfl, hw⟩
  subst hw
  cases bI
  case false =>
    have hv : Hid (rv = false) := by
      have := of_decide_eq_false eI.out
      show _ = _; rw [hrv.out]; unfold termOkB
      rw [decide_eq_false (p := 0 ≤ t.top ∧ _) (by omega)]; simp
    go_wp2
    go_ret
    exact ⟨by rw [hv.out]; rfl, hb4⟩
  have q5 := of_decide_eq_true eI.out
  by_cases q6 : (t.g.length : Int) - 1 < t.bot
  case pos =>
    have hv : Hid (rv = false) := by
      show _ = _; rw [hrv.out]; unfold termOkB
      rw [decide_eq_false (p := 0 ≤ t.top ∧ _) (by omega)]; simp
    go_wp2
    go_ret
    exact ⟨by rw [hv.out]; rfl, hb4⟩
  by_cases q7 : t.top = t.bot
  case pos =>
    have q7b : (t.top == t.bot) = true := by simp [q7]
    by_cases q8 : 0 < (t.g.length : Int) - 1
    case pos =>
      have hv : Hid (rv = false) := by
        show _ = _; rw [hrv.out]; unfold termOkB
        rw [decide_eq_false (p := 0 ≤ t.top ∧ _) (by omega)]; simp
      clear q7
      go_wp2
      go_ret
      exact ⟨by rw [hv.out]; rfl, hb4⟩
    have q9 : Hid (0 ≤ t.top ∧ t.top ≤ t.bot ∧ t.bot ≤ (t.g.length : Int) - 1 ∧ ¬ (t.top = t.bot ∧ 0 < (t.g.length : Int) - 1)) := by show _ ∧ _; omega
    clear q7
    by_cases q10 : t.full = true ∧ t.col ≠ t.gc - 1
    case pos =>
      obtain ⟨qa, qb⟩ := q10
      have hv : Hid (rv = false) := by
        show _ = _; rw [hrv.out]; unfold termOkB
        rw [decide_eq_false (p := t.full = true → _) (fun h => qb (h qa))]; simp
      have qbb : (t.col != t.gc - 1) = true := by simp [qb]
      rw [qa] at c13
      clear qb qa
      go_wp2
      go_ret
      exact ⟨by rw [hv.out]; rfl, hb4⟩
    have q11 : Hid (t.full = true → t.col = t.gc - 1) := fun h => by
      by_cases hq : t.col = t.gc - 1
      · exact hq
      · exact absurd ⟨h, hq⟩ q10
    clear q10
    obtain ⟨fu, hfu⟩ : ∃ fu, Hid (t.full = fu) := ⟨_, rfl⟩
    rw [hfu.out] at c13
    cases fu
    case false =>
      go_wp2_with fail
      refine (cS _).mono ?_
      rintro e w6 ⟨rfl, hb⟩
      have hb6 := hb4.trans (hb.mono hb4.size)
      replace hB := hB.below hb
      clear c0 c1 c2 c3 c4 c5 c6 c7 c8 c9 c10 c11 c12 c13 c14 c15 c16 c17 c18 c19 c20 c21 c22 c23 c24 c25 c26 c27 c28 c29
      clear hb hb4
      obtain ⟨c0, c1, c2, c3, c4, c5, c6, c7, c8, c9, c10, c11, c12, c13, c14, c15, c16, c17, c18, c19, c20, c21, c22, c23, c24, c25, c26, c27, c28, c29⟩ := hB.cells
      cases bS
      case false =>
        have hv : Hid (rv = false) := by show _ = _; rw [hrv.out]; unfold termOkB; simp [eS.out]
        go_wp2
        go_ret
        exact ⟨by rw [hv.out]; rfl, hb6⟩
      go_wp2_with fail
      refine (cSs _).mono ?_
      rintro e w7 ⟨rfl, hb⟩
      have hb7 := hb6.trans (hb.mono hb6.size)
      replace hB := hB.below hb
      clear c0 c1 c2 c3 c4 c5 c6 c7 c8 c9 c10 c11 c12 c13 c14 c15 c16 c17 c18 c19 c20 c21 c22 c23 c24 c25 c26 c27 c28 c29
      clear hb hb6
      obtain ⟨c0, c1, c2, c3, c4, c5, c6, c7, c8, c9, c10, c11, c12, c13, c14, c15, c16, c17, c18, c19, c20, c21, c22, c23, c24, c25, c26, c27, c28, c29⟩ := hB.cells
      cases bSs
      case false =>
        have hv : Hid (rv = false) := by show _ = _; rw [hrv.out]; unfold termOkB; simp [eSs.out]
        go_wp2
        go_ret
        exact ⟨by rw [hv.out]; rfl, hb7⟩
      go_wp2_with fail
      refine (cT _ (hti.below hb7).l.sl).mono ?_
      rintro e w8 ⟨rfl, hw⟩
      subst hw
      cases bT
      case false =>
        have hv : Hid (rv = false) := by show _ = _; rw [hrv.out]; unfold termOkB; rw [eT.out]; simp
        go_wp2
        go_ret
        exact ⟨by rw [hv.out]; rfl, hb7⟩
      go_wp2_with fail
      refine (cP _ (hpp.below hb7).l.sl (hpt.below hb7).l.sl).mono ?_
      rintro e w9 ⟨rfl, hb⟩
      have hb9 := hb7.trans (hb.mono hb7.size)
      replace hB := hB.below hb
      clear c0 c1 c2 c3 c4 c5 c6 c7 c8 c9 c10 c11 c12 c13 c14 c15 c16 c17 c18 c19 c20 c21 c22 c23 c24 c25 c26 c27 c28 c29
      clear hb hb7
      obtain ⟨c0, c1, c2, c3, c4, c5, c6, c7, c8, c9, c10, c11, c12, c13, c14, c15, c16, c17, c18, c19, c20, c21, c22, c23, c24, c25, c26, c27, c28, c29⟩ := hB.cells
      cases bP
      case false =>
        have hv : Hid (rv = false) := by show _ = _; rw [hrv.out]; unfold termOkB; simp [eP.out]
        go_wp2
        go_ret
        exact ⟨by rw [hv.out]; rfl, hb9⟩
      go_wp2_with fail
      refine (cF _).mono ?_
      rintro e w10 ⟨rfl, hb⟩
      have hb10 := hb9.trans (hb.mono hb9.size)
      have hv : Hid (rv = bF) := by show _ = _; rw [hrv.out]; unfold termOkB; rw [eG.out, eO.out, decide_eq_true q3h.out, decide_eq_true q4h.out, eC.out, eD.out, decide_eq_true q9.out, decide_eq_true q11.out, eS.out, eSs.out, eT.out, eP.out, eF.out]; simp
      go_wp2
      go_ret
      exact ⟨by rw [hv.out]; rfl, hb10⟩
    case true =>
      have qbb : (t.col != t.gc - 1) = false := by simp [q11.out hfu.out]
      go_wp2_with fail
      refine (cS _).mono ?_
      rintro e w6 ⟨rfl, hb⟩
      have hb6 := hb4.trans (hb.mono hb4.size)
      replace hB := hB.below hb
      clear c0 c1 c2 c3 c4 c5 c6 c7 c8 c9 c10 c11 c12 c13 c14 c15 c16 c17 c18 c19 c20 c21 c22 c23 c24 c25 c26 c27 c28 c29
      clear hb hb4
      obtain ⟨c0, c1, c2, c3, c4, c5, c6, c7, c8, c9, c10, c11, c12, c13, c14, c15, c16, c17, c18, c19, c20, c21, c22, c23, c24, c25, c26, c27, c28, c29⟩ := hB.cells
      cases bS
      case false =>
        have hv : Hid (rv = false) := by show _ = _; rw [hrv.out]; unfold termOkB; simp [eS.out]
        go_wp2
        go_ret
        exact ⟨by rw [hv.out]; rfl, hb6⟩
      go_wp2_with fail
      refine (cSs _).mono ?_
      rintro e w7 ⟨rfl, hb⟩
      have hb7 := hb6.trans (hb.mono hb6.size)
      replace hB := hB.below hb
      clear c0 c1 c2 c3 c4 c5 c6 c7 c8 c9 c10 c11 c12 c13 c14 c15 c16 c17 c18 c19 c20 c21 c22 c23 c24 c25 c26 c27 c28 c29
      clear hb hb6
      obtain ⟨c0, c1, c2, c3, c4, c5, c6, c7, c8, c9, c10, c11, c12, c13, c14, c15, c16, c17, c18, c19, c20, c21, c22, c23, c24, c25, c26, c27, c28, c29⟩ := hB.cells
      cases bSs
      case false =>
        have hv : Hid (rv = false) := by show _ = _; rw [hrv.out]; unfold termOkB; simp [eSs.out]
        go_wp2
        go_ret
        exact ⟨by rw [hv.out]; rfl, hb7⟩
      go_wp2_with fail
      refine (cT _ (hti.below hb7).l.sl).mono ?_
      rintro e w8 ⟨rfl, hw⟩
      subst hw
      cases bT
      case false =>
        have hv : Hid (rv = false) := by show _ = _; rw [hrv.out]; unfold termOkB; rw [eT.out]; simp
        go_wp2
        go_ret
        exact ⟨by rw [hv.out]; rfl, hb7⟩
      go_wp2_with fail
      refine (cP _ (hpp.below hb7).l.sl (hpt.below hb7).l.sl).mono ?_
      rintro e w9 ⟨rfl, hb⟩
      have hb9 := hb7.trans (hb.mono hb7.size)
      replace hB := hB.below hb
      clear c0 c1 c2 c3 c4 c5 c6 c7 c8 c9 c10 c11 c12 c13 c14 c15 c16 c17 c18 c19 c20 c21 c22 c23 c24 c25 c26 c27 c28 c29
      clear hb hb7
      obtain ⟨c0, c1, c2, c3, c4, c5, c6, c7, c8, c9, c10, c11, c12, c13, c14, c15, c16, c17, c18, c19, c20, c21, c22, c23, c24, c25, c26, c27, c28, c29⟩ := hB.cells
      cases bP
      case false =>
        have hv : Hid (rv = false) := by show _ = _; rw [hrv.out]; unfold termOkB; simp [eP.out]
        go_wp2
        go_ret
        exact ⟨by rw [hv.out]; rfl, hb9⟩
      go_wp2_with fail
      refine (cF _).mono ?_
      rintro e w10 ⟨rfl, hb⟩
      have hb10 := hb9.trans (hb.mono hb9.size)
      have hv : Hid (rv = bF) := by show _ = _; rw [hrv.out]; unfold termOkB; rw [eG.out, eO.out, decide_eq_true q3h.out, decide_eq_true q4h.out, eC.out, eD.out, decide_eq_true q9.out, decide_eq_true q11.out, eS.out, eSs.out, eT.out, eP.out, eF.out]; simp
      go_wp2
      go_ret
      exact ⟨by rw [hv.out]; rfl, hb10⟩
  have q7b : (t.top == t.bot) = false := by simp [q7]
  have q9 : Hid (0 ≤ t.top ∧ t.top ≤ t.bot ∧ t.bot ≤ (t.g.length : Int) - 1 ∧ ¬ (t.top = t.bot ∧ 0 < (t.g.length : Int) - 1)) := by show _ ∧ _; omega
  by_cases q10 : t.full = true ∧ t.col ≠ t.gc - 1
  case pos =>
    obtain ⟨qa, qb⟩ := q10
    have hv : Hid (rv = false) := by
      show _ = _; rw [hrv.out]; unfold termOkB
      rw [decide_eq_false (p := t.full = true → _) (fun h => qb (h qa))]; simp
    have qbb : (t.col != t.gc - 1) = true := by simp [qb]
    rw [qa] at c13
    clear qb qa
    go_wp2
    go_ret
    exact ⟨by rw [hv.out]; rfl, hb4⟩
  have q11 : Hid (t.full = true → t.col = t.gc - 1) := fun h => by
    by_cases hq : t.col = t.gc - 1
    · exact hq
    · exact absurd ⟨h, hq⟩ q10
  clear q10
  obtain ⟨fu, hfu⟩ : ∃ fu, Hid (t.full = fu) := ⟨_, rfl⟩
  rw [hfu.out] at c13
  cases fu
  case false =>
    go_wp2_with fail
    refine (cS _).mono ?_
    rintro e w6 ⟨rfl, hb⟩
    have hb6 := hb4.trans (hb.mono hb4.size)
    replace hB := hB.below hb
    clear c0 c1 c2 c3 c4 c5 c6 c7 c8 c9 c10 c11 c12 c13 c14 c15 c16 c17 c18 c19 c20 c21 c22 c23 c24 c25 c26 c27 c28 c29
    clear hb hb4
    obtain ⟨c0, c1, c2, c3, c4, c5, c6, c7, c8, c9, c10, c11, c12, c13, c14, c15, c16, c17, c18, c19, c20, c21, c22, c23, c24, c25, c26, c27, c28, c29⟩ := hB.cells
    cases bS
    case false =>
      have hv : Hid (rv = false) := by show _ = _; rw [hrv.out]; unfold termOkB; simp [eS.out]
      go_wp2
      go_ret
      exact ⟨by rw [hv.out]; rfl, hb6⟩
    go_wp2_with fail
    refine (cSs _).mono ?_
    rintro e w7 ⟨rfl, hb⟩
    have hb7 := hb6.trans (hb.mono hb6.size)
    replace hB := hB.below hb
    clear c0 c1 c2 c3 c4 c5 c6 c7 c8 c9 c10 c11 c12 c13 c14 c15 c16 c17 c18 c19 c20 c21 c22 c23 c24 c25 c26 c27 c28 c29
    clear hb hb6
    obtain ⟨c0, c1, c2, c3, c4, c5, c6, c7, c8, c9, c10, c11, c12, c13, c14, c15, c16, c17, c18, c19, c20, c21, c22, c23, c24, c25, c26, c27, c28, c29⟩ := hB.cells
    cases bSs
    case false =>
      have hv : Hid (rv = false) := by show _ = _; rw [hrv.out]; unfold termOkB; simp [eSs.out]
      go_wp2
      go_ret
      exact ⟨by rw [hv.out]; rfl, hb7⟩
    go_wp2_with fail
    refine (cT _ (hti.below hb7).l.sl).mono ?_
    rintro e w8 ⟨rfl, hw⟩
    subst hw
    cases bT
    case false =>
      have hv : Hid (rv = false) := by show _ = _; rw [hrv.out]; unfold termOkB; rw [eT.out]; simp
      go_wp2
      go_ret
      exact ⟨by rw [hv.out]; rfl, hb7⟩
    go_wp2_with fail
    refine (cP _ (hpp.below hb7).l.sl (hpt.below hb7).l.sl).mono ?_
    rintro e w9 ⟨rfl, hb⟩
    have hb9 := hb7.trans (hb.mono hb7.size)
    replace hB := hB.below hb
    clear c0 c1 c2 c3 c4 c5 c6 c7 c8 c9 c10 c11 c12 c13 c14 c15 c16 c17 c18 c19 c20 c21 c22 c23 c24 c25 c26 c27 c28 c29
    clear hb hb7
    obtain ⟨c0, c1, c2, c3, c4, c5, c6, c7, c8, c9, c10, c11, c12, c13, c14, c15, c16, c17, c18, c19, c20, c21, c22, c23, c24, c25, c26, c27, c28, c29⟩ := hB.cells
    cases bP
    case false =>
      have hv : Hid (rv = false) := by show _ = _; rw [hrv.out]; unfold termOkB; simp [eP.out]
      go_wp2
      go_ret
      exact ⟨by rw [hv.out]; rfl, hb9⟩
    go_wp2_with fail
    refine (cF _).mono ?_
    rintro e w10 ⟨rfl, hb⟩
    have hb10 := hb9.trans (hb.mono hb9.size)
    have hv : Hid (rv = bF) := by show _ = _; rw [hrv.out]; unfold termOkB; rw [eG.out, eO.out, decide_eq_true q3h.out, decide_eq_true q4h.out, eC.out, eD.out, decide_eq_true q9.out, decide_eq_true q11.out, eS.out, eSs.out, eT.out, eP.out, eF.out]; simp
    go_wp2
    go_ret
    exact ⟨by rw [hv.out]; rfl, hb10⟩
  case true =>
    have qbb : (t.col != t.gc - 1) = false := by simp [q11.out hfu.out]
    go_wp2_with fail
    refine (cS _).mono ?_
    rintro e w6 ⟨rfl, hb⟩
    have hb6 := hb4.trans (hb.mono hb4.size)
    replace hB := hB.below hb
    clear c0 c1 c2 c3 c4 c5 c6 c7 c8 c9 c10 c11 c12 c13 c14 c15 c16 c17 c18 c19 c20 c21 c22 c23 c24 c25 c26 c27 c28 c29
    clear hb hb4
    obtain ⟨c0, c1, c2, c3, c4, c5, c6, c7, c8, c9, c10, c11, c12, c13, c14, c15, c16, c17, c18, c19, c20, c21, c22, c23, c24, c25, c26, c27, c28, c29⟩ := hB.cells
    cases bS
    case false =>
      have hv : Hid (rv = false) := by show _ = _; rw [hrv.out]; unfold termOkB; simp [eS.out]
      go_wp2
      go_ret
      exact ⟨by rw [hv.out]; rfl, hb6⟩
    go_wp2_with fail
    refine (cSs _).mono ?_
    rintro e w7 ⟨rfl, hb⟩
    have hb7 := hb6.trans (hb.mono hb6.size)
    replace hB := hB.below hb
    clear c0 c1 c2 c3 c4 c5 c6 c7 c8 c9 c10 c11 c12 c13 c14 c15 c16 c17 c18 c19 c20 c21 c22 c23 c24 c25 c26 c27 c28 c29
    clear hb hb6
    obtain ⟨c0, c1, c2, c3, c4, c5, c6, c7, c8, c9, c10, c11, c12, c13, c14, c15, c16, c17, c18, c19, c20, c21, c22, c23, c24, c25, c26, c27, c28, c29⟩ := hB.cells
    cases bSs
    case false =>
      have hv : Hid (rv = false) := by show _ = _; rw [hrv.out]; unfold termOkB; simp [eSs.out]
      go_wp2
      go_ret
      exact ⟨by rw [hv.out]; rfl, hb7⟩
    go_wp2_with fail
    refine (cT _ (hti.below hb7).l.sl).mono ?_
    rintro e w8 ⟨rfl, hw⟩
    subst hw
    cases bT
    case false =>
      have hv : Hid (rv = false) := by show _ = _; rw [hrv.out]; unfold termOkB; rw [eT.out]; simp
      go_wp2
      go_ret
      exact ⟨by rw [hv.out]; rfl, hb7⟩
    go_wp2_with fail
    refine (cP _ (hpp.below hb7).l.sl (hpt.below hb7).l.sl).mono ?_
    rintro e w9 ⟨rfl, hb⟩
    have hb9 := hb7.trans (hb.mono hb7.size)
    replace hB := hB.below hb
    clear c0 c1 c2 c3 c4 c5 c6 c7 c8 c9 c10 c11 c12 c13 c14 c15 c16 c17 c18 c19 c20 c21 c22 c23 c24 c25 c26 c27 c28 c29
    clear hb hb7
    obtain ⟨c0, c1, c2, c3, c4, c5, c6, c7, c8, c9, c10, c11, c12, c13, c14, c15, c16, c17, c18, c19, c20, c21, c22, c23, c24, c25, c26, c27, c28, c29⟩ := hB.cells
    cases bP
    case false =>
      have hv : Hid (rv = false) := by show _ = _; rw [hrv.out]; unfold termOkB; simp [eP.out]
      go_wp2
      go_ret
      exact ⟨by rw [hv.out]; rfl, hb9⟩
    go_wp2_with fail
    refine (cF _).mono ?_
    rintro e w10 ⟨rfl, hb⟩
    have hb10 := hb9.trans (hb.mono hb9.size)
    have hv : Hid (rv = bF) := by show _ = _; rw [hrv.out]; unfold termOkB; rw [eG.out, eO.out, decide_eq_true q3h.out, decide_eq_true q4h.out, eC.out, eD.out, decide_eq_true q9.out, decide_eq_true q11.out, eS.out, eSs.out, eT.out, eP.out, eF.out]; simp
    go_wp2
    go_ret
    exact ⟨by rw [hv.out]; rfl, hb10⟩
end Go.Proofs.YtpmaibkakkfaeaaDoor
namespace Go.Proofs.YtpmaibkakkfaeaaDoor
open Go.ChangeShapes Go.WideShapes Go.ChangeAt Go.RowKit
/-- A grid in a block of its own, open to stores. -/
def GrW (w : World) (B : Nat) (cols : Int) (v : Value) : Prop :=
  B < w.heap.size ∧ (w.cell? ⟨B, 0, none⟩ = some (.int .i64 cols) ∧ w.cell? ⟨B, 1, none⟩ = some v) ∧ (w.frozen? ⟨B, 0, none⟩ = false ∧ w.frozen? ⟨B, 1, none⟩ = false)
theorem GrW.grown {w w' : World} {B : Nat} {cols : Int} {v : Value} {row : Option Nat} (h : GrW w B cols v) (hg : w.grownBy w' row) (hr : row ≠ some B) : GrW w' B cols v := by
  have hb := hg.block B h.1 (Ne.symm hr)
  have hc : ∀ k, w'.cell? ⟨B, k, none⟩ = w.cell? ⟨B, k, none⟩ := fun k => World.cell?_of_block (w := w) hb
  have hz : ∀ k, w'.frozen? ⟨B, k, none⟩ = w.frozen? ⟨B, k, none⟩ := fun k => World.frozen?_of_block (w := w) hb
  refine ⟨Nat.lt_of_lt_of_le h.1 hg.size, ?_, ?_⟩
  · rw [hc, hc]; exact h.2.1
  · rw [hz, hz]; exact h.2.2
theorem GrW.below {w w' : World} {B : Nat} {cols : Int} {v : Value} (h : GrW w B cols v) (hb : Below w.heap.size w w') : GrW w' B cols v := h.grown (gbl hb none) (by simp)
theorem GrW.new (w : World) (cols : Int) (v : Value) (t : TypeId) : GrW (w.alloc (.cells #[.int .i64 cols, v] t)) w.heap.size cols v :=
  ⟨by simp, ⟨by simp [go_sem], by simp [go_sem]⟩, ⟨by simp [go_sem], by simp [go_sem]⟩⟩
/-- Other rows are written there. -/
def putG (w : World) (B : Nat) (v : Value) : World := w.setCell ⟨B, 1, none⟩ v
theorem putG_grown (w : World) (B : Nat) (v : Value) : w.grownBy (putG w B v) (some B) := setCell_gr w B 1 _
theorem GrW.put {w : World} {B : Nat} {cols : Int} {v : Value} (h : GrW w B cols v) (v' : Value) : GrW (putG w B v') B cols v' := by
  obtain ⟨hlt, ⟨c0, c1⟩, ⟨z0, z1⟩⟩ := h
  refine ⟨by simpa [putG] using hlt, ⟨?_, ?_⟩, ⟨?_, ?_⟩⟩
  all_goals simp only [putG]
  · rw [setCell_ne' _ _ _ _ _ (by decide)]; exact c0
  · simp [go_sem, c1]
  · simp [go_sem, z0]
  · simp [go_sem, z1]
/-- Another grid is written there whole. -/
def putG2 (w : World) (B : Nat) (cols : Int) (v : Value) : World := (w.setCell ⟨B, 0, none⟩ (.int .i64 cols)).setCell ⟨B, 1, none⟩ v
theorem putG2_grown (w : World) (B : Nat) (cols : Int) (v : Value) : w.grownBy (putG2 w B cols v) (some B) := grown_tr (setCell_gr w B 0 _) (setCell_gr _ B 1 _)
theorem GrW.put2 {w : World} {B : Nat} {cols : Int} {v : Value} (h : GrW w B cols v) (cols' : Int) (v' : Value) : GrW (putG2 w B cols' v') B cols' v' := by
  obtain ⟨hlt, ⟨c0, c1⟩, ⟨z0, z1⟩⟩ := h
  refine ⟨by simpa [putG2] using hlt, ⟨?_, ?_⟩, ⟨?_, ?_⟩⟩
  all_goals simp only [putG2]
  · rw [setCell_ne' _ _ _ _ _ (by decide)]; simp [go_sem, c0]
  · simp [go_sem, c1]
  · simp [go_sem, z0]
  · simp [go_sem, z1]
theorem OwnG.kept {w w' : World} {base B : Nat} {v : Value} {rows : List (List Ce)} {row : Option Nat} (h : OwnG w base B v rows) (hg : w.grownBy w' row) (hne : ∀ g, row = some g → g < base) : OwnG w' base B v rows := by
  obtain ⟨vs, hl, ho, hr, hB, hd⟩ := h
  refine ⟨vs, hl, World.ownsRow.kept ho hg ?_, fun i hi => (hr i hi).kept hg ?_, hB, hd⟩
  · cases hv : v.ownBlock with
    | none => exact .inl rfl
    | some q => right; intro e; have := hne q e.symm; have := (ho.lt q hv).1; omega
  · cases hv : (rowV vs i).ownBlock with
    | none => exact .inl rfl
    | some q => right; intro e; have := hne q e.symm; have := ((hr i hi).lt q hv).1; omega
theorem OwnG.lt {w : World} {base B : Nat} {v : Value} {rows : List (List Ce)} (h : OwnG w base B v rows) : ∀ g, v.ownBlock = some g → base ≤ g ∧ g < w.heap.size := by
  obtain ⟨vs, hl, ho, _⟩ := h
  exact fun g e => ho.lt g e
theorem OwnG.up {w : World} {base B B' : Nat} {v : Value} {rows : List (List Ce)} (h : OwnG w base B v rows) (hb : B ≤ B') : OwnG w base B' v rows := by
  obtain ⟨vs, hl, ho, hr, hB, hd⟩ := h
  exact ⟨vs, hl, ho, hr, fun i hi g e => Nat.lt_of_lt_of_le (hB i hi g e) hb, hd⟩
end Go.Proofs.YtpmaibkakkfaeaaDoor
namespace Go.Proofs.YtpmaibkakkfaeaaDoor
open Go.ChangeShapes Go.WideShapes Go.ChangeAt Go.RowKit
/-- Nothing changes but the blocks from lo to below hi; new ones may come. -/
def GrB (lo hi : Nat) (w w' : World) : Prop := w'.os = w.os ∧ w'.tape = w.tape ∧ w'.output = w.output ∧ w.heap.size ≤ w'.heap.size ∧ ∀ k, k < w.heap.size → (k < lo ∨ hi ≤ k) → w'.heap[k]? = w.heap[k]?
theorem GrB.refl (lo hi : Nat) (w : World) : GrB lo hi w w := ⟨rfl, rfl, rfl, Nat.le_refl _, fun _ _ _ => rfl⟩
theorem GrB.trans {lo hi : Nat} {a b c : World} (h : GrB lo hi a b) (k : GrB lo hi b c) : GrB lo hi a c :=
  ⟨k.1.trans h.1, k.2.1.trans h.2.1, k.2.2.1.trans h.2.2.1, Nat.le_trans h.2.2.2.1 k.2.2.2.1, fun i hi ho => (k.2.2.2.2 i (Nat.lt_of_lt_of_le hi h.2.2.2.1) ho).trans (h.2.2.2.2 i hi ho)⟩
theorem GrB.size {lo hi : Nat} {w w' : World} (h : GrB lo hi w w') : w.heap.size ≤ w'.heap.size := h.2.2.2.1
theorem GrB.mono {lo hi lo' hi' : Nat} {w w' : World} (h : GrB lo hi w w') (h1 : lo' ≤ lo) (h2 : hi ≤ hi') : GrB lo' hi' w w' :=
  ⟨h.1, h.2.1, h.2.2.1, h.2.2.2.1, fun k hk ho => h.2.2.2.2 k hk (by omega)⟩
theorem GrB.cell {lo hi k o : Nat} {w w' : World} (h : GrB lo hi w w') (hk : k < w.heap.size) (ho : k < lo ∨ hi ≤ k) : w'.cell? ⟨k, o, none⟩ = w.cell? ⟨k, o, none⟩ := World.cell?_of_block (w := w) (h.2.2.2.2 k hk ho)
theorem GrB.frozen {lo hi k o : Nat} {w w' : World} (h : GrB lo hi w w') (hk : k < w.heap.size) (ho : k < lo ∨ hi ≤ k) : w'.frozen? ⟨k, o, none⟩ = w.frozen? ⟨k, o, none⟩ := World.frozen?_of_block (w := w) (h.2.2.2.2 k hk ho)
/-- A slice of rows of this call's own, its values named. -/
def OwnV (w : World) (base B : Nat) (v : Value) (vs : List Value) (rows : List (List Ce)) : Prop :=
  vs.length = rows.length ∧ w.ownsRow base 70 1 v rows.length vs ∧ (∀ i, i < rows.length → OwnC w base (rowV vs i) (rowX rows i)) ∧
    (∀ i, i < rows.length → ∀ g, (rowV vs i).ownBlock = some g → g < B) ∧ (∀ i j, i < j → j < rows.length → ∀ g, (rowV vs i).ownBlock = some g → (rowV vs j).ownBlock ≠ some g)
theorem OwnG.v {w : World} {base B : Nat} {v : Value} {rows : List (List Ce)} (h : OwnG w base B v rows) : ∃ vs, OwnV w base B v vs rows := h
theorem OwnV.g {w : World} {base B : Nat} {v : Value} {vs : List Value} {rows : List (List Ce)} (h : OwnV w base B v vs rows) : OwnG w base B v rows := ⟨vs, h⟩
theorem OwnV.below {w w' : World} {base B : Nat} {v : Value} {vs : List Value} {rows : List (List Ce)} (h : OwnV w base B v vs rows) (hb : Below w.heap.size w w') : OwnV w' base B v vs rows :=
  ⟨h.1, World.ownsRow.below h.2.1 hb, fun i hi => (h.2.2.1 i hi).below hb, h.2.2.2.1, h.2.2.2.2⟩
theorem OwnV.up {w : World} {base B B' : Nat} {v : Value} {vs : List Value} {rows : List (List Ce)} (h : OwnV w base B v vs rows) (hb : B ≤ B') : OwnV w base B' v vs rows :=
  ⟨h.1, h.2.1, h.2.2.1, fun i hi g e => Nat.lt_of_lt_of_le (h.2.2.2.1 i hi g e) hb, h.2.2.2.2⟩
theorem OwnV.shape {w : World} {base B : Nat} {v : Value} {vs : List Value} {rows : List (List Ce)} (h : OwnV w base B v vs rows) : (v = .slice none 0 0 ∧ rows = []) ∨ ∃ g cap, v = .slice (some ⟨g, 0, none⟩) rows.length cap ∧ base ≤ g ∧ g < w.heap.size ∧ rows.length ≤ cap := h.g.shape
theorem OwnV.cell {w : World} {base B g n cap : Nat} {vs : List Value} {rows : List (List Ce)} (h : OwnV w base B (.slice (some ⟨g, 0, none⟩) n cap) vs rows) (hn : rows.length = n) (i : Nat) (hi : i < n) : w.cell? ⟨g, i, none⟩ = some (rowV vs i) := by
  subst hn
  rw [World.ownsRow.cellAt h.2.1 i (by have := h.1; omega), rowV_get (by have := h.1; omega)]
theorem OwnV.frozen {w : World} {base B g n cap : Nat} {vs : List Value} {rows : List (List Ce)} (h : OwnV w base B (.slice (some ⟨g, 0, none⟩) n cap) vs rows) (hn : rows.length = n) (i : Nat) : w.frozen? ⟨g, i, none⟩ = false := by
  subst hn
  exact World.ownsRow.frozenAt h.2.1 i
/-- All of it lies from lo to below hi. -/
def OwnR (w : World) (lo hi : Nat) (v : Value) (rows : List (List Ce)) : Prop := OwnG w lo hi v rows ∧ (∀ g, v.ownBlock = some g → g < hi) ∧ hi ≤ w.heap.size
theorem OwnR.of {w : World} {lo : Nat} {v : Value} {rows : List (List Ce)} (h : OwnG w lo w.heap.size v rows) : OwnR w lo w.heap.size v rows := ⟨h, fun g e => (h.lt g e).2, Nat.le_refl _⟩
theorem OwnR.below {base B : Nat} {w w' : World} {v : Value} {rows : List (List Ce)} (h : OwnR w base B v rows) (hb : Below w.heap.size w w') : OwnR w' base B v rows := ⟨h.1.below hb, h.2.1, Nat.le_trans h.2.2 hb.size⟩
theorem OwnR.sl {base B : Nat} {w : World} {v : Value} {rows : List (List Ce)} (h : OwnR w base B v rows) : SlG w v rows := SlG.of_own h.1
end Go.Proofs.YtpmaibkakkfaeaaDoor
namespace Go.Proofs.YtpmaibkakkfaeaaDoor
theorem atC_ge {l : List Ce} {i : Nat} (h : l.length ≤ i) : atC l i = Ce.zero := by simp [atC, List.getD, List.getElem?_eq_none h]
/-- A cell that is right by itself. -/
def c1 (c : Ce) : Prop := c.st.ok = true ∧ ((c.part = 0 ∧ widthV c.rune = 1) ∨ (c.part = 1 ∧ widthV c.rune = 2) ∨ (c.part = 2 ∧ c.rune = 0))
def Right (l : List Ce) : Prop :=
  (∀ i, i < l.length → c1 (atC l i)) ∧ (∀ i, (atC l i).part = 1 → (atC l (i + 1)).part = 2 ∧ (atC l (i + 1)).st = (atC l i).st) ∧ (∀ i, (atC l i).part = 2 → 0 < i ∧ (atC l (i - 1)).part = 1)
def Semi (l : List Ce) : Prop :=
  (∀ i, i < l.length → c1 (atC l i)) ∧ (∀ i, (atC l i).part = 1 → (atC l (i + 1)).part = 2 → (atC l (i + 1)).st = (atC l i).st)
theorem part_lt {l : List Ce} {i : Nat} (h : (atC l i).part ≠ 0) : i < l.length := by
  rcases Nat.lt_or_ge i l.length with h1 | h1
  · exact h1
  · rw [atC_ge h1] at h; exact absurd rfl h
theorem right_iff (l : List Ce) : rowOkB l = true ↔ (1 ≤ l.length ∧ l.length ≤ 60) ∧ Right l := by
  rw [rowOkB_iff]
  constructor
  · rintro ⟨hl, h⟩
    refine ⟨hl, ?_, ?_, ?_⟩
    · intro i hi
      have := h i hi
      unfold cellOkB at this
      rw [Bool.and_eq_true] at this
      refine ⟨this.1, ?_⟩
      have h2 := this.2
      by_cases h0 : (atC l i).part = 0
      · rw [if_pos h0] at h2; exact .inl ⟨h0, by simpa using h2⟩
      · rw [if_neg h0] at h2
        by_cases h1 : (atC l i).part = 1
        · rw [if_pos h1] at h2; simp at h2; exact .inr (.inl ⟨h1, h2.1⟩)
        · rw [if_neg h1] at h2
          by_cases h3 : (atC l i).part = 2
          · rw [if_pos h3] at h2; simp at h2; exact .inr (.inr ⟨h3, h2.1⟩)
          · rw [if_neg h3] at h2; cases h2
    · intro i h1
      have hi : i < l.length := part_lt (by rw [h1]; decide)
      have := h i hi
      unfold cellOkB at this
      rw [Bool.and_eq_true, if_neg (by rw [h1]; decide), if_pos h1] at this
      have h2 := this.2; simp at h2
      exact ⟨h2.2.2.1, h2.2.2.2⟩
    · intro i h1
      have hi : i < l.length := part_lt (by rw [h1]; decide)
      have := h i hi
      unfold cellOkB at this
      rw [Bool.and_eq_true, if_neg (by rw [h1]; decide), if_neg (by rw [h1]; decide), if_pos h1] at this
      have h2 := this.2; simp at h2
      exact h2.2
  · rintro ⟨hl, h1, h2, h3⟩
    refine ⟨hl, fun i hi => ?_⟩
    have hc := h1 i hi
    unfold cellOkB
    rw [hc.1, Bool.true_and]
    rcases hc.2 with ⟨e, ew⟩ | ⟨e, ew⟩ | ⟨e, ew⟩
    · rw [if_pos e, ew]; rfl
    · have := h2 i e
      have hlt : i + 1 < l.length := part_lt (by rw [this.1]; decide)
      rw [if_neg (by rw [e]; decide), if_pos e, ew]
      simp [hlt, this.1, this.2]
    · have := h3 i e
      rw [if_neg (by rw [e]; decide), if_neg (by rw [e]; decide), if_pos e, ew]
      simp [this.1, this.2]
theorem Right.c1 {l : List Ce} (h : Right l) {i : Nat} (hi : i < l.length) : c1 (atC l i) := h.1 i hi
theorem Semi.take {l : List Ce} (h : Semi l) (n : Nat) : Semi (l.take n) := by
  have e : ∀ i, atC (l.take n) i = if i < n then atC l i else Ce.zero := fun i => by
    by_cases hi : i < n
    · rw [if_pos hi, atC_take l n i hi]
    · rw [if_neg hi, atC_ge (by rw [List.length_take]; omega)]
  refine ⟨fun i hi => ?_, fun i h1 h2 => ?_⟩
  · rw [List.length_take] at hi
    rw [e, if_pos (by omega)]
    exact h.1 i (by omega)
  · rw [e] at h1 h2 ⊢
    rw [e]
    split at h1
    · split at h2
      · rename_i q1 q2
        rw [if_pos q2, if_pos q1]
        exact h.2 i h1 h2
      · exact absurd h2 (by decide)
    · exact absurd h1 (by decide)
theorem Semi.drop {l : List Ce} (h : Semi l) (n : Nat) : Semi (l.drop n) := by
  refine ⟨fun i hi => ?_, fun i h1 h2 => ?_⟩
  · rw [List.length_drop] at hi
    rw [atC_drop]; exact h.1 (n + i) (by omega)
  · rw [atC_drop] at h1 h2 ⊢
    rw [atC_drop]
    have := h.2 (n + i) h1 (by rw [Nat.add_assoc]; exact h2)
    rwa [Nat.add_assoc] at this
theorem app_at (l m : List Ce) (i : Nat) : atC (l ++ m) i = if i < l.length then atC l i else atC m (i - l.length) := by
  by_cases h : i < l.length
  · rw [if_pos h, atC_append_left l m i h]
  · rw [if_neg h]
    have := atC_append_right l m (i - l.length)
    rwa [show l.length + (i - l.length) = i by omega] at this
theorem Right.append {l m : List Ce} (h : Right l) (k : Right m) : Right (l ++ m) := by
  refine ⟨fun i hi => ?_, fun i h1 => ?_, fun i h2 => ?_⟩
  · rw [List.length_append] at hi
    rw [app_at]
    split
    · rename_i q; exact h.1 i q
    · exact k.1 _ (by omega)
  · rw [app_at] at h1
    split at h1
    · have := h.2.1 i h1
      have hlt : i + 1 < l.length := part_lt (by rw [this.1]; decide)
      rename_i q
      rw [app_at, app_at, if_pos hlt, if_pos q]; exact this
    · rename_i q
      have := k.2.1 _ h1
      rw [app_at, app_at, if_neg (by omega), if_neg q]
      rwa [show i + 1 - l.length = i - l.length + 1 by omega]
  · rw [app_at] at h2
    split at h2
    · rename_i q
      have := h.2.2 i h2
      rw [app_at, if_pos (by omega)]; exact this
    · rename_i q
      have := k.2.2 _ h2
      rw [app_at, if_neg (by omega)]
      refine ⟨by omega, ?_⟩
      rw [show i - 1 - l.length = i - l.length - 1 by omega]; exact this.2
end Go.Proofs.YtpmaibkakkfaeaaDoor
