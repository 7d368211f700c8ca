/- Contract of the specification's GridOk. Contract of the specification's l5Told. Contracts of the specification's Up and Down. Contracts of the program's raiseRows and lowerRows. Contracts of the program's Up and Down. The walk of the exact law of Down. -/
import Derived.Test.YtmmmglblkampcaaDoorP3
import Derived.Deep.RegionHeld3
namespace Go.Proofs.YtmmmglblkampcaaDoor
open Go.ChangeShapes Go.WideShapes Go.ChangeAt Go.RowKit
/-- What a row's judge leaves. -/
def KG (M : Nat) (w0 : World) (r : Value) (x : List Ce) (W : World) : Prop := SlC W r x ∧ M ≤ W.heap.size ∧ Below w0.heap.size w0 W
theorem KG.below {M : Nat} {w0 : World} {r : Value} {x : List Ce} {W W' : World} (k : KG M w0 r x W) (hb : Below W.heap.size W W') : KG M w0 r x W' :=
  ⟨k.1.below hb, Nat.le_trans k.2.1 hb.size, k.2.2.trans (hb.mono k.2.2.size)⟩
theorem KG.drew {M : Nat} {w0 : World} {r : Value} {x : List Ce} {W : World} (k : KG M w0 r x W) : KG M w0 r x W.drew := k.below (Below.refl _ _).drew
theorem rowOk_gk (M B b o : Nat) (w0 : World) (r : Value) (x : List Ce) (u0 u1 u2 : Value) (hl : x.length ≤ 1048576) (hB : B < M) (hb : b < M) {W : World}
    (h : W.cell? ⟨B, 0, none⟩ = some u0 ∧ W.cell? ⟨B, 1, none⟩ = some u1 ∧ W.cell? ⟨b, o, none⟩ = some u2 ∧ KG M w0 r x W) :
    Calls Tryd.prog 50 #[r] W fun e W' => e = .returned (.bool (rowOkB x)) ∧ (W'.cell? ⟨B, 0, none⟩ = some u0 ∧ W'.cell? ⟨B, 1, none⟩ = some u1 ∧ W'.cell? ⟨b, o, none⟩ = some u2 ∧ KG M w0 r x W') := by
  obtain ⟨h0, h1, h2, k⟩ := h
  refine (specRowOk_any r x W k.1 hl).mono ?_
  rintro e W' ⟨rfl, hw⟩
  have hM := k.2.1
  exact ⟨rfl, (hw.cell (p := ⟨B, 0, none⟩) (show B < _ by omega)).trans h0, (hw.cell (p := ⟨B, 1, none⟩) (show B < _ by omega)).trans h1, (hw.cell (p := ⟨b, o, none⟩) (show b < _ by omega)).trans h2, k.below hw⟩
set_option maxHeartbeats 16000000 in
set_option maxRecDepth 20000 in
theorem specGridOk_any (cols : Int) (v : Value) (rows : List (List Ce)) (w : World) (hv : SlG w v rows) (hl : rows.length ≤ 1048576) (hx : ∀ i, i < rows.length → (rowX rows i).length ≤ 1048576) :
    Calls Tryd.prog 20 #[gridV cols v] w fun e w' => e = .returned (.bool (gridOkB cols rows)) ∧ Below w.heap.size w w' := by
  have hbB := bal' w (Obj.cells #[.int .i64 cols, v] 26)
  have hG := GrN.new w cols v 26
  obtain ⟨a, c, vs, rfl, hcp, _, hr, hs⟩ := id hv
  have hin := fun W => l1In_any cols 1 60 W
  unfold gridV
  by_cases h1 : (1 : Int) ≤ cols ∧ cols ≤ 60
  · have e1 : decide ((1 : Int) ≤ cols ∧ cols ≤ 60) = true := decide_eq_true h1
    rw [e1] at hin
    by_cases hn : 1 ≤ rows.length ∧ rows.length ≤ 30
    · obtain ⟨hn1, hn2⟩ := hn
      have hn1i : ¬ (rows.length : Int) < 1 := by omega
      have hn2i : ¬ 30 < (rows.length : Int) := by omega
      rcases hr with h | ⟨b, off, rfl, hbb, hrc⟩
      · rw [h] at hn1; simp at hn1
      go_enter Tryd.func20, Tryd.ntmps20
      go_wp2_with (go_at_call 43; refine (hin _).mono ?_; rintro e w1 ⟨rfl, hw⟩; subst hw)
      go_loopw [3] (fun i wr => ∃ j : Nat, i = .int .i64 j ∧ j ≤ rows.length ∧ Hid (∀ k, k < j → fitB cols (rowX rows k) = true) ∧ GrN wr w.heap.size cols (.slice (some ⟨b, off, none⟩) rows.length c) ∧ Below w.heap.size w wr) (fun i _ => rows.length - (intOf i).toNat)
      case atStart => exact ⟨0, rfl, Nat.zero_le _, (fun k hk => absurd hk (Nat.not_lt_zero k)), hG, hbB⟩
      case round =>
        clear hG hbB
        obtain ⟨j, rfl, hj, hall, hG, kb⟩ := hrel
        obtain ⟨hB, c0, c1⟩ := id hG
        by_cases hlt : j < rows.length
        · have hji : (j : Int) < (rows.length : Int) := by omega
          have hj0 : (0 : Int) ≤ (j : Int) := by omega
          have c2 := (kb.cell (p := ⟨b, off + j, none⟩) hbb).trans (hrc j hlt)
          have hsj := (hs j hlt).below kb
          obtain ⟨aj, cj, ev, hjc, _, _⟩ := id hsj
          have kg : KG (w.heap.size + 1) w (rowV vs j) (rowX rows j) wr := ⟨hsj, hB, kb⟩
          rw [ev] at c2 kg
          clear hsj hG hrc hs hv ev hin
          by_cases e2 : ((rowX rows j).length : Int) = cols
          · have b1 : (((rowX rows j).length : Int) != cols) = false := by simp [e2]
            cases hro : rowOkB (rowX rows j)
            · have hno : gridOkB cols rows = false := gridOk_no hlt (by show fitB cols (rowX rows j) = false; unfold fitB; rw [hro, Bool.and_false])
              clear hall
              go_wp2
              refine wp_region_noPanic ?_
              refine wp_region_held_drew (S := (fun W => W.cell? ⟨w.heap.size, 0, none⟩ = some (.int .i64 cols) ∧ W.cell? ⟨w.heap.size, 1, none⟩ = some (.slice (some ⟨b, off, none⟩) rows.length c) ∧ W.cell? ⟨b, off + j, none⟩ = some (.slice aj (rowX rows j).length cj) ∧ KG (w.heap.size + 1) w (.slice aj (rowX rows j).length cj) (rowX rows j) W)) (by kernel_rfl) ⟨c0, c1, c2, kg.drew⟩ (fun hHeld => ?_)
              refine' wpAnyH_take (i := 0) (v := _) rfl (by kernel_rfl) (by kernel_rfl) (by kernel_rfl) (fun _ _ _ h => h) (Or.inl ⟨by rfl, ?hy1⟩) hHeld ?hr1
              case hy1 => (intro w hSw; (try dsimp only at hSw); go_simp; (try with_reducible rfl))
              simp only [Act.put, List.setIfInBounds_toArray, List.set_cons_zero, List.set_cons_succ, List.getElem_toArray, List.getElem_cons_zero]
              refine' wpAnyH_take (i := 1) (v := _) rfl (by kernel_rfl) (by kernel_rfl) (by kernel_rfl) (fun _ _ _ h => h) (Or.inl ⟨by rfl, ?hy2⟩) hHeld ?hr2
              case hy2 => (intro w hSw; (try dsimp only at hSw); go_simp; (try with_reducible rfl))
              simp only [Act.put, List.setIfInBounds_toArray, List.set_cons_zero, List.set_cons_succ, List.getElem_toArray, List.getElem_cons_zero, List.getElem_cons_succ]
              refine' wpAnyH_take (i := 2) (v := _) rfl (by kernel_rfl) (by kernel_rfl) (by kernel_rfl) (fun _ _ _ h => h) (Or.inl ⟨by rfl, ?hy3⟩) hHeld ?hr3
              case hy3 => (intro w hSw; (try dsimp only at hSw); go_simp; (try with_reducible rfl))
              simp only [Act.put, List.setIfInBounds_toArray, List.set_cons_zero, List.set_cons_succ, List.getElem_toArray, List.getElem_cons_zero, List.getElem_cons_succ]
              refine' wpAnyH_take (i := 3) (v := _) rfl (by kernel_rfl) (by kernel_rfl) (by kernel_rfl) (fun _ _ _ h => h) (Or.inl ⟨by rfl, ?hy4⟩) hHeld ?hr4
              case hy4 => (intro w hSw; (try dsimp only at hSw); go_simp; (try with_reducible rfl))
              simp only [Act.put, List.setIfInBounds_toArray, List.set_cons_zero, List.set_cons_succ, List.getElem_toArray, List.getElem_cons_zero, List.getElem_cons_succ]
              refine' wpAnyH_take (i := 4) (v := _) rfl (by kernel_rfl) (by kernel_rfl) (by kernel_rfl) (fun _ _ _ h => h) (Or.inl ⟨by rfl, ?hy5⟩) hHeld ?hr5
              case hy5 => (intro w hSw; (try dsimp only at hSw); go_simp; (try with_reducible rfl))
              simp only [Act.put, List.setIfInBounds_toArray, List.set_cons_zero, List.set_cons_succ, List.getElem_toArray, List.getElem_cons_zero, List.getElem_cons_succ]
              refine' wpAnyH_take (i := 5) (v := _) rfl (by kernel_rfl) (by kernel_rfl) (by kernel_rfl) (fun _ _ _ h => h) (Or.inl ⟨by rfl, ?hy6⟩) hHeld ?hr6
              case hy6 => (intro w hSw; (try dsimp only at hSw); go_simp; (try with_reducible rfl))
              simp only [Act.put, List.setIfInBounds_toArray, List.set_cons_zero, List.set_cons_succ, List.getElem_toArray, List.getElem_cons_zero, List.getElem_cons_succ]
              refine' wpAnyH_take (i := 6) (v := _) rfl (by kernel_rfl) (by kernel_rfl) (by kernel_rfl) (fun _ _ _ h => h) (Or.inl ⟨by rfl, ?hy7⟩) hHeld ?hr7
              case hy7 => (intro w hSw; (try dsimp only at hSw); go_simp; (try with_reducible rfl))
              simp only [Act.put, List.setIfInBounds_toArray, List.set_cons_zero, List.set_cons_succ, List.getElem_toArray, List.getElem_cons_zero, List.getElem_cons_succ]
              refine' wpAnyH_take (i := 7) (v := _) rfl (by kernel_rfl) (by kernel_rfl) (by kernel_rfl) (fun _ _ _ h => h) (Or.inl ⟨by rfl, ?hy8⟩) hHeld ?hr8
              case hy8 => (intro w hSw; (try dsimp only at hSw); go_simp; (try with_reducible rfl))
              simp only [Act.put, List.setIfInBounds_toArray, List.set_cons_zero, List.set_cons_succ, List.getElem_toArray, List.getElem_cons_zero, List.getElem_cons_succ]
              refine' wpAnyH_take (i := 8) (v := _) rfl (by kernel_rfl) (by kernel_rfl) (by kernel_rfl) (fun _ _ _ h => h) (Or.inl ⟨by rfl, ?hy9⟩) hHeld ?hr9
              case hy9 => (intro w hSw; (try dsimp only at hSw); go_simp; (try with_reducible rfl))
              simp only [Act.put, List.setIfInBounds_toArray, List.set_cons_zero, List.set_cons_succ, List.getElem_toArray, List.getElem_cons_zero, List.getElem_cons_succ]
              refine' wpAnyH_take (i := 9) (v := _) rfl (by kernel_rfl) (by kernel_rfl) (by kernel_rfl) (fun _ _ _ h => h) (Or.inl ⟨by rfl, ?hy10⟩) hHeld ?hr10
              case hy10 => (intro w hSw; (try dsimp only at hSw); go_simp; (try with_reducible rfl))
              simp only [Act.put, List.setIfInBounds_toArray, List.set_cons_zero, List.set_cons_succ, List.getElem_toArray, List.getElem_cons_zero, List.getElem_cons_succ]
              refine' wpAnyH_take (i := 10) (v := _) rfl (by kernel_rfl) (by kernel_rfl) (by kernel_rfl) (fun _ _ _ h => h) (Or.inl ⟨by rfl, ?hy11⟩) hHeld ?hr11
              case hy11 => (intro w hSw; (try dsimp only at hSw); go_simp; (try with_reducible rfl))
              simp only [Act.put, List.setIfInBounds_toArray, List.set_cons_zero, List.set_cons_succ, List.getElem_toArray, List.getElem_cons_zero, List.getElem_cons_succ]
              refine' wpAnyH_take (i := 11) (v := _) rfl (by kernel_rfl) (by kernel_rfl) (by kernel_rfl) (fun _ _ _ h => h) (Or.inl ⟨by rfl, ?hy12⟩) hHeld ?hr12
              case hy12 => (intro w hSw; (try dsimp only at hSw); go_simp; (try with_reducible rfl))
              simp only [Act.put, List.setIfInBounds_toArray, List.set_cons_zero, List.set_cons_succ, List.getElem_toArray, List.getElem_cons_zero, List.getElem_cons_succ]
              refine' wpAnyH_take (i := 12) (v := _) rfl (by kernel_rfl) (by kernel_rfl) (by kernel_rfl) (fun _ _ _ h => h) (Or.inl ⟨by rfl, ?hy13⟩) hHeld ?hr13
              case hy13 => (intro w hSw; (try dsimp only at hSw); go_simp; (try with_reducible rfl))
              simp only [Act.put, List.setIfInBounds_toArray, List.set_cons_zero, List.set_cons_succ, List.getElem_toArray, List.getElem_cons_zero, List.getElem_cons_succ]
              refine' wpAnyH_take (i := 13) (v := _) rfl (by kernel_rfl) (by kernel_rfl) (by kernel_rfl) (fun _ _ _ h => h) (Or.inl ⟨by rfl, ?hy14⟩) hHeld ?hr14
              case hy14 => (intro w hSw; (try dsimp only at hSw); go_simp; (try with_reducible rfl))
              simp only [Act.put, List.setIfInBounds_toArray, List.set_cons_zero, List.set_cons_succ, List.getElem_toArray, List.getElem_cons_zero, List.getElem_cons_succ]
              refine' wpAnyH_take (i := 14) (v := _) rfl (by kernel_rfl) (by kernel_rfl) (by kernel_rfl) (fun _ _ _ h => h) (Or.inl ⟨by rfl, ?hy15⟩) hHeld ?hr15
              case hy15 => (intro w hSw; (try dsimp only at hSw); go_simp; (try with_reducible rfl))
              simp only [Act.put, List.setIfInBounds_toArray, List.set_cons_zero, List.set_cons_succ, List.getElem_toArray, List.getElem_cons_zero, List.getElem_cons_succ]
              refine wpAnyH_ready (rs := [15]) (by kernel_rfl) (by simp) (AllReadyH.cons rfl (fun K hK => ?_) AllReadyH.nil)
              go_simp
              refine (rowOk_gk (w.heap.size + 1) w.heap.size b (off + j) w _ (rowX rows j) _ _ _ (hx j hlt) (by omega) (by omega) (by assumption)).mono ?_; rintro e wk ⟨rfl, hk⟩
              go_wp2_with fail
              refine hK.out _ _ (by assumption) (fun hHeld => ?_)
              clear hK K
              (try simp only [Act.put, List.setIfInBounds_toArray, List.set_cons_zero, List.set_cons_succ])
              refine' wpAnyH_take (i := 16) (v := _) rfl (by kernel_rfl) (by kernel_rfl) (by kernel_rfl) (fun _ _ _ h => h) (Or.inl ⟨by rfl, ?hy16⟩) hHeld ?hr16
              case hy16 => (intro w hSw; (try dsimp only at hSw); go_simp; (try with_reducible rfl))
              simp only [Act.put, List.setIfInBounds_toArray, List.set_cons_zero, List.set_cons_succ, List.getElem_toArray, List.getElem_cons_zero, List.getElem_cons_succ]
              refine' wpAnyH_take (i := 17) (v := _) rfl (by kernel_rfl) (by kernel_rfl) (by kernel_rfl) (fun _ _ _ h => h) (Or.inl ⟨by rfl, ?hy17⟩) hHeld ?hr17
              case hy17 => (intro w hSw; (try dsimp only at hSw); go_simp; (try with_reducible rfl))
              simp only [Act.put, List.setIfInBounds_toArray, List.set_cons_zero, List.set_cons_succ, List.getElem_toArray, List.getElem_cons_zero, List.getElem_cons_succ]
              refine wpAnyH_done (by kernel_rfl) ?_ _
              refine NoPanic.normal ?_
              have kb2 := hHeld.2.2.2.2.2
              clear hHeld
              go_wp2
              go_ret
              first | exact ⟨ret_bool hno.symm, kb2⟩ | exact ⟨rfl, kb2⟩
            · have hyes : fitB cols (rowX rows j) = true := by unfold fitB; rw [hro, decide_eq_true e2]; rfl
              have hall' : Hid (∀ k, k < j + 1 → fitB cols (rowX rows k) = true) := fun k hk => by rcases Nat.lt_succ_iff_lt_or_eq.1 hk with h | rfl; exact hall.out k h; exact hyes
              clear hall hyes
              go_wp2
              refine wp_region_noPanic ?_
              refine wp_region_held_drew (S := (fun W => W.cell? ⟨w.heap.size, 0, none⟩ = some (.int .i64 cols) ∧ W.cell? ⟨w.heap.size, 1, none⟩ = some (.slice (some ⟨b, off, none⟩) rows.length c) ∧ W.cell? ⟨b, off + j, none⟩ = some (.slice aj (rowX rows j).length cj) ∧ KG (w.heap.size + 1) w (.slice aj (rowX rows j).length cj) (rowX rows j) W)) (by kernel_rfl) ⟨c0, c1, c2, kg.drew⟩ (fun hHeld => ?_)
              refine' wpAnyH_take (i := 0) (v := _) rfl (by kernel_rfl) (by kernel_rfl) (by kernel_rfl) (fun _ _ _ h => h) (Or.inl ⟨by rfl, ?hy18⟩) hHeld ?hr18
              case hy18 => (intro w hSw; (try dsimp only at hSw); go_simp; (try with_reducible rfl))
              simp only [Act.put, List.setIfInBounds_toArray, List.set_cons_zero, List.set_cons_succ, List.getElem_toArray, List.getElem_cons_zero]
              refine' wpAnyH_take (i := 1) (v := _) rfl (by kernel_rfl) (by kernel_rfl) (by kernel_rfl) (fun _ _ _ h => h) (Or.inl ⟨by rfl, ?hy19⟩) hHeld ?hr19
              case hy19 => (intro w hSw; (try dsimp only at hSw); go_simp; (try with_reducible rfl))
              simp only [Act.put, List.setIfInBounds_toArray, List.set_cons_zero, List.set_cons_succ, List.getElem_toArray, List.getElem_cons_zero, List.getElem_cons_succ]
              refine' wpAnyH_take (i := 2) (v := _) rfl (by kernel_rfl) (by kernel_rfl) (by kernel_rfl) (fun _ _ _ h => h) (Or.inl ⟨by rfl, ?hy20⟩) hHeld ?hr20
              case hy20 => (intro w hSw; (try dsimp only at hSw); go_simp; (try with_reducible rfl))
              simp only [Act.put, List.setIfInBounds_toArray, List.set_cons_zero, List.set_cons_succ, List.getElem_toArray, List.getElem_cons_zero, List.getElem_cons_succ]
              refine' wpAnyH_take (i := 3) (v := _) rfl (by kernel_rfl) (by kernel_rfl) (by kernel_rfl) (fun _ _ _ h => h) (Or.inl ⟨by rfl, ?hy21⟩) hHeld ?hr21
              case hy21 => (intro w hSw; (try dsimp only at hSw); go_simp; (try with_reducible rfl))
              simp only [Act.put, List.setIfInBounds_toArray, List.set_cons_zero, List.set_cons_succ, List.getElem_toArray, List.getElem_cons_zero, List.getElem_cons_succ]
              refine' wpAnyH_take (i := 4) (v := _) rfl (by kernel_rfl) (by kernel_rfl) (by kernel_rfl) (fun _ _ _ h => h) (Or.inl ⟨by rfl, ?hy22⟩) hHeld ?hr22
              case hy22 => (intro w hSw; (try dsimp only at hSw); go_simp; (try with_reducible rfl))
              simp only [Act.put, List.setIfInBounds_toArray, List.set_cons_zero, List.set_cons_succ, List.getElem_toArray, List.getElem_cons_zero, List.getElem_cons_succ]
              refine' wpAnyH_take (i := 5) (v := _) rfl (by kernel_rfl) (by kernel_rfl) (by kernel_rfl) (fun _ _ _ h => h) (Or.inl ⟨by rfl, ?hy23⟩) hHeld ?hr23
              case hy23 => (intro w hSw; (try dsimp only at hSw); go_simp; (try with_reducible rfl))
              simp only [Act.put, List.setIfInBounds_toArray, List.set_cons_zero, List.set_cons_succ, List.getElem_toArray, List.getElem_cons_zero, List.getElem_cons_succ]
              refine' wpAnyH_take (i := 6) (v := _) rfl (by kernel_rfl) (by kernel_rfl) (by kernel_rfl) (fun _ _ _ h => h) (Or.inl ⟨by rfl, ?hy24⟩) hHeld ?hr24
              case hy24 => (intro w hSw; (try dsimp only at hSw); go_simp; (try with_reducible rfl))
              simp only [Act.put, List.setIfInBounds_toArray, List.set_cons_zero, List.set_cons_succ, List.getElem_toArray, List.getElem_cons_zero, List.getElem_cons_succ]
              refine' wpAnyH_take (i := 7) (v := _) rfl (by kernel_rfl) (by kernel_rfl) (by kernel_rfl) (fun _ _ _ h => h) (Or.inl ⟨by rfl, ?hy25⟩) hHeld ?hr25
              case hy25 => (intro w hSw; (try dsimp only at hSw); go_simp; (try with_reducible rfl))
              simp only [Act.put, List.setIfInBounds_toArray, List.set_cons_zero, List.set_cons_succ, List.getElem_toArray, List.getElem_cons_zero, List.getElem_cons_succ]
              refine' wpAnyH_take (i := 8) (v := _) rfl (by kernel_rfl) (by kernel_rfl) (by kernel_rfl) (fun _ _ _ h => h) (Or.inl ⟨by rfl, ?hy26⟩) hHeld ?hr26
              case hy26 => (intro w hSw; (try dsimp only at hSw); go_simp; (try with_reducible rfl))
              simp only [Act.put, List.setIfInBounds_toArray, List.set_cons_zero, List.set_cons_succ, List.getElem_toArray, List.getElem_cons_zero, List.getElem_cons_succ]
              refine' wpAnyH_take (i := 9) (v := _) rfl (by kernel_rfl) (by kernel_rfl) (by kernel_rfl) (fun _ _ _ h => h) (Or.inl ⟨by rfl, ?hy27⟩) hHeld ?hr27
              case hy27 => (intro w hSw; (try dsimp only at hSw); go_simp; (try with_reducible rfl))
              simp only [Act.put, List.setIfInBounds_toArray, List.set_cons_zero, List.set_cons_succ, List.getElem_toArray, List.getElem_cons_zero, List.getElem_cons_succ]
              refine' wpAnyH_take (i := 10) (v := _) rfl (by kernel_rfl) (by kernel_rfl) (by kernel_rfl) (fun _ _ _ h => h) (Or.inl ⟨by rfl, ?hy28⟩) hHeld ?hr28
              case hy28 => (intro w hSw; (try dsimp only at hSw); go_simp; (try with_reducible rfl))
              simp only [Act.put, List.setIfInBounds_toArray, List.set_cons_zero, List.set_cons_succ, List.getElem_toArray, List.getElem_cons_zero, List.getElem_cons_succ]
              refine' wpAnyH_take (i := 11) (v := _) rfl (by kernel_rfl) (by kernel_rfl) (by kernel_rfl) (fun _ _ _ h => h) (Or.inl ⟨by rfl, ?hy29⟩) hHeld ?hr29
              case hy29 => (intro w hSw; (try dsimp only at hSw); go_simp; (try with_reducible rfl))
              simp only [Act.put, List.setIfInBounds_toArray, List.set_cons_zero, List.set_cons_succ, List.getElem_toArray, List.getElem_cons_zero, List.getElem_cons_succ]
              refine' wpAnyH_take (i := 12) (v := _) rfl (by kernel_rfl) (by kernel_rfl) (by kernel_rfl) (fun _ _ _ h => h) (Or.inl ⟨by rfl, ?hy30⟩) hHeld ?hr30
              case hy30 => (intro w hSw; (try dsimp only at hSw); go_simp; (try with_reducible rfl))
              simp only [Act.put, List.setIfInBounds_toArray, List.set_cons_zero, List.set_cons_succ, List.getElem_toArray, List.getElem_cons_zero, List.getElem_cons_succ]
              refine' wpAnyH_take (i := 13) (v := _) rfl (by kernel_rfl) (by kernel_rfl) (by kernel_rfl) (fun _ _ _ h => h) (Or.inl ⟨by rfl, ?hy31⟩) hHeld ?hr31
              case hy31 => (intro w hSw; (try dsimp only at hSw); go_simp; (try with_reducible rfl))
              simp only [Act.put, List.setIfInBounds_toArray, List.set_cons_zero, List.set_cons_succ, List.getElem_toArray, List.getElem_cons_zero, List.getElem_cons_succ]
              refine' wpAnyH_take (i := 14) (v := _) rfl (by kernel_rfl) (by kernel_rfl) (by kernel_rfl) (fun _ _ _ h => h) (Or.inl ⟨by rfl, ?hy32⟩) hHeld ?hr32
              case hy32 => (intro w hSw; (try dsimp only at hSw); go_simp; (try with_reducible rfl))
              simp only [Act.put, List.setIfInBounds_toArray, List.set_cons_zero, List.set_cons_succ, List.getElem_toArray, List.getElem_cons_zero, List.getElem_cons_succ]
              refine wpAnyH_ready (rs := [15]) (by kernel_rfl) (by simp) (AllReadyH.cons rfl (fun K hK => ?_) AllReadyH.nil)
              go_simp
              refine (rowOk_gk (w.heap.size + 1) w.heap.size b (off + j) w _ (rowX rows j) _ _ _ (hx j hlt) (by omega) (by omega) (by assumption)).mono ?_; rintro e wk ⟨rfl, hk⟩
              go_wp2_with fail
              refine hK.out _ _ (by assumption) (fun hHeld => ?_)
              clear hK K
              (try simp only [Act.put, List.setIfInBounds_toArray, List.set_cons_zero, List.set_cons_succ])
              refine' wpAnyH_take (i := 16) (v := _) rfl (by kernel_rfl) (by kernel_rfl) (by kernel_rfl) (fun _ _ _ h => h) (Or.inl ⟨by rfl, ?hy33⟩) hHeld ?hr33
              case hy33 => (intro w hSw; (try dsimp only at hSw); go_simp; (try with_reducible rfl))
              simp only [Act.put, List.setIfInBounds_toArray, List.set_cons_zero, List.set_cons_succ, List.getElem_toArray, List.getElem_cons_zero, List.getElem_cons_succ]
              refine' wpAnyH_take (i := 17) (v := _) rfl (by kernel_rfl) (by kernel_rfl) (by kernel_rfl) (fun _ _ _ h => h) (Or.inl ⟨by rfl, ?hy34⟩) hHeld ?hr34
              case hy34 => (intro w hSw; (try dsimp only at hSw); go_simp; (try with_reducible rfl))
              simp only [Act.put, List.setIfInBounds_toArray, List.set_cons_zero, List.set_cons_succ, List.getElem_toArray, List.getElem_cons_zero, List.getElem_cons_succ]
              refine wpAnyH_done (by kernel_rfl) ?_ _
              refine NoPanic.normal ?_
              have kb2 := hHeld.2.2.2.2.2
              have hG2 : GrN _ w.heap.size cols (.slice (some ⟨b, off, none⟩) rows.length c) := ⟨Nat.lt_of_lt_of_le (Nat.lt_succ_self _) hHeld.2.2.2.2.1, hHeld.1, hHeld.2.1⟩
              clear hHeld
              go_wp2
              go_roundw
              case rel => exact ⟨j + 1, by go_num, by omega, hall', hG2, kb2⟩
              case measure => simp [intOf]; omega
          · have b1 : (((rowX rows j).length : Int) != cols) = true := by simp [e2]
            have hno : gridOkB cols rows = false := gridOk_no hlt (by show fitB cols (rowX rows j) = false; unfold fitB; rw [decide_eq_false e2, Bool.false_and])
            clear hall
            go_wp2
            refine wp_region_noPanic ?_
            refine wp_region_held_drew (S := (fun W => W.cell? ⟨w.heap.size, 0, none⟩ = some (.int .i64 cols) ∧ W.cell? ⟨w.heap.size, 1, none⟩ = some (.slice (some ⟨b, off, none⟩) rows.length c) ∧ W.cell? ⟨b, off + j, none⟩ = some (.slice aj (rowX rows j).length cj) ∧ KG (w.heap.size + 1) w (.slice aj (rowX rows j).length cj) (rowX rows j) W)) (by kernel_rfl) ⟨c0, c1, c2, kg.drew⟩ (fun hHeld => ?_)
            refine' wpAnyH_take (i := 0) (v := _) rfl (by kernel_rfl) (by kernel_rfl) (by kernel_rfl) (fun _ _ _ h => h) (Or.inl ⟨by rfl, ?hy35⟩) hHeld ?hr35
            case hy35 => (intro w hSw; (try dsimp only at hSw); go_simp; (try with_reducible rfl))
            simp only [Act.put, List.setIfInBounds_toArray, List.set_cons_zero, List.set_cons_succ, List.getElem_toArray, List.getElem_cons_zero]
            refine' wpAnyH_take (i := 1) (v := _) rfl (by kernel_rfl) (by kernel_rfl) (by kernel_rfl) (fun _ _ _ h => h) (Or.inl ⟨by rfl, ?hy36⟩) hHeld ?hr36
            case hy36 => (intro w hSw; (try dsimp only at hSw); go_simp; (try with_reducible rfl))
            simp only [Act.put, List.setIfInBounds_toArray, List.set_cons_zero, List.set_cons_succ, List.getElem_toArray, List.getElem_cons_zero, List.getElem_cons_succ]
            refine' wpAnyH_take (i := 2) (v := _) rfl (by kernel_rfl) (by kernel_rfl) (by kernel_rfl) (fun _ _ _ h => h) (Or.inl ⟨by rfl, ?hy37⟩) hHeld ?hr37
            case hy37 => (intro w hSw; (try dsimp only at hSw); go_simp; (try with_reducible rfl))
            simp only [Act.put, List.setIfInBounds_toArray, List.set_cons_zero, List.set_cons_succ, List.getElem_toArray, List.getElem_cons_zero, List.getElem_cons_succ]
            refine' wpAnyH_take (i := 3) (v := _) rfl (by kernel_rfl) (by kernel_rfl) (by kernel_rfl) (fun _ _ _ h => h) (Or.inl ⟨by rfl, ?hy38⟩) hHeld ?hr38
            case hy38 => (intro w hSw; (try dsimp only at hSw); go_simp; (try with_reducible rfl))
            simp only [Act.put, List.setIfInBounds_toArray, List.set_cons_zero, List.set_cons_succ, List.getElem_toArray, List.getElem_cons_zero, List.getElem_cons_succ]
            refine' wpAnyH_take (i := 4) (v := _) rfl (by kernel_rfl) (by kernel_rfl) (by kernel_rfl) (fun _ _ _ h => h) (Or.inl ⟨by rfl, ?hy39⟩) hHeld ?hr39
            case hy39 => (intro w hSw; (try dsimp only at hSw); go_simp; (try with_reducible rfl))
            simp only [Act.put, List.setIfInBounds_toArray, List.set_cons_zero, List.set_cons_succ, List.getElem_toArray, List.getElem_cons_zero, List.getElem_cons_succ]
            refine' wpAnyH_take (i := 5) (v := _) rfl (by kernel_rfl) (by kernel_rfl) (by kernel_rfl) (fun _ _ _ h => h) (Or.inl ⟨by rfl, ?hy40⟩) hHeld ?hr40
            case hy40 => (intro w hSw; (try dsimp only at hSw); go_simp; (try with_reducible rfl))
            simp only [Act.put, List.setIfInBounds_toArray, List.set_cons_zero, List.set_cons_succ, List.getElem_toArray, List.getElem_cons_zero, List.getElem_cons_succ]
            refine' wpAnyH_take (i := 6) (v := _) rfl (by kernel_rfl) (by kernel_rfl) (by kernel_rfl) (fun _ _ _ h => h) (Or.inl ⟨by rfl, ?hy41⟩) hHeld ?hr41
            case hy41 => (intro w hSw; (try dsimp only at hSw); go_simp; (try with_reducible rfl))
            simp only [Act.put, List.setIfInBounds_toArray, List.set_cons_zero, List.set_cons_succ, List.getElem_toArray, List.getElem_cons_zero, List.getElem_cons_succ]
            refine' wpAnyH_take (i := 7) (v := _) rfl (by kernel_rfl) (by kernel_rfl) (by kernel_rfl) (fun _ _ _ h => h) (Or.inl ⟨by rfl, ?hy42⟩) hHeld ?hr42
            case hy42 => (intro w hSw; (try dsimp only at hSw); go_simp; (try with_reducible rfl))
            simp only [Act.put, List.setIfInBounds_toArray, List.set_cons_zero, List.set_cons_succ, List.getElem_toArray, List.getElem_cons_zero, List.getElem_cons_succ]
            refine' wpAnyH_take (i := 8) (v := _) rfl (by kernel_rfl) (by kernel_rfl) (by kernel_rfl) (fun _ _ _ h => h) (Or.inl ⟨by rfl, ?hy43⟩) hHeld ?hr43
            case hy43 => (intro w hSw; (try dsimp only at hSw); go_simp; (try with_reducible rfl))
            simp only [Act.put, List.setIfInBounds_toArray, List.set_cons_zero, List.set_cons_succ, List.getElem_toArray, List.getElem_cons_zero, List.getElem_cons_succ]
            refine' wpAnyH_take (i := 9) (v := _) rfl (by kernel_rfl) (by kernel_rfl) (by kernel_rfl) (fun _ _ _ h => h) (Or.inl ⟨by rfl, ?hy44⟩) hHeld ?hr44
            case hy44 => (intro w hSw; (try dsimp only at hSw); go_simp; (try with_reducible rfl))
            simp only [Act.put, List.setIfInBounds_toArray, List.set_cons_zero, List.set_cons_succ, List.getElem_toArray, List.getElem_cons_zero, List.getElem_cons_succ]
            refine wpAnyH_take (i := 10) (v := undef) rfl (by kernel_rfl) (by kernel_rfl) (by kernel_rfl) (fun _ _ _ h => h) (Or.inr ⟨by rfl, rfl⟩) hHeld ?_
            simp only [Act.put, List.setIfInBounds_toArray, List.set_cons_zero, List.set_cons_succ, List.getElem_toArray, List.getElem_cons_zero, List.getElem_cons_succ]
            refine wpAnyH_take (i := 11) (v := undef) rfl (by kernel_rfl) (by kernel_rfl) (by kernel_rfl) (fun _ _ _ h => h) (Or.inr ⟨by rfl, rfl⟩) hHeld ?_
            simp only [Act.put, List.setIfInBounds_toArray, List.set_cons_zero, List.set_cons_succ, List.getElem_toArray, List.getElem_cons_zero, List.getElem_cons_succ]
            refine wpAnyH_take (i := 12) (v := undef) rfl (by kernel_rfl) (by kernel_rfl) (by kernel_rfl) (fun _ _ _ h => h) (Or.inr ⟨by rfl, rfl⟩) hHeld ?_
            simp only [Act.put, List.setIfInBounds_toArray, List.set_cons_zero, List.set_cons_succ, List.getElem_toArray, List.getElem_cons_zero, List.getElem_cons_succ]
            refine wpAnyH_take (i := 13) (v := undef) rfl (by kernel_rfl) (by kernel_rfl) (by kernel_rfl) (fun _ _ _ h => h) (Or.inr ⟨by rfl, rfl⟩) hHeld ?_
            simp only [Act.put, List.setIfInBounds_toArray, List.set_cons_zero, List.set_cons_succ, List.getElem_toArray, List.getElem_cons_zero, List.getElem_cons_succ]
            refine wpAnyH_take (i := 14) (v := undef) rfl (by kernel_rfl) (by kernel_rfl) (by kernel_rfl) (fun _ _ _ h => h) (Or.inr ⟨by rfl, rfl⟩) hHeld ?_
            simp only [Act.put, List.setIfInBounds_toArray, List.set_cons_zero, List.set_cons_succ, List.getElem_toArray, List.getElem_cons_zero, List.getElem_cons_succ]
            refine wpAnyH_take (i := 15) (v := undef) rfl (by kernel_rfl) (by kernel_rfl) (by kernel_rfl) (fun _ _ _ h => h) (Or.inr ⟨by rfl, rfl⟩) hHeld ?_
            simp only [Act.put, List.setIfInBounds_toArray, List.set_cons_zero, List.set_cons_succ, List.getElem_toArray, List.getElem_cons_zero, List.getElem_cons_succ]
            refine wpAnyH_take (i := 16) (v := undef) rfl (by kernel_rfl) (by kernel_rfl) (by kernel_rfl) (fun _ _ _ h => h) (Or.inr ⟨by rfl, rfl⟩) hHeld ?_
            simp only [Act.put, List.setIfInBounds_toArray, List.set_cons_zero, List.set_cons_succ, List.getElem_toArray, List.getElem_cons_zero, List.getElem_cons_succ]
            refine' wpAnyH_take (i := 17) (v := _) rfl (by kernel_rfl) (by kernel_rfl) (by kernel_rfl) (fun _ _ _ h => h) (Or.inl ⟨by rfl, ?hy45⟩) hHeld ?hr45
            case hy45 => (intro w hSw; (try dsimp only at hSw); go_simp; (try with_reducible rfl))
            simp only [Act.put, List.setIfInBounds_toArray, List.set_cons_zero, List.set_cons_succ, List.getElem_toArray, List.getElem_cons_zero, List.getElem_cons_succ]
            refine wpAnyH_done (by kernel_rfl) ?_ _
            refine NoPanic.normal ?_
            have kb2 := hHeld.2.2.2.2.2
            clear hHeld
            go_wp2
            go_ret
            first | exact ⟨ret_bool hno.symm, kb2⟩ | exact ⟨rfl, kb2⟩
        · have hjn : j = rows.length := by omega
          have hji : ¬ (j : Int) < (rows.length : Int) := by omega
          subst hjn
          have hyes : gridOkB cols rows = true := (gridOk_iff cols rows).2 ⟨h1, ⟨hn1, hn2⟩, hall.out⟩
          clear hall hv hin hs
          go_wp2
          go_ret
          first | exact ⟨ret_bool hyes.symm, kb⟩ | exact ⟨rfl, kb⟩
    · have hno := gridOk_len (cols := cols) hn
      clear hs hr
      by_cases h0 : rows.length < 1
      · have hi : (rows.length : Int) < 1 := by omega
        go_enter Tryd.func20, Tryd.ntmps20
        go_wp2_with (go_at_call 43; refine (hin _).mono ?_; rintro e w1 ⟨rfl, hw⟩; subst hw)
        go_ret
        first | exact ⟨ret_bool hno.symm, hbB⟩ | exact ⟨rfl, hbB⟩
      · have hi : ¬ (rows.length : Int) < 1 := by omega
        have hi2 : 30 < (rows.length : Int) := by omega
        go_enter Tryd.func20, Tryd.ntmps20
        go_wp2_with (go_at_call 43; refine (hin _).mono ?_; rintro e w1 ⟨rfl, hw⟩; subst hw)
        go_ret
        first | exact ⟨ret_bool hno.symm, hbB⟩ | exact ⟨rfl, hbB⟩
  · have e1 : decide ((1 : Int) ≤ cols ∧ cols ≤ 60) = false := decide_eq_false h1
    rw [e1] at hin
    have hno := gridOk_cols (rows := rows) h1
    clear e1 h1 hs hr
    go_enter Tryd.func20, Tryd.ntmps20
    go_wp2_with (go_at_call 43; refine (hin _).mono ?_; rintro e w1 ⟨rfl, hw⟩; subst hw)
    go_ret
    first | exact ⟨ret_bool hno.symm, hbB⟩ | exact ⟨rfl, hbB⟩
end Go.Proofs.YtmmmglblkampcaaDoor
namespace Go.Proofs.YtmmmglblkampcaaDoor
open Go.ChangeShapes Go.WideShapes Go.ChangeAt Go.RowKit
set_option maxHeartbeats 4000000 in
theorem l5Told_any (cols : Int) (v : Value) (rows : List (List Ce)) (top bottom n : Int) (s : St) (w : World) (hv : SlG w v rows) (hl : rows.length ≤ 1048576) (hx : ∀ i, i < rows.length → (rowX rows i).length ≤ 1048576) :
    Calls Tryd.prog 45 #[gridV cols v, .int .i64 top, .int .i64 bottom, .int .i64 n, stV s] w fun e w' => e = .returned (.bool (toldB cols rows top bottom n s)) ∧ Below w.heap.size w w' := by
  have hb1 := bal' w (Obj.cells #[.int .i64 cols, v] 26)
  have hG := GrN.new w cols v 26
  have e1 : (w.alloc (Obj.cells #[.int .i64 cols, v] 26)).heap.size = w.heap.size + 1 := by simp
  have hb2 := hb1.trans ((bal' (w.alloc (Obj.cells #[.int .i64 cols, v] 26)) (Obj.cells #[.int .i64 s.fore, .int .i64 s.back, .bool s.bold, .bool s.under, .bool s.turned] 28)).mono hb1.size)
  have hG1 := hG.below (bal' _ (Obj.cells #[.int .i64 s.fore, .int .i64 s.back, .bool s.bold, .bool s.under, .bool s.turned] 28))
  have hS1 := StAt.new (w.alloc (Obj.cells #[.int .i64 cols, v] 26)) s 28
  rw [e1] at hS1
  have hv1 := hv.below hb2
  have hok := fun W h => specGridOk_any cols v rows W h hl hx
  have hst := fun W => specStyleOk_any s W
  have hi1 := fun W => l1In_any top 0 bottom W
  have hi2 := fun W => l1In_any n 0 1000 W
  obtain ⟨a, c, vs, rfl, _⟩ := id hv
  unfold gridV stV at *
  clear hv hG hb1 e1
  have hT : Hid (toldB cols rows top bottom n s = (gridOkB cols rows && (s.ok && (decide (0 ≤ top ∧ top ≤ bottom) && (decide (bottom < rows.length) && decide (0 ≤ n ∧ n ≤ 1000)))))) := rfl
  generalize toldB cols rows top bottom n s = t at *
  go_enter Tryd.func45, Tryd.ntmps45
  obtain ⟨_, g0, g1⟩ := id hG1
  go_wp2_with fail
  refine (hok _ hv1).mono ?_
  rintro e w2 ⟨rfl, hw2⟩
  have hG2 := hG1.below hw2
  have hS2 := hS1.below hw2
  have hb3 := hb2.trans (hw2.mono hb2.size)
  clear hG1 hS1 hb2 hw2 hv1 hok g0 g1
  obtain ⟨_, g0, g1⟩ := id hG2
  obtain ⟨_, ⟨c0, c1, c2, c3, c4⟩, _⟩ := id hS2
  cases h1 : gridOkB cols rows
  · rw [h1] at hT
    go_wp2
    go_ret
    exact ⟨ret_bool (by rw [hT.out]; rfl), hb3⟩
  · rw [h1] at hT
    go_wp2_with fail
    refine (hst _).mono ?_
    rintro e w3 ⟨rfl, hw3⟩
    have hG3 := hG2.below hw3
    have hb4 := hb3.trans (hw3.mono hb3.size)
    clear hG2 hS2 hb3 hw3 hst g0 g1 c0 c1 c2 c3 c4
    obtain ⟨_, g0, g1⟩ := id hG3
    cases h2 : s.ok
    · rw [h2] at hT
      go_wp2
      go_ret
      exact ⟨ret_bool (by rw [hT.out]; rfl), hb4⟩
    · rw [h2] at hT
      go_wp2_with fail
      refine (hi1 _).mono ?_
      rintro e w4 ⟨rfl, hw⟩
      subst hw
      cases h3 : decide (0 ≤ top ∧ top ≤ bottom)
      · rw [h3] at hT
        go_wp2
        go_ret
        exact ⟨ret_bool (by rw [hT.out]; rfl), hb4⟩
      · rw [h3] at hT
        by_cases h4 : bottom < (rows.length : Int)
        · have h4d : decide (bottom < (rows.length : Int)) = true := decide_eq_true h4
          rw [h4d] at hT
          go_wp2_with fail
          refine (hi2 _).mono ?_
          rintro e w5 ⟨rfl, hw⟩
          subst hw
          go_wp2
          go_ret
          exact ⟨ret_bool (by rw [hT.out]; simp), hb4⟩
        · have h4d : decide (bottom < (rows.length : Int)) = false := decide_eq_false h4
          rw [h4d] at hT
          go_wp2
          go_ret
          exact ⟨ret_bool (by rw [hT.out]; simp), hb4⟩
end Go.Proofs.YtmmmglblkampcaaDoor
namespace Go.Proofs.YtmmmglblkampcaaDoor
open Go.ChangeShapes Go.WideShapes Go.ChangeAt Go.RowKit
def upC (cols : Int) (rows : List (List Ce)) (t b n : Int) (s : St) : Int := if toldB cols rows t b n s = true then cols else 0
def upR (cols : Int) (rows : List (List Ce)) (t b n : Int) (s : St) (m : Int) : List (List Ce) := if toldB cols rows t b n s = true then moveR cols.toNat rows t.toNat b.toNat m s else []
theorem told_iff {cols : Int} {rows : List (List Ce)} {t b n : Int} {s : St} (h : toldB cols rows t b n s = true) : (gridOkB cols rows = true ∧ s.ok = true) ∧ 0 ≤ t ∧ t ≤ b ∧ b < rows.length ∧ 0 ≤ n ∧ n ≤ 1000 := by
  unfold toldB at h
  simp only [Bool.and_eq_true, decide_eq_true_eq] at h
  obtain ⟨h1, h2, ⟨h3, h4⟩, h5, h6, h7⟩ := h
  exact ⟨⟨h1, h2⟩, h3, h4, h5, h6, h7⟩
theorem fitB_len {cols : Int} {r : List Ce} (h : fitB cols r = true) : (r.length : Int) = cols := by
  unfold fitB at h
  rw [Bool.and_eq_true, decide_eq_true_eq] at h
  exact h.1
theorem GrW.lower {w w' : World} {B K : Nat} {cols : Int} {v : Value} (h : GrW w B cols v) (hb : Below K w w') (hlt : B < K) : GrW w' B cols v := by
  have hc : ∀ k, w'.cell? ⟨B, k, none⟩ = w.cell? ⟨B, k, none⟩ := fun k => World.cell?_of_block (w := w) (hb.block B hlt)
  have hz : ∀ k, w'.frozen? ⟨B, k, none⟩ = w.frozen? ⟨B, k, none⟩ := fun k => World.frozen?_of_block (w := w) (hb.block B hlt)
  refine ⟨Nat.lt_of_lt_of_le h.1 hb.size, ?_, ?_⟩
  · rw [hc, hc]; exact h.2.1
  · rw [hz, hz]; exact h.2.2
theorem slSh {w : World} {v : Value} {rows : List (List Ce)} (h : SlG w v rows) : ∃ a n c, v = Value.slice a n c := by
  obtain ⟨a, c, vs, rfl, _⟩ := h
  exact ⟨_, _, _, rfl⟩
set_option maxHeartbeats 8000000 in
set_option maxRecDepth 20000 in
theorem specDown_any (cols : Int) (v : Value) (rows : List (List Ce)) (t b n : Int) (s : St) (w : World) (hv : SlG w v rows) (hl : rows.length ≤ 1048576) (hx : ∀ i, i < rows.length → (rowX rows i).length ≤ 1048576) :
    Calls Tryd.prog 17 #[gridV cols v, .int .i64 t, .int .i64 b, .int .i64 n, stV s] w fun e w' => ∃ u, e = .returned (gridV (upC cols rows t b n s) u) ∧ OwnG w' w.heap.size w'.heap.size u (upR cols rows t b n s (-n)) ∧ Below w.heap.size w w' := by
  have hG0 := GrN.new w cols v 26
  have hb1 := bal' w (Obj.cells #[.int .i64 cols, v] 26)
  have e1 : (w.alloc (Obj.cells #[.int .i64 cols, v] 26)).heap.size = w.heap.size + 1 := by simp
  have htold := fun W h => l5Told_any cols v rows t b n s W h hl hx
  have hcopy := fun W (h : SlG W v rows) h1 h2 h3 => l5Copy_any cols v rows W h h1 h2 h3
  have hv1 := hv.below hb1
  obtain ⟨pa, pc, pvs, rfl, _⟩ := id hv
  unfold gridV stV at *
  generalize hw1 : w.alloc (Obj.cells #[.int .i64 cols, .slice pa rows.length pc] 26) = w1 at *
  have hS1 := StAt.new w1 s 28
  have hb2 := bal' w1 (Obj.cells #[.int .i64 s.fore, .int .i64 s.back, .bool s.bold, .bool s.under, .bool s.turned] 28)
  have e2 : (w1.alloc (Obj.cells #[.int .i64 s.fore, .int .i64 s.back, .bool s.bold, .bool s.under, .bool s.turned] 28)).heap.size = w.heap.size + 2 := by simp; omega
  rw [e1] at hS1
  have hv2 := hv1.below hb2
  have hG2 := hG0.below hb2
  generalize hw2 : w1.alloc (Obj.cells #[.int .i64 s.fore, .int .i64 s.back, .bool s.bold, .bool s.under, .bool s.turned] 28) = w2 at *
  have hR3 := GrW.new w2 0 (.slice none 0 0) 26
  have hb3 := bal' w2 (Obj.cells #[Value.int IntKind.i64 0, Value.slice none 0 0] 26)
  rw [e2] at hR3
  have hv3 := hv2.below hb3
  have hG3 := hG2.below hb3
  have hS3 := hS1.below hb3
  have kb3 := hb1.trans ((hb2.trans (hb3.mono hb2.size)).mono hb1.size)
  clear hv hv1 hv2 hG0 hG2 hS1 hb1 hb2 hb3
  subst hw2; subst hw1
  clear e1 e2
  obtain ⟨_, g0, g1⟩ := id hG3
  obtain ⟨_, ⟨c0, c1, c2, c3, c4⟩, _⟩ := id hS3
  go_enter Tryd.func17, Tryd.ntmps17
  go_wp2_with fail
  refine (htold _ hv3).mono ?_
  rintro e w4 ⟨rfl, hb⟩
  have hR4 := hR3.below hb
  have hv4 := hv3.below hb
  have hG4 := hG3.below hb
  have hS4 := hS3.below hb
  have kb4 := kb3.trans (hb.mono kb3.size)
  clear hR3 hv3 hG3 hS3 kb3 hb htold g0 g1 c0 c1 c2 c3 c4
  obtain ⟨_, ⟨d0, d1⟩, ⟨y0, y1⟩⟩ := id hR4
  cases ht : toldB cols rows t b n s
  · have hC : Hid (upC cols rows t b n s = 0) := by show _ = _; unfold upC; rw [ht]; rfl
    have hR : Hid (upR cols rows t b n s (-n) = []) := by show _ = _; unfold upR; rw [ht]; rfl
    have kF := (hR4.put2 0 (.slice none 0 0)).2.1
    have hbF := kb4.grown (putG2_grown w4 (w.heap.size + 2) 0 (.slice none 0 0)) (by have := hR4.1; omega) (fun g e => by cases e; omega)
    obtain ⟨f0, f1⟩ := kF
    simp only [putG2] at f0 f1 hbF
    clear ht hcopy hv4 hG4 hS4 hR4 kb4
    go_wp2
    exact bodyPost_ret (v := .agg #[.int .i64 0, .slice none 0 0]) (by simp [results, Tryd.results17, go_sem, f0, f1]) rfl ⟨_, by rw [hC.out], by rw [hR.out]; exact ownG_none _ _ _, hbF⟩
  · obtain ⟨⟨hg, hs⟩, h0t, htb, hbr, hn⟩ := told_iff ht
    obtain ⟨⟨hc1, hc2⟩, ⟨hr1, hr2⟩, hfit⟩ := (gridOk_iff cols rows).1 hg
    obtain ⟨cn, rfl⟩ : ∃ k : Nat, cols = k := ⟨cols.toNat, by omega⟩
    obtain ⟨tn, rfl⟩ : ∃ k : Nat, t = k := ⟨t.toNat, by omega⟩
    obtain ⟨bn, rfl⟩ : ∃ k : Nat, b = k := ⟨b.toNat, by omega⟩
    have hC : Hid (upC cn rows tn bn n s = (cn : Int)) := by show _ = _; unfold upC; rw [ht]; rfl
    have hR : Hid (upR cn rows tn bn n s (-n) = moveR cn rows tn bn (-n) s) := by show _ = _; unfold upR; rw [ht]; simp
    have hmv := fun Bk base B v' vs' W h1 h2 h3 h4 h5 => l5Move_any Bk base B cn v' vs' rows tn bn (-n) s W h1 h2 h3 h4 h5 (by omega) (by omega) (by omega) (by omega) (by omega)
    unfold stV at hmv
    have hfl : ∀ i, i < rows.length → ((rowX rows i).length : Int) = cn := fun i hi => fitB_len (hfit i hi)
    have hcp := hcopy _ hv4 (by omega) (by omega) (fun i hi => by have := hfl i hi; omega) (fun i hi e => by have := hfl i hi; rw [e] at this; simp at this; omega)
    clear ht hcopy hfit hfl
    obtain ⟨_, g0, g1⟩ := id hG4
    go_wp2_with fail
    refine hcp.mono ?_
    rintro e w5 ⟨u, rfl, hu, hb⟩
    have hR5 := hR4.below hb
    have hS5 := hS4.below hb
    have kb5 := kb4.trans (hb.mono kb4.size)
    have hs45 := hb.size
    have kb4s := hR4.1
    obtain ⟨ua, un, uc, rfl⟩ := slSh (SlG.of_own hu)
    have hO6 := GrW.new w5 (cn : Int) (.slice ua un uc) 26
    have hal := bal' w5 (Obj.cells #[Value.int IntKind.i64 cn, Value.slice ua un uc] 26)
    have hlt6 : (w5.alloc (Obj.cells #[Value.int IntKind.i64 cn, Value.slice ua un uc] 26)).heap.size = w5.heap.size + 1 := by simp
    have hR6 := hR5.below hal
    have hS6 := hS5.below hal
    obtain ⟨vs, hu5⟩ := hu.v
    have hu6 : OwnV (w5.alloc (Obj.cells #[Value.int IntKind.i64 cn, Value.slice ua un uc] 26)) w4.heap.size w5.heap.size (.slice ua un uc) vs rows := hu5.below hal
    have hub : (Value.slice ua un uc).ownBlock ≠ some w5.heap.size := fun e => by have := (hu.lt _ e).2; omega
    have kb6 := kb5.trans (hal.mono kb5.size)
    clear hR4 hS4 hG4 hv4 kb4 hcp hb hR5 hS5 kb5 hal hu hu5 g0 g1 d0 d1 y0 y1
    have hmv6 := hmv _ _ _ _ _ _ hO6 hu6 hub (by omega) (by omega)
    clear hmv hO6 hu6 hub hs45
    obtain ⟨_, ⟨c0, c1, c2, c3, c4⟩, _⟩ := id hS6
    go_wp2_with fail
    refine hmv6.mono ?_
    rintro e w7 ⟨rfl, hO7, hu7, hb⟩
    have hs47 : w.heap.size + 2 < w4.heap.size := by have := kb4s; omega
    have hR7 := hR6.lower hb hs47
    have kb7 := kb6.trans (hb.mono (by omega))
    have kF := (hR7.put2 cn (.slice ua un uc)).2.1
    have hgF := putG2_grown w7 (w.heap.size + 2) cn (.slice ua un uc)
    have hoF := (hu7.kept hgF (fun g e => by cases e; omega)).up hgF.size
    have hs7 := kb7.size
    have hbF := kb7.grown hgF (by omega) (fun g e => by cases e; omega)
    obtain ⟨f0, f1⟩ := kF
    obtain ⟨_, ⟨d0, d1⟩, ⟨y0, y1⟩⟩ := hR7
    obtain ⟨_, ⟨p0, p1⟩, _⟩ := hO7
    simp only [putG2] at f0 f1 hoF hbF
    clear hR6 hS6 kb6 hb hmv6 hgF kb7 hu7 c0 c1 c2 c3 c4
    go_wp2
    exact bodyPost_ret (v := .agg #[.int .i64 cn, .slice ua un uc]) (by simp [results, Tryd.results17, go_sem, f0, f1]) rfl ⟨_, by rw [hC.out], by rw [hR.out]; exact hoF.low (by omega), hbF⟩
end Go.Proofs.YtmmmglblkampcaaDoor
namespace Go.Proofs.YtmmmglblkampcaaDoor
open Go.ChangeShapes Go.WideShapes Go.ChangeAt Go.RowKit
theorem down_way (cols : Nat) (rows : List (List Ce)) (t b n m k : Nat) (s : St) (hf : ∀ i, i < rows.length → (rowX rows i).length = cols) (htb : t ≤ b) (hb : b < rows.length) (hm : m = b + 1 - t) (hk : k = min n m) :
    blankedR (turnR rows t m (m - k)) t k s = moveR cols rows t b (-(n : Int)) s := ext_rowX _ _ (by rw [blankedR_len, turnR_len, moveR_len]) fun i hi => by
  rw [blankedR_len, turnR_len] at hi
  rw [blankedR_at _ _ _ _ _ (by rw [turnR_len]; exact hi), turnR_at _ _ _ _ _ hi, moveR_at _ _ _ _ _ _ _ hi, hf _ (turnI_lt (n := rows.length) (by omega) (by omega) hi)]
  by_cases c : t ≤ i ∧ i ≤ b
  · rw [if_pos c]
    by_cases d : i < t + k
    · rw [if_pos (by omega), if_neg (by omega)]
    · rw [if_neg (by omega), if_pos (by omega)]
      unfold turnI
      rw [if_pos (by omega), if_neg (by omega)]
      congr 1; omega
  · rw [if_neg c, if_neg (by omega)]
    unfold turnI
    rw [if_neg (by omega)]
set_option maxHeartbeats 8000000 in
set_option maxRecDepth 20000 in
theorem lowerRows_any (cols base B g N cap a m c nn : Nat) (vs : List Value) (rows : List (List Ce)) (s : St) (w : World) (h : OwnV w base B (.slice (some ⟨g, 0, none⟩) N cap) vs rows) (hgB : g < B) (hB : B ≤ w.heap.size) (hn : rows.length = N) (hf : ∀ i, i < N → (rowX rows i).length = cols) (hc1 : 1 ≤ cols) (hc2 : cols ≤ 60) (ham : a + m ≤ N) (hm0 : 0 < m) (hc : m ≤ c) (hl : N ≤ 30) :
    Calls Tryd.prog 39 #[.slice (some ⟨g, a, none⟩) m c, .int .i64 (nn : Int), stV s] w fun e w' => e = .returned (.tuple #[]) ∧ (∃ vs', OwnV w' base B (.slice (some ⟨g, 0, none⟩) N cap) vs' (moveR cols rows a (a + m - 1) (-(nn : Int)) s)) ∧ GrB base B w w' := by
  have hb1 := bal' w (Obj.cells #[.int .i64 s.fore, .int .i64 s.back, .bool s.bold, .bool s.under, .bool s.turned] 28)
  have hS1 := StAt.new w s 28
  have h1 := h.below hb1
  have hgl := (World.ownsRow.lt h.2.1 g rfl).1
  have hg1 := GrB.of_below (lo := base) (hi := B) hb1
  unfold stV
  obtain ⟨R, hR⟩ : ∃ R, Hid (moveR cols rows a (a + m - 1) (-(nn : Int)) s = R) := ⟨_, rfl⟩
  rw [hR.out]
  have hz1 : w.heap.size < (w.alloc (Obj.cells #[.int .i64 s.fore, .int .i64 s.back, .bool s.bold, .bool s.under, .bool s.turned] 28)).heap.size := by simp
  rcases Nat.lt_or_ge m nn with hnm | hnm
  · have hnm1 : (m : Int) < (nn : Int) := by omega
    have hnm2 : ¬ (nn : Int) ≤ (m : Int) := by omega
    have hnm3 : (m : Int) ≤ (nn : Int) := by omega
    have hw := down_way cols rows a (a + m - 1) nn m m s (fun i hi => hf i (by omega)) (by omega) (by omega) (by omega) (by omega)
    rw [hR.out, Nat.sub_self] at hw
    replace hw := (show Hid _ from hw)
    have htu := turn_all base B g N cap a m 0 c vs rows _ h1 hn ham hm0 (by omega) hc (by omega)
    have hm0i : (0 : Int) ≤ (m : Int) := by omega
    have hmc : (m : Int) ≤ (c : Int) := by omega
    clear hR h
    have hbk := fun ad c' W v6 (hv6 : OwnV W base B (.slice (some ⟨g, 0, none⟩) N cap) v6 (turnR rows a m 0)) (hW : B ≤ W.heap.size) (had : 0 < m → ad = some ⟨g, a, none⟩) => blankRows_any B base g N cap (a) m c' ad v6 (turnR rows a m 0) s W hv6 (by rw [turnR_len]; exact hn) (by omega) had hW (fun i hi => by
      rw [turnR_at _ _ _ _ _ (by omega), hf _ (turnI_lt (a := a) (m := m) (k := 0) (n := N) (by omega) (by omega) (by omega))]
      omega) (by omega)
    unfold stV at hbk
    go_enter Tryd.func39, Tryd.ntmps39
    go_wp2_with fail
    refine htu.mono ?_
    rintro e6 w6 ⟨rfl, ⟨vs6, hu6⟩, hg6⟩
    have hgb := GrB.of_grown (lo := g) (hi := g + 1) hg6 (fun g' e => by cases e; omega)
    have hS6 := hS1.gr hgb (.inr (by omega))
    have hgB6 := hg1.trans (GrB.of_grown (lo := base) (hi := B) hg6 (fun g' e => by cases e; exact ⟨hgl, hgB⟩))
    have hB6 : B ≤ w6.heap.size := Nat.le_trans hB hgB6.size
    clear hgb hg6 htu hb1 hS1 h1 hg1 hz1
    have hkd := (hS6.below (bdr w6)).2.1
    have hk0 : (0 : Int) ≤ (m : Int) := by omega
    have hkm : (m : Int) ≤ (m : Int) := by omega
    have hkN : (m : Int) ≤ (c : Int) := by omega
    clear hf hnm hn hl ham hc hc1 hc2 hnm3
    have hw0 : IntKind.i64.wrap 0 = 0 := by simp [IntKind.wrap_i64]
    go_wp2
    go_region_held3 (fun W => W.cell? ⟨w.heap.size, 0, none⟩ = some (.int .i64 s.fore) ∧ W.cell? ⟨w.heap.size, 1, none⟩ = some (.int .i64 s.back) ∧ W.cell? ⟨w.heap.size, 2, none⟩ = some (.bool s.bold) ∧ W.cell? ⟨w.heap.size, 3, none⟩ = some (.bool s.under) ∧ W.cell? ⟨w.heap.size, 4, none⟩ = some (.bool s.turned)) (with_reducible assumption)
      (first
        | (go_at_call 65; refine (hbk _ _ w6.drew vs6 (hu6.below (bdr _)) hB6 (fun _ => rfl)).mono ?_; rintro e7 w7 ⟨rfl, hu7, hg7⟩; have hkc := ((hS6.below (bdr w6)).gr hg7 (.inr hB)).2.1))
    have hgb7 := (hgB6.trans (GrB.of_below (lo := base) (hi := B) (bdr w6))).trans hg7
    go_wp2
    refine bodyPost_end (results_none rfl _ _ _) rfl ?_
    exact ⟨rfl, ⟨vs6, by rw [← hw.out]; exact hu7⟩, hgb7⟩
  · have hnm1 : (nn : Int) ≤ (m : Int) := by omega
    have hnm2 : ¬ (m : Int) < (nn : Int) := by omega
    obtain ⟨q, hq⟩ : ∃ q : Nat, q = m - nn := ⟨_, rfl⟩
    have hqi : (m : Int) - (nn : Int) = (q : Int) := by omega
    have hqw : IntKind.i64.wrap ((m : Int) - (nn : Int)) = (q : Int) := by rw [hqi]; simp [IntKind.wrap_i64]; omega
    have hqq := hqw
    rw [hqi] at hqq
    have hw := down_way cols rows a (a + m - 1) nn m nn s (fun i hi => hf i (by omega)) (by omega) (by omega) (by omega) (by omega)
    rw [hR.out, ← hq] at hw
    replace hw := (show Hid _ from hw)
    have htu := turn_all base B g N cap a m q c vs rows _ h1 hn ham hm0 (by omega) hc (by omega)
    have hm0i : (0 : Int) ≤ (m : Int) := by omega
    have hmc : (m : Int) ≤ (c : Int) := by omega
    clear hR h
    have hbk := fun ad c' W v6 (hv6 : OwnV W base B (.slice (some ⟨g, 0, none⟩) N cap) v6 (turnR rows a m q)) (hW : B ≤ W.heap.size) (had : 0 < nn → ad = some ⟨g, a, none⟩) => blankRows_any B base g N cap (a) nn c' ad v6 (turnR rows a m q) s W hv6 (by rw [turnR_len]; exact hn) (by omega) had hW (fun i hi => by
      rw [turnR_at _ _ _ _ _ (by omega), hf _ (turnI_lt (a := a) (m := m) (k := q) (n := N) (by omega) (by omega) (by omega))]
      omega) (by omega)
    unfold stV at hbk
    clear hq
    go_enter Tryd.func39, Tryd.ntmps39
    go_wp2_with fail
    refine htu.mono ?_
    rintro e6 w6 ⟨rfl, ⟨vs6, hu6⟩, hg6⟩
    have hgb := GrB.of_grown (lo := g) (hi := g + 1) hg6 (fun g' e => by cases e; omega)
    have hS6 := hS1.gr hgb (.inr (by omega))
    have hgB6 := hg1.trans (GrB.of_grown (lo := base) (hi := B) hg6 (fun g' e => by cases e; exact ⟨hgl, hgB⟩))
    have hB6 : B ≤ w6.heap.size := Nat.le_trans hB hgB6.size
    clear hgb hg6 htu hb1 hS1 h1 hg1 hz1
    have hkd := (hS6.below (bdr w6)).2.1
    have hk0 : (0 : Int) ≤ (nn : Int) := by omega
    have hkm : (nn : Int) ≤ (m : Int) := by omega
    have hkN : (nn : Int) ≤ (c : Int) := by omega
    clear hf hnm hn hl ham hc hc1 hc2 hnm2
    go_wp2
    go_region_held3 (fun W => W.cell? ⟨w.heap.size, 0, none⟩ = some (.int .i64 s.fore) ∧ W.cell? ⟨w.heap.size, 1, none⟩ = some (.int .i64 s.back) ∧ W.cell? ⟨w.heap.size, 2, none⟩ = some (.bool s.bold) ∧ W.cell? ⟨w.heap.size, 3, none⟩ = some (.bool s.under) ∧ W.cell? ⟨w.heap.size, 4, none⟩ = some (.bool s.turned)) (with_reducible assumption)
      (first
        | (go_at_call 65; refine (hbk _ _ w6.drew vs6 (hu6.below (bdr _)) hB6 (fun _ => rfl)).mono ?_; rintro e7 w7 ⟨rfl, hu7, hg7⟩; have hkc := ((hS6.below (bdr w6)).gr hg7 (.inr hB)).2.1))
    have hgb7 := (hgB6.trans (GrB.of_below (lo := base) (hi := B) (bdr w6))).trans hg7
    go_wp2
    refine bodyPost_end (results_none rfl _ _ _) rfl ?_
    exact ⟨rfl, ⟨vs6, by rw [← hw.out]; exact hu7⟩, hgb7⟩
end Go.Proofs.YtmmmglblkampcaaDoor
namespace Go.Proofs.YtmmmglblkampcaaDoor
open Go.ChangeShapes Go.WideShapes Go.ChangeAt Go.RowKit
theorem GrW.gr {lo hi B : Nat} {w w' : World} {cols : Int} {v : Value} (h : GrW w B cols v) (hg : GrB lo hi w w') (hne : B < lo ∨ hi ≤ B) : GrW w' B cols v := by
  obtain ⟨h0, ⟨c0, c1⟩, z0, z1⟩ := h
  refine ⟨Nat.lt_of_lt_of_le h0 hg.size, ⟨?_, ?_⟩, ?_, ?_⟩
  all_goals first | rw [hg.cell h0 hne] | rw [hg.frozen h0 hne]
  all_goals assumption
theorem upR_bd (cols : Int) (rows : List (List Ce)) (t b n : Int) (s : St) (m : Int) : (upR cols rows t b n s m).length ≤ 60 ∧ ∀ i, i < (upR cols rows t b n s m).length → (rowX (upR cols rows t b n s m) i).length ≤ 60 := by
  unfold upR
  cases ht : toldB cols rows t b n s
  · rw [if_neg (by decide)]; exact ⟨by simp, fun i hi => by simp at hi⟩
  · rw [if_pos rfl]
    obtain ⟨⟨hg, _⟩, h0t, htb, hbr, _⟩ := told_iff ht
    obtain ⟨⟨hc1, hc2⟩, ⟨hr1, hr2⟩, hfit⟩ := (gridOk_iff cols rows).1 hg
    have hfl : ∀ i, i < rows.length → ((rowX rows i).length : Int) = cols := fun i hi => fitB_len (hfit i hi)
    refine ⟨by rw [moveR_len]; omega, fun i hi => ?_⟩
    rw [moveR_len] at hi
    rw [moveR_at _ _ _ _ _ _ _ hi]
    split
    · split
      · have := hfl ((i : Int) + m).toNat (by omega); omega
      · rw [rowL_len]; omega
    · have := hfl i hi; omega
set_option maxHeartbeats 8000000 in
set_option maxRecDepth 20000 in
theorem implDown_any (cols : Int) (v : Value) (rows : List (List Ce)) (t b n : Int) (s : St) (w : World) (hSp : SpansAt w) (hv : SlG w v rows) (hl : rows.length ≤ 1048576) (hx : ∀ i, i < rows.length → (rowX rows i).length ≤ 1048576) :
    Calls Tryd.prog 9 #[gridV cols v, .int .i64 t, .int .i64 b, .int .i64 n, stV s] w fun e w' => ∃ u, e = .returned (gridV (upC cols rows t b n s) u) ∧ OwnG w' w.heap.size w'.heap.size u (upR cols rows t b n s (-n)) ∧ Below w.heap.size w w' := by
  have hG0 := GrN.new w cols v 26
  have hb1 := bal' w (Obj.cells #[.int .i64 cols, v] 26)
  have e1 : (w.alloc (Obj.cells #[.int .i64 cols, v] 26)).heap.size = w.heap.size + 1 := by simp
  have htold := fun W hS h => scrollOk_any cols v rows t b n s W hS h hl hx
  have hcopy := fun W (h : SlG W v rows) h1 h2 => copiedG_any v rows W h h1 h2
  have hv1 := hv.below hb1
  obtain ⟨pa, pc, pvs, rfl, _⟩ := id hv
  unfold gridV stV at *
  generalize hw1 : w.alloc (Obj.cells #[.int .i64 cols, .slice pa rows.length pc] 26) = w1 at *
  have hS1 := StAt.new w1 s 28
  have hb2 := bal' w1 (Obj.cells #[.int .i64 s.fore, .int .i64 s.back, .bool s.bold, .bool s.under, .bool s.turned] 28)
  have e2 : (w1.alloc (Obj.cells #[.int .i64 s.fore, .int .i64 s.back, .bool s.bold, .bool s.under, .bool s.turned] 28)).heap.size = w.heap.size + 2 := by simp; omega
  rw [e1] at hS1
  have hv2 := hv1.below hb2
  have hG2 := hG0.below hb2
  generalize hw2 : w1.alloc (Obj.cells #[.int .i64 s.fore, .int .i64 s.back, .bool s.bold, .bool s.under, .bool s.turned] 28) = w2 at *
  have hR3 := GrW.new w2 0 (.slice none 0 0) 26
  have hb3 := bal' w2 (Obj.cells #[Value.int IntKind.i64 0, Value.slice none 0 0] 26)
  rw [e2] at hR3
  have hv3 := hv2.below hb3
  have hG3 := hG2.below hb3
  have hS3 := hS1.below hb3
  have kb3 := hb1.trans ((hb2.trans (hb3.mono hb2.size)).mono hb1.size)
  have hSp3 := hSp.below kb3 hSp.lt
  clear hv hv1 hv2 hG0 hG2 hS1 hb1 hb2 hb3
  subst hw2; subst hw1
  clear e1 e2
  obtain ⟨_, g0, g1⟩ := id hG3
  obtain ⟨_, ⟨c0, c1, c2, c3, c4⟩, _⟩ := id hS3
  go_enter Tryd.func9, Tryd.ntmps9
  go_wp2_with fail
  refine (htold _ hSp3 hv3).mono ?_
  rintro e w4 ⟨rfl, hb⟩
  have hR4 := hR3.below hb
  have hv4 := hv3.below hb
  have hG4 := hG3.below hb
  have hS4 := hS3.below hb
  have kb4 := kb3.trans (hb.mono kb3.size)
  clear hR3 hv3 hG3 hS3 kb3 hb htold g0 g1 c0 c1 c2 c3 c4 hSp3
  obtain ⟨_, ⟨d0, d1⟩, ⟨y0, y1⟩⟩ := id hR4
  cases ht : toldB cols rows t b n s
  · have hC : Hid (upC cols rows t b n s = 0) := by show _ = _; unfold upC; rw [ht]; rfl
    have hR : Hid (upR cols rows t b n s (-n) = []) := by show _ = _; unfold upR; rw [ht]; rfl
    have kF := (hR4.put2 0 (.slice none 0 0)).2.1
    have hbF := kb4.grown (putG2_grown w4 (w.heap.size + 2) 0 (.slice none 0 0)) (by have := hR4.1; omega) (fun g e => by cases e; omega)
    obtain ⟨f0, f1⟩ := kF
    simp only [putG2] at f0 f1 hbF
    clear ht hcopy hv4 hG4 hS4 hR4 kb4
    go_wp2
    exact bodyPost_ret (v := .agg #[.int .i64 0, .slice none 0 0]) (by simp [results, Tryd.results9, go_sem, f0, f1]) rfl ⟨_, by rw [hC.out], by rw [hR.out]; exact ownG_none _ _ _, hbF⟩
  · obtain ⟨⟨hg, hs⟩, h0t, htb, hbr, hn⟩ := told_iff ht
    obtain ⟨⟨hc1, hc2⟩, ⟨hr1, hr2⟩, hfit⟩ := (gridOk_iff cols rows).1 hg
    obtain ⟨cn, rfl⟩ : ∃ k : Nat, cols = k := ⟨cols.toNat, by omega⟩
    obtain ⟨tn, rfl⟩ : ∃ k : Nat, t = k := ⟨t.toNat, by omega⟩
    obtain ⟨bn, rfl⟩ : ∃ k : Nat, b = k := ⟨b.toNat, by omega⟩
    obtain ⟨nn, rfl⟩ : ∃ k : Nat, n = k := ⟨n.toNat, by omega⟩
    have hfl : ∀ i, i < rows.length → ((rowX rows i).length : Int) = cn := fun i hi => fitB_len (hfit i hi)
    obtain ⟨e, he⟩ : ∃ e : Nat, e = bn + 1 := ⟨_, rfl⟩
    obtain ⟨m, hm⟩ : ∃ m : Nat, m = e - tn := ⟨_, rfl⟩
    have hC : Hid (upC cn rows tn bn nn s = (cn : Int)) := by show _ = _; unfold upC; rw [ht]; rfl
    have hR : Hid (upR cn rows tn bn nn s (-(nn : Int)) = moveR cn rows tn bn (-(nn : Int)) s) := by
      show _ = _
      unfold upR; rw [ht, if_pos rfl]
      simp only [Int.toNat_natCast]
    have hcp := hcopy _ hv4 (by omega) (fun i hi => by have := hfl i hi; omega)
    have hrz := fun vs W (hu : OwnV W w4.heap.size W.heap.size (.slice (some ⟨w4.heap.size, 0, none⟩) rows.length rows.length) vs rows) (hlt : w4.heap.size < W.heap.size) => lowerRows_any cn w4.heap.size W.heap.size w4.heap.size rows.length rows.length tn m (rows.length - tn) nn vs rows s W hu hlt (Nat.le_refl _) rfl (fun i hi => by have := hfl i hi; omega) (by omega) (by omega) (by omega) (by omega) (by omega) (by omega)
    rw [show tn + m - 1 = bn by omega] at hrz
    obtain ⟨_, g0, g1⟩ := id hG4
    clear ht hcopy hfit hg hfl
    go_wp2_with fail
    refine hcp.mono ?_
    rintro e5 w5 ⟨vs, rfl, hu, hb⟩
    have hR5 := hR4.below hb
    have hS5 := hS4.below hb
    have hG5 := hG4.below hb
    have kb5 := kb4.trans (hb.mono kb4.size)
    have hs4 := hR4.1
    have hlu := (World.ownsRow.lt hu.2.1 w4.heap.size rfl).2
    clear hR4 hS4 hG4 hv4 kb4 hcp hb d0 d1 y0 y1 g0 g1
    have hbe : (bn : Int) + 1 = (e : Int) := by omega
    have hbw : IntKind.i64.wrap ((bn : Int) + 1) = (e : Int) := by rw [hbe]; simp [IntKind.wrap_i64]; omega
    have hte : (tn : Int) ≤ (e : Int) := by omega
    have heN : (e : Int) ≤ (rows.length : Int) := by omega
    have ht0 : (0 : Int) ≤ (tn : Int) := by omega
    have hNt : ¬ (rows.length - tn = 0) := by omega
    have hNt2 : ¬ (rows.length = tn) := by omega
    have hem : e - tn = m := by omega
    have hrd := hrz vs w5.drew (hu.below (bdr _)) hlu
    unfold stV at hrd
    have hkd := (hS5.below (bdr w5)).2.1
    have hs4p : w.heap.size + 1 < w4.heap.size := by omega
    clear hm he hrz hu hbe
    go_wp2
    go_region_held3 (fun W => W.cell? ⟨w.heap.size + 1, 0, none⟩ = some (.int .i64 s.fore) ∧ W.cell? ⟨w.heap.size + 1, 1, none⟩ = some (.int .i64 s.back) ∧ W.cell? ⟨w.heap.size + 1, 2, none⟩ = some (.bool s.bold) ∧ W.cell? ⟨w.heap.size + 1, 3, none⟩ = some (.bool s.under) ∧ W.cell? ⟨w.heap.size + 1, 4, none⟩ = some (.bool s.turned)) (with_reducible assumption)
      (first
        | (go_at_call 39; refine hrd.mono ?_; rintro e7 w7 ⟨rfl, ⟨vs7, hu7⟩, hg7⟩; have hkc := ((hS5.below (bdr w5)).gr hg7 (.inl hs4p)).2.1))
    have hgb7 := (GrB.of_below (lo := w4.heap.size) (hi := w5.heap.size) (bdr w5)).trans hg7
    have hR7 := GrW.gr hR5 hgb7 (.inl hs4)
    have hG7 := hG5.gr hgb7 (.inl (by omega))
    have kb7 := kb5.trans (hgb7.to_below (by omega) kb5.size)
    have kF := (hR7.put2 cn (.slice (some ⟨w4.heap.size, 0, none⟩) rows.length rows.length)).2.1
    have hgF := putG2_grown w7 (w.heap.size + 2) cn (.slice (some ⟨w4.heap.size, 0, none⟩) rows.length rows.length)
    have hoF := (((hu7.up hgb7.size).g).kept hgF (fun g e => by cases e; omega)).up hgF.size
    have hs7 := kb7.size
    have hbF := kb7.grown hgF (by omega) (fun g e => by cases e; omega)
    obtain ⟨f0, f1⟩ := kF
    obtain ⟨_, ⟨d0, d1⟩, ⟨y0, y1⟩⟩ := hR7
    obtain ⟨_, g0, g1⟩ := hG7
    simp only [putG2] at f0 f1 hoF hbF
    clear hS5 hG5 kb5 hR5 hgb7 hgF kb7 hu7 hg7 hkd hkc hrd
    go_wp2
    exact bodyPost_ret (v := .agg #[.int .i64 cn, .slice (some ⟨w4.heap.size, 0, none⟩) rows.length rows.length]) (by simp [results, Tryd.results9, go_sem, f0, f1]) rfl ⟨_, by rw [hC.out], by rw [hR.out]; exact hoF.low (by omega), hbF⟩
end Go.Proofs.YtmmmglblkampcaaDoor
namespace Go.Proofs.YtmmmglblkampcaaDoor
open Go.ChangeShapes Go.WideShapes Go.ChangeAt Go.RowKit
set_option maxHeartbeats 8000000 in
set_option maxRecDepth 20000 in
theorem walk_FnExactDown' (w : World) (cols : Int) (v : Value) (rows : List (List Ce)) (a0 a1 a2 : Int) (s : St) (C : Int) (Y : List (List Ce)) (hv : SlG w v rows) (hl0 : rows.length ≤ maxLen) (hx0 : ∀ i, i < rows.length → (rowX rows i).length ≤ maxLen) (hYn : Y.length ≤ 60) (hYx : ∀ i, i < Y.length → (rowX Y i).length ≤ 60)
    (hsp : ∀ v W, SlG W v rows → rows.length ≤ 1048576 → (∀ i, i < rows.length → (rowX rows i).length ≤ 1048576) → Calls Tryd.prog 17 #[gridV cols v, .int .i64 a0, .int .i64 a1, .int .i64 a2, stV s] W fun e w' => ∃ u, e = .returned (gridV C u) ∧ OwnG w' W.heap.size w'.heap.size u Y ∧ Below W.heap.size W w')
    (him : ∀ v W, Below w.heap.size w W → SlG W v rows → rows.length ≤ 1048576 → (∀ i, i < rows.length → (rowX rows i).length ≤ 1048576) → Calls Tryd.prog 9 #[gridV cols v, .int .i64 a0, .int .i64 a1, .int .i64 a2, stV s] W fun e w' => ∃ u, e = .returned (gridV C u) ∧ OwnG w' W.heap.size w'.heap.size u Y ∧ Below W.heap.size W w') :
    Calls Tryd.prog 5 #[gridV cols v, .int .i64 a0, .int .i64 a1, .int .i64 a2, stV s] w fun e w' => e = .returned (.bool true) ∧ Below w.heap.size w w' := by
  have hz := fun W h => szGrid_any cols v rows 1048576 W h hl0 hx0 (by decide)
  have hb1 := bal' w (Obj.cells #[.int .i64 cols, v] 46)
  have hG1 := GrN.new w cols v 46
  have e1 : (w.alloc (Obj.cells #[.int .i64 cols, v] 46)).heap.size = w.heap.size + 1 := by simp
  have hA1 := StAt.new (w.alloc (Obj.cells #[.int .i64 cols, v] 46)) s 47
  have hb2 := bal' (w.alloc (Obj.cells #[.int .i64 cols, v] 46)) (Obj.cells #[.int .i64 s.fore, .int .i64 s.back, .bool s.bold, .bool s.under, .bool s.turned] 47)
  have e2 : ((w.alloc (Obj.cells #[.int .i64 cols, v] 46)).alloc (Obj.cells #[.int .i64 s.fore, .int .i64 s.back, .bool s.bold, .bool s.under, .bool s.turned] 47)).heap.size = w.heap.size + 2 := by simp
  have hGA := hG1.below hb2
  have kbA := hb1.trans (hb2.mono hb1.size)
  rw [e1] at hA1
  obtain ⟨p0, p1, p2, rfl⟩ := slShp hv
  unfold gridV stV at *
  clear hb1 hG1 hb2 e1
  by_cases hL : szG rows 1048576 < 0
  · have hzv : Hid (szG rows 1048576 = -1) := by
      show _ = _
      unfold szG at *
      split at hL
      · rfl
      · omega
    have hvA := hv.below kbA
    have c0 := hGA.2.1
    have c1 := hGA.2.2
    clear hsp him
    go_enter Tryd.func5, Tryd.ntmps5
    go_wp2_with fail
    refine (hz _ hvA).mono ?_
    rintro e w1 ⟨rfl, hb⟩
    go_wp2
    go_ret
    exact ⟨rfl, kbA.trans (hb.mono kbA.size)⟩
  · have hfit : rows.length ≤ 1048576 ∧ (∀ i, i < rows.length → (rowX rows i).length ≤ 1048576) ∧ sumG rows rows.length ≤ 1048576 := by
      unfold szG at hL
      split at hL
      · exact absurd (by decide) hL
      · rename_i m hm; exact ⟨(leftG_le hm).2.1, (leftG_le hm).2.2, by have := leftG_sum hm; omega⟩
    obtain ⟨hl, hx, hsx⟩ := hfit
    have hsY : sumG Y Y.length ≤ 1048576 := by have := sumG_bd Y 60 hYx Y.length (Nat.le_refl _); have := Nat.mul_le_mul_right 60 hYn; omega
    have hsp' := fun v W h => hsp v W h hl hx
    have him' := fun v W hb h => him v W hb h hl hx
    have hto := fun W h => toGrid_copy cols (.slice p0 p1 p2) rows W h (by omega) (fun i hi => by have := hx i hi; omega)
    have hts := fun W => toStyle_any s W
    have heY := fun va vb W h1 h2 => eqGrid_same C va vb Y W h1 h2 (by omega) (fun i hi => by have := hYx i hi; omega)
    have heX := fun va vb W h1 h2 => eqGrid_same cols va vb rows W h1 h2 (by omega) (fun i hi => by have := hx i hi; omega)
    have hmX := fun lo hi v W h => markGrid_own lo hi cols v 1 rows W h (by decide) hsx hl
    have hmY := fun lo hi v W h => markGrid_own lo hi C v 1 Y W h (by decide) hsY (by omega)
    have hhY := fun v W h => heldGrid_marks C v 1 Y W h (by decide) hsY (by omega)
    have hqX : ¬ (((1 + 7 * sumG rows rows.length : Nat) : Int) < 0) := by omega
    have hqY : ¬ (((1 + 7 * sumG Y Y.length : Nat) : Int) < 0) := by omega
    generalize 1 + 7 * sumG rows rows.length = mX at *
    generalize 1 + 7 * sumG Y Y.length = mY at *
    clear hl0 hx0 hYn hYx hsx hsY hl hx hsp him
    unfold gridV stV at *
    generalize szG rows 1048576 = z at *
    have c0 := hGA.2.1
    have c1 := hGA.2.2
    go_enter Tryd.func5, Tryd.ntmps5
    go_wp2_with fail
    refine (hz _ (hv.below kbA)).mono ?_
    rintro e w1 ⟨rfl, hb⟩
    have hG1 := hGA.below hb
    have hA1 := hA1.below hb
    have kb1 := kbA.trans (hb.mono kbA.size)
    have hs1 := hb.size
    rw [e2] at hs1
    clear hGA kbA hb c0 c1 e2
    have hall : ∀ W, Below w1.heap.size w1 W → (W.cell? ⟨w.heap.size, 0, none⟩ = some (.int .i64 cols) ∧ W.cell? ⟨w.heap.size, 1, none⟩ = some (.slice p0 p1 p2) ∧ W.cell? ⟨w.heap.size + 1, 0, none⟩ = some (.int .i64 s.fore) ∧ W.cell? ⟨w.heap.size + 1, 1, none⟩ = some (.int .i64 s.back) ∧ W.cell? ⟨w.heap.size + 1, 2, none⟩ = some (.bool s.bold) ∧ W.cell? ⟨w.heap.size + 1, 3, none⟩ = some (.bool s.under) ∧ W.cell? ⟨w.heap.size + 1, 4, none⟩ = some (.bool s.turned) ∧ Below w1.heap.size w1 W) := fun W h => ⟨(hG1.below h).2.1, (hG1.below h).2.2, (hA1.below h).2.1.1, (hA1.below h).2.1.2.1, (hA1.below h).2.1.2.2.1, (hA1.below h).2.1.2.2.2.1, (hA1.below h).2.1.2.2.2.2, h⟩
    have halo : ∀ W o, (W.cell? ⟨w.heap.size, 0, none⟩ = some (.int .i64 cols) ∧ W.cell? ⟨w.heap.size, 1, none⟩ = some (.slice p0 p1 p2) ∧ W.cell? ⟨w.heap.size + 1, 0, none⟩ = some (.int .i64 s.fore) ∧ W.cell? ⟨w.heap.size + 1, 1, none⟩ = some (.int .i64 s.back) ∧ W.cell? ⟨w.heap.size + 1, 2, none⟩ = some (.bool s.bold) ∧ W.cell? ⟨w.heap.size + 1, 3, none⟩ = some (.bool s.under) ∧ W.cell? ⟨w.heap.size + 1, 4, none⟩ = some (.bool s.turned) ∧ Below w1.heap.size w1 W) → ((W.alloc o).cell? ⟨w.heap.size, 0, none⟩ = some (.int .i64 cols) ∧ (W.alloc o).cell? ⟨w.heap.size, 1, none⟩ = some (.slice p0 p1 p2) ∧ (W.alloc o).cell? ⟨w.heap.size + 1, 0, none⟩ = some (.int .i64 s.fore) ∧ (W.alloc o).cell? ⟨w.heap.size + 1, 1, none⟩ = some (.int .i64 s.back) ∧ (W.alloc o).cell? ⟨w.heap.size + 1, 2, none⟩ = some (.bool s.bold) ∧ (W.alloc o).cell? ⟨w.heap.size + 1, 3, none⟩ = some (.bool s.under) ∧ (W.alloc o).cell? ⟨w.heap.size + 1, 4, none⟩ = some (.bool s.turned) ∧ Below w1.heap.size w1 (W.alloc o)) := fun W o h => hall _ (h.2.2.2.2.2.2.2.trans ((bal' W o).mono h.2.2.2.2.2.2.2.size))
    have hbA : Below w1.heap.size w1 (w1.alloc (Obj.cells #[.int .i64 0, .slice none 0 0] 26)).drew := (bal' w1 _).trans ((bdr _).mono (bal' w1 _).size)
    have hkA := hall _ hbA
    have hkd := hall _ (bdr w1)
    go_wp2
    rename_i K5 hK5
    have hcut5 : ∀ (j6 j7 j8 j13 j14 j15 j16 j17 j18 j19 j20 j21 j22 j23 j24 j25 j26 j27 j28 j29 j30 j31 j32 j33 j34 j35 j36 j37 j38 j39 j40 j41 j42 j43 j44 j45 j46 j47 j48 j49 j50 j51 j52 j53 j54 j55 j56 j57 j58 j59 j60 j61 j62 j63 j64 j65 j66 j67 j68 j69 j70 j71 j72 j73 j74 j75 j76 j77 j78 j79 j80 j81 j82 j83 j84 j85 j86 j87 j88 j89 j90 j91 : Value) (B0 lo0 hi0 : Nat) (q0 : Option Addr) (q1 q2 : Nat) (W : World), Below w.heap.size w W → GrN W w.heap.size cols (.slice p0 p1 p2) → StAt W (w.heap.size + 1) s → GrN W B0 C (.slice q0 q1 q2) → OwnR W lo0 hi0 (.slice q0 q1 q2) Y → K5 { tmps := #[.agg #[.int .i64 cols, .slice p0 p1 p2], .int .i64 a0, .int .i64 a1, .int .i64 a2, .agg #[.int .i64 s.fore, .int .i64 s.back, .bool s.bold, .bool s.under, .bool s.turned], .pointer (some ⟨w.heap.size, 0, none⟩), j6, j7, j8, .pointer (some ⟨w.heap.size + 1, 0, none⟩), .bool false, .int .i64 z, .pointer (some ⟨B0, 0, none⟩), j13, j14, j15, j16, j17, j18, j19, j20, j21, j22, j23, j24, j25, j26, j27, j28, j29, j30, j31, j32, j33, j34, j35, j36, j37, j38, j39, j40, j41, j42, j43, j44, j45, j46, j47, j48, j49, j50, j51, j52, j53, j54, j55, j56, j57, j58, j59, j60, j61, j62, j63, j64, j65, j66, j67, j68, j69, j70, j71, j72, j73, j74, j75, j76, j77, j78, j79, j80, j81, j82, j83, j84, j85, j86, j87, j88, j89, j90, j91], defers := [] } W := by
      intro j6 j7 j8 j13 j14 j15 j16 j17 j18 j19 j20 j21 j22 j23 j24 j25 j26 j27 j28 j29 j30 j31 j32 j33 j34 j35 j36 j37 j38 j39 j40 j41 j42 j43 j44 j45 j46 j47 j48 j49 j50 j51 j52 j53 j54 j55 j56 j57 j58 j59 j60 j61 j62 j63 j64 j65 j66 j67 j68 j69 j70 j71 j72 j73 j74 j75 j76 j77 j78 j79 j80 j81 j82 j83 j84 j85 j86 j87 j88 j89 j90 j91 B0 lo0 hi0 q0 q1 q2 W5 kb5 hG5 hA5 hR5 hO5
      clear hG1 hA1 kb1 hs1 hkd hkA hbA halo hall
      apply hK5
      clear hK5
      have c0 := hG5.2.1
      have c1 := hG5.2.2
      go_wp2_with fail
      refine (hto _ (hv.below kb5)).mono ?_
      rintro e w6 ⟨ux, rfl, hox, hb⟩
      obtain ⟨x0, x1, x2, rfl⟩ := slShp (SlG.of_own hox)
      have hal := bal' w6 (Obj.cells #[.int .i64 cols, .slice x0 x1 x2] 26)
      have hX6 := GrN.new w6 cols (.slice x0 x1 x2) 26
      have hOX6 := (OwnR.of hox).below hal
      have hbb := hb.trans (hal.mono hb.size)
      have hG6 := hG5.below hbb
      have hA6 := hA5.below hbb
      have hR6 := hR5.below hbb
      have hO6 := hO5.below hbb
      have kb6 := kb5.trans (hbb.mono kb5.size)
      have n1 : w.heap.size + 1 < W5.heap.size := hA5.1
      have n2 : B0 < W5.heap.size := hR5.1
      have n3 : hi0 ≤ W5.heap.size := hO5.2.2
      have n4 := hb.size
      have n5 : w6.heap.size < (w6.alloc (Obj.cells #[.int .i64 cols, .slice x0 x1 x2] 26)).heap.size := by simp
      clear hb hal hbb hox hG5 hA5 hR5 hO5 kb5 c0 c1
      go_wp2
      rename_i K7 hK7
      generalize w6.alloc (Obj.cells #[.int .i64 cols, .slice x0 x1 x2] 26) = W6 at *
      have hX0 := hX6.2.1
      have hX1 := hX6.2.2
      have hall : ∀ W, Below W6.heap.size W6 W → (W.cell? ⟨w6.heap.size, 0, none⟩ = some (.int .i64 cols) ∧ W.cell? ⟨w6.heap.size, 1, none⟩ = some (.slice x0 x1 x2) ∧ W.cell? ⟨w.heap.size + 1, 0, none⟩ = some (.int .i64 s.fore) ∧ W.cell? ⟨w.heap.size + 1, 1, none⟩ = some (.int .i64 s.back) ∧ W.cell? ⟨w.heap.size + 1, 2, none⟩ = some (.bool s.bold) ∧ W.cell? ⟨w.heap.size + 1, 3, none⟩ = some (.bool s.under) ∧ W.cell? ⟨w.heap.size + 1, 4, none⟩ = some (.bool s.turned) ∧ Below W6.heap.size W6 W) := fun W h => ⟨(hX6.below h).2.1, (hX6.below h).2.2, (hA6.below h).2.1.1, (hA6.below h).2.1.2.1, (hA6.below h).2.1.2.2.1, (hA6.below h).2.1.2.2.2.1, (hA6.below h).2.1.2.2.2.2, h⟩
      have halo : ∀ W o, (W.cell? ⟨w6.heap.size, 0, none⟩ = some (.int .i64 cols) ∧ W.cell? ⟨w6.heap.size, 1, none⟩ = some (.slice x0 x1 x2) ∧ W.cell? ⟨w.heap.size + 1, 0, none⟩ = some (.int .i64 s.fore) ∧ W.cell? ⟨w.heap.size + 1, 1, none⟩ = some (.int .i64 s.back) ∧ W.cell? ⟨w.heap.size + 1, 2, none⟩ = some (.bool s.bold) ∧ W.cell? ⟨w.heap.size + 1, 3, none⟩ = some (.bool s.under) ∧ W.cell? ⟨w.heap.size + 1, 4, none⟩ = some (.bool s.turned) ∧ Below W6.heap.size W6 W) → ((W.alloc o).cell? ⟨w6.heap.size, 0, none⟩ = some (.int .i64 cols) ∧ (W.alloc o).cell? ⟨w6.heap.size, 1, none⟩ = some (.slice x0 x1 x2) ∧ (W.alloc o).cell? ⟨w.heap.size + 1, 0, none⟩ = some (.int .i64 s.fore) ∧ (W.alloc o).cell? ⟨w.heap.size + 1, 1, none⟩ = some (.int .i64 s.back) ∧ (W.alloc o).cell? ⟨w.heap.size + 1, 2, none⟩ = some (.bool s.bold) ∧ (W.alloc o).cell? ⟨w.heap.size + 1, 3, none⟩ = some (.bool s.under) ∧ (W.alloc o).cell? ⟨w.heap.size + 1, 4, none⟩ = some (.bool s.turned) ∧ Below W6.heap.size W6 (W.alloc o)) := fun W o h => hall _ (h.2.2.2.2.2.2.2.trans ((bal' W o).mono h.2.2.2.2.2.2.2.size))
      have hbA : Below W6.heap.size W6 (W6.alloc (Obj.cells #[.int .i64 0, .slice none 0 0] 26)).drew := (bal' W6 _).trans ((bdr _).mono (bal' W6 _).size)
      have hkA := hall _ hbA
      have hkd := hall _ (bdr W6)
      have hSX := hOX6.sl
      have hcut7 : ∀ (j6 j7 j8 j15 j16 j17 j18 j19 j20 j21 j22 j23 j24 j25 j26 j27 j28 j29 j30 j31 j32 j33 j34 j35 j36 j37 j38 j39 j40 j41 j42 j43 j44 j45 j46 j47 j48 j49 j50 j51 j52 j53 j54 j55 j56 j57 j58 j59 j60 j61 j62 j63 j64 j65 j66 j67 j68 j69 j70 j71 j72 j73 j74 j75 j76 j77 j78 j79 j80 j81 j82 j83 j84 j85 j86 j87 j88 j89 j90 j91 : Value) (Bg log hig : Nat) (g0 : Option Addr) (g1 g2 : Nat) (W : World), Below w.heap.size w W → GrN W w.heap.size cols (.slice p0 p1 p2) → StAt W (w.heap.size + 1) s → GrN W B0 C (.slice q0 q1 q2) → OwnR W lo0 hi0 (.slice q0 q1 q2) Y → GrN W w6.heap.size cols (.slice x0 x1 x2) → OwnR W W5.heap.size w6.heap.size (.slice x0 x1 x2) rows → GrN W Bg C (.slice g0 g1 g2) → OwnR W log hig (.slice g0 g1 g2) Y → w6.heap.size < log → w6.heap.size < Bg → (Bg < log ∨ hig ≤ Bg) → K7 { tmps := #[.agg #[.int .i64 cols, .slice p0 p1 p2], .int .i64 a0, .int .i64 a1, .int .i64 a2, .agg #[.int .i64 s.fore, .int .i64 s.back, .bool s.bold, .bool s.under, .bool s.turned], .pointer (some ⟨w.heap.size, 0, none⟩), j6, j7, j8, .pointer (some ⟨w.heap.size + 1, 0, none⟩), .bool false, .int .i64 z, .pointer (some ⟨B0, 0, none⟩), .pointer (some ⟨w6.heap.size, 0, none⟩), .pointer (some ⟨Bg, 0, none⟩), j15, j16, j17, j18, j19, j20, j21, j22, j23, j24, j25, j26, j27, j28, j29, j30, j31, j32, j33, j34, j35, j36, j37, j38, j39, j40, j41, j42, j43, j44, j45, j46, j47, j48, j49, j50, j51, j52, j53, j54, j55, j56, j57, j58, j59, j60, j61, j62, j63, j64, j65, j66, j67, j68, j69, j70, j71, j72, j73, j74, j75, j76, j77, j78, j79, j80, j81, j82, j83, j84, j85, j86, j87, j88, j89, j90, j91], defers := [] } W := by
        intro j6 j7 j8 j15 j16 j17 j18 j19 j20 j21 j22 j23 j24 j25 j26 j27 j28 j29 j30 j31 j32 j33 j34 j35 j36 j37 j38 j39 j40 j41 j42 j43 j44 j45 j46 j47 j48 j49 j50 j51 j52 j53 j54 j55 j56 j57 j58 j59 j60 j61 j62 j63 j64 j65 j66 j67 j68 j69 j70 j71 j72 j73 j74 j75 j76 j77 j78 j79 j80 j81 j82 j83 j84 j85 j86 j87 j88 j89 j90 j91 Bg log hig g0 g1 g2 W7 kb7 hG7 hA7 hR7 hO7 hX7 hOX7 hg7 hOg7 m1 m2 m3
        clear hG6 hA6 hR6 hO6 hX6 hOX6 kb6 hkd hkA hbA halo hall hSX hX0 hX1
        apply hK7
        clear hK7
        have c0 := hg7.2.1
        have c1 := hg7.2.2
        have c2 := hR7.2.1
        have c3 := hR7.2.2
        go_wp2_with fail
        refine (heY _ _ _ hOg7.sl hO7.sl).mono ?_
        rintro e w8 ⟨rfl, hb⟩
        have hG8 := hG7.below hb
        have hA8 := hA7.below hb
        have hR8 := hR7.below hb
        have hO8 := hO7.below hb
        have hX8 := hX7.below hb
        have hOX8 := hOX7.below hb
        have hg8 := hg7.below hb
        have hOg8 := hOg7.below hb
        have kb8 := kb7.trans (hb.mono kb7.size)
        clear hG7 hA7 hR7 hO7 hX7 hOX7 hg7 hOg7 kb7 hb c0 c1 c2 c3
        have hall10 : ∀ W, Below w8.heap.size w8 W → (W.cell? ⟨w6.heap.size, 0, none⟩ = some (.int .i64 cols) ∧ W.cell? ⟨w6.heap.size, 1, none⟩ = some (.slice x0 x1 x2) ∧ W.cell? ⟨w.heap.size, 0, none⟩ = some (.int .i64 cols) ∧ W.cell? ⟨w.heap.size, 1, none⟩ = some (.slice p0 p1 p2) ∧ Below w8.heap.size w8 W) := fun W h => ⟨(hX8.below h).2.1, (hX8.below h).2.2, (hG8.below h).2.1, (hG8.below h).2.2, h⟩
        have hkd10 := hall10 _ (bdr w8)
        have hSX := hOX8.sl
        go_wp2
        go_region_held3 (fun W => W.cell? ⟨w6.heap.size, 0, none⟩ = some (.int .i64 cols) ∧ W.cell? ⟨w6.heap.size, 1, none⟩ = some (.slice x0 x1 x2) ∧ W.cell? ⟨w.heap.size, 0, none⟩ = some (.int .i64 cols) ∧ W.cell? ⟨w.heap.size, 1, none⟩ = some (.slice p0 p1 p2) ∧ Below w8.heap.size w8 W) (with_reducible assumption)
          (first
            | (go_at_call 25; refine (hto _ (hv.below (kb8.trans ((bdr w8).mono kb8.size)))).mono ?_; rintro e wa ⟨uy, rfl, hoy, hb⟩; have hba := (bdr w8).trans hb; have hka := hall10 _ hba; obtain ⟨y0, y1, y2, rfl⟩ := slShp (SlG.of_own hoy))
            | (go_at_call 27; refine (heX _ _ _ (hSX.below hba) (SlG.of_own hoy)).mono ?_; rintro e w9 ⟨rfl, hb'⟩; have hbc := hba.trans (hb'.mono hba.size); have hkb := hall10 _ hbc))
        have hG9 := hG8.below hbc
        have hA9 := hA8.below hbc
        have hR9 := hR8.below hbc
        have hO9 := hO8.below hbc
        have hX9 := hX8.below hbc
        have hOX9 := hOX8.below hbc
        have hg9 := hg8.below hbc
        have hOg9 := hOg8.below hbc
        have kb9 := kb8.trans (hbc.mono kb8.size)
        clear hG8 hA8 hR8 hO8 hX8 hOX8 hg8 hOg8 kb8 hb hb' hba hbc hka hkb hkd10 hall10 hSX hoy
        have c0 := hX9.2.1
        have c1 := hX9.2.2
        have c2 := hg9.2.1
        have c3 := hg9.2.2
        have c4 := hR9.2.1
        have c5 := hR9.2.2
        go_wp2_with fail
        refine (hmX _ _ _ _ hOX9).mono ?_
        rintro e wA ⟨rfl, hOXA, hgr⟩
        have hGA := hG9.gr hgr (.inl (by omega))
        have hAA := hA9.grB hgr (.inl (by omega))
        have hRA := hR9.gr hgr (.inl (by omega))
        have hOA := hO9.gr hgr (.inl (by omega))
        have hgA := hg9.gr hgr (.inr (by omega))
        have hOgA := hOg9.gr hgr (.inr (by omega))
        have kbA := kb9.trans (hgr.to_below (by omega) (by have := kb9.size; omega))
        clear hG9 hA9 hR9 hO9 hX9 hOX9 hg9 hOg9 kb9 hgr hOXA c0 c1 c2 c3 c4 c5
        have c0 := hgA.2.1
        have c1 := hgA.2.2
        have c2 := hRA.2.1
        have c3 := hRA.2.2
        go_wp2_with fail
        refine (heY _ _ _ hOgA.sl hOA.sl).mono ?_
        rintro e wB ⟨rfl, hb⟩
        have hGB := hGA.below hb
        have hAB := hAA.below hb
        have hRB := hRA.below hb
        have hOB := hOA.below hb
        have hgB := hgA.below hb
        have hOgB := hOgA.below hb
        have kbB := kbA.trans (hb.mono kbA.size)
        clear hGA hAA hRA hOA hgA hOgA kbA hb c0 c1 c2 c3
        have c0 := hgB.2.1
        have c1 := hgB.2.2
        go_wp2_with fail
        refine (hmY _ _ _ _ hOgB).mono ?_
        rintro e wC ⟨rfl, hOgC, hgr⟩
        have hGC := hGB.gr hgr (.inl (by omega))
        have hAC := hAB.grB hgr (.inl (by omega))
        have hRC := hRB.gr hgr (.inl (by omega))
        have hOC := hOB.gr hgr (.inl (by omega))
        have hgC := hgB.gr hgr m3
        have kbC := kbB.trans (hgr.to_below (by omega) (by have := kbB.size; omega))
        clear hGB hAB hRB hOB hgB hOgB kbB hgr c0 c1
        have c0 := hgC.2.1
        have c1 := hgC.2.2
        go_wp2_with fail
        refine (hhY _ _ hOgC.sl).mono ?_
        rintro e wD ⟨rfl, hb⟩
        have hGD := hGC.below hb
        have hAD := hAC.below hb
        have hRD := hRC.below hb
        have hOD := hOC.below hb
        have hgD := hgC.below hb
        have hOgD := hOgC.below hb
        have kbD := kbC.trans (hb.mono kbC.size)
        clear hGC hAC hRC hOC hgC hOgC kbC hb c0 c1
        have hall : ∀ W, Below wD.heap.size wD W → (W.cell? ⟨w.heap.size, 0, none⟩ = some (.int .i64 cols) ∧ W.cell? ⟨w.heap.size, 1, none⟩ = some (.slice p0 p1 p2) ∧ W.cell? ⟨w.heap.size + 1, 0, none⟩ = some (.int .i64 s.fore) ∧ W.cell? ⟨w.heap.size + 1, 1, none⟩ = some (.int .i64 s.back) ∧ W.cell? ⟨w.heap.size + 1, 2, none⟩ = some (.bool s.bold) ∧ W.cell? ⟨w.heap.size + 1, 3, none⟩ = some (.bool s.under) ∧ W.cell? ⟨w.heap.size + 1, 4, none⟩ = some (.bool s.turned) ∧ Below wD.heap.size wD W) := fun W h => ⟨(hGD.below h).2.1, (hGD.below h).2.2, (hAD.below h).2.1.1, (hAD.below h).2.1.2.1, (hAD.below h).2.1.2.2.1, (hAD.below h).2.1.2.2.2.1, (hAD.below h).2.1.2.2.2.2, h⟩
        have halo : ∀ W o, (W.cell? ⟨w.heap.size, 0, none⟩ = some (.int .i64 cols) ∧ W.cell? ⟨w.heap.size, 1, none⟩ = some (.slice p0 p1 p2) ∧ W.cell? ⟨w.heap.size + 1, 0, none⟩ = some (.int .i64 s.fore) ∧ W.cell? ⟨w.heap.size + 1, 1, none⟩ = some (.int .i64 s.back) ∧ W.cell? ⟨w.heap.size + 1, 2, none⟩ = some (.bool s.bold) ∧ W.cell? ⟨w.heap.size + 1, 3, none⟩ = some (.bool s.under) ∧ W.cell? ⟨w.heap.size + 1, 4, none⟩ = some (.bool s.turned) ∧ Below wD.heap.size wD W) → ((W.alloc o).cell? ⟨w.heap.size, 0, none⟩ = some (.int .i64 cols) ∧ (W.alloc o).cell? ⟨w.heap.size, 1, none⟩ = some (.slice p0 p1 p2) ∧ (W.alloc o).cell? ⟨w.heap.size + 1, 0, none⟩ = some (.int .i64 s.fore) ∧ (W.alloc o).cell? ⟨w.heap.size + 1, 1, none⟩ = some (.int .i64 s.back) ∧ (W.alloc o).cell? ⟨w.heap.size + 1, 2, none⟩ = some (.bool s.bold) ∧ (W.alloc o).cell? ⟨w.heap.size + 1, 3, none⟩ = some (.bool s.under) ∧ (W.alloc o).cell? ⟨w.heap.size + 1, 4, none⟩ = some (.bool s.turned) ∧ Below wD.heap.size wD (W.alloc o)) := fun W o h => hall _ (h.2.2.2.2.2.2.2.trans ((bal' W o).mono h.2.2.2.2.2.2.2.size))
        have hbA : Below wD.heap.size wD (wD.alloc (Obj.cells #[.int .i64 0, .slice none 0 0] 26)).drew := (bal' wD _).trans ((bdr _).mono (bal' wD _).size)
        have hkA := hall _ hbA
        have hkd := hall _ (bdr wD)
        go_wp2
        rename_i K24 hK24
        have hcut24 : ∀ (j6 j7 j8 j19 j20 j21 j22 j23 j24 j25 j26 j27 j28 j29 j30 j31 j32 j33 j34 j35 j36 j37 j38 j39 j40 j41 j42 j43 j44 j45 j46 j47 j48 j49 j50 j51 j52 j53 j54 j55 j56 j57 j58 j59 j60 j61 j62 j63 j64 j65 j66 j67 j68 j69 j70 j71 j72 j73 j74 j75 j76 j77 j78 j79 j80 j81 j82 j83 j84 j85 j86 j87 j88 j89 j90 j91 : Value) (Bh loh hih : Nat) (h0 : Option Addr) (h1 h2 : Nat) (W : World), Below w.heap.size w W → GrN W B0 C (.slice q0 q1 q2) → OwnR W lo0 hi0 (.slice q0 q1 q2) Y → GrN W Bg C (.slice g0 g1 g2) → OwnR W log hig (.slice g0 g1 g2) (marksG 1 Y) → GrN W Bh C (.slice h0 h1 h2) → OwnR W loh hih (.slice h0 h1 h2) Y → K24 { tmps := #[.agg #[.int .i64 cols, .slice p0 p1 p2], .int .i64 a0, .int .i64 a1, .int .i64 a2, .agg #[.int .i64 s.fore, .int .i64 s.back, .bool s.bold, .bool s.under, .bool s.turned], .pointer (some ⟨w.heap.size, 0, none⟩), j6, j7, j8, .pointer (some ⟨w.heap.size + 1, 0, none⟩), .bool false, .int .i64 z, .pointer (some ⟨B0, 0, none⟩), .pointer (some ⟨w6.heap.size, 0, none⟩), .pointer (some ⟨Bg, 0, none⟩), .int .i64 (mX : Int), .int .i64 (mY : Int), .int .i64 (mY : Int), .pointer (some ⟨Bh, 0, none⟩), j19, j20, j21, j22, j23, j24, j25, j26, j27, j28, j29, j30, j31, j32, j33, j34, j35, j36, j37, j38, j39, j40, j41, j42, j43, j44, j45, j46, j47, j48, j49, j50, j51, j52, j53, j54, j55, j56, j57, j58, j59, j60, j61, j62, j63, j64, j65, j66, j67, j68, j69, j70, j71, j72, j73, j74, j75, j76, j77, j78, j79, j80, j81, j82, j83, j84, j85, j86, j87, j88, j89, j90, j91], defers := [] } W := by
          intro j6 j7 j8 j19 j20 j21 j22 j23 j24 j25 j26 j27 j28 j29 j30 j31 j32 j33 j34 j35 j36 j37 j38 j39 j40 j41 j42 j43 j44 j45 j46 j47 j48 j49 j50 j51 j52 j53 j54 j55 j56 j57 j58 j59 j60 j61 j62 j63 j64 j65 j66 j67 j68 j69 j70 j71 j72 j73 j74 j75 j76 j77 j78 j79 j80 j81 j82 j83 j84 j85 j86 j87 j88 j89 j90 j91 Bh loh hih h0 h1 h2 WE kbE hRE hOE hgE hOgE hhE hOhE
          clear hGD hAD hRD hOD hgD hOgD kbD hkd hkA hbA halo hall
          apply hK24
          clear hK24
          have c0 := hhE.2.1
          have c1 := hhE.2.2
          have c2 := hRE.2.1
          have c3 := hRE.2.2
          go_wp2_with fail
          refine (heY _ _ _ hOhE.sl hOE.sl).mono ?_
          rintro e wF ⟨rfl, hb⟩
          have hgF := hgE.below hb
          have hOgF := hOgE.below hb
          have kbF := kbE.trans (hb.mono kbE.size)
          clear hRE hOE hgE hOgE hhE hOhE kbE hb c0 c1 c2 c3
          have c0 := hgF.2.1
          have c1 := hgF.2.2
          go_wp2_with fail
          refine (hhY _ _ hOgF.sl).mono ?_
          rintro e wG ⟨rfl, hb⟩
          go_wp2
          go_ret
          exact ⟨rfl, kbF.trans (hb.mono kbF.size)⟩
        go_region_held3 (fun W => W.cell? ⟨w.heap.size, 0, none⟩ = some (.int .i64 cols) ∧ W.cell? ⟨w.heap.size, 1, none⟩ = some (.slice p0 p1 p2) ∧ W.cell? ⟨w.heap.size + 1, 0, none⟩ = some (.int .i64 s.fore) ∧ W.cell? ⟨w.heap.size + 1, 1, none⟩ = some (.int .i64 s.back) ∧ W.cell? ⟨w.heap.size + 1, 2, none⟩ = some (.bool s.bold) ∧ W.cell? ⟨w.heap.size + 1, 3, none⟩ = some (.bool s.under) ∧ W.cell? ⟨w.heap.size + 1, 4, none⟩ = some (.bool s.turned) ∧ Below wD.heap.size wD W) (first | with_reducible assumption | with_reducible exact halo _ _ (by with_reducible assumption))
          (first
            | (go_at_call 25; refine (hto _ (hv.below (by first | exact kbD.trans ((bdr wD).mono kbD.size) | exact kbD.trans (hbA.mono kbD.size) | exact kbD.trans (hb3'.mono kbD.size) | exact kbD.trans ((hb3'.trans ((bal' w3 (Obj.cells #[.int .i64 0, .slice none 0 0] 26)).mono hb3'.size)).mono kbD.size)))).mono ?_; rintro e w2 ⟨u2, rfl, ho2, hb2⟩; have hb2' : Below wD.heap.size wD w2 := (by first | exact (bdr wD).trans hb2 | exact hbA.trans (hb2.mono hbA.size) | exact hb3'.trans (hb2.mono hb3'.size) | exact (hb3'.trans ((bal' w3 (Obj.cells #[.int .i64 0, .slice none 0 0] 26)).mono hb3'.size)).trans (hb2.mono (hb3'.trans ((bal' w3 (Obj.cells #[.int .i64 0, .slice none 0 0] 26)).mono hb3'.size)).size)); have hk2 := hall _ hb2'; obtain ⟨r0, r1, r2, rfl⟩ := slShp (SlG.of_own ho2))
            | (go_at_call 26; refine (hts _).mono ?_; rintro e w3 ⟨rfl, hb3⟩; have hb3' : Below wD.heap.size wD w3 := (by first | exact (bdr wD).trans hb3 | exact hbA.trans (hb3.mono hbA.size) | exact hb2'.trans (hb3.mono hb2'.size) | exact (hb2'.trans ((bal' w2 (Obj.cells #[.int .i64 0, .slice none 0 0] 26)).mono hb2'.size)).trans (hb3.mono (hb2'.trans ((bal' w2 (Obj.cells #[.int .i64 0, .slice none 0 0] 26)).mono hb2'.size)).size)); have hk3 := hall _ hb3')
            | (go_at_call 9; refine (him' _ _ (by first | exact kbD.trans (hb3'.mono kbD.size) | exact kbD.trans ((hb3'.trans ((bal' w3 (Obj.cells #[.int .i64 0, .slice none 0 0] 26)).mono hb3'.size)).mono kbD.size) | exact kbD.trans (hb2'.mono kbD.size) | exact kbD.trans ((hb2'.trans ((bal' w2 (Obj.cells #[.int .i64 0, .slice none 0 0] 26)).mono hb2'.size)).mono kbD.size)) (by first | exact (SlG.of_own ho2).below hb3 | exact ((SlG.of_own ho2).below (bal' w2 (Obj.cells #[.int .i64 0, .slice none 0 0] 26))).below hb3 | exact ((SlG.of_own ho2).below hb3).below (bal' w3 (Obj.cells #[.int .i64 0, .slice none 0 0] 26)) | exact SlG.of_own ho2 | exact (SlG.of_own ho2).below (bal' w2 (Obj.cells #[.int .i64 0, .slice none 0 0] 26)))).mono ?_; rintro e w4 ⟨u4, rfl, ho4, hb4⟩; obtain ⟨q0, q1, q2, rfl⟩ := slShp (SlG.of_own ho4)
               have hb4' : Below wD.heap.size wD w4 := (by first | exact hb3'.trans (hb4.mono hb3'.size) | exact (hb3'.trans ((bal' w3 (Obj.cells #[.int .i64 0, .slice none 0 0] 26)).mono hb3'.size)).trans (hb4.mono (hb3'.trans ((bal' w3 (Obj.cells #[.int .i64 0, .slice none 0 0] 26)).mono hb3'.size)).size) | exact hb2'.trans (hb4.mono hb2'.size) | exact (hb2'.trans ((bal' w2 (Obj.cells #[.int .i64 0, .slice none 0 0] 26)).mono hb2'.size)).trans (hb4.mono (hb2'.trans ((bal' w2 (Obj.cells #[.int .i64 0, .slice none 0 0] 26)).mono hb2'.size)).size))
               have hk4 := hall _ hb4'
               (first
                 | (have hR4 : GrW w4 wD.heap.size 0 (.slice none 0 0) := ((((GrW.new wD 0 (.slice none 0 0) 26).below (bdr _)).below hb2).below hb3).below hb4; have hg5 := putG2_grown w4 wD.heap.size C (.slice q0 q1 q2); have hb5 : Below wD.heap.size wD (putG2 w4 wD.heap.size C (.slice q0 q1 q2)) := hb4'.grown hg5 hb4'.size (fun g e => Option.some.inj e ▸ Nat.le_refl _); have hk5 := hall _ hb5; have hd4 := hR4.2; have hR5 := hR4.put2 C (.slice q0 q1 q2); obtain ⟨hO5, hs5⟩ := own_put ho4 hg5 (by first | (have h8 := hb2.size; have h9 := hb3.size; simp at h8 h9 ⊢; omega) | (have h9 := hb3.size; simp at h9 ⊢; omega) | (have h8 := hb2.size; simp at h8 ⊢; omega) | simp); simp only [putG2] at hk5 hR5 hb5 hO5; obtain ⟨⟨d0, d1⟩, ⟨y0, y1⟩⟩ := hd4)
                 | (have hR4 : GrW w4 wD.heap.size 0 (.slice none 0 0) := ((((GrW.new wD 0 (.slice none 0 0) 26).below (bdr _)).below hb3).below hb2).below hb4; have hg5 := putG2_grown w4 wD.heap.size C (.slice q0 q1 q2); have hb5 : Below wD.heap.size wD (putG2 w4 wD.heap.size C (.slice q0 q1 q2)) := hb4'.grown hg5 hb4'.size (fun g e => Option.some.inj e ▸ Nat.le_refl _); have hk5 := hall _ hb5; have hd4 := hR4.2; have hR5 := hR4.put2 C (.slice q0 q1 q2); obtain ⟨hO5, hs5⟩ := own_put ho4 hg5 (by first | (have h8 := hb2.size; have h9 := hb3.size; simp at h8 h9 ⊢; omega) | (have h9 := hb3.size; simp at h9 ⊢; omega) | (have h8 := hb2.size; simp at h8 ⊢; omega) | simp); simp only [putG2] at hk5 hR5 hb5 hO5; obtain ⟨⟨d0, d1⟩, ⟨y0, y1⟩⟩ := hd4)
                 | (have hR4 : GrW w4 w2.heap.size 0 (.slice none 0 0) := ((GrW.new w2 0 (.slice none 0 0) 26).below hb3).below hb4; have hg5 := putG2_grown w4 w2.heap.size C (.slice q0 q1 q2); have hb5 : Below wD.heap.size wD (putG2 w4 w2.heap.size C (.slice q0 q1 q2)) := hb4'.grown hg5 hb4'.size (fun g e => Option.some.inj e ▸ hb2'.size); have hk5 := hall _ hb5; have hd4 := hR4.2; have hR5 := hR4.put2 C (.slice q0 q1 q2); obtain ⟨hO5, hs5⟩ := own_put ho4 hg5 (by first | (have h8 := hb2.size; have h9 := hb3.size; simp at h8 h9 ⊢; omega) | (have h9 := hb3.size; simp at h9 ⊢; omega) | (have h8 := hb2.size; simp at h8 ⊢; omega) | simp); simp only [putG2] at hk5 hR5 hb5 hO5; obtain ⟨⟨d0, d1⟩, ⟨y0, y1⟩⟩ := hd4)
                 | (have hR4 : GrW w4 w2.heap.size 0 (.slice none 0 0) := (GrW.new w2 0 (.slice none 0 0) 26).below hb4; have hg5 := putG2_grown w4 w2.heap.size C (.slice q0 q1 q2); have hb5 : Below wD.heap.size wD (putG2 w4 w2.heap.size C (.slice q0 q1 q2)) := hb4'.grown hg5 hb4'.size (fun g e => Option.some.inj e ▸ hb2'.size); have hk5 := hall _ hb5; have hd4 := hR4.2; have hR5 := hR4.put2 C (.slice q0 q1 q2); obtain ⟨hO5, hs5⟩ := own_put ho4 hg5 (by first | (have h8 := hb2.size; have h9 := hb3.size; simp at h8 h9 ⊢; omega) | (have h9 := hb3.size; simp at h9 ⊢; omega) | (have h8 := hb2.size; simp at h8 ⊢; omega) | simp); simp only [putG2] at hk5 hR5 hb5 hO5; obtain ⟨⟨d0, d1⟩, ⟨y0, y1⟩⟩ := hd4)
                 | (have hR4 : GrW w4 w3.heap.size 0 (.slice none 0 0) := ((GrW.new w3 0 (.slice none 0 0) 26).below hb2).below hb4; have hg5 := putG2_grown w4 w3.heap.size C (.slice q0 q1 q2); have hb5 : Below wD.heap.size wD (putG2 w4 w3.heap.size C (.slice q0 q1 q2)) := hb4'.grown hg5 hb4'.size (fun g e => Option.some.inj e ▸ hb3'.size); have hk5 := hall _ hb5; have hd4 := hR4.2; have hR5 := hR4.put2 C (.slice q0 q1 q2); obtain ⟨hO5, hs5⟩ := own_put ho4 hg5 (by first | (have h8 := hb2.size; have h9 := hb3.size; simp at h8 h9 ⊢; omega) | (have h9 := hb3.size; simp at h9 ⊢; omega) | (have h8 := hb2.size; simp at h8 ⊢; omega) | simp); simp only [putG2] at hk5 hR5 hb5 hO5; obtain ⟨⟨d0, d1⟩, ⟨y0, y1⟩⟩ := hd4)
                 | (have hR4 : GrW w4 w3.heap.size 0 (.slice none 0 0) := (GrW.new w3 0 (.slice none 0 0) 26).below hb4; have hg5 := putG2_grown w4 w3.heap.size C (.slice q0 q1 q2); have hb5 : Below wD.heap.size wD (putG2 w4 w3.heap.size C (.slice q0 q1 q2)) := hb4'.grown hg5 hb4'.size (fun g e => Option.some.inj e ▸ hb3'.size); have hk5 := hall _ hb5; have hd4 := hR4.2; have hR5 := hR4.put2 C (.slice q0 q1 q2); obtain ⟨hO5, hs5⟩ := own_put ho4 hg5 (by first | (have h8 := hb2.size; have h9 := hb3.size; simp at h8 h9 ⊢; omega) | (have h9 := hb3.size; simp at h9 ⊢; omega) | (have h8 := hb2.size; simp at h8 ⊢; omega) | simp); simp only [putG2] at hk5 hR5 hb5 hO5; obtain ⟨⟨d0, d1⟩, ⟨y0, y1⟩⟩ := hd4)
                 | (have hb5 := hb4'.trans ((bal' w4 (Obj.cells #[.int .i64 C, .slice q0 q1 q2] 26)).mono hb4'.size); have hk5 := hall _ hb5; have hR5 := GrW.new w4 C (.slice q0 q1 q2) 26; have hO5 := (OwnR.of ho4).below (bal' w4 (Obj.cells #[.int .i64 C, .slice q0 q1 q2] 26)); have hs5 : w4.heap.size < w3.heap.size ∨ w4.heap.size ≤ w4.heap.size := .inr (Nat.le_refl _)))))
        all_goals exact hcut24 _ _ _ _ _ _ _ _ _ _ _ _ _ _ _ _ _ _ _ _ _ _ _ _ _ _ _ _ _ _ _ _ _ _ _ _ _ _ _ _ _ _ _ _ _ _ _ _ _ _ _ _ _ _ _ _ _ _ _ _ _ _ _ _ _ _ _ _ _ _ _ _ _ _ _ _ _ _ _ _ _ _ _ (kbD.trans (hb5.mono kbD.size)) (hRD.below hb5) (hOD.below hb5) (hgD.below hb5) (hOgD.below hb5) ⟨hR5.1, hR5.2.1⟩ hO5
      go_region_held3 (fun W => W.cell? ⟨w6.heap.size, 0, none⟩ = some (.int .i64 cols) ∧ W.cell? ⟨w6.heap.size, 1, none⟩ = some (.slice x0 x1 x2) ∧ W.cell? ⟨w.heap.size + 1, 0, none⟩ = some (.int .i64 s.fore) ∧ W.cell? ⟨w.heap.size + 1, 1, none⟩ = some (.int .i64 s.back) ∧ W.cell? ⟨w.heap.size + 1, 2, none⟩ = some (.bool s.bold) ∧ W.cell? ⟨w.heap.size + 1, 3, none⟩ = some (.bool s.under) ∧ W.cell? ⟨w.heap.size + 1, 4, none⟩ = some (.bool s.turned) ∧ Below W6.heap.size W6 W) (first | with_reducible assumption | with_reducible exact halo _ _ (by with_reducible assumption))
        (first
          | (go_at_call 26; refine (hts _).mono ?_; rintro e w3 ⟨rfl, hb3⟩; have hb3' : Below W6.heap.size W6 w3 := (by first | exact (bdr W6).trans hb3 | exact hbA.trans (hb3.mono hbA.size)); have hk3 := hall _ hb3')
          | (go_at_call 9; refine (him' _ _ (by first | exact kb6.trans (hb3'.mono kb6.size) | exact kb6.trans ((hb3'.trans ((bal' w3 (Obj.cells #[.int .i64 0, .slice none 0 0] 26)).mono hb3'.size)).mono kb6.size)) (by first | exact hSX.below hb3' | exact (hSX.below hb3').below (bal' w3 (Obj.cells #[.int .i64 0, .slice none 0 0] 26)))).mono ?_; rintro e w4 ⟨u4, rfl, ho4, hb4⟩; obtain ⟨q0, q1, q2, rfl⟩ := slShp (SlG.of_own ho4)
             have hb4' : Below W6.heap.size W6 w4 := (by first | exact hb3'.trans (hb4.mono hb3'.size) | exact (hb3'.trans ((bal' w3 (Obj.cells #[.int .i64 0, .slice none 0 0] 26)).mono hb3'.size)).trans (hb4.mono (hb3'.trans ((bal' w3 (Obj.cells #[.int .i64 0, .slice none 0 0] 26)).mono hb3'.size)).size))
             have hk4 := hall _ hb4'
             (first
               | (have hR4 : GrW w4 W6.heap.size 0 (.slice none 0 0) := (((GrW.new W6 0 (.slice none 0 0) 26).below (bdr _)).below hb3).below hb4; have hg5 := putG2_grown w4 W6.heap.size C (.slice q0 q1 q2); have hb5 : Below W6.heap.size W6 (putG2 w4 W6.heap.size C (.slice q0 q1 q2)) := hb4'.grown hg5 hb4'.size (fun g e => Option.some.inj e ▸ Nat.le_refl _); have hk5 := hall _ hb5; have hd4 := hR4.2; have hR5 := hR4.put2 C (.slice q0 q1 q2); obtain ⟨hO5, hs5⟩ := own_put ho4 hg5 (by first | (have h8 := hb2.size; have h9 := hb3.size; simp at h8 h9 ⊢; omega) | (have h9 := hb3.size; simp at h9 ⊢; omega) | (have h8 := hb2.size; simp at h8 ⊢; omega) | simp); simp only [putG2] at hk5 hR5 hb5 hO5; obtain ⟨⟨d0, d1⟩, ⟨y0, y1⟩⟩ := hd4)
               | (have hR4 : GrW w4 w3.heap.size 0 (.slice none 0 0) := (GrW.new w3 0 (.slice none 0 0) 26).below hb4; have hg5 := putG2_grown w4 w3.heap.size C (.slice q0 q1 q2); have hb5 : Below W6.heap.size W6 (putG2 w4 w3.heap.size C (.slice q0 q1 q2)) := hb4'.grown hg5 hb4'.size (fun g e => Option.some.inj e ▸ hb3'.size); have hk5 := hall _ hb5; have hd4 := hR4.2; have hR5 := hR4.put2 C (.slice q0 q1 q2); obtain ⟨hO5, hs5⟩ := own_put ho4 hg5 (by first | (have h8 := hb2.size; have h9 := hb3.size; simp at h8 h9 ⊢; omega) | (have h9 := hb3.size; simp at h9 ⊢; omega) | (have h8 := hb2.size; simp at h8 ⊢; omega) | simp); simp only [putG2] at hk5 hR5 hb5 hO5; obtain ⟨⟨d0, d1⟩, ⟨y0, y1⟩⟩ := hd4)
               | (have hb5 := hb4'.trans ((bal' w4 (Obj.cells #[.int .i64 C, .slice q0 q1 q2] 26)).mono hb4'.size); have hk5 := hall _ hb5; have hR5 := GrW.new w4 C (.slice q0 q1 q2) 26; have hO5 := (OwnR.of ho4).below (bal' w4 (Obj.cells #[.int .i64 C, .slice q0 q1 q2] 26)); have hs5 : w4.heap.size < w3.heap.size ∨ w4.heap.size ≤ w4.heap.size := .inr (Nat.le_refl _)))))
      all_goals exact hcut7 _ _ _ _ _ _ _ _ _ _ _ _ _ _ _ _ _ _ _ _ _ _ _ _ _ _ _ _ _ _ _ _ _ _ _ _ _ _ _ _ _ _ _ _ _ _ _ _ _ _ _ _ _ _ _ _ _ _ _ _ _ _ _ _ _ _ _ _ _ _ _ _ _ _ _ _ _ _ _ _ _ _ _ _ _ _ _ (kb6.trans (hb5.mono kb6.size)) (hG6.below hb5) (hA6.below hb5) (hR6.below hb5) (hO6.below hb5) (hX6.below hb5) (hOX6.below hb5) ⟨hR5.1, hR5.2.1⟩ hO5 (by first | (have h9 := hb3'.size; simp at h9 ⊢; omega) | (simp; omega) | omega) (by first | exact n5 | exact Nat.lt_of_lt_of_le n5 hb3'.size | exact Nat.lt_of_lt_of_le n5 hb4'.size) hs5
    go_region_held3 (fun W => W.cell? ⟨w.heap.size, 0, none⟩ = some (.int .i64 cols) ∧ W.cell? ⟨w.heap.size, 1, none⟩ = some (.slice p0 p1 p2) ∧ W.cell? ⟨w.heap.size + 1, 0, none⟩ = some (.int .i64 s.fore) ∧ W.cell? ⟨w.heap.size + 1, 1, none⟩ = some (.int .i64 s.back) ∧ W.cell? ⟨w.heap.size + 1, 2, none⟩ = some (.bool s.bold) ∧ W.cell? ⟨w.heap.size + 1, 3, none⟩ = some (.bool s.under) ∧ W.cell? ⟨w.heap.size + 1, 4, none⟩ = some (.bool s.turned) ∧ Below w1.heap.size w1 W) (first | with_reducible assumption | with_reducible exact halo _ _ (by with_reducible assumption))
      (first
        | (go_at_call 25; refine (hto _ (hv.below (by first | exact kb1.trans ((bdr w1).mono kb1.size) | exact kb1.trans (hbA.mono kb1.size) | exact kb1.trans (hb3'.mono kb1.size) | exact kb1.trans ((hb3'.trans ((bal' w3 (Obj.cells #[.int .i64 0, .slice none 0 0] 26)).mono hb3'.size)).mono kb1.size)))).mono ?_; rintro e w2 ⟨u2, rfl, ho2, hb2⟩; have hb2' : Below w1.heap.size w1 w2 := (by first | exact (bdr w1).trans hb2 | exact hbA.trans (hb2.mono hbA.size) | exact hb3'.trans (hb2.mono hb3'.size) | exact (hb3'.trans ((bal' w3 (Obj.cells #[.int .i64 0, .slice none 0 0] 26)).mono hb3'.size)).trans (hb2.mono (hb3'.trans ((bal' w3 (Obj.cells #[.int .i64 0, .slice none 0 0] 26)).mono hb3'.size)).size)); have hk2 := hall _ hb2'; obtain ⟨r0, r1, r2, rfl⟩ := slShp (SlG.of_own ho2))
        | (go_at_call 26; refine (hts _).mono ?_; rintro e w3 ⟨rfl, hb3⟩; have hb3' : Below w1.heap.size w1 w3 := (by first | exact (bdr w1).trans hb3 | exact hbA.trans (hb3.mono hbA.size) | exact hb2'.trans (hb3.mono hb2'.size) | exact (hb2'.trans ((bal' w2 (Obj.cells #[.int .i64 0, .slice none 0 0] 26)).mono hb2'.size)).trans (hb3.mono (hb2'.trans ((bal' w2 (Obj.cells #[.int .i64 0, .slice none 0 0] 26)).mono hb2'.size)).size)); have hk3 := hall _ hb3')
        | (go_at_call 17; refine (hsp' _ _ (by first | exact (SlG.of_own ho2).below hb3 | exact ((SlG.of_own ho2).below (bal' w2 (Obj.cells #[.int .i64 0, .slice none 0 0] 26))).below hb3 | exact ((SlG.of_own ho2).below hb3).below (bal' w3 (Obj.cells #[.int .i64 0, .slice none 0 0] 26)) | exact SlG.of_own ho2 | exact (SlG.of_own ho2).below (bal' w2 (Obj.cells #[.int .i64 0, .slice none 0 0] 26)))).mono ?_; rintro e w4 ⟨u4, rfl, ho4, hb4⟩; obtain ⟨q0, q1, q2, rfl⟩ := slShp (SlG.of_own ho4)
           have hb4' : Below w1.heap.size w1 w4 := (by first | exact hb3'.trans (hb4.mono hb3'.size) | exact (hb3'.trans ((bal' w3 (Obj.cells #[.int .i64 0, .slice none 0 0] 26)).mono hb3'.size)).trans (hb4.mono (hb3'.trans ((bal' w3 (Obj.cells #[.int .i64 0, .slice none 0 0] 26)).mono hb3'.size)).size) | exact hb2'.trans (hb4.mono hb2'.size) | exact (hb2'.trans ((bal' w2 (Obj.cells #[.int .i64 0, .slice none 0 0] 26)).mono hb2'.size)).trans (hb4.mono (hb2'.trans ((bal' w2 (Obj.cells #[.int .i64 0, .slice none 0 0] 26)).mono hb2'.size)).size))
           have hk4 := hall _ hb4'
           (first
             | (have hR4 : GrW w4 w1.heap.size 0 (.slice none 0 0) := ((((GrW.new w1 0 (.slice none 0 0) 26).below (bdr _)).below hb2).below hb3).below hb4; have hg5 := putG2_grown w4 w1.heap.size C (.slice q0 q1 q2); have hb5 : Below w1.heap.size w1 (putG2 w4 w1.heap.size C (.slice q0 q1 q2)) := hb4'.grown hg5 hb4'.size (fun g e => Option.some.inj e ▸ Nat.le_refl _); have hk5 := hall _ hb5; have hd4 := hR4.2; have hR5 := hR4.put2 C (.slice q0 q1 q2); obtain ⟨hO5, hs5⟩ := own_put ho4 hg5 (by first | (have h8 := hb2.size; have h9 := hb3.size; simp at h8 h9 ⊢; omega) | (have h9 := hb3.size; simp at h9 ⊢; omega) | (have h8 := hb2.size; simp at h8 ⊢; omega) | simp); simp only [putG2] at hk5 hR5 hb5 hO5; obtain ⟨⟨d0, d1⟩, ⟨y0, y1⟩⟩ := hd4)
             | (have hR4 : GrW w4 w1.heap.size 0 (.slice none 0 0) := ((((GrW.new w1 0 (.slice none 0 0) 26).below (bdr _)).below hb3).below hb2).below hb4; have hg5 := putG2_grown w4 w1.heap.size C (.slice q0 q1 q2); have hb5 : Below w1.heap.size w1 (putG2 w4 w1.heap.size C (.slice q0 q1 q2)) := hb4'.grown hg5 hb4'.size (fun g e => Option.some.inj e ▸ Nat.le_refl _); have hk5 := hall _ hb5; have hd4 := hR4.2; have hR5 := hR4.put2 C (.slice q0 q1 q2); obtain ⟨hO5, hs5⟩ := own_put ho4 hg5 (by first | (have h8 := hb2.size; have h9 := hb3.size; simp at h8 h9 ⊢; omega) | (have h9 := hb3.size; simp at h9 ⊢; omega) | (have h8 := hb2.size; simp at h8 ⊢; omega) | simp); simp only [putG2] at hk5 hR5 hb5 hO5; obtain ⟨⟨d0, d1⟩, ⟨y0, y1⟩⟩ := hd4)
             | (have hR4 : GrW w4 w2.heap.size 0 (.slice none 0 0) := ((GrW.new w2 0 (.slice none 0 0) 26).below hb3).below hb4; have hg5 := putG2_grown w4 w2.heap.size C (.slice q0 q1 q2); have hb5 : Below w1.heap.size w1 (putG2 w4 w2.heap.size C (.slice q0 q1 q2)) := hb4'.grown hg5 hb4'.size (fun g e => Option.some.inj e ▸ hb2'.size); have hk5 := hall _ hb5; have hd4 := hR4.2; have hR5 := hR4.put2 C (.slice q0 q1 q2); obtain ⟨hO5, hs5⟩ := own_put ho4 hg5 (by first | (have h8 := hb2.size; have h9 := hb3.size; simp at h8 h9 ⊢; omega) | (have h9 := hb3.size; simp at h9 ⊢; omega) | (have h8 := hb2.size; simp at h8 ⊢; omega) | simp); simp only [putG2] at hk5 hR5 hb5 hO5; obtain ⟨⟨d0, d1⟩, ⟨y0, y1⟩⟩ := hd4)
             | (have hR4 : GrW w4 w2.heap.size 0 (.slice none 0 0) := (GrW.new w2 0 (.slice none 0 0) 26).below hb4; have hg5 := putG2_grown w4 w2.heap.size C (.slice q0 q1 q2); have hb5 : Below w1.heap.size w1 (putG2 w4 w2.heap.size C (.slice q0 q1 q2)) := hb4'.grown hg5 hb4'.size (fun g e => Option.some.inj e ▸ hb2'.size); have hk5 := hall _ hb5; have hd4 := hR4.2; have hR5 := hR4.put2 C (.slice q0 q1 q2); obtain ⟨hO5, hs5⟩ := own_put ho4 hg5 (by first | (have h8 := hb2.size; have h9 := hb3.size; simp at h8 h9 ⊢; omega) | (have h9 := hb3.size; simp at h9 ⊢; omega) | (have h8 := hb2.size; simp at h8 ⊢; omega) | simp); simp only [putG2] at hk5 hR5 hb5 hO5; obtain ⟨⟨d0, d1⟩, ⟨y0, y1⟩⟩ := hd4)
             | (have hR4 : GrW w4 w3.heap.size 0 (.slice none 0 0) := ((GrW.new w3 0 (.slice none 0 0) 26).below hb2).below hb4; have hg5 := putG2_grown w4 w3.heap.size C (.slice q0 q1 q2); have hb5 : Below w1.heap.size w1 (putG2 w4 w3.heap.size C (.slice q0 q1 q2)) := hb4'.grown hg5 hb4'.size (fun g e => Option.some.inj e ▸ hb3'.size); have hk5 := hall _ hb5; have hd4 := hR4.2; have hR5 := hR4.put2 C (.slice q0 q1 q2); obtain ⟨hO5, hs5⟩ := own_put ho4 hg5 (by first | (have h8 := hb2.size; have h9 := hb3.size; simp at h8 h9 ⊢; omega) | (have h9 := hb3.size; simp at h9 ⊢; omega) | (have h8 := hb2.size; simp at h8 ⊢; omega) | simp); simp only [putG2] at hk5 hR5 hb5 hO5; obtain ⟨⟨d0, d1⟩, ⟨y0, y1⟩⟩ := hd4)
             | (have hR4 : GrW w4 w3.heap.size 0 (.slice none 0 0) := (GrW.new w3 0 (.slice none 0 0) 26).below hb4; have hg5 := putG2_grown w4 w3.heap.size C (.slice q0 q1 q2); have hb5 : Below w1.heap.size w1 (putG2 w4 w3.heap.size C (.slice q0 q1 q2)) := hb4'.grown hg5 hb4'.size (fun g e => Option.some.inj e ▸ hb3'.size); have hk5 := hall _ hb5; have hd4 := hR4.2; have hR5 := hR4.put2 C (.slice q0 q1 q2); obtain ⟨hO5, hs5⟩ := own_put ho4 hg5 (by first | (have h8 := hb2.size; have h9 := hb3.size; simp at h8 h9 ⊢; omega) | (have h9 := hb3.size; simp at h9 ⊢; omega) | (have h8 := hb2.size; simp at h8 ⊢; omega) | simp); simp only [putG2] at hk5 hR5 hb5 hO5; obtain ⟨⟨d0, d1⟩, ⟨y0, y1⟩⟩ := hd4)
             | (have hb5 := hb4'.trans ((bal' w4 (Obj.cells #[.int .i64 C, .slice q0 q1 q2] 26)).mono hb4'.size); have hk5 := hall _ hb5; have hR5 := GrW.new w4 C (.slice q0 q1 q2) 26; have hO5 := (OwnR.of ho4).below (bal' w4 (Obj.cells #[.int .i64 C, .slice q0 q1 q2] 26)); have hs5 : w4.heap.size < w3.heap.size ∨ w4.heap.size ≤ w4.heap.size := .inr (Nat.le_refl _)))))
    all_goals exact hcut5 _ _ _ _ _ _ _ _ _ _ _ _ _ _ _ _ _ _ _ _ _ _ _ _ _ _ _ _ _ _ _ _ _ _ _ _ _ _ _ _ _ _ _ _ _ _ _ _ _ _ _ _ _ _ _ _ _ _ _ _ _ _ _ _ _ _ _ _ _ _ _ _ _ _ _ _ _ _ _ _ _ _ _ _ _ _ _ _ _ (kb1.trans (hb5.mono kb1.size)) (hG1.below hb5) (hA1.below hb5) ⟨hR5.1, hR5.2.1⟩ hO5
theorem walk_FnExactDown (w : World) (hS : SpansAt w) (cols : Int) (v : Value) (rows : List (List Ce)) (hv : SlG w v rows) (hl0 : rows.length ≤ maxLen) (hx0 : ∀ i, i < rows.length → (rowX rows i).length ≤ maxLen) (a0 : Int) (_ha0 : (Lit.int .i64 a0).wf = true) (a1 : Int) (_ha1 : (Lit.int .i64 a1).wf = true) (a2 : Int) (_ha2 : (Lit.int .i64 a2).wf = true) (s : St) :
    Calls Tryd.prog 5 #[gridV cols v, .int .i64 a0, .int .i64 a1, .int .i64 a2, stV s] w fun e w' => e = .returned (.bool true) ∧ Below w.heap.size w w' :=
  walk_FnExactDown' w cols v rows a0 a1 a2 s (upC cols rows a0 a1 a2 s) (upR cols rows a0 a1 a2 s (-a2)) hv hl0 hx0 (upR_bd cols rows a0 a1 a2 s (-a2)).1 (upR_bd cols rows a0 a1 a2 s (-a2)).2 (fun v W h hl hx => specDown_any cols v rows a0 a1 a2 s W h hl hx) (fun v W hb h hl hx => implDown_any cols v rows a0 a1 a2 s W (hS.below hb hS.lt) h hl hx)
end Go.Proofs.YtmmmglblkampcaaDoor
