/- Contract of the specification's copied grid. Contract of the specification's l5Move. Contract of the specification's RowOk. -/
import Derived.Test.YtmmmglblkampcaaDoorP2
import Derived.Deep.RegionHeld3
namespace Go.Proofs.YtmmmglblkampcaaDoor
open Go.ChangeShapes Go.WideShapes Go.ChangeAt Go.RowKit
/-- Cells more, as a step of a region. -/
theorem step_append_os {w : World} {ops : Array Oper} {o : Oper} {ac : Act} {K : Act → World → Prop} {Q : Exit → Act → World → Prop} {E : Prop} (hgd : o.guard = none) (s x : Operand)
    (ho : o.op = .call { callee := .builtin .append, args := #[s, x], argTypes := #[43, 43] })
    (base : Nat) (v : Value) (L : List Ce) (hs : ac.eval s = v) (k : OwnC w base v L) (hb : base ≤ w.heap.size) (u : Value) (xs : List Ce) (hu : SlC w u xs) (hne : xs ≠ []) (hx : ac.eval x = u) (hl : L.length + xs.length < 2000000)
    (h : ∀ v' w', OwnC w' base v' (L ++ xs) → w.grownBy w' v.ownBlock → K (ac.put o.dst v') w') :
    if Region.wanted o (yielded ops ac.tmps) = true then Oper.wp Tryd.prog o ac w K Q else E := by
  have hw : Region.wanted o (yielded ops ac.tmps) = true := by simp [Region.wanted, hgd]
  rw [if_pos hw]
  obtain ⟨i0, hi, hz0, hz1, hz2⟩ := info_parts info_cell
  obtain ⟨a, c, rfl, hc, hn, hr⟩ := hu
  rcases hr with hr | ⟨b, off, rfl, _, hi2⟩
  · exact absurd hr hne
  · refine wp_append_own _ s x _ ho base 65 i0 (ceV Ce.zero) 7 40 Tryd.underlying43 hi hz0 hz1 hz2 rfl (by decide) v L.length _ hs k ⟨b, off, none⟩ xs.length c (xs.flatMap ceL) hx (flat_len xs) ?_ (flat_one xs) (by unfold maxLen; omega) (by omega) hb (fun v' w' ho' hg' _ => ?_)
    · intro j u hj
      rw [Addr.add_mid]
      exact flat_cells hi2 j u hj
    · refine h v' w' ?_ hg'
      unfold OwnC
      rw [List.length_append, List.flatMap_append]
      exact ho'
/-- A row of this call's own that stands apart grows. -/
theorem OwnG.kept2 {w w' : World} {base B : Nat} {v : Value} {rows : List (List Ce)} {row : Option Nat} (h : OwnG w base B v rows) (hg : w.grownBy w' row) (hne : ∀ g, row = some g → B ≤ g) (hu : ∀ g, v.ownBlock = some g → g < B) : OwnG w' base B v rows := by
  obtain ⟨vs, hl, ho, hr, hB, hd⟩ := h
  refine ⟨vs, hl, World.ownsRow.kept ho hg ?_, fun i hi => (hr i hi).kept hg ?_, hB, hd⟩
  · cases hv : v.ownBlock with
    | none => exact .inl rfl
    | some q => right; intro e; have := hne q e.symm; have := hu q hv; omega
  · cases hv : (rowV vs i).ownBlock with
    | none => exact .inl rfl
    | some q => right; intro e; have := hne q e.symm; have := hB i hi q hv; omega
theorem NG.kept2 {M B : Nat} {cols : Int} {u : Value} {rows : List (List Ce)} {w0 W W' : World} {row : Option Nat} (k : NG M B cols u rows w0 W) (hg : W.grownBy W' row) (hne : ∀ g, row = some g → B ≤ g ∧ M + 2 ≤ g) (hu : ∀ g, u.ownBlock = some g → g < B) : NG M B cols u rows w0 W' := by
  have h3 := k.2.2.2.1
  refine ⟨k.1.grown hg (fun e => by have := (hne _ e).2; omega), k.2.1.grown hg (fun e => by have := (hne _ e).2; omega), k.2.2.1.kept2 hg (fun g e => (hne g e).1) hu, Nat.le_trans h3 hg.size, Nat.le_trans k.2.2.2.2.1 hg.size, ?_⟩
  exact k.2.2.2.2.2.grown hg (by omega) (fun g e => by have := (hne g e).2; omega)
set_option maxHeartbeats 8000000 in
theorem l5Copy_any (cols : Int) (v : Value) (rows : List (List Ce)) (w : World) (hv : SlG w v rows) (hl : rows.length ≤ 1000) (h1 : 1 ≤ rows.length) (hx : ∀ i, i < rows.length → (rowX rows i).length ≤ 1000) (hne : ∀ i, i < rows.length → rowX rows i ≠ []) :
    Calls Tryd.prog 46 #[gridV cols v] w fun e w' => ∃ u, e = .returned (gridV cols u) ∧ OwnG w' w.heap.size w'.heap.size u rows ∧ Below w.heap.size w w' := by
  obtain ⟨a, c, vs, rfl, hcp, _, hr, hs⟩ := id hv
  rcases hr with h | ⟨b, off, rfl, hbb, hrc⟩
  · rw [h] at h1; simp at h1
  have hb0 := bal' w (Obj.cells #[.int .i64 cols, .slice (some ⟨b, off, none⟩) rows.length c] 26)
  have hG0 := GrN.new w cols (.slice (some ⟨b, off, none⟩) rows.length c) 26
  have e0 : (w.alloc (Obj.cells #[.int .i64 cols, .slice (some ⟨b, off, none⟩) rows.length c] 26)).heap.size = w.heap.size + 1 := by simp
  have k0 : NG (w.heap.size + 1) (((w.alloc (Obj.cells #[.int .i64 cols, .slice (some ⟨b, off, none⟩) rows.length c] 26)).alloc (Obj.cells #[Value.int IntKind.i64 0, Value.slice none 0 0] 26)).alloc (Obj.cells #[Value.int IntKind.i64 cols, Value.slice none 0 0] 26)).heap.size cols (.slice none 0 0) [] (w.alloc (Obj.cells #[.int .i64 cols, .slice (some ⟨b, off, none⟩) rows.length c] 26)) (((w.alloc (Obj.cells #[.int .i64 cols, .slice (some ⟨b, off, none⟩) rows.length c] 26)).alloc (Obj.cells #[Value.int IntKind.i64 0, Value.slice none 0 0] 26)).alloc (Obj.cells #[Value.int IntKind.i64 cols, Value.slice none 0 0] 26)) := by
    generalize w.alloc (Obj.cells #[.int .i64 cols, .slice (some ⟨b, off, none⟩) rows.length c] 26) = w1 at *
    have h1 := GrW.new w1 0 (.slice none 0 0) 26
    have h2 := GrW.new (w1.alloc (Obj.cells #[Value.int IntKind.i64 0, Value.slice none 0 0] 26)) cols (.slice none 0 0) 26
    have hb1 := bal' w1 (Obj.cells #[Value.int IntKind.i64 0, Value.slice none 0 0] 26)
    have e : (w1.alloc (Obj.cells #[Value.int IntKind.i64 0, Value.slice none 0 0] 26)).heap.size = w1.heap.size + 1 := by simp
    rw [e] at h2
    rw [← e0]
    exact ⟨h1.below (bal' _ _), h2, ownG_none _ _ _, by simp, Nat.le_refl _, hb1.trans ((bal' _ _).mono (by simp))⟩
  unfold gridV
  go_enter Tryd.func46, Tryd.ntmps46
  go_wp2
  go_loopw [4] (fun i wr => ∃ j : Nat, i = .int .i64 j ∧ j ≤ rows.length ∧ ∃ u, NG (w.heap.size + 1) wr.heap.size cols u (rows.take j) (w.alloc (Obj.cells #[.int .i64 cols, .slice (some ⟨b, off, none⟩) rows.length c] 26)) wr) (fun i _ => rows.length - (intOf i).toNat)
  case atStart => exact ⟨0, rfl, Nat.zero_le _, _, k0⟩
  case round =>
    clear k0
    obtain ⟨j, rfl, hj, u, k⟩ := hrel
    obtain ⟨ua, un, uc, rfl⟩ : ∃ a n c, u = Value.slice a n c := by rcases k.2.2.1.shape with ⟨h, _⟩ | ⟨_, _, h, _⟩ <;> exact ⟨_, _, _, h⟩
    have hsb : wr.cell? ⟨w.heap.size, 1, none⟩ = some (.slice (some ⟨b, off, none⟩) rows.length c) := (k.2.2.2.2.2.cell (p := ⟨w.heap.size, 1, none⟩) (Nat.lt_succ_self _)).trans hG0.2.2
    by_cases hlt : j < rows.length
    · have hji : (j : Int) < (rows.length : Int) := by omega
      have hj0 : (0 : Int) ≤ (j : Int) := by omega
      have hsn : Hid (rows.take (j + 1) = rows.take j ++ [rowX rows j]) := by show _ = _; rw [rowX_lt hlt, List.take_succ_eq_append_getElem hlt]
      have hlr : (rows.take j).length < 2000000 := by rw [List.length_take]; omega
      have hxj := hx j hlt
      obtain ⟨aj, cj, ev, hjc, _, _⟩ := id (hs j hlt)
      have hS : ∀ W, Below (w.heap.size + 1) (w.alloc (Obj.cells #[.int .i64 cols, .slice (some ⟨b, off, none⟩) rows.length c] 26)) W → (W.cell? ⟨w.heap.size, 1, none⟩ = some (.slice (some ⟨b, off, none⟩) rows.length c) ∧ W.cell? ⟨b, off + j, none⟩ = some (.slice aj (rowX rows j).length cj) ∧ Below (w.heap.size + 1) (w.alloc (Obj.cells #[.int .i64 cols, .slice (some ⟨b, off, none⟩) rows.length c] 26)) W) :=
        fun W hW => ⟨(hW.cell (p := ⟨w.heap.size, 1, none⟩) (Nat.lt_succ_self _)).trans hG0.2.2, ((hW.cell (p := ⟨b, off + j, none⟩) (show b < _ by omega)).trans (hb0.cell (p := ⟨b, off + j, none⟩) hbb)).trans (by rw [hrc j hlt, ev]), hW⟩
      have hsrc : ∀ W, Below (w.heap.size + 1) (w.alloc (Obj.cells #[.int .i64 cols, .slice (some ⟨b, off, none⟩) rows.length c] 26)) W → SlC W (.slice aj (rowX rows j).length cj) (rowX rows j) := fun W hW => by
        have := ((hs j hlt).below hb0).below (by rw [e0]; exact hW)
        rwa [ev] at this
      have hu : ∀ g, (Value.slice ua un uc).ownBlock = some g → g < wr.heap.size := fun g e => (k.2.2.1.lt g e).2
      have hMB : w.heap.size + 1 + 2 ≤ wr.heap.size := k.2.2.2.1
      clear hs hrc ev hv hG0 hb0 e0
      generalize hBB : wr.heap.size = B at k hu hMB
      generalize rows.take j = R at *
      obtain ⟨⟨_, ⟨d0, d1⟩, ⟨y0, y1⟩⟩, ⟨_, ⟨c0, c1⟩, ⟨z0, z1⟩⟩, _⟩ := id k
      go_wp2
      refine wp_region_noPanic ?_
      refine wp_region_held_drew (S := (fun W => W.cell? ⟨w.heap.size, 1, none⟩ = some (.slice (some ⟨b, off, none⟩) rows.length c) ∧ W.cell? ⟨b, off + j, none⟩ = some (.slice aj (rowX rows j).length cj) ∧ Below (w.heap.size + 1) (w.alloc (Obj.cells #[.int .i64 cols, .slice (some ⟨b, off, none⟩) rows.length c] 26)) W)) (by kernel_rfl) (hS _ k.drew.2.2.2.2.2) (fun hHeld => ?_)
      refine' wpAnyH_take (i := 0) (v := _) rfl (by kernel_rfl) (by kernel_rfl) (by kernel_rfl) (fun _ _ _ h => h) (Or.inl ⟨by rfl, ?hy7⟩) hHeld ?hr7
      case hy7 => (intro w hSw; (try dsimp only at hSw); go_simp; (try with_reducible rfl))
      simp only [Act.put, List.setIfInBounds_toArray, List.set_cons_zero, List.set_cons_succ, List.getElem_toArray, List.getElem_cons_zero]
      refine' wpAnyH_take (i := 3) (v := _) rfl (by kernel_rfl) (by kernel_rfl) (by kernel_rfl) (fun _ _ _ h => h) (Or.inl ⟨by rfl, ?hy8⟩) hHeld ?hr8
      case hy8 => (intro w hSw; (try dsimp only at hSw); go_simp; (try with_reducible rfl))
      simp only [Act.put, List.setIfInBounds_toArray, List.set_cons_zero, List.set_cons_succ, List.getElem_toArray, List.getElem_cons_zero, List.getElem_cons_succ]
      refine' wpAnyH_take (i := 4) (v := _) rfl (by kernel_rfl) (by kernel_rfl) (by kernel_rfl) (fun _ _ _ h => h) (Or.inl ⟨by rfl, ?hy9⟩) hHeld ?hr9
      case hy9 => (intro w hSw; (try dsimp only at hSw); go_simp; (try with_reducible rfl))
      simp only [Act.put, List.setIfInBounds_toArray, List.set_cons_zero, List.set_cons_succ, List.getElem_toArray, List.getElem_cons_zero, List.getElem_cons_succ]
      refine' wpAnyH_take (i := 5) (v := _) rfl (by kernel_rfl) (by kernel_rfl) (by kernel_rfl) (fun _ _ _ h => h) (Or.inl ⟨by rfl, ?hy10⟩) hHeld ?hr10
      case hy10 => (intro w hSw; (try dsimp only at hSw); go_simp; (try with_reducible rfl))
      simp only [Act.put, List.setIfInBounds_toArray, List.set_cons_zero, List.set_cons_succ, List.getElem_toArray, List.getElem_cons_zero, List.getElem_cons_succ]
      refine' wpAnyH_take (i := 6) (v := _) rfl (by kernel_rfl) (by kernel_rfl) (by kernel_rfl) (fun _ _ _ h => h) (Or.inl ⟨by rfl, ?hy11⟩) hHeld ?hr11
      case hy11 => (intro w hSw; (try dsimp only at hSw); go_simp; (try with_reducible rfl))
      simp only [Act.put, List.setIfInBounds_toArray, List.set_cons_zero, List.set_cons_succ, List.getElem_toArray, List.getElem_cons_zero, List.getElem_cons_succ]
      refine' wpAnyH_take (i := 7) (v := _) rfl (by kernel_rfl) (by kernel_rfl) (by kernel_rfl) (fun _ _ _ h => h) (Or.inl ⟨by rfl, ?hy12⟩) hHeld ?hr12
      case hy12 => (intro w hSw; (try dsimp only at hSw); go_simp; (try with_reducible rfl))
      simp only [Act.put, List.setIfInBounds_toArray, List.set_cons_zero, List.set_cons_succ, List.getElem_toArray, List.getElem_cons_zero, List.getElem_cons_succ]
      refine wpAnyH_ready (rs := [1, 2]) (by kernel_rfl) (by simp) (AllReadyH.cons rfl (fun K hK => ?_) (AllReadyH.cons rfl (fun K hK => ?_) AllReadyH.nil))
      · go_simp
        refine hK.out _ _ (by exact hHeld) (fun hHeld => ?_)
        clear hK K
        (try simp only [Act.put, List.setIfInBounds_toArray, List.set_cons_zero, List.set_cons_succ, List.getElem_toArray, List.getElem_cons_zero, List.getElem_cons_succ])
        refine wpAnyH_ready (rs := [2]) (by kernel_rfl) (by simp) (AllReadyH.cons rfl (fun K hK => ?_) AllReadyH.nil)
        go_simp
        have kE := (k.below (bal' wr (Obj.cells #[] 65))).drew
        have hoE := (ownC_nil wr B (by omega)).below (bdr _)
        rw [hBB] at hoE
        clear k
        clear d0 d1 y0 y1 c0 c1 z0 z1
        obtain ⟨⟨_, ⟨d0, d1⟩, ⟨y0, y1⟩⟩, ⟨_, ⟨c0, c1⟩, ⟨z0, z1⟩⟩, _⟩ := id kE
        refine hK.out _ _ (hS _ kE.2.2.2.2.2) (fun hHeld => ?_)
        clear hK K
        (try simp only [Act.put, List.setIfInBounds_toArray, List.set_cons_zero, List.set_cons_succ, List.getElem_toArray, List.getElem_cons_zero, List.getElem_cons_succ])
        refine wpAnyH_ready (rs := [8]) (by kernel_rfl) (by simp) (AllReadyH.cons rfl (fun K hK => ?_) AllReadyH.nil)
        refine step_append_os (by rfl) _ _ (by rfl) B (.slice (some ⟨B, 0, none⟩) 0 0) [] (by rfl) (by exact hoE) (by simp; omega) _ (rowX rows j) (hsrc _ hHeld.2.2) (hne j hlt) (by rfl) (by simp; omega) ?_
        intro r w2 ho2 hg2
        have k2 := kE.kept2 hg2 (fun g e => by simp [Value.ownBlock] at e; omega) hu
        have hor2 : OwnC w2 B r (rowX rows j) := by simpa using ho2
        clear kE ho2 hg2 hoE
        clear d0 d1 y0 y1 c0 c1 z0 z1
        obtain ⟨⟨_, ⟨d0, d1⟩, ⟨y0, y1⟩⟩, ⟨_, ⟨c0, c1⟩, ⟨z0, z1⟩⟩, _⟩ := id k2
        obtain ⟨ra, rn, rc, rfl⟩ : ∃ a n c, r = Value.slice a n c := by rcases hor2.shape with ⟨h, _⟩ | ⟨_, _, h, _⟩ <;> exact ⟨_, _, _, h⟩
        refine hK.out _ _ (hS _ k2.2.2.2.2.2) (fun hHeld => ?_)
        clear hK K
        (try simp only [Act.put, List.setIfInBounds_toArray, List.set_cons_zero, List.set_cons_succ, List.getElem_toArray, List.getElem_cons_zero, List.getElem_cons_succ])
        refine wpAnyH_ready (rs := [9]) (by kernel_rfl) (by simp) (AllReadyH.cons rfl (fun K hK => ?_) AllReadyH.nil)
        go_simp
        refine hK.out _ _ (hS _ (k2.below (bal' _ _)).2.2.2.2.2) (fun hHeld => ?_)
        clear hK K
        (try simp only [Act.put, List.setIfInBounds_toArray, List.set_cons_zero, List.set_cons_succ, List.getElem_toArray, List.getElem_cons_zero, List.getElem_cons_succ])
        refine wpAnyH_ready (rs := [10]) (by kernel_rfl) (by simp) (AllReadyH.cons rfl (fun K hK => ?_) AllReadyH.nil)
        refine step_append_og (by rfl) _ _ (by rfl) (w.heap.size + 1 + 2) B _ _ _ _ (by rfl) k2.2.2.1 (hor2.low hMB) (fun g e => (hor2.lt g e).1) k2.2.2.2.1 hlr _ rfl (by rfl) ?_
        intro v' w' ho' hg'
        have k4 := (k2.below (bal' _ _)).more ho' hg'
        clear k2 ho' hg' hor2
        clear d0 d1 y0 y1 c0 c1 z0 z1
        obtain ⟨⟨_, ⟨d0, d1⟩, ⟨y0, y1⟩⟩, ⟨_, ⟨c0, c1⟩, ⟨z0, z1⟩⟩, _⟩ := id k4
        obtain ⟨va, vn, vc, rfl⟩ : ∃ a n c, v' = Value.slice a n c := by rcases k4.2.2.1.shape with ⟨h, _⟩ | ⟨_, _, h, _⟩ <;> exact ⟨_, _, _, h⟩
        refine hK.out _ _ (hS _ k4.2.2.2.2.2) (fun hHeld => ?_)
        clear hK K
        (try simp only [Act.put, List.setIfInBounds_toArray, List.set_cons_zero, List.set_cons_succ, List.getElem_toArray, List.getElem_cons_zero, List.getElem_cons_succ])
        refine' wpAnyH_take (i := 11) (v := _) rfl (by kernel_rfl) (by kernel_rfl) (by kernel_rfl) (fun _ _ _ h => h) (Or.inl ⟨by rfl, ?hy13⟩) hHeld ?hr13
        case hy13 => (intro w hSw; (try dsimp only at hSw); go_simp; (try with_reducible rfl))
        simp only [Act.put, List.setIfInBounds_toArray, List.set_cons_zero, List.set_cons_succ, List.getElem_toArray, List.getElem_cons_zero, List.getElem_cons_succ]
        refine wpAnyH_ready (rs := [12]) (by kernel_rfl) (by simp) (AllReadyH.cons rfl (fun K hK => ?_) AllReadyH.nil)
        go_simp
        have k5 := ng_put k4
        simp only [putG] at k5
        refine hK.out _ _ (hS _ k5.2.2.2.2.2) (fun hHeld => ?_)
        clear hK K
        (try simp only [Act.put, List.setIfInBounds_toArray, List.set_cons_zero, List.set_cons_succ, List.getElem_toArray, List.getElem_cons_zero, List.getElem_cons_succ])
        refine wpAnyH_done (by kernel_rfl) ?_ _
        refine NoPanic.normal ?_
        clear k4 hHeld d0 d1 y0 y1 c0 c1 z0 z1
        go_wp2
        go_roundw
        case rel => exact ⟨j + 1, by go_num, by omega, _, by rw [hsn.out]; exact k5⟩
        case measure => simp [intOf]; omega
      · go_simp
        have kE := (k.below (bal' wr (Obj.cells #[] 65))).drew
        have hoE := (ownC_nil wr B (by omega)).below (bdr _)
        rw [hBB] at hoE
        clear k
        clear d0 d1 y0 y1 c0 c1 z0 z1
        obtain ⟨⟨_, ⟨d0, d1⟩, ⟨y0, y1⟩⟩, ⟨_, ⟨c0, c1⟩, ⟨z0, z1⟩⟩, _⟩ := id kE
        refine hK.out _ _ (hS _ kE.2.2.2.2.2) (fun hHeld => ?_)
        clear hK K
        (try simp only [Act.put, List.setIfInBounds_toArray, List.set_cons_zero, List.set_cons_succ, List.getElem_toArray, List.getElem_cons_zero, List.getElem_cons_succ])
        refine wpAnyH_ready (rs := [1, 8]) (by kernel_rfl) (by simp) (AllReadyH.cons rfl (fun K hK => ?_) (AllReadyH.cons rfl (fun K hK => ?_) AllReadyH.nil))
        · go_simp
          refine hK.out _ _ (by exact hHeld) (fun hHeld => ?_)
          clear hK K
          (try simp only [Act.put, List.setIfInBounds_toArray, List.set_cons_zero, List.set_cons_succ, List.getElem_toArray, List.getElem_cons_zero, List.getElem_cons_succ])
          refine wpAnyH_ready (rs := [8]) (by kernel_rfl) (by simp) (AllReadyH.cons rfl (fun K hK => ?_) AllReadyH.nil)
          refine step_append_os (by rfl) _ _ (by rfl) B (.slice (some ⟨B, 0, none⟩) 0 0) [] (by rfl) (by exact hoE) (by simp; omega) _ (rowX rows j) (hsrc _ hHeld.2.2) (hne j hlt) (by rfl) (by simp; omega) ?_
          intro r w2 ho2 hg2
          have k2 := kE.kept2 hg2 (fun g e => by simp [Value.ownBlock] at e; omega) hu
          have hor2 : OwnC w2 B r (rowX rows j) := by simpa using ho2
          clear kE ho2 hg2 hoE
          clear d0 d1 y0 y1 c0 c1 z0 z1
          obtain ⟨⟨_, ⟨d0, d1⟩, ⟨y0, y1⟩⟩, ⟨_, ⟨c0, c1⟩, ⟨z0, z1⟩⟩, _⟩ := id k2
          obtain ⟨ra, rn, rc, rfl⟩ : ∃ a n c, r = Value.slice a n c := by rcases hor2.shape with ⟨h, _⟩ | ⟨_, _, h, _⟩ <;> exact ⟨_, _, _, h⟩
          refine hK.out _ _ (hS _ k2.2.2.2.2.2) (fun hHeld => ?_)
          clear hK K
          (try simp only [Act.put, List.setIfInBounds_toArray, List.set_cons_zero, List.set_cons_succ, List.getElem_toArray, List.getElem_cons_zero, List.getElem_cons_succ])
          refine wpAnyH_ready (rs := [9]) (by kernel_rfl) (by simp) (AllReadyH.cons rfl (fun K hK => ?_) AllReadyH.nil)
          go_simp
          refine hK.out _ _ (hS _ (k2.below (bal' _ _)).2.2.2.2.2) (fun hHeld => ?_)
          clear hK K
          (try simp only [Act.put, List.setIfInBounds_toArray, List.set_cons_zero, List.set_cons_succ, List.getElem_toArray, List.getElem_cons_zero, List.getElem_cons_succ])
          refine wpAnyH_ready (rs := [10]) (by kernel_rfl) (by simp) (AllReadyH.cons rfl (fun K hK => ?_) AllReadyH.nil)
          refine step_append_og (by rfl) _ _ (by rfl) (w.heap.size + 1 + 2) B _ _ _ _ (by rfl) k2.2.2.1 (hor2.low hMB) (fun g e => (hor2.lt g e).1) k2.2.2.2.1 hlr _ rfl (by rfl) ?_
          intro v' w' ho' hg'
          have k4 := (k2.below (bal' _ _)).more ho' hg'
          clear k2 ho' hg' hor2
          clear d0 d1 y0 y1 c0 c1 z0 z1
          obtain ⟨⟨_, ⟨d0, d1⟩, ⟨y0, y1⟩⟩, ⟨_, ⟨c0, c1⟩, ⟨z0, z1⟩⟩, _⟩ := id k4
          obtain ⟨va, vn, vc, rfl⟩ : ∃ a n c, v' = Value.slice a n c := by rcases k4.2.2.1.shape with ⟨h, _⟩ | ⟨_, _, h, _⟩ <;> exact ⟨_, _, _, h⟩
          refine hK.out _ _ (hS _ k4.2.2.2.2.2) (fun hHeld => ?_)
          clear hK K
          (try simp only [Act.put, List.setIfInBounds_toArray, List.set_cons_zero, List.set_cons_succ, List.getElem_toArray, List.getElem_cons_zero, List.getElem_cons_succ])
          refine' wpAnyH_take (i := 11) (v := _) rfl (by kernel_rfl) (by kernel_rfl) (by kernel_rfl) (fun _ _ _ h => h) (Or.inl ⟨by rfl, ?hy14⟩) hHeld ?hr14
          case hy14 => (intro w hSw; (try dsimp only at hSw); go_simp; (try with_reducible rfl))
          simp only [Act.put, List.setIfInBounds_toArray, List.set_cons_zero, List.set_cons_succ, List.getElem_toArray, List.getElem_cons_zero, List.getElem_cons_succ]
          refine wpAnyH_ready (rs := [12]) (by kernel_rfl) (by simp) (AllReadyH.cons rfl (fun K hK => ?_) AllReadyH.nil)
          go_simp
          have k5 := ng_put k4
          simp only [putG] at k5
          refine hK.out _ _ (hS _ k5.2.2.2.2.2) (fun hHeld => ?_)
          clear hK K
          (try simp only [Act.put, List.setIfInBounds_toArray, List.set_cons_zero, List.set_cons_succ, List.getElem_toArray, List.getElem_cons_zero, List.getElem_cons_succ])
          refine wpAnyH_done (by kernel_rfl) ?_ _
          refine NoPanic.normal ?_
          clear k4 hHeld d0 d1 y0 y1 c0 c1 z0 z1
          go_wp2
          go_roundw
          case rel => exact ⟨j + 1, by go_num, by omega, _, by rw [hsn.out]; exact k5⟩
          case measure => simp [intOf]; omega
        · refine step_append_os (by rfl) _ _ (by rfl) B (.slice (some ⟨B, 0, none⟩) 0 0) [] (by rfl) (by exact hoE) (by simp; omega) _ (rowX rows j) (hsrc _ hHeld.2.2) (hne j hlt) (by rfl) (by simp; omega) ?_
          intro r w2 ho2 hg2
          have k2 := kE.kept2 hg2 (fun g e => by simp [Value.ownBlock] at e; omega) hu
          have hor2 : OwnC w2 B r (rowX rows j) := by simpa using ho2
          clear kE ho2 hg2 hoE
          clear d0 d1 y0 y1 c0 c1 z0 z1
          obtain ⟨⟨_, ⟨d0, d1⟩, ⟨y0, y1⟩⟩, ⟨_, ⟨c0, c1⟩, ⟨z0, z1⟩⟩, _⟩ := id k2
          obtain ⟨ra, rn, rc, rfl⟩ : ∃ a n c, r = Value.slice a n c := by rcases hor2.shape with ⟨h, _⟩ | ⟨_, _, h, _⟩ <;> exact ⟨_, _, _, h⟩
          refine hK.out _ _ (hS _ k2.2.2.2.2.2) (fun hHeld => ?_)
          clear hK K
          (try simp only [Act.put, List.setIfInBounds_toArray, List.set_cons_zero, List.set_cons_succ, List.getElem_toArray, List.getElem_cons_zero, List.getElem_cons_succ])
          refine wpAnyH_ready (rs := [1, 9]) (by kernel_rfl) (by simp) (AllReadyH.cons rfl (fun K hK => ?_) (AllReadyH.cons rfl (fun K hK => ?_) AllReadyH.nil))
          · go_simp
            refine hK.out _ _ (by exact hHeld) (fun hHeld => ?_)
            clear hK K
            (try simp only [Act.put, List.setIfInBounds_toArray, List.set_cons_zero, List.set_cons_succ, List.getElem_toArray, List.getElem_cons_zero, List.getElem_cons_succ])
            refine wpAnyH_ready (rs := [9]) (by kernel_rfl) (by simp) (AllReadyH.cons rfl (fun K hK => ?_) AllReadyH.nil)
            go_simp
            refine hK.out _ _ (hS _ (k2.below (bal' _ _)).2.2.2.2.2) (fun hHeld => ?_)
            clear hK K
            (try simp only [Act.put, List.setIfInBounds_toArray, List.set_cons_zero, List.set_cons_succ, List.getElem_toArray, List.getElem_cons_zero, List.getElem_cons_succ])
            refine wpAnyH_ready (rs := [10]) (by kernel_rfl) (by simp) (AllReadyH.cons rfl (fun K hK => ?_) AllReadyH.nil)
            refine step_append_og (by rfl) _ _ (by rfl) (w.heap.size + 1 + 2) B _ _ _ _ (by rfl) k2.2.2.1 (hor2.low hMB) (fun g e => (hor2.lt g e).1) k2.2.2.2.1 hlr _ rfl (by rfl) ?_
            intro v' w' ho' hg'
            have k4 := (k2.below (bal' _ _)).more ho' hg'
            clear k2 ho' hg' hor2
            clear d0 d1 y0 y1 c0 c1 z0 z1
            obtain ⟨⟨_, ⟨d0, d1⟩, ⟨y0, y1⟩⟩, ⟨_, ⟨c0, c1⟩, ⟨z0, z1⟩⟩, _⟩ := id k4
            obtain ⟨va, vn, vc, rfl⟩ : ∃ a n c, v' = Value.slice a n c := by rcases k4.2.2.1.shape with ⟨h, _⟩ | ⟨_, _, h, _⟩ <;> exact ⟨_, _, _, h⟩
            refine hK.out _ _ (hS _ k4.2.2.2.2.2) (fun hHeld => ?_)
            clear hK K
            (try simp only [Act.put, List.setIfInBounds_toArray, List.set_cons_zero, List.set_cons_succ, List.getElem_toArray, List.getElem_cons_zero, List.getElem_cons_succ])
            refine' wpAnyH_take (i := 11) (v := _) rfl (by kernel_rfl) (by kernel_rfl) (by kernel_rfl) (fun _ _ _ h => h) (Or.inl ⟨by rfl, ?hy15⟩) hHeld ?hr15
            case hy15 => (intro w hSw; (try dsimp only at hSw); go_simp; (try with_reducible rfl))
            simp only [Act.put, List.setIfInBounds_toArray, List.set_cons_zero, List.set_cons_succ, List.getElem_toArray, List.getElem_cons_zero, List.getElem_cons_succ]
            refine wpAnyH_ready (rs := [12]) (by kernel_rfl) (by simp) (AllReadyH.cons rfl (fun K hK => ?_) AllReadyH.nil)
            go_simp
            have k5 := ng_put k4
            simp only [putG] at k5
            refine hK.out _ _ (hS _ k5.2.2.2.2.2) (fun hHeld => ?_)
            clear hK K
            (try simp only [Act.put, List.setIfInBounds_toArray, List.set_cons_zero, List.set_cons_succ, List.getElem_toArray, List.getElem_cons_zero, List.getElem_cons_succ])
            refine wpAnyH_done (by kernel_rfl) ?_ _
            refine NoPanic.normal ?_
            clear k4 hHeld d0 d1 y0 y1 c0 c1 z0 z1
            go_wp2
            go_roundw
            case rel => exact ⟨j + 1, by go_num, by omega, _, by rw [hsn.out]; exact k5⟩
            case measure => simp [intOf]; omega
          · go_simp
            refine hK.out _ _ (hS _ (k2.below (bal' _ _)).2.2.2.2.2) (fun hHeld => ?_)
            clear hK K
            (try simp only [Act.put, List.setIfInBounds_toArray, List.set_cons_zero, List.set_cons_succ, List.getElem_toArray, List.getElem_cons_zero, List.getElem_cons_succ])
            refine wpAnyH_ready (rs := [1]) (by kernel_rfl) (by simp) (AllReadyH.cons rfl (fun K hK => ?_) AllReadyH.nil)
            go_simp
            refine hK.out _ _ (by exact hHeld) (fun hHeld => ?_)
            clear hK K
            (try simp only [Act.put, List.setIfInBounds_toArray, List.set_cons_zero, List.set_cons_succ, List.getElem_toArray, List.getElem_cons_zero, List.getElem_cons_succ])
            refine wpAnyH_ready (rs := [10]) (by kernel_rfl) (by simp) (AllReadyH.cons rfl (fun K hK => ?_) AllReadyH.nil)
            refine step_append_og (by rfl) _ _ (by rfl) (w.heap.size + 1 + 2) B _ _ _ _ (by rfl) k2.2.2.1 (hor2.low hMB) (fun g e => (hor2.lt g e).1) k2.2.2.2.1 hlr _ rfl (by rfl) ?_
            intro v' w' ho' hg'
            have k4 := (k2.below (bal' _ _)).more ho' hg'
            clear k2 ho' hg' hor2
            clear d0 d1 y0 y1 c0 c1 z0 z1
            obtain ⟨⟨_, ⟨d0, d1⟩, ⟨y0, y1⟩⟩, ⟨_, ⟨c0, c1⟩, ⟨z0, z1⟩⟩, _⟩ := id k4
            obtain ⟨va, vn, vc, rfl⟩ : ∃ a n c, v' = Value.slice a n c := by rcases k4.2.2.1.shape with ⟨h, _⟩ | ⟨_, _, h, _⟩ <;> exact ⟨_, _, _, h⟩
            refine hK.out _ _ (hS _ k4.2.2.2.2.2) (fun hHeld => ?_)
            clear hK K
            (try simp only [Act.put, List.setIfInBounds_toArray, List.set_cons_zero, List.set_cons_succ, List.getElem_toArray, List.getElem_cons_zero, List.getElem_cons_succ])
            refine' wpAnyH_take (i := 11) (v := _) rfl (by kernel_rfl) (by kernel_rfl) (by kernel_rfl) (fun _ _ _ h => h) (Or.inl ⟨by rfl, ?hy16⟩) hHeld ?hr16
            case hy16 => (intro w hSw; (try dsimp only at hSw); go_simp; (try with_reducible rfl))
            simp only [Act.put, List.setIfInBounds_toArray, List.set_cons_zero, List.set_cons_succ, List.getElem_toArray, List.getElem_cons_zero, List.getElem_cons_succ]
            refine wpAnyH_ready (rs := [12]) (by kernel_rfl) (by simp) (AllReadyH.cons rfl (fun K hK => ?_) AllReadyH.nil)
            go_simp
            have k5 := ng_put k4
            simp only [putG] at k5
            refine hK.out _ _ (hS _ k5.2.2.2.2.2) (fun hHeld => ?_)
            clear hK K
            (try simp only [Act.put, List.setIfInBounds_toArray, List.set_cons_zero, List.set_cons_succ, List.getElem_toArray, List.getElem_cons_zero, List.getElem_cons_succ])
            refine wpAnyH_done (by kernel_rfl) ?_ _
            refine NoPanic.normal ?_
            clear k4 hHeld d0 d1 y0 y1 c0 c1 z0 z1
            go_wp2
            go_roundw
            case rel => exact ⟨j + 1, by go_num, by omega, _, by rw [hsn.out]; exact k5⟩
            case measure => simp [intOf]; omega
    · have hjn : j = rows.length := by omega
      have hji : ¬ (j : Int) < (rows.length : Int) := by omega
      subst hjn
      rw [List.take_length] at k
      obtain ⟨⟨_, ⟨d0, d1⟩, ⟨y0, y1⟩⟩, ⟨_, ⟨c0, c1⟩, ⟨z0, z1⟩⟩, _⟩ := id k
      have h3 := k.2.2.2.1
      have kF := (k.1.put2 cols (.slice ua un uc)).2.1
      have hgF := putG2_grown wr (w.heap.size + 1) cols (.slice ua un uc)
      have hoF := ((k.2.2.1).kept hgF (fun g e => by cases e; omega)).up hgF.size
      have hbF := (hb0.trans (k.2.2.2.2.2.mono (by omega))).grown hgF (by omega) (fun g e => by cases e; omega)
      obtain ⟨f0, f1⟩ := kF
      simp only [putG2] at f0 f1 hoF hbF
      clear hgF hs hrc
      go_wp2
      exact bodyPost_ret (v := .agg #[.int .i64 cols, .slice ua un uc]) (by simp [results, Tryd.results46, go_sem, f0, f1]) rfl ⟨_, rfl, hoF.low (by omega), hbF⟩
end Go.Proofs.YtmmmglblkampcaaDoor
namespace Go.Proofs.YtmmmglblkampcaaDoor
open Go.ChangeShapes Go.WideShapes Go.ChangeAt Go.RowKit
theorem moveR_len (cols : Nat) (rows : List (List Ce)) (a b : Nat) (n : Int) (s : St) : (moveR cols rows a b n s).length = rows.length := by simp [moveR]
theorem moveR_at (cols : Nat) (rows : List (List Ce)) (a b : Nat) (n : Int) (s : St) (i : Nat) (hi : i < rows.length) : rowX (moveR cols rows a b n s) i = if a ≤ i ∧ i ≤ b then (if (a : Int) ≤ i + n ∧ (i : Int) + n ≤ b then rowX rows ((i : Int) + n).toNat else rowL cols s) else rowX rows i := by
  rw [rowX_lt (by rw [moveR_len]; exact hi)]
  simp only [moveR, List.getElem_map, List.getElem_range]
  rfl
/-- Where the row at place k of the window comes from. -/
def sigM (a b : Nat) (n : Int) (k : Nat) : Option Nat := if (a : Int) ≤ a + k + n ∧ (a : Int) + k + n ≤ b then some ((a : Int) + k + n).toNat else none
def sigW (a b : Nat) (n : Int) (i : Nat) : Option Nat := if a ≤ i ∧ i ≤ b then sigM a b n (i - a) else some i
theorem sigM_some {a b k p : Nat} {n : Int} (h : sigM a b n k = some p) : (p : Int) = a + k + n ∧ a ≤ p ∧ p ≤ b := by
  unfold sigM at h
  split at h
  · cases h; omega
  · cases h
theorem sigW_inj {a b i j p : Nat} {n : Int} (hi : sigW a b n i = some p) (hj : sigW a b n j = some p) : i = j := by
  unfold sigW at hi hj
  split at hi
  · have h1 := sigM_some hi
    split at hj
    · have h2 := sigM_some hj; omega
    · cases hj; omega
  · cases hi
    split at hj
    · have h2 := sigM_some hj; omega
    · cases hj; rfl
/-- The values while they are put back. -/
def mixV (vs us : List Value) (a j : Nat) : List Value := genV vs.length fun i => if a ≤ i ∧ i < a + j then rowV us (i - a) else rowV vs i
theorem mixV_len (vs us : List Value) (a j : Nat) : (mixV vs us a j).length = vs.length := genV_len _ _
theorem mixV_at (vs us : List Value) (a j i : Nat) (h : i < vs.length) : rowV (mixV vs us a j) i = if a ≤ i ∧ i < a + j then rowV us (i - a) else rowV vs i := genV_at _ _ _ h
theorem mixV_zero (vs us : List Value) (a : Nat) : mixV vs us a 0 = vs := ext_rowV _ _ (mixV_len _ _ _ _) fun i hi => by
  rw [mixV_len] at hi
  rw [mixV_at _ _ _ _ _ hi, if_neg (by omega)]
theorem mixV_step (vs us : List Value) (a j : Nat) (h : a + j < vs.length) : mixV vs us a (j + 1) = (mixV vs us a j).set (a + j) (rowV us j) := ext_rowV _ _ (by rw [List.length_set, mixV_len, mixV_len]) fun i hi => by
  rw [mixV_len] at hi
  rw [rowV_setV (by rw [mixV_len]; exact h), mixV_at _ _ _ _ _ hi, mixV_at _ _ _ _ _ hi]
  by_cases e : i = a + j
  · subst e
    rw [if_pos (by omega), if_pos rfl, show a + j - a = j by omega]
  · rw [if_neg e]
    by_cases c : a ≤ i ∧ i < a + j
    · rw [if_pos c, if_pos (by omega)]
    · rw [if_neg c, if_neg (by omega)]
/-- What holds when the values have been put back. -/
theorem mixed_move {w1 w' : World} {base B M cols : Nat} {v : Value} {vs us : List Value} {rows : List (List Ce)} {a b : Nat} {n : Int} {s : St} (h : OwnV w1 base B v vs rows) (hG : Gat w1 M vs (rowL cols s) (sigM a b n) us) (hus : us.length = b + 1 - a) (hab : a ≤ b) (hb : b < rows.length) (hM : base ≤ M) (hBM : B ≤ M)
    (ho : w'.ownsRow base 43 1 v rows.length (mixV vs us a (b + 1 - a))) (hg : w1.grownBy w' v.ownBlock) : OwnV w' base w'.heap.size v (mixV vs us a (b + 1 - a)) (moveR cols rows a b n s) := by
  have hvl := h.1
  have hown := h.2.1
  refine h.mixed (sigW a b n) _ _ (by rw [mixV_len, moveR_len, hvl]) (moveR_len _ _ _ _ _ _) ho (fun p hp => (h.2.2.1 p hp).kept hg (outer_apart hown (h.2.2.1 p hp))) (fun i p hi e => ?_) (fun i j p hij _ e1 e2 => by have := sigW_inj e1 e2; omega) (fun i hi e => ?_) (fun i j hij hj e1 e2 => ?_)
  · unfold sigW at e
    rw [mixV_at _ _ _ _ _ (by omega), moveR_at _ _ _ _ _ _ _ hi]
    split at e
    · rename_i c
      have hs := sigM_some e
      refine ⟨by omega, ?_, ?_⟩
      · rw [if_pos (by omega)]; exact hG.1 (i - a) p (by omega) e
      · rw [if_pos c, if_pos (by omega), show ((i : Int) + n).toNat = p by omega]
    · rename_i c
      cases e
      exact ⟨hi, by rw [if_neg (by omega)], by rw [if_neg c]⟩
  · unfold sigW at e
    rw [mixV_at _ _ _ _ _ (by omega), moveR_at _ _ _ _ _ _ _ hi]
    split at e
    · rename_i c
      have hr := hG.2.1 (i - a) (by omega) e
      have hn : ¬ ((a : Int) ≤ i + n ∧ (i : Int) + n ≤ b) := by
        unfold sigM at e
        split at e
        · cases e
        · omega
      rw [if_pos (by omega), if_pos c, if_neg hn]
      exact ⟨(hr.kept hg (outer_apart hown hr)).low hM, fun g e => Nat.le_trans hBM (hr.lt g e).1⟩
    · cases e
  · unfold sigW at e1 e2
    split at e1
    · split at e2
      · rw [mixV_at _ _ _ _ _ (by omega), mixV_at _ _ _ _ _ (by omega), if_pos (by omega), if_pos (by omega)]
        exact hG.2.2 (i - a) (j - a) (by omega) (by omega) e1 e2
      · cases e2
    · cases e1
/-- The state of the first loop. -/
def MvK (M : Nat) (u : Value) (vs us : List Value) (X : List Ce) (σ : Nat → Option Nat) (s : St) (w0 W : World) : Prop :=
  StAt W M s ∧ W.ownsRow (M + 1) 43 1 u us.length us ∧ Gat W M vs X σ us ∧ Below M w0 W
theorem MvK.below {M : Nat} {u : Value} {vs us : List Value} {X : List Ce} {σ : Nat → Option Nat} {s : St} {w0 W W' : World} (k : MvK M u vs us X σ s w0 W) (hb : Below W.heap.size W W') : MvK M u vs us X σ s w0 W' :=
  ⟨k.1.below hb, World.ownsRow.below k.2.1 hb, k.2.2.1.below hb, k.2.2.2.trans (hb.mono (by have := k.1.1; omega))⟩
theorem MvK.drew {M : Nat} {u : Value} {vs us : List Value} {X : List Ce} {σ : Nat → Option Nat} {s : St} {w0 W : World} (k : MvK M u vs us X σ s w0 W) : MvK M u vs us X σ s w0 W.drew := k.below (bdr W)
theorem MvK.alloc {M : Nat} {u : Value} {vs us : List Value} {X : List Ce} {σ : Nat → Option Nat} {s : St} {w0 W : World} (k : MvK M u vs us X σ s w0 W) (o : Obj) : MvK M u vs us X σ s w0 (W.alloc o) := k.below (bal' W o)
theorem MvK.more {M : Nat} {u v' : Value} {vs us : List Value} {X : List Ce} {σ : Nat → Option Nat} {s : St} {w0 W W' : World} {r : Value} (k : MvK M u vs us X σ s w0 W) (hG : Gat W M vs X σ (us ++ [r])) (ho : W'.ownsRow (M + 1) 43 1 v' (us.length + 1) (us ++ [r])) (hg : (W.alloc (.cells #[r] 43)).grownBy W' u.ownBlock) : MvK M v' vs (us ++ [r]) X σ s w0 W' := by
  have hba := bal' W (Obj.cells #[r] 43)
  have h1 := hba.size
  have h2 := k.1.1
  have h3 := fun g e => (k.2.1.lt g e).1
  refine ⟨(k.1.below hba).grown hg (fun e => by have := h3 M e; omega), by rw [List.length_append]; exact ho, (hG.below hba).kept (World.ownsRow.below k.2.1 hba) hg, ?_⟩
  exact (k.2.2.2.trans (hba.mono (by omega))).grown hg (by omega) (fun g e => by have := h3 g e; omega)
theorem ownsShape {w : World} {base n : Nat} {v : Value} {xs : List Value} (h : w.ownsRow base 43 1 v n xs) : ∃ a n c, v = Value.slice a n c := by
  rcases h.2 with ⟨h1, _⟩ | ⟨g, cap, cur, hv, _⟩
  · exact ⟨_, _, _, h1⟩
  · exact ⟨_, _, _, hv⟩
set_option maxHeartbeats 8000000 in
set_option maxRecDepth 20000 in
theorem l5Move_any (Bk base B cols : Nat) (v : Value) (vs : List Value) (rows : List (List Ce)) (a b : Nat) (n : Int) (s : St) (w : World) (hG : GrW w Bk cols v) (ho : OwnV w base B v vs rows) (hBk : v.ownBlock ≠ some Bk) (hB : B ≤ w.heap.size) (hbase : base ≤ w.heap.size) (hab : a ≤ b) (hbn : b < rows.length) (hn : -1000 ≤ n ∧ n ≤ 1000) (hl : rows.length ≤ 1000) (hc : cols ≤ 1000) :
    Calls Tryd.prog 47 #[.pointer (some ⟨Bk, 0, none⟩), .int .i64 (a : Int), .int .i64 (b : Int), .int .i64 n, stV s] w fun e w' => e = .returned (.tuple #[]) ∧ GrW w' Bk cols v ∧ OwnG w' base w'.heap.size v (moveR cols rows a b n s) ∧ Below base w w' := by
  have hvl := ho.1
  have hrow := fun W => l4Row_any cols s W hc
  have hin := fun x W => l1In_any x a b W
  have hS0 := StAt.new w s 28
  have hb0 := bal' w (Obj.cells #[.int .i64 s.fore, .int .i64 s.back, .bool s.bold, .bool s.under, .bool s.turned] 28)
  rcases ho.shape with ⟨_, h⟩ | ⟨g, cap, rfl, hbg, hlg, hcap⟩
  · rw [h] at hbn; simp at hbn
  have hvsl := ho.areSl
  have hgB : g ≠ Bk := fun e => hBk (by rw [e]; rfl)
  have hBk0 := hG.1
  clear hBk
  unfold stV at *
  have k0 : MvK w.heap.size (.slice (some ⟨w.heap.size + 1, 0, none⟩) 0 0) vs [] (rowL cols s) (sigM a b n) s w ((w.alloc (Obj.cells #[.int .i64 s.fore, .int .i64 s.back, .bool s.bold, .bool s.under, .bool s.turned] 28)).alloc (.cells #[] 43)) := by
    have e1 : (w.alloc (Obj.cells #[.int .i64 s.fore, .int .i64 s.back, .bool s.bold, .bool s.under, .bool s.turned] 28)).heap.size = w.heap.size + 1 := by simp
    have h1 := World.ownsRow_lit (base := w.heap.size + 1) (e := 43) (size := 1) (w.alloc (Obj.cells #[.int .i64 s.fore, .int .i64 s.back, .bool s.bold, .bool s.under, .bool s.turned] 28)) #[] 0 (by omega) (Nat.zero_le _) rfl
    rw [e1] at h1
    exact ⟨hS0.below (bal' _ _), h1, Gat.nil _ _ _ _ _, hb0.trans ((bal' _ _).mono hb0.size)⟩
  clear hS0 hb0
  go_enter Tryd.func47, Tryd.ntmps47
  go_wp2
  go_loopw [10, 11] (fun u i wr => ∃ (q : Nat) (us : List Value), i = .int .i64 q ∧ a ≤ q ∧ q ≤ b + 1 ∧ us.length = q - a ∧ MvK w.heap.size u vs us (rowL cols s) (sigM a b n) s w wr) (fun _ i _ => b + 1 - (intOf i).toNat)
  case atStart => exact ⟨a, [], rfl, Nat.le_refl _, by omega, by simp, k0⟩
  case round =>
    clear k0
    obtain ⟨q, us, rfl, hq1, hq2, hul, k⟩ := hrel
    by_cases hlt : q ≤ b
    · have hji : (q : Int) ≤ (b : Int) := by omega
      have hG1 := hG.below (k.2.2.2)
      have ho1 := ho.below (k.2.2.2)
      have c0 := hG1.2.1.1
      have c1 := hG1.2.1.2
      obtain ⟨_, ⟨d0, d1, d2, d3, d4⟩, _⟩ := id k.1
      have hM := k.1.1
      obtain ⟨ua, un, uc, rfl⟩ := ownsShape k.2.1
      by_cases hw : (a : Int) ≤ (q : Int) + n ∧ (q : Int) + n ≤ (b : Int)
      · obtain ⟨p, hp⟩ : ∃ p : Nat, (q : Int) + n = (p : Int) := ⟨((q : Int) + n).toNat, by omega⟩
        have hsg : sigM a b n us.length = some p := by
          unfold sigM
          rw [hul, if_pos (by omega)]
          congr 1; omega
        have hdd : decide ((a : Int) ≤ (p : Int) ∧ (p : Int) ≤ (b : Int)) = true := decide_eq_true (by omega)
        have hin1 := fun W => l1In_any (p : Int) a b W
        simp only [hdd] at hin1
        have hcp := ho1.cell rfl p (by omega)
        have hp0 : (0 : Int) ≤ (p : Int) := by omega
        have hpl : (p : Int) < (rows.length : Int) := by omega
        have hr := hvsl p (by omega)
        have hGat := k.2.2.1.old p hsg
        have hHp : Hid ((q : Int) + n = (p : Int)) := hp
        have hlen : us.length < 2000000 := by omega
        obtain ⟨ra, rn, rc, hre⟩ := hr
        rw [hre] at hcp hGat
        have hfin : ∀ (v' : Value) (w' : World), w'.ownsRow (w.heap.size + 1) 43 1 v' (us.length + 1) (us ++ [.slice ra rn rc]) → (wr.alloc (.cells #[.slice ra rn rc] 43)).grownBy w' (Value.slice ua un uc).ownBlock → MvK w.heap.size v' vs (us ++ [.slice ra rn rc]) (rowL cols s) (sigM a b n) s w w' := fun v' w' h1 h2 => k.more hGat h1 h2
        have hown := k.2.1
        clear hrow hGat k hG1 ho1 hre hvsl hw hdd hin
        go_wp2_with fail
        refine (hin1 _).mono ?_
        rintro e w2 ⟨rfl, hw⟩
        subst hw
        go_wp2_with (at_builtin; refine append_ov (by rfl) _ _ (by rfl) (w.heap.size + 1) us.length (.slice ua un uc) us (.slice ra rn rc) (by rfl) hown ⟨_, _, _, rfl⟩ (by omega) hlen _ rfl (by rfl) ?_; intro v' w' ho' hg')
        have kk := hfin v' w' ho' hg'
        clear hfin ho' hg' hown
        go_wp2
        go_roundw
        case rel => exact ⟨q + 1, us ++ [.slice ra rn rc], by go_num, by omega, by omega, by rw [List.length_append, hul, List.length_singleton]; omega, kk⟩
        case measure => simp [intOf]; omega
      · have hsg : sigM a b n us.length = none := by
          unfold sigM
          rw [hul, if_neg (by omega)]
        have hdd : decide ((a : Int) ≤ (q : Int) + n ∧ (q : Int) + n ≤ (b : Int)) = false := decide_eq_false hw
        have hlen : us.length < 2000000 := by omega
        have hS0 : ∀ W : World, Below wr.heap.size wr W → (W.cell? ⟨Bk, 0, none⟩ = some (.int .i64 cols) ∧ W.cell? ⟨w.heap.size, 0, none⟩ = some (.int .i64 s.fore) ∧ W.cell? ⟨w.heap.size, 1, none⟩ = some (.int .i64 s.back) ∧ W.cell? ⟨w.heap.size, 2, none⟩ = some (.bool s.bold) ∧ W.cell? ⟨w.heap.size, 3, none⟩ = some (.bool s.under) ∧ W.cell? ⟨w.heap.size, 4, none⟩ = some (.bool s.turned)) := fun W h => ⟨(hG1.below h).2.1.1, (k.1.below h).2.1⟩
        have hS1 : ∀ (W0 W : World) (r : Value), Below wr.heap.size wr W0 → (W0.alloc (.cells #[r] 43)).grownBy W (Value.slice ua un uc).ownBlock → (W.cell? ⟨Bk, 0, none⟩ = some (.int .i64 cols) ∧ W.cell? ⟨w.heap.size, 0, none⟩ = some (.int .i64 s.fore) ∧ W.cell? ⟨w.heap.size, 1, none⟩ = some (.int .i64 s.back) ∧ W.cell? ⟨w.heap.size, 2, none⟩ = some (.bool s.bold) ∧ W.cell? ⟨w.heap.size, 3, none⟩ = some (.bool s.under) ∧ W.cell? ⟨w.heap.size, 4, none⟩ = some (.bool s.turned)) := fun W0 W r h hg => by
          have h2 := h.trans ((bal' W0 (Obj.cells #[r] 43)).mono h.size)
          have h3 := fun g e => (k.2.1.lt g e).1
          exact ⟨((hG1.below h2).grown hg (fun e => by have := h3 Bk e; omega)).2.1.1, ((k.1.below h2).grown hg (fun e => by have := h3 w.heap.size e; omega)).2.1⟩
        have hfin : ∀ (v' r : Value) (W0 w' : World), Below wr.heap.size wr W0 → OwnC W0 wr.heap.size r (rowL cols s) → w'.ownsRow (w.heap.size + 1) 43 1 v' (us.length + 1) (us ++ [r]) → (W0.alloc (.cells #[r] 43)).grownBy w' (Value.slice ua un uc).ownBlock → MvK w.heap.size v' vs (us ++ [r]) (rowL cols s) (sigM a b n) s w w' := fun v' r W0 w' hb hr h1 h2 => (k.below hb).more (k.2.2.1.new hsg hb r hr (by omega)) h1 h2
        have hown := fun W h => World.ownsRow.below k.2.1 (w' := W) h
        have hin1 := fun W => l1In_any ((q : Int) + n) a b W
        simp only [hdd] at hin1
        clear hG1 ho1 hdd hin k
        go_wp2_with fail
        refine (hin1 _).mono ?_
        rintro e w2 ⟨rfl, hw⟩
        subst hw
        have hbd := bdr w2
        have hkd := hS0 _ hbd
        go_wp2
        go_region_held3 (fun W => W.cell? ⟨Bk, 0, none⟩ = some (.int .i64 cols) ∧ W.cell? ⟨w.heap.size, 0, none⟩ = some (.int .i64 s.fore) ∧ W.cell? ⟨w.heap.size, 1, none⟩ = some (.int .i64 s.back) ∧ W.cell? ⟨w.heap.size, 2, none⟩ = some (.bool s.bold) ∧ W.cell? ⟨w.heap.size, 3, none⟩ = some (.bool s.under) ∧ W.cell? ⟨w.heap.size, 4, none⟩ = some (.bool s.turned)) (with_reducible assumption)
          (first
            | (go_at_call 60; refine (hrow _).mono ?_; rintro e wk ⟨r, rfl, hor, hb2⟩; obtain ⟨ra, rn, rc, rfl⟩ := hor.isSl; have hbk := hbd.trans (hb2.mono hbd.size); have hka := hS0 _ hbk; have hkl := hS0 _ (hbk.trans ((bal' wk (Obj.cells #[.slice ra rn rc] 43)).mono hbk.size)))
            | (refine step_append_ov (by rfl) _ _ (by rfl) (w.heap.size + 1) us.length (.slice ua un uc) us (.slice ra rn rc) (by rfl) (hown _ hbk) ⟨_, _, _, rfl⟩ (Nat.le_trans hM hbk.size) hlen _ rfl (by rfl) ?_; intro v' w' ho' hg'; have hkc := hS1 _ _ _ hbk hg'))
        have kk := hfin v' _ wk w' hbk hor ho' hg'
        clear hfin hS0 hS1 hown ho' hg' hor hb2 hbk hka hkl hkc hkd hbd hrow
        go_wp2
        go_roundw
        case rel => exact ⟨q + 1, us ++ [.slice ra rn rc], by go_num, by omega, by omega, by rw [List.length_append, hul, List.length_singleton]; omega, kk⟩
        case measure => simp [intOf]; omega
    · have hji : ¬ (q : Int) ≤ (b : Int) := by omega
      have hqe : q = b + 1 := by omega
      subst hqe
      have hM := k.1.1
      have hG1 := hG.below (k.2.2.2)
      have ho1 := ho.below (k.2.2.2)
      have husl : AreSl us := k.2.2.1.areSl hvsl (fun k p _ e => by have := sigM_some e; omega)
      rcases k.2.1.2 with ⟨_, h⟩ | ⟨gu, cu, cur, rfl, hgu, hgu2, _⟩
      · omega
      have hne : gu ≠ g := by omega
      have hown1 := ho1.2.1
      have hown2 := k.2.1
      have hGat := k.2.2.1
      have hbw := k.2.2.2
      obtain ⟨w1, rfl⟩ : ∃ w1, w1 = wr := ⟨wr, rfl⟩
      clear k hin hrow hgu2
      go_wp2
      go_loopw [12] (fun i W => ∃ (q : Nat), i = .int .i64 q ∧ a ≤ q ∧ q ≤ b + 1 ∧ W.ownsRow base 43 1 (.slice (some ⟨g, 0, none⟩) rows.length cap) rows.length (mixV vs us a (q - a)) ∧ w1.grownBy W (some g)) (fun i _ => b + 1 - (intOf i).toNat)
      case atStart => exact ⟨a, rfl, Nat.le_refl _, by omega, by rw [Nat.sub_self, mixV_zero]; exact hown1, World.grownBy.refl _ _⟩
      case round =>
        obtain ⟨q, rfl, hq1, hq2, ko, kg⟩ := hrel
        by_cases hlt : q ≤ b
        · have hji2 : (q : Int) ≤ (b : Int) := by omega
          obtain ⟨j, hj⟩ : ∃ j : Nat, (q : Int) - (a : Int) = (j : Int) := ⟨q - a, by omega⟩
          have hj2 : q - a = j := by omega
          have hj3 : q + 1 - a = j + 1 := by omega
          have hq3 : q = a + j := by omega
          have hst := mixV_step vs us a j (by omega)
          rw [hj2] at ko
          obtain ⟨ra, rn, rc, hre⟩ := husl j (by omega)
          rw [hre] at hst
          have hcu : w1.cell? ⟨gu, j, none⟩ = some (.slice ra rn rc) := by rw [World.ownsRow.cellAt hown2 j (by omega), rowV_get (by omega), hre]
          have hown3 := World.ownsRow.kept hown2 kg (Or.inr (fun e => hne (Option.some.inj e)))
          have hcq : _ := World.ownsRow.cellAt ko q (by omega)
          have hfz := World.ownsRow.frozenAt ko q
          have hvq : ∃ a' n' c', rowV (mixV vs us a j) q = Value.slice a' n' c' := by
            rw [mixV_at _ _ _ _ _ (by omega)]
            split
            · exact husl _ (by omega)
            · exact hvsl _ (by omega)
          rw [rowV_get (by rw [mixV_len]; omega)] at hcq
          have c1 := (hG1.grown kg (by simp; exact hgB)).2.1.2
          have hcu2 : wr.cell? ⟨gu, j, none⟩ = some (.slice ra rn rc) := by rw [World.ownsRow.cellAt hown3 j (by omega), rowV_get (by omega), hre]
          have hkd := (show (wr.drew.cell? ⟨Bk, 1, none⟩ = some (.slice (some ⟨g, 0, none⟩) rows.length cap) ∧ wr.drew.cell? ⟨gu, j, none⟩ = some (.slice ra rn rc)) from ⟨c1, hcu2⟩)
          have hk0 := World.ownsRow.stored ko q (.slice ra rn rc)
          have hk1 : (wr.setCell ⟨g, q, none⟩ (.slice ra rn rc)).drew.ownsRow base 43 1 (.slice (some ⟨g, 0, none⟩) rows.length cap) rows.length (mixV vs us a (q + 1 - a)) := by
            rw [hj3, hst, ← hq3]; exact World.ownsRow.below hk0.1 (bdr _)
          have hkg : w1.grownBy (wr.setCell ⟨g, q, none⟩ (.slice ra rn rc)).drew (some g) := grown_tr (grown_tr kg hk0.2) (gbl (bdr _) (some g))
          have hks : (wr.setCell ⟨g, q, none⟩ (.slice ra rn rc)).drew.cell? ⟨Bk, 1, none⟩ = some (.slice (some ⟨g, 0, none⟩) rows.length cap) ∧ (wr.setCell ⟨g, q, none⟩ (.slice ra rn rc)).drew.cell? ⟨gu, j, none⟩ = some (.slice ra rn rc) := by
            refine ⟨(hG1.grown hkg (by simp; exact hgB)).2.1.2, ?_⟩
            rw [World.ownsRow.cellAt (World.ownsRow.kept hown2 hkg (Or.inr (fun e => hne (Option.some.inj e)))) j (by omega), rowV_get (by omega), hre]
          obtain ⟨xa, xn, xc, hxe⟩ := hvq
          have hwj : IntKind.i64.wrap ((q : Int) - (a : Int)) = (j : Int) := by rw [hj]; simp [IntKind.wrap_i64]; omega
          rw [hxe] at hcq
          have hqr : q < rows.length := by omega
          have hjl : j < b + 1 - a := by omega
          have hj0 : (0 : Int) ≤ (j : Int) := by omega
          have hqri : (q : Int) < (rows.length : Int) := by omega
          have hjli : (j : Int) < ((b + 1 - a : Nat) : Int) := by omega
          clear hul hvl hj hk0 hxe hown3 hst hre hcu ko kg hGat hown1 hown2 hG1 ho1 husl hvsl hj2 hj3 hq3
          go_wp2
          go_region_held3 (fun W => W.cell? ⟨Bk, 1, none⟩ = some (.slice (some ⟨g, 0, none⟩) rows.length cap) ∧ W.cell? ⟨gu, j, none⟩ = some (.slice ra rn rc)) (with_reducible assumption) (fail)
          clear hks hkd
          go_wp2
          go_roundw
          case rel => exact ⟨q + 1, by go_num, by omega, by omega, hk1, hkg⟩
          case measure => simp [intOf]; omega
        · have hji2 : ¬ (q : Int) ≤ (b : Int) := by omega
          have hqe : q = b + 1 := by omega
          subst hqe
          have hfin := mixed_move ho1 hGat hul hab hbn hbase hB ko kg
          have hgr := hG1.grown kg (by simp; exact hgB)
          have hbb := (hbw.mono hbase).grown kg (by omega) (fun g' e => by cases e; omega)
          clear ko kg hGat hown1 hown2 hG1 ho1 husl hvsl hul
          go_wp2
          refine bodyPost_end (results_none rfl _ _ _) rfl ?_
          exact ⟨rfl, hgr, hfin.g, hbb⟩
end Go.Proofs.YtmmmglblkampcaaDoor
namespace Go.Proofs.YtmmmglblkampcaaDoor
open Go.ChangeShapes Go.WideShapes Go.ChangeAt Go.RowKit
attribute [local go_sem ↓] eq_st
/-- A cell in a block of its own. -/
def CeN (w : World) (B : Nat) (c : Ce) : Prop :=
  w.cell? ⟨B, 0, none⟩ = some (.int .i64 c.rune) ∧ w.cell? ⟨B, 1, none⟩ = some (.int .i64 c.st.fore) ∧ w.cell? ⟨B, 2, none⟩ = some (.int .i64 c.st.back) ∧ w.cell? ⟨B, 3, none⟩ = some (.bool c.st.bold) ∧ w.cell? ⟨B, 4, none⟩ = some (.bool c.st.under) ∧ w.cell? ⟨B, 5, none⟩ = some (.bool c.st.turned) ∧ w.cell? ⟨B, 6, none⟩ = some (.int .i64 c.part)
theorem CeN.new (w : World) (c : Ce) (t : TypeId) : CeN (w.alloc (.cells #[.int .i64 c.rune, .int .i64 c.st.fore, .int .i64 c.st.back, .bool c.st.bold, .bool c.st.under, .bool c.st.turned, .int .i64 c.part] t)) w.heap.size c :=
  ⟨by simp [go_sem], by simp [go_sem], by simp [go_sem], by simp [go_sem], by simp [go_sem], by simp [go_sem], by simp [go_sem]⟩
theorem CeN.below {w w' : World} {B : Nat} {c : Ce} (h : CeN w B c) (hb : Below w.heap.size w w') (hlt : B < w.heap.size) : CeN w' B c := by
  have e : ∀ k, w'.cell? ⟨B, k, none⟩ = w.cell? ⟨B, k, none⟩ := fun k => hb.cell (p := ⟨B, k, none⟩) hlt
  unfold CeN
  rw [e, e, e, e, e, e, e]
  exact h
set_option maxHeartbeats 16000000 in
set_option maxRecDepth 20000 in
theorem specRowOk_any (v : Value) (xs : List Ce) (w : World) (hv : SlC w v xs) (hl : xs.length ≤ 1048576) :
    Calls Tryd.prog 50 #[v] w fun e w' => e = .returned (.bool (rowOkB xs)) ∧ Below w.heap.size w w' := by
  have hOK := fun s W => specStyleOk_any s W
  obtain ⟨a, c, rfl, hcp, _, hr⟩ := id hv
  by_cases hn : 1 ≤ xs.length ∧ xs.length ≤ 60
  · obtain ⟨hn1, hn2⟩ := hn
    have hn1i : ¬ (xs.length : Int) < 1 := by omega
    have hn2i : ¬ 60 < (xs.length : Int) := by omega
    rcases hr with h | ⟨b, off, rfl, hbb, hsrc0⟩
    · rw [h] at hn1; simp at hn1
    unfold stV at hOK
    go_enter Tryd.func50, Tryd.ntmps50
    go_wp2
    go_loopw [4] (fun i wr => ∃ j : Nat, i = .int .i64 j ∧ j ≤ xs.length ∧ Hid (∀ k, k < j → cellOkB xs k = true) ∧ Below w.heap.size w wr) (fun i _ => xs.length - (intOf i).toNat)
    case atStart => exact ⟨0, rfl, Nat.zero_le _, (fun k hk => absurd hk (Nat.not_lt_zero k)), Below.refl _ _⟩
    case round =>
      obtain ⟨j, rfl, hj, hall, kb⟩ := hrel
      by_cases hlt : j < xs.length
      · have hji : (j : Int) < (xs.length : Int) := by omega
        have hj0 : (0 : Int) ≤ (j : Int) := by omega
        have hat := (hsrc0 j hlt).below kb hbb
        obtain ⟨c0, c1, c2, c3, c4, c5, c6⟩ := hat
        have hx := CeN.new wr (atC xs j) 65
        have kb1 := kb.trans ((bal' wr (Obj.cells #[.int .i64 (atC xs j).rune, .int .i64 (atC xs j).st.fore, .int .i64 (atC xs j).st.back, .bool (atC xs j).st.bold, .bool (atC xs j).st.under, .bool (atC xs j).st.turned, .int .i64 (atC xs j).part] 65)).mono kb.size)
        have hst := hOK (atC xs j).st
        obtain ⟨d0, d1, d2, d3, d4, d5, d6⟩ := id hx
        go_wp2_with fail
        refine (hst _).mono ?_
        rintro e w2 ⟨rfl, hb2⟩
        have hx2 := hx.below hb2 (by simp)
        have kb2 := kb1.trans (hb2.mono kb1.size)
        have hsrc : ∀ i, i < xs.length → CeAt w2 b (off + i * 7) (atC xs i) := fun i hi => (hsrc0 i hi).below kb2 hbb
        clear hx kb1 hb2 kb hst c0 c1 c2 c3 c4 c5 c6 d0 d1 d2 d3 d4 d5 d6 hv
        obtain ⟨d0, d1, d2, d3, d4, d5, d6⟩ := hx2
        cases hso : (atC xs j).st.ok
        · have hno : rowOkB xs = false := rowOkB_no xs j hlt (by unfold cellOkB; rw [hso]; rfl)
          clear hall hsrc
          go_wp2
          go_ret
          first | exact ⟨ret_bool hno.symm, kb2⟩ | exact ⟨rfl, kb2⟩ | exact ⟨rfl, kb2.drew⟩ | exact ⟨ret_bool hno.symm, kb2.drew⟩
        · by_cases e0 : (atC xs j).part = 0
          · have b0 : ((atC xs j).part == 0) = true := by simp [e0]
            have hwd := specWidth_any (atC xs j).rune
            by_cases e1 : widthV (atC xs j).rune = 1
            · have b1 : (widthV (atC xs j).rune != 1) = false := by simp [e1]
              have hyes : cellOkB xs j = true := by unfold cellOkB; rw [hso, if_pos e0]; simp [e1]
              have hall' : Hid (∀ k, k < j + 1 → cellOkB xs k = true) := fun k hk => by rcases Nat.lt_succ_iff_lt_or_eq.1 hk with h | rfl; exact hall.out k h; exact hyes
              clear hall hsrc hyes e1
              go_wp2_with fail
              refine (hwd _).mono ?_
              rintro e w3 ⟨rfl, hw3⟩
              subst hw3
              go_wp2
              go_roundw
              case rel => exact ⟨j + 1, by go_num, by omega, hall', (by first | exact kb2 | exact kb2.drew)⟩
              case measure => simp [intOf]; omega
            · have b1 : (widthV (atC xs j).rune != 1) = true := by simp [e1]
              have hno : rowOkB xs = false := rowOkB_no xs j hlt (by unfold cellOkB; rw [hso, if_pos e0]; simp [e1])
              clear hall hsrc e1
              go_wp2_with fail
              refine (hwd _).mono ?_
              rintro e w3 ⟨rfl, hw3⟩
              subst hw3
              go_wp2
              go_ret
              first | exact ⟨ret_bool hno.symm, kb2⟩ | exact ⟨rfl, kb2⟩ | exact ⟨rfl, kb2.drew⟩ | exact ⟨ret_bool hno.symm, kb2.drew⟩
          · have b0 : ((atC xs j).part == 0) = false := by simp [e0]
            by_cases e1 : (atC xs j).part = 1
            · have b1 : ((atC xs j).part == 1) = true := by simp [e1]
              have hlj : j < xs.length := hlt
              by_cases e2 : widthV (atC xs j).rune = 2
              · have b2 : (widthV (atC xs j).rune != 2) = false := by simp [e2]
                by_cases e3 : j + 1 = xs.length
                · have b3 : ((j : Int) + 1 == (xs.length : Int)) = true := by simp; omega
                  have hwr : IntKind.i64.wrap ((j : Int) + 1) = (j : Int) + 1 := by simp [IntKind.wrap_i64]; omega
                  have hno : rowOkB xs = false := rowOkB_no xs j hlt (by unfold cellOkB; rw [hso, if_neg e0, if_pos e1, decide_eq_false (show ¬ j + 1 < xs.length by omega)]; simp)
                  clear hall hsrc e2 e3
                  go_wp2
                  refine wp_region_noPanic ?_
                  refine wp_region_held_drew (S := fun W => W = w2.drew) (by kernel_rfl) rfl (fun hHeld => ?_)
                  refine' wpAnyH_take (i := 0) (v := _) rfl (by kernel_rfl) (by kernel_rfl) (by kernel_rfl) (fun _ _ _ h => h) (Or.inl ⟨by rfl, ?hy1⟩) hHeld ?hr1
                  case hy1 => (intro w hSw; (try dsimp only at hSw); subst hSw; go_simp; (try with_reducible rfl))
                  simp only [Act.put, List.setIfInBounds_toArray, List.set_cons_zero, List.set_cons_succ, List.getElem_toArray, List.getElem_cons_zero]
                  refine' wpAnyH_take (i := 1) (v := _) rfl (by kernel_rfl) (by kernel_rfl) (by kernel_rfl) (fun _ _ _ h => h) (Or.inl ⟨by rfl, ?hy2⟩) hHeld ?hr2
                  case hy2 => (intro w hSw; (try dsimp only at hSw); subst hSw; go_simp; (try with_reducible rfl))
                  simp only [Act.put, List.setIfInBounds_toArray, List.set_cons_zero, List.set_cons_succ, List.getElem_toArray, List.getElem_cons_zero, List.getElem_cons_succ]
                  refine wpAnyH_ready (rs := [2]) (by kernel_rfl) (by simp) (AllReadyH.cons rfl (fun K hK => ?_) AllReadyH.nil)
                  go_simp
                  refine (specWidth_any _ _).mono ?_
                  rintro e wk ⟨rfl, hwk⟩
                  subst hwk
                  go_wp2_with fail
                  refine hK.out _ _ (by rfl) (fun hHeld => ?_)
                  clear hK K
                  (try simp only [Act.put, List.setIfInBounds_toArray, List.set_cons_zero, List.set_cons_succ])
                  refine' wpAnyH_take (i := 3) (v := _) rfl (by kernel_rfl) (by kernel_rfl) (by kernel_rfl) (fun _ _ _ h => h) (Or.inl ⟨by rfl, ?hy3⟩) hHeld ?hr3
                  case hy3 => (intro w hSw; (try dsimp only at hSw); subst hSw; go_simp; (try with_reducible rfl))
                  simp only [Act.put, List.setIfInBounds_toArray, List.set_cons_zero, List.set_cons_succ, List.getElem_toArray, List.getElem_cons_zero, List.getElem_cons_succ]
                  refine' wpAnyH_take (i := 4) (v := _) rfl (by kernel_rfl) (by kernel_rfl) (by kernel_rfl) (fun _ _ _ h => h) (Or.inl ⟨by rfl, ?hy4⟩) hHeld ?hr4
                  case hy4 => (intro w hSw; (try dsimp only at hSw); subst hSw; go_simp; (try with_reducible rfl))
                  simp only [Act.put, List.setIfInBounds_toArray, List.set_cons_zero, List.set_cons_succ, List.getElem_toArray, List.getElem_cons_zero, List.getElem_cons_succ]
                  refine' wpAnyH_take (i := 5) (v := _) rfl (by kernel_rfl) (by kernel_rfl) (by kernel_rfl) (fun _ _ _ h => h) (Or.inl ⟨by rfl, ?hy5⟩) hHeld ?hr5
                  case hy5 => (intro w hSw; (try dsimp only at hSw); subst hSw; go_simp; (try with_reducible rfl))
                  simp only [Act.put, List.setIfInBounds_toArray, List.set_cons_zero, List.set_cons_succ, List.getElem_toArray, List.getElem_cons_zero, List.getElem_cons_succ]
                  refine' wpAnyH_take (i := 6) (v := _) rfl (by kernel_rfl) (by kernel_rfl) (by kernel_rfl) (fun _ _ _ h => h) (Or.inl ⟨by rfl, ?hy6⟩) hHeld ?hr6
                  case hy6 => (intro w hSw; (try dsimp only at hSw); subst hSw; go_simp; (try with_reducible rfl))
                  simp only [Act.put, List.setIfInBounds_toArray, List.set_cons_zero, List.set_cons_succ, List.getElem_toArray, List.getElem_cons_zero, List.getElem_cons_succ]
                  refine' wpAnyH_take (i := 7) (v := _) rfl (by kernel_rfl) (by kernel_rfl) (by kernel_rfl) (fun _ _ _ h => h) (Or.inl ⟨by rfl, ?hy7⟩) hHeld ?hr7
                  case hy7 => (intro w hSw; (try dsimp only at hSw); subst hSw; go_simp; (try with_reducible rfl))
                  simp only [Act.put, List.setIfInBounds_toArray, List.set_cons_zero, List.set_cons_succ, List.getElem_toArray, List.getElem_cons_zero, List.getElem_cons_succ]
                  refine' wpAnyH_take (i := 8) (v := _) rfl (by kernel_rfl) (by kernel_rfl) (by kernel_rfl) (fun _ _ _ h => h) (Or.inl ⟨by rfl, ?hy8⟩) hHeld ?hr8
                  case hy8 => (intro w hSw; (try dsimp only at hSw); subst hSw; go_simp; (try with_reducible rfl))
                  simp only [Act.put, List.setIfInBounds_toArray, List.set_cons_zero, List.set_cons_succ, List.getElem_toArray, List.getElem_cons_zero, List.getElem_cons_succ]
                  refine' wpAnyH_take (i := 9) (v := _) rfl (by kernel_rfl) (by kernel_rfl) (by kernel_rfl) (fun _ _ _ h => h) (Or.inl ⟨by rfl, ?hy9⟩) hHeld ?hr9
                  case hy9 => (intro w hSw; (try dsimp only at hSw); subst hSw; go_simp; (try with_reducible rfl))
                  simp only [Act.put, List.setIfInBounds_toArray, List.set_cons_zero, List.set_cons_succ, List.getElem_toArray, List.getElem_cons_zero, List.getElem_cons_succ]
                  refine' wpAnyH_take (i := 10) (v := _) rfl (by kernel_rfl) (by kernel_rfl) (by kernel_rfl) (fun _ _ _ h => h) (Or.inl ⟨by rfl, ?hy10⟩) hHeld ?hr10
                  case hy10 => (intro w hSw; (try dsimp only at hSw); subst hSw; go_simp; (try with_reducible rfl))
                  simp only [Act.put, List.setIfInBounds_toArray, List.set_cons_zero, List.set_cons_succ, List.getElem_toArray, List.getElem_cons_zero, List.getElem_cons_succ]
                  refine wpAnyH_take (i := 11) (v := undef) rfl (by kernel_rfl) (by kernel_rfl) (by kernel_rfl) (fun _ _ _ h => h) (Or.inr ⟨by rfl, rfl⟩) hHeld ?_
                  simp only [Act.put, List.setIfInBounds_toArray, List.set_cons_zero, List.set_cons_succ, List.getElem_toArray, List.getElem_cons_zero, List.getElem_cons_succ]
                  refine wpAnyH_take (i := 12) (v := undef) rfl (by kernel_rfl) (by kernel_rfl) (by kernel_rfl) (fun _ _ _ h => h) (Or.inr ⟨by rfl, rfl⟩) hHeld ?_
                  simp only [Act.put, List.setIfInBounds_toArray, List.set_cons_zero, List.set_cons_succ, List.getElem_toArray, List.getElem_cons_zero, List.getElem_cons_succ]
                  refine wpAnyH_take (i := 13) (v := undef) rfl (by kernel_rfl) (by kernel_rfl) (by kernel_rfl) (fun _ _ _ h => h) (Or.inr ⟨by rfl, rfl⟩) hHeld ?_
                  simp only [Act.put, List.setIfInBounds_toArray, List.set_cons_zero, List.set_cons_succ, List.getElem_toArray, List.getElem_cons_zero, List.getElem_cons_succ]
                  refine wpAnyH_take (i := 14) (v := undef) rfl (by kernel_rfl) (by kernel_rfl) (by kernel_rfl) (fun _ _ _ h => h) (Or.inr ⟨by rfl, rfl⟩) hHeld ?_
                  simp only [Act.put, List.setIfInBounds_toArray, List.set_cons_zero, List.set_cons_succ, List.getElem_toArray, List.getElem_cons_zero, List.getElem_cons_succ]
                  refine wpAnyH_take (i := 15) (v := undef) rfl (by kernel_rfl) (by kernel_rfl) (by kernel_rfl) (fun _ _ _ h => h) (Or.inr ⟨by rfl, rfl⟩) hHeld ?_
                  simp only [Act.put, List.setIfInBounds_toArray, List.set_cons_zero, List.set_cons_succ, List.getElem_toArray, List.getElem_cons_zero, List.getElem_cons_succ]
                  refine wpAnyH_take (i := 16) (v := undef) rfl (by kernel_rfl) (by kernel_rfl) (by kernel_rfl) (fun _ _ _ h => h) (Or.inr ⟨by rfl, rfl⟩) hHeld ?_
                  simp only [Act.put, List.setIfInBounds_toArray, List.set_cons_zero, List.set_cons_succ, List.getElem_toArray, List.getElem_cons_zero, List.getElem_cons_succ]
                  refine wpAnyH_take (i := 17) (v := undef) rfl (by kernel_rfl) (by kernel_rfl) (by kernel_rfl) (fun _ _ _ h => h) (Or.inr ⟨by rfl, rfl⟩) hHeld ?_
                  simp only [Act.put, List.setIfInBounds_toArray, List.set_cons_zero, List.set_cons_succ, List.getElem_toArray, List.getElem_cons_zero, List.getElem_cons_succ]
                  refine' wpAnyH_take (i := 18) (v := _) rfl (by kernel_rfl) (by kernel_rfl) (by kernel_rfl) (fun _ _ _ h => h) (Or.inl ⟨by rfl, ?hy11⟩) hHeld ?hr11
                  case hy11 => (intro w hSw; (try dsimp only at hSw); subst hSw; go_simp; (try with_reducible rfl))
                  simp only [Act.put, List.setIfInBounds_toArray, List.set_cons_zero, List.set_cons_succ, List.getElem_toArray, List.getElem_cons_zero, List.getElem_cons_succ]
                  refine' wpAnyH_take (i := 19) (v := _) rfl (by kernel_rfl) (by kernel_rfl) (by kernel_rfl) (fun _ _ _ h => h) (Or.inl ⟨by rfl, ?hy12⟩) hHeld ?hr12
                  case hy12 => (intro w hSw; (try dsimp only at hSw); subst hSw; go_simp; (try with_reducible rfl))
                  simp only [Act.put, List.setIfInBounds_toArray, List.set_cons_zero, List.set_cons_succ, List.getElem_toArray, List.getElem_cons_zero, List.getElem_cons_succ]
                  refine wpAnyH_take (i := 20) (v := undef) rfl (by kernel_rfl) (by kernel_rfl) (by kernel_rfl) (fun _ _ _ h => h) (Or.inr ⟨by rfl, rfl⟩) hHeld ?_
                  simp only [Act.put, List.setIfInBounds_toArray, List.set_cons_zero, List.set_cons_succ, List.getElem_toArray, List.getElem_cons_zero, List.getElem_cons_succ]
                  refine wpAnyH_take (i := 21) (v := undef) rfl (by kernel_rfl) (by kernel_rfl) (by kernel_rfl) (fun _ _ _ h => h) (Or.inr ⟨by rfl, rfl⟩) hHeld ?_
                  simp only [Act.put, List.setIfInBounds_toArray, List.set_cons_zero, List.set_cons_succ, List.getElem_toArray, List.getElem_cons_zero, List.getElem_cons_succ]
                  refine wpAnyH_take (i := 22) (v := undef) rfl (by kernel_rfl) (by kernel_rfl) (by kernel_rfl) (fun _ _ _ h => h) (Or.inr ⟨by rfl, rfl⟩) hHeld ?_
                  simp only [Act.put, List.setIfInBounds_toArray, List.set_cons_zero, List.set_cons_succ, List.getElem_toArray, List.getElem_cons_zero, List.getElem_cons_succ]
                  refine wpAnyH_take (i := 23) (v := undef) rfl (by kernel_rfl) (by kernel_rfl) (by kernel_rfl) (fun _ _ _ h => h) (Or.inr ⟨by rfl, rfl⟩) hHeld ?_
                  simp only [Act.put, List.setIfInBounds_toArray, List.set_cons_zero, List.set_cons_succ, List.getElem_toArray, List.getElem_cons_zero, List.getElem_cons_succ]
                  refine wpAnyH_take (i := 24) (v := undef) rfl (by kernel_rfl) (by kernel_rfl) (by kernel_rfl) (fun _ _ _ h => h) (Or.inr ⟨by rfl, rfl⟩) hHeld ?_
                  simp only [Act.put, List.setIfInBounds_toArray, List.set_cons_zero, List.set_cons_succ, List.getElem_toArray, List.getElem_cons_zero, List.getElem_cons_succ]
                  refine wpAnyH_take (i := 25) (v := undef) rfl (by kernel_rfl) (by kernel_rfl) (by kernel_rfl) (fun _ _ _ h => h) (Or.inr ⟨by rfl, rfl⟩) hHeld ?_
                  simp only [Act.put, List.setIfInBounds_toArray, List.set_cons_zero, List.set_cons_succ, List.getElem_toArray, List.getElem_cons_zero, List.getElem_cons_succ]
                  refine wpAnyH_take (i := 26) (v := undef) rfl (by kernel_rfl) (by kernel_rfl) (by kernel_rfl) (fun _ _ _ h => h) (Or.inr ⟨by rfl, rfl⟩) hHeld ?_
                  simp only [Act.put, List.setIfInBounds_toArray, List.set_cons_zero, List.set_cons_succ, List.getElem_toArray, List.getElem_cons_zero, List.getElem_cons_succ]
                  refine wpAnyH_take (i := 27) (v := undef) rfl (by kernel_rfl) (by kernel_rfl) (by kernel_rfl) (fun _ _ _ h => h) (Or.inr ⟨by rfl, rfl⟩) hHeld ?_
                  simp only [Act.put, List.setIfInBounds_toArray, List.set_cons_zero, List.set_cons_succ, List.getElem_toArray, List.getElem_cons_zero, List.getElem_cons_succ]
                  refine wpAnyH_take (i := 28) (v := undef) rfl (by kernel_rfl) (by kernel_rfl) (by kernel_rfl) (fun _ _ _ h => h) (Or.inr ⟨by rfl, rfl⟩) hHeld ?_
                  simp only [Act.put, List.setIfInBounds_toArray, List.set_cons_zero, List.set_cons_succ, List.getElem_toArray, List.getElem_cons_zero, List.getElem_cons_succ]
                  refine' wpAnyH_take (i := 29) (v := _) rfl (by kernel_rfl) (by kernel_rfl) (by kernel_rfl) (fun _ _ _ h => h) (Or.inl ⟨by rfl, ?hy13⟩) hHeld ?hr13
                  case hy13 => (intro w hSw; (try dsimp only at hSw); subst hSw; go_simp; (try with_reducible rfl))
                  simp only [Act.put, List.setIfInBounds_toArray, List.set_cons_zero, List.set_cons_succ, List.getElem_toArray, List.getElem_cons_zero, List.getElem_cons_succ]
                  refine wpAnyH_done (by kernel_rfl) ?_ _
                  refine NoPanic.normal ?_
                  go_wp2
                  go_ret
                  first | exact ⟨ret_bool hno.symm, kb2⟩ | exact ⟨rfl, kb2⟩ | exact ⟨rfl, kb2.drew⟩ | exact ⟨ret_bool hno.symm, kb2.drew⟩
                · have b3 : ((j : Int) + 1 == (xs.length : Int)) = false := by simp; omega
                  have hwr : IntKind.i64.wrap ((j : Int) + 1) = (j : Int) + 1 := by simp [IntKind.wrap_i64]; omega
                  have hj1 : j + 1 < xs.length := by omega
                  have hj1i : (j : Int) + 1 < (xs.length : Int) := by omega
                  have hj1z : (0 : Int) ≤ (j : Int) + 1 := by omega
                  obtain ⟨q0, q1, q2, q3, q4, q5, q6⟩ := hsrc (j + 1) hj1
                  by_cases e4 : (atC xs (j + 1)).part = 2
                  · have b4 : ((atC xs (j + 1)).part != 2) = false := by simp [e4]
                    by_cases e5 : (atC xs (j + 1)).st = (atC xs j).st
                    · have b5 : decide ((atC xs (j + 1)).st = (atC xs j).st) = true := decide_eq_true e5
                      have hyes : cellOkB xs j = true := by unfold cellOkB; rw [hso, if_neg e0, if_pos e1, decide_eq_true e2, decide_eq_true hj1, decide_eq_true e4, b5]; rfl
                      have hall' : Hid (∀ k, k < j + 1 → cellOkB xs k = true) := fun k hk => by rcases Nat.lt_succ_iff_lt_or_eq.1 hk with h | rfl; exact hall.out k h; exact hyes
                      clear hall hsrc hyes e2 e5
                      go_wp2
                      refine wp_region_noPanic ?_
                      refine wp_region_held_drew (S := fun W => W = w2.drew) (by kernel_rfl) rfl (fun hHeld => ?_)
                      refine' wpAnyH_take (i := 0) (v := _) rfl (by kernel_rfl) (by kernel_rfl) (by kernel_rfl) (fun _ _ _ h => h) (Or.inl ⟨by rfl, ?hy14⟩) hHeld ?hr14
                      case hy14 => (intro w hSw; (try dsimp only at hSw); subst hSw; go_simp; (try with_reducible rfl))
                      simp only [Act.put, List.setIfInBounds_toArray, List.set_cons_zero, List.set_cons_succ, List.getElem_toArray, List.getElem_cons_zero]
                      refine' wpAnyH_take (i := 1) (v := _) rfl (by kernel_rfl) (by kernel_rfl) (by kernel_rfl) (fun _ _ _ h => h) (Or.inl ⟨by rfl, ?hy15⟩) hHeld ?hr15
                      case hy15 => (intro w hSw; (try dsimp only at hSw); subst hSw; go_simp; (try with_reducible rfl))
                      simp only [Act.put, List.setIfInBounds_toArray, List.set_cons_zero, List.set_cons_succ, List.getElem_toArray, List.getElem_cons_zero, List.getElem_cons_succ]
                      refine wpAnyH_ready (rs := [2]) (by kernel_rfl) (by simp) (AllReadyH.cons rfl (fun K hK => ?_) AllReadyH.nil)
                      go_simp
                      refine (specWidth_any _ _).mono ?_
                      rintro e wk ⟨rfl, hwk⟩
                      subst hwk
                      go_wp2_with fail
                      refine hK.out _ _ (by rfl) (fun hHeld => ?_)
                      clear hK K
                      (try simp only [Act.put, List.setIfInBounds_toArray, List.set_cons_zero, List.set_cons_succ])
                      refine' wpAnyH_take (i := 3) (v := _) rfl (by kernel_rfl) (by kernel_rfl) (by kernel_rfl) (fun _ _ _ h => h) (Or.inl ⟨by rfl, ?hy16⟩) hHeld ?hr16
                      case hy16 => (intro w hSw; (try dsimp only at hSw); subst hSw; go_simp; (try with_reducible rfl))
                      simp only [Act.put, List.setIfInBounds_toArray, List.set_cons_zero, List.set_cons_succ, List.getElem_toArray, List.getElem_cons_zero, List.getElem_cons_succ]
                      refine' wpAnyH_take (i := 4) (v := _) rfl (by kernel_rfl) (by kernel_rfl) (by kernel_rfl) (fun _ _ _ h => h) (Or.inl ⟨by rfl, ?hy17⟩) hHeld ?hr17
                      case hy17 => (intro w hSw; (try dsimp only at hSw); subst hSw; go_simp; (try with_reducible rfl))
                      simp only [Act.put, List.setIfInBounds_toArray, List.set_cons_zero, List.set_cons_succ, List.getElem_toArray, List.getElem_cons_zero, List.getElem_cons_succ]
                      refine' wpAnyH_take (i := 5) (v := _) rfl (by kernel_rfl) (by kernel_rfl) (by kernel_rfl) (fun _ _ _ h => h) (Or.inl ⟨by rfl, ?hy18⟩) hHeld ?hr18
                      case hy18 => (intro w hSw; (try dsimp only at hSw); subst hSw; go_simp; (try with_reducible rfl))
                      simp only [Act.put, List.setIfInBounds_toArray, List.set_cons_zero, List.set_cons_succ, List.getElem_toArray, List.getElem_cons_zero, List.getElem_cons_succ]
                      refine' wpAnyH_take (i := 6) (v := _) rfl (by kernel_rfl) (by kernel_rfl) (by kernel_rfl) (fun _ _ _ h => h) (Or.inl ⟨by rfl, ?hy19⟩) hHeld ?hr19
                      case hy19 => (intro w hSw; (try dsimp only at hSw); subst hSw; go_simp; (try with_reducible rfl))
                      simp only [Act.put, List.setIfInBounds_toArray, List.set_cons_zero, List.set_cons_succ, List.getElem_toArray, List.getElem_cons_zero, List.getElem_cons_succ]
                      refine' wpAnyH_take (i := 7) (v := _) rfl (by kernel_rfl) (by kernel_rfl) (by kernel_rfl) (fun _ _ _ h => h) (Or.inl ⟨by rfl, ?hy20⟩) hHeld ?hr20
                      case hy20 => (intro w hSw; (try dsimp only at hSw); subst hSw; go_simp; (try with_reducible rfl))
                      simp only [Act.put, List.setIfInBounds_toArray, List.set_cons_zero, List.set_cons_succ, List.getElem_toArray, List.getElem_cons_zero, List.getElem_cons_succ]
                      refine' wpAnyH_take (i := 8) (v := _) rfl (by kernel_rfl) (by kernel_rfl) (by kernel_rfl) (fun _ _ _ h => h) (Or.inl ⟨by rfl, ?hy21⟩) hHeld ?hr21
                      case hy21 => (intro w hSw; (try dsimp only at hSw); subst hSw; go_simp; (try with_reducible rfl))
                      simp only [Act.put, List.setIfInBounds_toArray, List.set_cons_zero, List.set_cons_succ, List.getElem_toArray, List.getElem_cons_zero, List.getElem_cons_succ]
                      refine' wpAnyH_take (i := 9) (v := _) rfl (by kernel_rfl) (by kernel_rfl) (by kernel_rfl) (fun _ _ _ h => h) (Or.inl ⟨by rfl, ?hy22⟩) hHeld ?hr22
                      case hy22 => (intro w hSw; (try dsimp only at hSw); subst hSw; go_simp; (try with_reducible rfl))
                      simp only [Act.put, List.setIfInBounds_toArray, List.set_cons_zero, List.set_cons_succ, List.getElem_toArray, List.getElem_cons_zero, List.getElem_cons_succ]
                      refine' wpAnyH_take (i := 10) (v := _) rfl (by kernel_rfl) (by kernel_rfl) (by kernel_rfl) (fun _ _ _ h => h) (Or.inl ⟨by rfl, ?hy23⟩) hHeld ?hr23
                      case hy23 => (intro w hSw; (try dsimp only at hSw); subst hSw; go_simp; (try with_reducible rfl))
                      simp only [Act.put, List.setIfInBounds_toArray, List.set_cons_zero, List.set_cons_succ, List.getElem_toArray, List.getElem_cons_zero, List.getElem_cons_succ]
                      refine' wpAnyH_take (i := 11) (v := _) rfl (by kernel_rfl) (by kernel_rfl) (by kernel_rfl) (fun _ _ _ h => h) (Or.inl ⟨by rfl, ?hy24⟩) hHeld ?hr24
                      case hy24 => (intro w hSw; (try dsimp only at hSw); subst hSw; go_simp; (try with_reducible rfl))
                      simp only [Act.put, List.setIfInBounds_toArray, List.set_cons_zero, List.set_cons_succ, List.getElem_toArray, List.getElem_cons_zero, List.getElem_cons_succ]
                      refine' wpAnyH_take (i := 12) (v := _) rfl (by kernel_rfl) (by kernel_rfl) (by kernel_rfl) (fun _ _ _ h => h) (Or.inl ⟨by rfl, ?hy25⟩) hHeld ?hr25
                      case hy25 => (intro w hSw; (try dsimp only at hSw); subst hSw; go_simp; (try with_reducible rfl))
                      simp only [Act.put, List.setIfInBounds_toArray, List.set_cons_zero, List.set_cons_succ, List.getElem_toArray, List.getElem_cons_zero, List.getElem_cons_succ]
                      refine' wpAnyH_take (i := 13) (v := _) rfl (by kernel_rfl) (by kernel_rfl) (by kernel_rfl) (fun _ _ _ h => h) (Or.inl ⟨by rfl, ?hy26⟩) hHeld ?hr26
                      case hy26 => (intro w hSw; (try dsimp only at hSw); subst hSw; go_simp; (try with_reducible rfl))
                      simp only [Act.put, List.setIfInBounds_toArray, List.set_cons_zero, List.set_cons_succ, List.getElem_toArray, List.getElem_cons_zero, List.getElem_cons_succ]
                      refine' wpAnyH_take (i := 14) (v := _) rfl (by kernel_rfl) (by kernel_rfl) (by kernel_rfl) (fun _ _ _ h => h) (Or.inl ⟨by rfl, ?hy27⟩) hHeld ?hr27
                      case hy27 => (intro w hSw; (try dsimp only at hSw); subst hSw; go_simp; (try with_reducible rfl))
                      simp only [Act.put, List.setIfInBounds_toArray, List.set_cons_zero, List.set_cons_succ, List.getElem_toArray, List.getElem_cons_zero, List.getElem_cons_succ]
                      refine' wpAnyH_take (i := 15) (v := _) rfl (by kernel_rfl) (by kernel_rfl) (by kernel_rfl) (fun _ _ _ h => h) (Or.inl ⟨by rfl, ?hy28⟩) hHeld ?hr28
                      case hy28 => (intro w hSw; (try dsimp only at hSw); subst hSw; go_simp; (try with_reducible rfl))
                      simp only [Act.put, List.setIfInBounds_toArray, List.set_cons_zero, List.set_cons_succ, List.getElem_toArray, List.getElem_cons_zero, List.getElem_cons_succ]
                      refine' wpAnyH_take (i := 16) (v := _) rfl (by kernel_rfl) (by kernel_rfl) (by kernel_rfl) (fun _ _ _ h => h) (Or.inl ⟨by rfl, ?hy29⟩) hHeld ?hr29
                      case hy29 => (intro w hSw; (try dsimp only at hSw); subst hSw; go_simp; (try with_reducible rfl))
                      simp only [Act.put, List.setIfInBounds_toArray, List.set_cons_zero, List.set_cons_succ, List.getElem_toArray, List.getElem_cons_zero, List.getElem_cons_succ]
                      refine' wpAnyH_take (i := 17) (v := _) rfl (by kernel_rfl) (by kernel_rfl) (by kernel_rfl) (fun _ _ _ h => h) (Or.inl ⟨by rfl, ?hy30⟩) hHeld ?hr30
                      case hy30 => (intro w hSw; (try dsimp only at hSw); subst hSw; go_simp; (try with_reducible rfl))
                      simp only [Act.put, List.setIfInBounds_toArray, List.set_cons_zero, List.set_cons_succ, List.getElem_toArray, List.getElem_cons_zero, List.getElem_cons_succ]
                      refine' wpAnyH_take (i := 18) (v := _) rfl (by kernel_rfl) (by kernel_rfl) (by kernel_rfl) (fun _ _ _ h => h) (Or.inl ⟨by rfl, ?hy31⟩) hHeld ?hr31
                      case hy31 => (intro w hSw; (try dsimp only at hSw); subst hSw; go_simp; (try with_reducible rfl))
                      simp only [Act.put, List.setIfInBounds_toArray, List.set_cons_zero, List.set_cons_succ, List.getElem_toArray, List.getElem_cons_zero, List.getElem_cons_succ]
                      refine' wpAnyH_take (i := 19) (v := _) rfl (by kernel_rfl) (by kernel_rfl) (by kernel_rfl) (fun _ _ _ h => h) (Or.inl ⟨by rfl, ?hy32⟩) hHeld ?hr32
                      case hy32 => (intro w hSw; (try dsimp only at hSw); subst hSw; go_simp; (try with_reducible rfl))
                      simp only [Act.put, List.setIfInBounds_toArray, List.set_cons_zero, List.set_cons_succ, List.getElem_toArray, List.getElem_cons_zero, List.getElem_cons_succ]
                      refine' wpAnyH_take (i := 20) (v := _) rfl (by kernel_rfl) (by kernel_rfl) (by kernel_rfl) (fun _ _ _ h => h) (Or.inl ⟨by rfl, ?hy33⟩) hHeld ?hr33
                      case hy33 => (intro w hSw; (try dsimp only at hSw); subst hSw; go_simp; (try with_reducible rfl))
                      simp only [Act.put, List.setIfInBounds_toArray, List.set_cons_zero, List.set_cons_succ, List.getElem_toArray, List.getElem_cons_zero, List.getElem_cons_succ]
                      refine' wpAnyH_take (i := 21) (v := _) rfl (by kernel_rfl) (by kernel_rfl) (by kernel_rfl) (fun _ _ _ h => h) (Or.inl ⟨by rfl, ?hy34⟩) hHeld ?hr34
                      case hy34 => (intro w hSw; (try dsimp only at hSw); subst hSw; go_simp; (try with_reducible rfl))
                      simp only [Act.put, List.setIfInBounds_toArray, List.set_cons_zero, List.set_cons_succ, List.getElem_toArray, List.getElem_cons_zero, List.getElem_cons_succ]
                      refine' wpAnyH_take (i := 22) (v := _) rfl (by kernel_rfl) (by kernel_rfl) (by kernel_rfl) (fun _ _ _ h => h) (Or.inl ⟨by rfl, ?hy35⟩) hHeld ?hr35
                      case hy35 => (intro w hSw; (try dsimp only at hSw); subst hSw; go_simp; (try with_reducible rfl))
                      simp only [Act.put, List.setIfInBounds_toArray, List.set_cons_zero, List.set_cons_succ, List.getElem_toArray, List.getElem_cons_zero, List.getElem_cons_succ]
                      refine' wpAnyH_take (i := 23) (v := _) rfl (by kernel_rfl) (by kernel_rfl) (by kernel_rfl) (fun _ _ _ h => h) (Or.inl ⟨by rfl, ?hy36⟩) hHeld ?hr36
                      case hy36 => (intro w hSw; (try dsimp only at hSw); subst hSw; go_simp; (try with_reducible rfl))
                      simp only [Act.put, List.setIfInBounds_toArray, List.set_cons_zero, List.set_cons_succ, List.getElem_toArray, List.getElem_cons_zero, List.getElem_cons_succ]
                      refine' wpAnyH_take (i := 24) (v := _) rfl (by kernel_rfl) (by kernel_rfl) (by kernel_rfl) (fun _ _ _ h => h) (Or.inl ⟨by rfl, ?hy37⟩) hHeld ?hr37
                      case hy37 => (intro w hSw; (try dsimp only at hSw); subst hSw; go_simp; (try with_reducible rfl))
                      simp only [Act.put, List.setIfInBounds_toArray, List.set_cons_zero, List.set_cons_succ, List.getElem_toArray, List.getElem_cons_zero, List.getElem_cons_succ]
                      refine' wpAnyH_take (i := 25) (v := _) rfl (by kernel_rfl) (by kernel_rfl) (by kernel_rfl) (fun _ _ _ h => h) (Or.inl ⟨by rfl, ?hy38⟩) hHeld ?hr38
                      case hy38 => (intro w hSw; (try dsimp only at hSw); subst hSw; go_simp; (try with_reducible rfl))
                      simp only [Act.put, List.setIfInBounds_toArray, List.set_cons_zero, List.set_cons_succ, List.getElem_toArray, List.getElem_cons_zero, List.getElem_cons_succ]
                      refine' wpAnyH_take (i := 26) (v := _) rfl (by kernel_rfl) (by kernel_rfl) (by kernel_rfl) (fun _ _ _ h => h) (Or.inl ⟨by rfl, ?hy39⟩) hHeld ?hr39
                      case hy39 => (intro w hSw; (try dsimp only at hSw); subst hSw; go_simp; (try with_reducible rfl))
                      simp only [Act.put, List.setIfInBounds_toArray, List.set_cons_zero, List.set_cons_succ, List.getElem_toArray, List.getElem_cons_zero, List.getElem_cons_succ]
                      refine' wpAnyH_take (i := 27) (v := _) rfl (by kernel_rfl) (by kernel_rfl) (by kernel_rfl) (fun _ _ _ h => h) (Or.inl ⟨by rfl, ?hy40⟩) hHeld ?hr40
                      case hy40 => (intro w hSw; (try dsimp only at hSw); subst hSw; go_simp; (try with_reducible rfl))
                      simp only [Act.put, List.setIfInBounds_toArray, List.set_cons_zero, List.set_cons_succ, List.getElem_toArray, List.getElem_cons_zero, List.getElem_cons_succ]
                      refine' wpAnyH_take (i := 28) (v := _) rfl (by kernel_rfl) (by kernel_rfl) (by kernel_rfl) (fun _ _ _ h => h) (Or.inl ⟨by rfl, ?hy41⟩) hHeld ?hr41
                      case hy41 => (intro w hSw; (try dsimp only at hSw); subst hSw; go_simp; (try with_reducible rfl))
                      simp only [Act.put, List.setIfInBounds_toArray, List.set_cons_zero, List.set_cons_succ, List.getElem_toArray, List.getElem_cons_zero, List.getElem_cons_succ]
                      refine' wpAnyH_take (i := 29) (v := _) rfl (by kernel_rfl) (by kernel_rfl) (by kernel_rfl) (fun _ _ _ h => h) (Or.inl ⟨by rfl, ?hy42⟩) hHeld ?hr42
                      case hy42 => (intro w hSw; (try dsimp only at hSw); subst hSw; go_simp; (try with_reducible rfl))
                      simp only [Act.put, List.setIfInBounds_toArray, List.set_cons_zero, List.set_cons_succ, List.getElem_toArray, List.getElem_cons_zero, List.getElem_cons_succ]
                      refine wpAnyH_done (by kernel_rfl) ?_ _
                      refine NoPanic.normal ?_
                      go_wp2
                      go_roundw
                      case rel => exact ⟨j + 1, by go_num, by omega, hall', (by first | exact kb2 | exact kb2.drew)⟩
                      case measure => simp [intOf]; omega
                    · have b5 : decide ((atC xs (j + 1)).st = (atC xs j).st) = false := decide_eq_false e5
                      have hno : rowOkB xs = false := rowOkB_no xs j hlt (by unfold cellOkB; rw [hso, if_neg e0, if_pos e1, b5]; simp)
                      clear hall hsrc e2 e5
                      go_wp2
                      refine wp_region_noPanic ?_
                      refine wp_region_held_drew (S := fun W => W = w2.drew) (by kernel_rfl) rfl (fun hHeld => ?_)
                      refine' wpAnyH_take (i := 0) (v := _) rfl (by kernel_rfl) (by kernel_rfl) (by kernel_rfl) (fun _ _ _ h => h) (Or.inl ⟨by rfl, ?hy43⟩) hHeld ?hr43
                      case hy43 => (intro w hSw; (try dsimp only at hSw); subst hSw; go_simp; (try with_reducible rfl))
                      simp only [Act.put, List.setIfInBounds_toArray, List.set_cons_zero, List.set_cons_succ, List.getElem_toArray, List.getElem_cons_zero]
                      refine' wpAnyH_take (i := 1) (v := _) rfl (by kernel_rfl) (by kernel_rfl) (by kernel_rfl) (fun _ _ _ h => h) (Or.inl ⟨by rfl, ?hy44⟩) hHeld ?hr44
                      case hy44 => (intro w hSw; (try dsimp only at hSw); subst hSw; go_simp; (try with_reducible rfl))
                      simp only [Act.put, List.setIfInBounds_toArray, List.set_cons_zero, List.set_cons_succ, List.getElem_toArray, List.getElem_cons_zero, List.getElem_cons_succ]
                      refine wpAnyH_ready (rs := [2]) (by kernel_rfl) (by simp) (AllReadyH.cons rfl (fun K hK => ?_) AllReadyH.nil)
                      go_simp
                      refine (specWidth_any _ _).mono ?_
                      rintro e wk ⟨rfl, hwk⟩
                      subst hwk
                      go_wp2_with fail
                      refine hK.out _ _ (by rfl) (fun hHeld => ?_)
                      clear hK K
                      (try simp only [Act.put, List.setIfInBounds_toArray, List.set_cons_zero, List.set_cons_succ])
                      refine' wpAnyH_take (i := 3) (v := _) rfl (by kernel_rfl) (by kernel_rfl) (by kernel_rfl) (fun _ _ _ h => h) (Or.inl ⟨by rfl, ?hy45⟩) hHeld ?hr45
                      case hy45 => (intro w hSw; (try dsimp only at hSw); subst hSw; go_simp; (try with_reducible rfl))
                      simp only [Act.put, List.setIfInBounds_toArray, List.set_cons_zero, List.set_cons_succ, List.getElem_toArray, List.getElem_cons_zero, List.getElem_cons_succ]
                      refine' wpAnyH_take (i := 4) (v := _) rfl (by kernel_rfl) (by kernel_rfl) (by kernel_rfl) (fun _ _ _ h => h) (Or.inl ⟨by rfl, ?hy46⟩) hHeld ?hr46
                      case hy46 => (intro w hSw; (try dsimp only at hSw); subst hSw; go_simp; (try with_reducible rfl))
                      simp only [Act.put, List.setIfInBounds_toArray, List.set_cons_zero, List.set_cons_succ, List.getElem_toArray, List.getElem_cons_zero, List.getElem_cons_succ]
                      refine' wpAnyH_take (i := 5) (v := _) rfl (by kernel_rfl) (by kernel_rfl) (by kernel_rfl) (fun _ _ _ h => h) (Or.inl ⟨by rfl, ?hy47⟩) hHeld ?hr47
                      case hy47 => (intro w hSw; (try dsimp only at hSw); subst hSw; go_simp; (try with_reducible rfl))
                      simp only [Act.put, List.setIfInBounds_toArray, List.set_cons_zero, List.set_cons_succ, List.getElem_toArray, List.getElem_cons_zero, List.getElem_cons_succ]
                      refine' wpAnyH_take (i := 6) (v := _) rfl (by kernel_rfl) (by kernel_rfl) (by kernel_rfl) (fun _ _ _ h => h) (Or.inl ⟨by rfl, ?hy48⟩) hHeld ?hr48
                      case hy48 => (intro w hSw; (try dsimp only at hSw); subst hSw; go_simp; (try with_reducible rfl))
                      simp only [Act.put, List.setIfInBounds_toArray, List.set_cons_zero, List.set_cons_succ, List.getElem_toArray, List.getElem_cons_zero, List.getElem_cons_succ]
                      refine' wpAnyH_take (i := 7) (v := _) rfl (by kernel_rfl) (by kernel_rfl) (by kernel_rfl) (fun _ _ _ h => h) (Or.inl ⟨by rfl, ?hy49⟩) hHeld ?hr49
                      case hy49 => (intro w hSw; (try dsimp only at hSw); subst hSw; go_simp; (try with_reducible rfl))
                      simp only [Act.put, List.setIfInBounds_toArray, List.set_cons_zero, List.set_cons_succ, List.getElem_toArray, List.getElem_cons_zero, List.getElem_cons_succ]
                      refine' wpAnyH_take (i := 8) (v := _) rfl (by kernel_rfl) (by kernel_rfl) (by kernel_rfl) (fun _ _ _ h => h) (Or.inl ⟨by rfl, ?hy50⟩) hHeld ?hr50
                      case hy50 => (intro w hSw; (try dsimp only at hSw); subst hSw; go_simp; (try with_reducible rfl))
                      simp only [Act.put, List.setIfInBounds_toArray, List.set_cons_zero, List.set_cons_succ, List.getElem_toArray, List.getElem_cons_zero, List.getElem_cons_succ]
                      refine' wpAnyH_take (i := 9) (v := _) rfl (by kernel_rfl) (by kernel_rfl) (by kernel_rfl) (fun _ _ _ h => h) (Or.inl ⟨by rfl, ?hy51⟩) hHeld ?hr51
                      case hy51 => (intro w hSw; (try dsimp only at hSw); subst hSw; go_simp; (try with_reducible rfl))
                      simp only [Act.put, List.setIfInBounds_toArray, List.set_cons_zero, List.set_cons_succ, List.getElem_toArray, List.getElem_cons_zero, List.getElem_cons_succ]
                      refine' wpAnyH_take (i := 10) (v := _) rfl (by kernel_rfl) (by kernel_rfl) (by kernel_rfl) (fun _ _ _ h => h) (Or.inl ⟨by rfl, ?hy52⟩) hHeld ?hr52
                      case hy52 => (intro w hSw; (try dsimp only at hSw); subst hSw; go_simp; (try with_reducible rfl))
                      simp only [Act.put, List.setIfInBounds_toArray, List.set_cons_zero, List.set_cons_succ, List.getElem_toArray, List.getElem_cons_zero, List.getElem_cons_succ]
                      refine' wpAnyH_take (i := 11) (v := _) rfl (by kernel_rfl) (by kernel_rfl) (by kernel_rfl) (fun _ _ _ h => h) (Or.inl ⟨by rfl, ?hy53⟩) hHeld ?hr53
                      case hy53 => (intro w hSw; (try dsimp only at hSw); subst hSw; go_simp; (try with_reducible rfl))
                      simp only [Act.put, List.setIfInBounds_toArray, List.set_cons_zero, List.set_cons_succ, List.getElem_toArray, List.getElem_cons_zero, List.getElem_cons_succ]
                      refine' wpAnyH_take (i := 12) (v := _) rfl (by kernel_rfl) (by kernel_rfl) (by kernel_rfl) (fun _ _ _ h => h) (Or.inl ⟨by rfl, ?hy54⟩) hHeld ?hr54
                      case hy54 => (intro w hSw; (try dsimp only at hSw); subst hSw; go_simp; (try with_reducible rfl))
                      simp only [Act.put, List.setIfInBounds_toArray, List.set_cons_zero, List.set_cons_succ, List.getElem_toArray, List.getElem_cons_zero, List.getElem_cons_succ]
                      refine' wpAnyH_take (i := 13) (v := _) rfl (by kernel_rfl) (by kernel_rfl) (by kernel_rfl) (fun _ _ _ h => h) (Or.inl ⟨by rfl, ?hy55⟩) hHeld ?hr55
                      case hy55 => (intro w hSw; (try dsimp only at hSw); subst hSw; go_simp; (try with_reducible rfl))
                      simp only [Act.put, List.setIfInBounds_toArray, List.set_cons_zero, List.set_cons_succ, List.getElem_toArray, List.getElem_cons_zero, List.getElem_cons_succ]
                      refine' wpAnyH_take (i := 14) (v := _) rfl (by kernel_rfl) (by kernel_rfl) (by kernel_rfl) (fun _ _ _ h => h) (Or.inl ⟨by rfl, ?hy56⟩) hHeld ?hr56
                      case hy56 => (intro w hSw; (try dsimp only at hSw); subst hSw; go_simp; (try with_reducible rfl))
                      simp only [Act.put, List.setIfInBounds_toArray, List.set_cons_zero, List.set_cons_succ, List.getElem_toArray, List.getElem_cons_zero, List.getElem_cons_succ]
                      refine' wpAnyH_take (i := 15) (v := _) rfl (by kernel_rfl) (by kernel_rfl) (by kernel_rfl) (fun _ _ _ h => h) (Or.inl ⟨by rfl, ?hy57⟩) hHeld ?hr57
                      case hy57 => (intro w hSw; (try dsimp only at hSw); subst hSw; go_simp; (try with_reducible rfl))
                      simp only [Act.put, List.setIfInBounds_toArray, List.set_cons_zero, List.set_cons_succ, List.getElem_toArray, List.getElem_cons_zero, List.getElem_cons_succ]
                      refine' wpAnyH_take (i := 16) (v := _) rfl (by kernel_rfl) (by kernel_rfl) (by kernel_rfl) (fun _ _ _ h => h) (Or.inl ⟨by rfl, ?hy58⟩) hHeld ?hr58
                      case hy58 => (intro w hSw; (try dsimp only at hSw); subst hSw; go_simp; (try with_reducible rfl))
                      simp only [Act.put, List.setIfInBounds_toArray, List.set_cons_zero, List.set_cons_succ, List.getElem_toArray, List.getElem_cons_zero, List.getElem_cons_succ]
                      refine' wpAnyH_take (i := 17) (v := _) rfl (by kernel_rfl) (by kernel_rfl) (by kernel_rfl) (fun _ _ _ h => h) (Or.inl ⟨by rfl, ?hy59⟩) hHeld ?hr59
                      case hy59 => (intro w hSw; (try dsimp only at hSw); subst hSw; go_simp; (try with_reducible rfl))
                      simp only [Act.put, List.setIfInBounds_toArray, List.set_cons_zero, List.set_cons_succ, List.getElem_toArray, List.getElem_cons_zero, List.getElem_cons_succ]
                      refine' wpAnyH_take (i := 18) (v := _) rfl (by kernel_rfl) (by kernel_rfl) (by kernel_rfl) (fun _ _ _ h => h) (Or.inl ⟨by rfl, ?hy60⟩) hHeld ?hr60
                      case hy60 => (intro w hSw; (try dsimp only at hSw); subst hSw; go_simp; (try with_reducible rfl))
                      simp only [Act.put, List.setIfInBounds_toArray, List.set_cons_zero, List.set_cons_succ, List.getElem_toArray, List.getElem_cons_zero, List.getElem_cons_succ]
                      refine' wpAnyH_take (i := 19) (v := _) rfl (by kernel_rfl) (by kernel_rfl) (by kernel_rfl) (fun _ _ _ h => h) (Or.inl ⟨by rfl, ?hy61⟩) hHeld ?hr61
                      case hy61 => (intro w hSw; (try dsimp only at hSw); subst hSw; go_simp; (try with_reducible rfl))
                      simp only [Act.put, List.setIfInBounds_toArray, List.set_cons_zero, List.set_cons_succ, List.getElem_toArray, List.getElem_cons_zero, List.getElem_cons_succ]
                      refine' wpAnyH_take (i := 20) (v := _) rfl (by kernel_rfl) (by kernel_rfl) (by kernel_rfl) (fun _ _ _ h => h) (Or.inl ⟨by rfl, ?hy62⟩) hHeld ?hr62
                      case hy62 => (intro w hSw; (try dsimp only at hSw); subst hSw; go_simp; (try with_reducible rfl))
                      simp only [Act.put, List.setIfInBounds_toArray, List.set_cons_zero, List.set_cons_succ, List.getElem_toArray, List.getElem_cons_zero, List.getElem_cons_succ]
                      refine' wpAnyH_take (i := 21) (v := _) rfl (by kernel_rfl) (by kernel_rfl) (by kernel_rfl) (fun _ _ _ h => h) (Or.inl ⟨by rfl, ?hy63⟩) hHeld ?hr63
                      case hy63 => (intro w hSw; (try dsimp only at hSw); subst hSw; go_simp; (try with_reducible rfl))
                      simp only [Act.put, List.setIfInBounds_toArray, List.set_cons_zero, List.set_cons_succ, List.getElem_toArray, List.getElem_cons_zero, List.getElem_cons_succ]
                      refine' wpAnyH_take (i := 22) (v := _) rfl (by kernel_rfl) (by kernel_rfl) (by kernel_rfl) (fun _ _ _ h => h) (Or.inl ⟨by rfl, ?hy64⟩) hHeld ?hr64
                      case hy64 => (intro w hSw; (try dsimp only at hSw); subst hSw; go_simp; (try with_reducible rfl))
                      simp only [Act.put, List.setIfInBounds_toArray, List.set_cons_zero, List.set_cons_succ, List.getElem_toArray, List.getElem_cons_zero, List.getElem_cons_succ]
                      refine' wpAnyH_take (i := 23) (v := _) rfl (by kernel_rfl) (by kernel_rfl) (by kernel_rfl) (fun _ _ _ h => h) (Or.inl ⟨by rfl, ?hy65⟩) hHeld ?hr65
                      case hy65 => (intro w hSw; (try dsimp only at hSw); subst hSw; go_simp; (try with_reducible rfl))
                      simp only [Act.put, List.setIfInBounds_toArray, List.set_cons_zero, List.set_cons_succ, List.getElem_toArray, List.getElem_cons_zero, List.getElem_cons_succ]
                      refine' wpAnyH_take (i := 24) (v := _) rfl (by kernel_rfl) (by kernel_rfl) (by kernel_rfl) (fun _ _ _ h => h) (Or.inl ⟨by rfl, ?hy66⟩) hHeld ?hr66
                      case hy66 => (intro w hSw; (try dsimp only at hSw); subst hSw; go_simp; (try with_reducible rfl))
                      simp only [Act.put, List.setIfInBounds_toArray, List.set_cons_zero, List.set_cons_succ, List.getElem_toArray, List.getElem_cons_zero, List.getElem_cons_succ]
                      refine' wpAnyH_take (i := 25) (v := _) rfl (by kernel_rfl) (by kernel_rfl) (by kernel_rfl) (fun _ _ _ h => h) (Or.inl ⟨by rfl, ?hy67⟩) hHeld ?hr67
                      case hy67 => (intro w hSw; (try dsimp only at hSw); subst hSw; go_simp; (try with_reducible rfl))
                      simp only [Act.put, List.setIfInBounds_toArray, List.set_cons_zero, List.set_cons_succ, List.getElem_toArray, List.getElem_cons_zero, List.getElem_cons_succ]
                      refine' wpAnyH_take (i := 26) (v := _) rfl (by kernel_rfl) (by kernel_rfl) (by kernel_rfl) (fun _ _ _ h => h) (Or.inl ⟨by rfl, ?hy68⟩) hHeld ?hr68
                      case hy68 => (intro w hSw; (try dsimp only at hSw); subst hSw; go_simp; (try with_reducible rfl))
                      simp only [Act.put, List.setIfInBounds_toArray, List.set_cons_zero, List.set_cons_succ, List.getElem_toArray, List.getElem_cons_zero, List.getElem_cons_succ]
                      refine' wpAnyH_take (i := 27) (v := _) rfl (by kernel_rfl) (by kernel_rfl) (by kernel_rfl) (fun _ _ _ h => h) (Or.inl ⟨by rfl, ?hy69⟩) hHeld ?hr69
                      case hy69 => (intro w hSw; (try dsimp only at hSw); subst hSw; go_simp; (try with_reducible rfl))
                      simp only [Act.put, List.setIfInBounds_toArray, List.set_cons_zero, List.set_cons_succ, List.getElem_toArray, List.getElem_cons_zero, List.getElem_cons_succ]
                      refine' wpAnyH_take (i := 28) (v := _) rfl (by kernel_rfl) (by kernel_rfl) (by kernel_rfl) (fun _ _ _ h => h) (Or.inl ⟨by rfl, ?hy70⟩) hHeld ?hr70
                      case hy70 => (intro w hSw; (try dsimp only at hSw); subst hSw; go_simp; (try with_reducible rfl))
                      simp only [Act.put, List.setIfInBounds_toArray, List.set_cons_zero, List.set_cons_succ, List.getElem_toArray, List.getElem_cons_zero, List.getElem_cons_succ]
                      refine' wpAnyH_take (i := 29) (v := _) rfl (by kernel_rfl) (by kernel_rfl) (by kernel_rfl) (fun _ _ _ h => h) (Or.inl ⟨by rfl, ?hy71⟩) hHeld ?hr71
                      case hy71 => (intro w hSw; (try dsimp only at hSw); subst hSw; go_simp; (try with_reducible rfl))
                      simp only [Act.put, List.setIfInBounds_toArray, List.set_cons_zero, List.set_cons_succ, List.getElem_toArray, List.getElem_cons_zero, List.getElem_cons_succ]
                      refine wpAnyH_done (by kernel_rfl) ?_ _
                      refine NoPanic.normal ?_
                      go_wp2
                      go_ret
                      first | exact ⟨ret_bool hno.symm, kb2⟩ | exact ⟨rfl, kb2⟩ | exact ⟨rfl, kb2.drew⟩ | exact ⟨ret_bool hno.symm, kb2.drew⟩
                  · have b4 : ((atC xs (j + 1)).part != 2) = true := by simp [e4]
                    have hno : rowOkB xs = false := rowOkB_no xs j hlt (by unfold cellOkB; rw [hso, if_neg e0, if_pos e1, decide_eq_false e4]; simp)
                    clear hall hsrc e2
                    go_wp2
                    refine wp_region_noPanic ?_
                    refine wp_region_held_drew (S := fun W => W = w2.drew) (by kernel_rfl) rfl (fun hHeld => ?_)
                    refine' wpAnyH_take (i := 0) (v := _) rfl (by kernel_rfl) (by kernel_rfl) (by kernel_rfl) (fun _ _ _ h => h) (Or.inl ⟨by rfl, ?hy72⟩) hHeld ?hr72
                    case hy72 => (intro w hSw; (try dsimp only at hSw); subst hSw; go_simp; (try with_reducible rfl))
                    simp only [Act.put, List.setIfInBounds_toArray, List.set_cons_zero, List.set_cons_succ, List.getElem_toArray, List.getElem_cons_zero]
                    refine' wpAnyH_take (i := 1) (v := _) rfl (by kernel_rfl) (by kernel_rfl) (by kernel_rfl) (fun _ _ _ h => h) (Or.inl ⟨by rfl, ?hy73⟩) hHeld ?hr73
                    case hy73 => (intro w hSw; (try dsimp only at hSw); subst hSw; go_simp; (try with_reducible rfl))
                    simp only [Act.put, List.setIfInBounds_toArray, List.set_cons_zero, List.set_cons_succ, List.getElem_toArray, List.getElem_cons_zero, List.getElem_cons_succ]
                    refine wpAnyH_ready (rs := [2]) (by kernel_rfl) (by simp) (AllReadyH.cons rfl (fun K hK => ?_) AllReadyH.nil)
                    go_simp
                    refine (specWidth_any _ _).mono ?_
                    rintro e wk ⟨rfl, hwk⟩
                    subst hwk
                    go_wp2_with fail
                    refine hK.out _ _ (by rfl) (fun hHeld => ?_)
                    clear hK K
                    (try simp only [Act.put, List.setIfInBounds_toArray, List.set_cons_zero, List.set_cons_succ])
                    refine' wpAnyH_take (i := 3) (v := _) rfl (by kernel_rfl) (by kernel_rfl) (by kernel_rfl) (fun _ _ _ h => h) (Or.inl ⟨by rfl, ?hy74⟩) hHeld ?hr74
                    case hy74 => (intro w hSw; (try dsimp only at hSw); subst hSw; go_simp; (try with_reducible rfl))
                    simp only [Act.put, List.setIfInBounds_toArray, List.set_cons_zero, List.set_cons_succ, List.getElem_toArray, List.getElem_cons_zero, List.getElem_cons_succ]
                    refine' wpAnyH_take (i := 4) (v := _) rfl (by kernel_rfl) (by kernel_rfl) (by kernel_rfl) (fun _ _ _ h => h) (Or.inl ⟨by rfl, ?hy75⟩) hHeld ?hr75
                    case hy75 => (intro w hSw; (try dsimp only at hSw); subst hSw; go_simp; (try with_reducible rfl))
                    simp only [Act.put, List.setIfInBounds_toArray, List.set_cons_zero, List.set_cons_succ, List.getElem_toArray, List.getElem_cons_zero, List.getElem_cons_succ]
                    refine' wpAnyH_take (i := 5) (v := _) rfl (by kernel_rfl) (by kernel_rfl) (by kernel_rfl) (fun _ _ _ h => h) (Or.inl ⟨by rfl, ?hy76⟩) hHeld ?hr76
                    case hy76 => (intro w hSw; (try dsimp only at hSw); subst hSw; go_simp; (try with_reducible rfl))
                    simp only [Act.put, List.setIfInBounds_toArray, List.set_cons_zero, List.set_cons_succ, List.getElem_toArray, List.getElem_cons_zero, List.getElem_cons_succ]
                    refine' wpAnyH_take (i := 6) (v := _) rfl (by kernel_rfl) (by kernel_rfl) (by kernel_rfl) (fun _ _ _ h => h) (Or.inl ⟨by rfl, ?hy77⟩) hHeld ?hr77
                    case hy77 => (intro w hSw; (try dsimp only at hSw); subst hSw; go_simp; (try with_reducible rfl))
                    simp only [Act.put, List.setIfInBounds_toArray, List.set_cons_zero, List.set_cons_succ, List.getElem_toArray, List.getElem_cons_zero, List.getElem_cons_succ]
                    refine' wpAnyH_take (i := 7) (v := _) rfl (by kernel_rfl) (by kernel_rfl) (by kernel_rfl) (fun _ _ _ h => h) (Or.inl ⟨by rfl, ?hy78⟩) hHeld ?hr78
                    case hy78 => (intro w hSw; (try dsimp only at hSw); subst hSw; go_simp; (try with_reducible rfl))
                    simp only [Act.put, List.setIfInBounds_toArray, List.set_cons_zero, List.set_cons_succ, List.getElem_toArray, List.getElem_cons_zero, List.getElem_cons_succ]
                    refine' wpAnyH_take (i := 8) (v := _) rfl (by kernel_rfl) (by kernel_rfl) (by kernel_rfl) (fun _ _ _ h => h) (Or.inl ⟨by rfl, ?hy79⟩) hHeld ?hr79
                    case hy79 => (intro w hSw; (try dsimp only at hSw); subst hSw; go_simp; (try with_reducible rfl))
                    simp only [Act.put, List.setIfInBounds_toArray, List.set_cons_zero, List.set_cons_succ, List.getElem_toArray, List.getElem_cons_zero, List.getElem_cons_succ]
                    refine' wpAnyH_take (i := 9) (v := _) rfl (by kernel_rfl) (by kernel_rfl) (by kernel_rfl) (fun _ _ _ h => h) (Or.inl ⟨by rfl, ?hy80⟩) hHeld ?hr80
                    case hy80 => (intro w hSw; (try dsimp only at hSw); subst hSw; go_simp; (try with_reducible rfl))
                    simp only [Act.put, List.setIfInBounds_toArray, List.set_cons_zero, List.set_cons_succ, List.getElem_toArray, List.getElem_cons_zero, List.getElem_cons_succ]
                    refine' wpAnyH_take (i := 10) (v := _) rfl (by kernel_rfl) (by kernel_rfl) (by kernel_rfl) (fun _ _ _ h => h) (Or.inl ⟨by rfl, ?hy81⟩) hHeld ?hr81
                    case hy81 => (intro w hSw; (try dsimp only at hSw); subst hSw; go_simp; (try with_reducible rfl))
                    simp only [Act.put, List.setIfInBounds_toArray, List.set_cons_zero, List.set_cons_succ, List.getElem_toArray, List.getElem_cons_zero, List.getElem_cons_succ]
                    refine' wpAnyH_take (i := 11) (v := _) rfl (by kernel_rfl) (by kernel_rfl) (by kernel_rfl) (fun _ _ _ h => h) (Or.inl ⟨by rfl, ?hy82⟩) hHeld ?hr82
                    case hy82 => (intro w hSw; (try dsimp only at hSw); subst hSw; go_simp; (try with_reducible rfl))
                    simp only [Act.put, List.setIfInBounds_toArray, List.set_cons_zero, List.set_cons_succ, List.getElem_toArray, List.getElem_cons_zero, List.getElem_cons_succ]
                    refine' wpAnyH_take (i := 12) (v := _) rfl (by kernel_rfl) (by kernel_rfl) (by kernel_rfl) (fun _ _ _ h => h) (Or.inl ⟨by rfl, ?hy83⟩) hHeld ?hr83
                    case hy83 => (intro w hSw; (try dsimp only at hSw); subst hSw; go_simp; (try with_reducible rfl))
                    simp only [Act.put, List.setIfInBounds_toArray, List.set_cons_zero, List.set_cons_succ, List.getElem_toArray, List.getElem_cons_zero, List.getElem_cons_succ]
                    refine' wpAnyH_take (i := 13) (v := _) rfl (by kernel_rfl) (by kernel_rfl) (by kernel_rfl) (fun _ _ _ h => h) (Or.inl ⟨by rfl, ?hy84⟩) hHeld ?hr84
                    case hy84 => (intro w hSw; (try dsimp only at hSw); subst hSw; go_simp; (try with_reducible rfl))
                    simp only [Act.put, List.setIfInBounds_toArray, List.set_cons_zero, List.set_cons_succ, List.getElem_toArray, List.getElem_cons_zero, List.getElem_cons_succ]
                    refine' wpAnyH_take (i := 14) (v := _) rfl (by kernel_rfl) (by kernel_rfl) (by kernel_rfl) (fun _ _ _ h => h) (Or.inl ⟨by rfl, ?hy85⟩) hHeld ?hr85
                    case hy85 => (intro w hSw; (try dsimp only at hSw); subst hSw; go_simp; (try with_reducible rfl))
                    simp only [Act.put, List.setIfInBounds_toArray, List.set_cons_zero, List.set_cons_succ, List.getElem_toArray, List.getElem_cons_zero, List.getElem_cons_succ]
                    refine' wpAnyH_take (i := 15) (v := _) rfl (by kernel_rfl) (by kernel_rfl) (by kernel_rfl) (fun _ _ _ h => h) (Or.inl ⟨by rfl, ?hy86⟩) hHeld ?hr86
                    case hy86 => (intro w hSw; (try dsimp only at hSw); subst hSw; go_simp; (try with_reducible rfl))
                    simp only [Act.put, List.setIfInBounds_toArray, List.set_cons_zero, List.set_cons_succ, List.getElem_toArray, List.getElem_cons_zero, List.getElem_cons_succ]
                    refine' wpAnyH_take (i := 16) (v := _) rfl (by kernel_rfl) (by kernel_rfl) (by kernel_rfl) (fun _ _ _ h => h) (Or.inl ⟨by rfl, ?hy87⟩) hHeld ?hr87
                    case hy87 => (intro w hSw; (try dsimp only at hSw); subst hSw; go_simp; (try with_reducible rfl))
                    simp only [Act.put, List.setIfInBounds_toArray, List.set_cons_zero, List.set_cons_succ, List.getElem_toArray, List.getElem_cons_zero, List.getElem_cons_succ]
                    refine' wpAnyH_take (i := 17) (v := _) rfl (by kernel_rfl) (by kernel_rfl) (by kernel_rfl) (fun _ _ _ h => h) (Or.inl ⟨by rfl, ?hy88⟩) hHeld ?hr88
                    case hy88 => (intro w hSw; (try dsimp only at hSw); subst hSw; go_simp; (try with_reducible rfl))
                    simp only [Act.put, List.setIfInBounds_toArray, List.set_cons_zero, List.set_cons_succ, List.getElem_toArray, List.getElem_cons_zero, List.getElem_cons_succ]
                    refine' wpAnyH_take (i := 18) (v := _) rfl (by kernel_rfl) (by kernel_rfl) (by kernel_rfl) (fun _ _ _ h => h) (Or.inl ⟨by rfl, ?hy89⟩) hHeld ?hr89
                    case hy89 => (intro w hSw; (try dsimp only at hSw); subst hSw; go_simp; (try with_reducible rfl))
                    simp only [Act.put, List.setIfInBounds_toArray, List.set_cons_zero, List.set_cons_succ, List.getElem_toArray, List.getElem_cons_zero, List.getElem_cons_succ]
                    refine' wpAnyH_take (i := 19) (v := _) rfl (by kernel_rfl) (by kernel_rfl) (by kernel_rfl) (fun _ _ _ h => h) (Or.inl ⟨by rfl, ?hy90⟩) hHeld ?hr90
                    case hy90 => (intro w hSw; (try dsimp only at hSw); subst hSw; go_simp; (try with_reducible rfl))
                    simp only [Act.put, List.setIfInBounds_toArray, List.set_cons_zero, List.set_cons_succ, List.getElem_toArray, List.getElem_cons_zero, List.getElem_cons_succ]
                    refine wpAnyH_take (i := 20) (v := undef) rfl (by kernel_rfl) (by kernel_rfl) (by kernel_rfl) (fun _ _ _ h => h) (Or.inr ⟨by rfl, rfl⟩) hHeld ?_
                    simp only [Act.put, List.setIfInBounds_toArray, List.set_cons_zero, List.set_cons_succ, List.getElem_toArray, List.getElem_cons_zero, List.getElem_cons_succ]
                    refine wpAnyH_take (i := 21) (v := undef) rfl (by kernel_rfl) (by kernel_rfl) (by kernel_rfl) (fun _ _ _ h => h) (Or.inr ⟨by rfl, rfl⟩) hHeld ?_
                    simp only [Act.put, List.setIfInBounds_toArray, List.set_cons_zero, List.set_cons_succ, List.getElem_toArray, List.getElem_cons_zero, List.getElem_cons_succ]
                    refine wpAnyH_take (i := 22) (v := undef) rfl (by kernel_rfl) (by kernel_rfl) (by kernel_rfl) (fun _ _ _ h => h) (Or.inr ⟨by rfl, rfl⟩) hHeld ?_
                    simp only [Act.put, List.setIfInBounds_toArray, List.set_cons_zero, List.set_cons_succ, List.getElem_toArray, List.getElem_cons_zero, List.getElem_cons_succ]
                    refine wpAnyH_take (i := 23) (v := undef) rfl (by kernel_rfl) (by kernel_rfl) (by kernel_rfl) (fun _ _ _ h => h) (Or.inr ⟨by rfl, rfl⟩) hHeld ?_
                    simp only [Act.put, List.setIfInBounds_toArray, List.set_cons_zero, List.set_cons_succ, List.getElem_toArray, List.getElem_cons_zero, List.getElem_cons_succ]
                    refine wpAnyH_take (i := 24) (v := undef) rfl (by kernel_rfl) (by kernel_rfl) (by kernel_rfl) (fun _ _ _ h => h) (Or.inr ⟨by rfl, rfl⟩) hHeld ?_
                    simp only [Act.put, List.setIfInBounds_toArray, List.set_cons_zero, List.set_cons_succ, List.getElem_toArray, List.getElem_cons_zero, List.getElem_cons_succ]
                    refine wpAnyH_take (i := 25) (v := undef) rfl (by kernel_rfl) (by kernel_rfl) (by kernel_rfl) (fun _ _ _ h => h) (Or.inr ⟨by rfl, rfl⟩) hHeld ?_
                    simp only [Act.put, List.setIfInBounds_toArray, List.set_cons_zero, List.set_cons_succ, List.getElem_toArray, List.getElem_cons_zero, List.getElem_cons_succ]
                    refine wpAnyH_take (i := 26) (v := undef) rfl (by kernel_rfl) (by kernel_rfl) (by kernel_rfl) (fun _ _ _ h => h) (Or.inr ⟨by rfl, rfl⟩) hHeld ?_
                    simp only [Act.put, List.setIfInBounds_toArray, List.set_cons_zero, List.set_cons_succ, List.getElem_toArray, List.getElem_cons_zero, List.getElem_cons_succ]
                    refine wpAnyH_take (i := 27) (v := undef) rfl (by kernel_rfl) (by kernel_rfl) (by kernel_rfl) (fun _ _ _ h => h) (Or.inr ⟨by rfl, rfl⟩) hHeld ?_
                    simp only [Act.put, List.setIfInBounds_toArray, List.set_cons_zero, List.set_cons_succ, List.getElem_toArray, List.getElem_cons_zero, List.getElem_cons_succ]
                    refine wpAnyH_take (i := 28) (v := undef) rfl (by kernel_rfl) (by kernel_rfl) (by kernel_rfl) (fun _ _ _ h => h) (Or.inr ⟨by rfl, rfl⟩) hHeld ?_
                    simp only [Act.put, List.setIfInBounds_toArray, List.set_cons_zero, List.set_cons_succ, List.getElem_toArray, List.getElem_cons_zero, List.getElem_cons_succ]
                    refine' wpAnyH_take (i := 29) (v := _) rfl (by kernel_rfl) (by kernel_rfl) (by kernel_rfl) (fun _ _ _ h => h) (Or.inl ⟨by rfl, ?hy91⟩) hHeld ?hr91
                    case hy91 => (intro w hSw; (try dsimp only at hSw); subst hSw; go_simp; (try with_reducible rfl))
                    simp only [Act.put, List.setIfInBounds_toArray, List.set_cons_zero, List.set_cons_succ, List.getElem_toArray, List.getElem_cons_zero, List.getElem_cons_succ]
                    refine wpAnyH_done (by kernel_rfl) ?_ _
                    refine NoPanic.normal ?_
                    go_wp2
                    go_ret
                    first | exact ⟨ret_bool hno.symm, kb2⟩ | exact ⟨rfl, kb2⟩ | exact ⟨rfl, kb2.drew⟩ | exact ⟨ret_bool hno.symm, kb2.drew⟩
              · have b2 : (widthV (atC xs j).rune != 2) = true := by simp [e2]
                have hno : rowOkB xs = false := rowOkB_no xs j hlt (by unfold cellOkB; rw [hso, if_neg e0, if_pos e1, decide_eq_false e2]; simp)
                clear hall hsrc e2
                go_wp2
                refine wp_region_noPanic ?_
                refine wp_region_held_drew (S := fun W => W = w2.drew) (by kernel_rfl) rfl (fun hHeld => ?_)
                refine' wpAnyH_take (i := 0) (v := _) rfl (by kernel_rfl) (by kernel_rfl) (by kernel_rfl) (fun _ _ _ h => h) (Or.inl ⟨by rfl, ?hy92⟩) hHeld ?hr92
                case hy92 => (intro w hSw; (try dsimp only at hSw); subst hSw; go_simp; (try with_reducible rfl))
                simp only [Act.put, List.setIfInBounds_toArray, List.set_cons_zero, List.set_cons_succ, List.getElem_toArray, List.getElem_cons_zero]
                refine' wpAnyH_take (i := 1) (v := _) rfl (by kernel_rfl) (by kernel_rfl) (by kernel_rfl) (fun _ _ _ h => h) (Or.inl ⟨by rfl, ?hy93⟩) hHeld ?hr93
                case hy93 => (intro w hSw; (try dsimp only at hSw); subst hSw; go_simp; (try with_reducible rfl))
                simp only [Act.put, List.setIfInBounds_toArray, List.set_cons_zero, List.set_cons_succ, List.getElem_toArray, List.getElem_cons_zero, List.getElem_cons_succ]
                refine wpAnyH_ready (rs := [2]) (by kernel_rfl) (by simp) (AllReadyH.cons rfl (fun K hK => ?_) AllReadyH.nil)
                go_simp
                refine (specWidth_any _ _).mono ?_
                rintro e wk ⟨rfl, hwk⟩
                subst hwk
                go_wp2_with fail
                refine hK.out _ _ (by rfl) (fun hHeld => ?_)
                clear hK K
                (try simp only [Act.put, List.setIfInBounds_toArray, List.set_cons_zero, List.set_cons_succ])
                refine' wpAnyH_take (i := 3) (v := _) rfl (by kernel_rfl) (by kernel_rfl) (by kernel_rfl) (fun _ _ _ h => h) (Or.inl ⟨by rfl, ?hy94⟩) hHeld ?hr94
                case hy94 => (intro w hSw; (try dsimp only at hSw); subst hSw; go_simp; (try with_reducible rfl))
                simp only [Act.put, List.setIfInBounds_toArray, List.set_cons_zero, List.set_cons_succ, List.getElem_toArray, List.getElem_cons_zero, List.getElem_cons_succ]
                refine' wpAnyH_take (i := 4) (v := _) rfl (by kernel_rfl) (by kernel_rfl) (by kernel_rfl) (fun _ _ _ h => h) (Or.inl ⟨by rfl, ?hy95⟩) hHeld ?hr95
                case hy95 => (intro w hSw; (try dsimp only at hSw); subst hSw; go_simp; (try with_reducible rfl))
                simp only [Act.put, List.setIfInBounds_toArray, List.set_cons_zero, List.set_cons_succ, List.getElem_toArray, List.getElem_cons_zero, List.getElem_cons_succ]
                refine wpAnyH_take (i := 5) (v := undef) rfl (by kernel_rfl) (by kernel_rfl) (by kernel_rfl) (fun _ _ _ h => h) (Or.inr ⟨by rfl, rfl⟩) hHeld ?_
                simp only [Act.put, List.setIfInBounds_toArray, List.set_cons_zero, List.set_cons_succ, List.getElem_toArray, List.getElem_cons_zero, List.getElem_cons_succ]
                refine wpAnyH_take (i := 6) (v := undef) rfl (by kernel_rfl) (by kernel_rfl) (by kernel_rfl) (fun _ _ _ h => h) (Or.inr ⟨by rfl, rfl⟩) hHeld ?_
                simp only [Act.put, List.setIfInBounds_toArray, List.set_cons_zero, List.set_cons_succ, List.getElem_toArray, List.getElem_cons_zero, List.getElem_cons_succ]
                refine wpAnyH_take (i := 7) (v := undef) rfl (by kernel_rfl) (by kernel_rfl) (by kernel_rfl) (fun _ _ _ h => h) (Or.inr ⟨by rfl, rfl⟩) hHeld ?_
                simp only [Act.put, List.setIfInBounds_toArray, List.set_cons_zero, List.set_cons_succ, List.getElem_toArray, List.getElem_cons_zero, List.getElem_cons_succ]
                refine wpAnyH_take (i := 8) (v := undef) rfl (by kernel_rfl) (by kernel_rfl) (by kernel_rfl) (fun _ _ _ h => h) (Or.inr ⟨by rfl, rfl⟩) hHeld ?_
                simp only [Act.put, List.setIfInBounds_toArray, List.set_cons_zero, List.set_cons_succ, List.getElem_toArray, List.getElem_cons_zero, List.getElem_cons_succ]
                refine' wpAnyH_take (i := 9) (v := _) rfl (by kernel_rfl) (by kernel_rfl) (by kernel_rfl) (fun _ _ _ h => h) (Or.inl ⟨by rfl, ?hy96⟩) hHeld ?hr96
                case hy96 => (intro w hSw; (try dsimp only at hSw); subst hSw; go_simp; (try with_reducible rfl))
                simp only [Act.put, List.setIfInBounds_toArray, List.set_cons_zero, List.set_cons_succ, List.getElem_toArray, List.getElem_cons_zero, List.getElem_cons_succ]
                refine' wpAnyH_take (i := 10) (v := _) rfl (by kernel_rfl) (by kernel_rfl) (by kernel_rfl) (fun _ _ _ h => h) (Or.inl ⟨by rfl, ?hy97⟩) hHeld ?hr97
                case hy97 => (intro w hSw; (try dsimp only at hSw); subst hSw; go_simp; (try with_reducible rfl))
                simp only [Act.put, List.setIfInBounds_toArray, List.set_cons_zero, List.set_cons_succ, List.getElem_toArray, List.getElem_cons_zero, List.getElem_cons_succ]
                refine wpAnyH_take (i := 11) (v := undef) rfl (by kernel_rfl) (by kernel_rfl) (by kernel_rfl) (fun _ _ _ h => h) (Or.inr ⟨by rfl, rfl⟩) hHeld ?_
                simp only [Act.put, List.setIfInBounds_toArray, List.set_cons_zero, List.set_cons_succ, List.getElem_toArray, List.getElem_cons_zero, List.getElem_cons_succ]
                refine wpAnyH_take (i := 12) (v := undef) rfl (by kernel_rfl) (by kernel_rfl) (by kernel_rfl) (fun _ _ _ h => h) (Or.inr ⟨by rfl, rfl⟩) hHeld ?_
                simp only [Act.put, List.setIfInBounds_toArray, List.set_cons_zero, List.set_cons_succ, List.getElem_toArray, List.getElem_cons_zero, List.getElem_cons_succ]
                refine wpAnyH_take (i := 13) (v := undef) rfl (by kernel_rfl) (by kernel_rfl) (by kernel_rfl) (fun _ _ _ h => h) (Or.inr ⟨by rfl, rfl⟩) hHeld ?_
                simp only [Act.put, List.setIfInBounds_toArray, List.set_cons_zero, List.set_cons_succ, List.getElem_toArray, List.getElem_cons_zero, List.getElem_cons_succ]
                refine wpAnyH_take (i := 14) (v := undef) rfl (by kernel_rfl) (by kernel_rfl) (by kernel_rfl) (fun _ _ _ h => h) (Or.inr ⟨by rfl, rfl⟩) hHeld ?_
                simp only [Act.put, List.setIfInBounds_toArray, List.set_cons_zero, List.set_cons_succ, List.getElem_toArray, List.getElem_cons_zero, List.getElem_cons_succ]
                refine wpAnyH_take (i := 15) (v := undef) rfl (by kernel_rfl) (by kernel_rfl) (by kernel_rfl) (fun _ _ _ h => h) (Or.inr ⟨by rfl, rfl⟩) hHeld ?_
                simp only [Act.put, List.setIfInBounds_toArray, List.set_cons_zero, List.set_cons_succ, List.getElem_toArray, List.getElem_cons_zero, List.getElem_cons_succ]
                refine wpAnyH_take (i := 16) (v := undef) rfl (by kernel_rfl) (by kernel_rfl) (by kernel_rfl) (fun _ _ _ h => h) (Or.inr ⟨by rfl, rfl⟩) hHeld ?_
                simp only [Act.put, List.setIfInBounds_toArray, List.set_cons_zero, List.set_cons_succ, List.getElem_toArray, List.getElem_cons_zero, List.getElem_cons_succ]
                refine wpAnyH_take (i := 17) (v := undef) rfl (by kernel_rfl) (by kernel_rfl) (by kernel_rfl) (fun _ _ _ h => h) (Or.inr ⟨by rfl, rfl⟩) hHeld ?_
                simp only [Act.put, List.setIfInBounds_toArray, List.set_cons_zero, List.set_cons_succ, List.getElem_toArray, List.getElem_cons_zero, List.getElem_cons_succ]
                refine' wpAnyH_take (i := 18) (v := _) rfl (by kernel_rfl) (by kernel_rfl) (by kernel_rfl) (fun _ _ _ h => h) (Or.inl ⟨by rfl, ?hy98⟩) hHeld ?hr98
                case hy98 => (intro w hSw; (try dsimp only at hSw); subst hSw; go_simp; (try with_reducible rfl))
                simp only [Act.put, List.setIfInBounds_toArray, List.set_cons_zero, List.set_cons_succ, List.getElem_toArray, List.getElem_cons_zero, List.getElem_cons_succ]
                refine' wpAnyH_take (i := 19) (v := _) rfl (by kernel_rfl) (by kernel_rfl) (by kernel_rfl) (fun _ _ _ h => h) (Or.inl ⟨by rfl, ?hy99⟩) hHeld ?hr99
                case hy99 => (intro w hSw; (try dsimp only at hSw); subst hSw; go_simp; (try with_reducible rfl))
                simp only [Act.put, List.setIfInBounds_toArray, List.set_cons_zero, List.set_cons_succ, List.getElem_toArray, List.getElem_cons_zero, List.getElem_cons_succ]
                refine wpAnyH_take (i := 20) (v := undef) rfl (by kernel_rfl) (by kernel_rfl) (by kernel_rfl) (fun _ _ _ h => h) (Or.inr ⟨by rfl, rfl⟩) hHeld ?_
                simp only [Act.put, List.setIfInBounds_toArray, List.set_cons_zero, List.set_cons_succ, List.getElem_toArray, List.getElem_cons_zero, List.getElem_cons_succ]
                refine wpAnyH_take (i := 21) (v := undef) rfl (by kernel_rfl) (by kernel_rfl) (by kernel_rfl) (fun _ _ _ h => h) (Or.inr ⟨by rfl, rfl⟩) hHeld ?_
                simp only [Act.put, List.setIfInBounds_toArray, List.set_cons_zero, List.set_cons_succ, List.getElem_toArray, List.getElem_cons_zero, List.getElem_cons_succ]
                refine wpAnyH_take (i := 22) (v := undef) rfl (by kernel_rfl) (by kernel_rfl) (by kernel_rfl) (fun _ _ _ h => h) (Or.inr ⟨by rfl, rfl⟩) hHeld ?_
                simp only [Act.put, List.setIfInBounds_toArray, List.set_cons_zero, List.set_cons_succ, List.getElem_toArray, List.getElem_cons_zero, List.getElem_cons_succ]
                refine wpAnyH_take (i := 23) (v := undef) rfl (by kernel_rfl) (by kernel_rfl) (by kernel_rfl) (fun _ _ _ h => h) (Or.inr ⟨by rfl, rfl⟩) hHeld ?_
                simp only [Act.put, List.setIfInBounds_toArray, List.set_cons_zero, List.set_cons_succ, List.getElem_toArray, List.getElem_cons_zero, List.getElem_cons_succ]
                refine wpAnyH_take (i := 24) (v := undef) rfl (by kernel_rfl) (by kernel_rfl) (by kernel_rfl) (fun _ _ _ h => h) (Or.inr ⟨by rfl, rfl⟩) hHeld ?_
                simp only [Act.put, List.setIfInBounds_toArray, List.set_cons_zero, List.set_cons_succ, List.getElem_toArray, List.getElem_cons_zero, List.getElem_cons_succ]
                refine wpAnyH_take (i := 25) (v := undef) rfl (by kernel_rfl) (by kernel_rfl) (by kernel_rfl) (fun _ _ _ h => h) (Or.inr ⟨by rfl, rfl⟩) hHeld ?_
                simp only [Act.put, List.setIfInBounds_toArray, List.set_cons_zero, List.set_cons_succ, List.getElem_toArray, List.getElem_cons_zero, List.getElem_cons_succ]
                refine wpAnyH_take (i := 26) (v := undef) rfl (by kernel_rfl) (by kernel_rfl) (by kernel_rfl) (fun _ _ _ h => h) (Or.inr ⟨by rfl, rfl⟩) hHeld ?_
                simp only [Act.put, List.setIfInBounds_toArray, List.set_cons_zero, List.set_cons_succ, List.getElem_toArray, List.getElem_cons_zero, List.getElem_cons_succ]
                refine wpAnyH_take (i := 27) (v := undef) rfl (by kernel_rfl) (by kernel_rfl) (by kernel_rfl) (fun _ _ _ h => h) (Or.inr ⟨by rfl, rfl⟩) hHeld ?_
                simp only [Act.put, List.setIfInBounds_toArray, List.set_cons_zero, List.set_cons_succ, List.getElem_toArray, List.getElem_cons_zero, List.getElem_cons_succ]
                refine wpAnyH_take (i := 28) (v := undef) rfl (by kernel_rfl) (by kernel_rfl) (by kernel_rfl) (fun _ _ _ h => h) (Or.inr ⟨by rfl, rfl⟩) hHeld ?_
                simp only [Act.put, List.setIfInBounds_toArray, List.set_cons_zero, List.set_cons_succ, List.getElem_toArray, List.getElem_cons_zero, List.getElem_cons_succ]
                refine' wpAnyH_take (i := 29) (v := _) rfl (by kernel_rfl) (by kernel_rfl) (by kernel_rfl) (fun _ _ _ h => h) (Or.inl ⟨by rfl, ?hy100⟩) hHeld ?hr100
                case hy100 => (intro w hSw; (try dsimp only at hSw); subst hSw; go_simp; (try with_reducible rfl))
                simp only [Act.put, List.setIfInBounds_toArray, List.set_cons_zero, List.set_cons_succ, List.getElem_toArray, List.getElem_cons_zero, List.getElem_cons_succ]
                refine wpAnyH_done (by kernel_rfl) ?_ _
                refine NoPanic.normal ?_
                go_wp2
                go_ret
                first | exact ⟨ret_bool hno.symm, kb2⟩ | exact ⟨rfl, kb2⟩ | exact ⟨rfl, kb2.drew⟩ | exact ⟨ret_bool hno.symm, kb2.drew⟩
            · have b1 : ((atC xs j).part == 1) = false := by simp [e1]
              by_cases e2 : (atC xs j).part = 2
              · have b2 : ((atC xs j).part == 2) = true := by simp [e2]
                by_cases e3 : (atC xs j).rune = 0
                · have b3 : ((atC xs j).rune != 0) = false := by simp [e3]
                  by_cases e4 : j = 0
                  · have b4 : ((j : Int) == 0) = true := by simp [e4]
                    have hno : rowOkB xs = false := rowOkB_no xs j hlt (by unfold cellOkB; rw [hso, if_neg e0, if_neg e1, if_pos e2, decide_eq_false (show ¬ 0 < j by omega)]; simp)
                    clear hall hsrc e4
                    go_wp2
                    go_ret
                    first | exact ⟨ret_bool hno.symm, kb2⟩ | exact ⟨rfl, kb2⟩ | exact ⟨rfl, kb2.drew⟩ | exact ⟨ret_bool hno.symm, kb2.drew⟩
                  · obtain ⟨m, rfl⟩ : ∃ m, j = m + 1 := ⟨j - 1, by omega⟩
                    have b4 : ((m : Int) + 1 == 0) = false := by simp; omega
                    have hmi : (m : Int) < (xs.length : Int) := by omega
                    obtain ⟨q0, q1, q2, q3, q4, q5, q6⟩ := hsrc m (by omega)
                    by_cases e5 : (atC xs m).part = 1
                    · have b5 : ((atC xs m).part != 1) = false := by simp [e5]
                      have hyes : cellOkB xs (m + 1) = true := by unfold cellOkB; rw [hso, if_neg e0, if_neg e1, if_pos e2, decide_eq_true e3]; simp [e5]
                      have hall' : Hid (∀ k, k < m + 1 + 1 → cellOkB xs k = true) := fun k hk => by rcases Nat.lt_succ_iff_lt_or_eq.1 hk with h | rfl; exact hall.out k h; exact hyes
                      clear hall hsrc hyes
                      go_wp2
                      go_roundw
                      case rel => exact ⟨m + 1 + 1, by go_num, by omega, hall', (by first | exact kb2 | exact kb2.drew)⟩
                      case measure => simp [intOf]; omega
                    · have b5 : ((atC xs m).part != 1) = true := by simp [e5]
                      have hno : rowOkB xs = false := rowOkB_no xs (m + 1) hlt (by unfold cellOkB; rw [hso, if_neg e0, if_neg e1, if_pos e2]; simp [e5])
                      clear hall hsrc
                      go_wp2
                      go_ret
                      first | exact ⟨ret_bool hno.symm, kb2⟩ | exact ⟨rfl, kb2⟩ | exact ⟨rfl, kb2.drew⟩ | exact ⟨ret_bool hno.symm, kb2.drew⟩
                · have b3 : ((atC xs j).rune != 0) = true := by simp [e3]
                  have hno : rowOkB xs = false := rowOkB_no xs j hlt (by unfold cellOkB; rw [hso, if_neg e0, if_neg e1, if_pos e2, decide_eq_false e3]; simp)
                  clear hall hsrc
                  go_wp2
                  go_ret
                  first | exact ⟨ret_bool hno.symm, kb2⟩ | exact ⟨rfl, kb2⟩ | exact ⟨rfl, kb2.drew⟩ | exact ⟨ret_bool hno.symm, kb2.drew⟩
              · have b2 : ((atC xs j).part == 2) = false := by simp [e2]
                have hno : rowOkB xs = false := rowOkB_no xs j hlt (by unfold cellOkB; rw [hso, if_neg e0, if_neg e1, if_neg e2]; rfl)
                clear hall hsrc
                go_wp2
                go_ret
                first | exact ⟨ret_bool hno.symm, kb2⟩ | exact ⟨rfl, kb2⟩ | exact ⟨rfl, kb2.drew⟩ | exact ⟨ret_bool hno.symm, kb2.drew⟩
      · have hjn : j = xs.length := by omega
        have hji : ¬ (j : Int) < (xs.length : Int) := by omega
        subst hjn
        have hyes : rowOkB xs = true := rowOkB_yes xs ⟨hn1, hn2⟩ hall.out
        clear hall hOK hv
        go_wp2
        go_ret
        first | exact ⟨ret_bool hyes.symm, kb⟩ | exact ⟨rfl, kb⟩
  · have hno := rowOkB_len xs hn
    by_cases h0 : xs.length < 1
    · have hi : (xs.length : Int) < 1 := by omega
      go_enter Tryd.func50, Tryd.ntmps50
      go_wp2
      go_ret
      first | exact ⟨ret_bool hno.symm, Below.refl _ _⟩ | exact ⟨rfl, Below.refl _ _⟩
    · have hi : ¬ (xs.length : Int) < 1 := by omega
      have hi2 : 60 < (xs.length : Int) := by omega
      go_enter Tryd.func50, Tryd.ntmps50
      go_wp2
      go_ret
      first | exact ⟨ret_bool hno.symm, Below.refl _ _⟩ | exact ⟨rfl, Below.refl _ _⟩
end Go.Proofs.YtmmmglblkampcaaDoor
