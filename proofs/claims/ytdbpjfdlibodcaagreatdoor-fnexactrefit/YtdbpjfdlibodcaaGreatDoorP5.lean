/- Contract of the specification's copied grid. Contract of the specification's copied screen. Contracts of the program's screen at work: begun, seen, its last row and column. Contracts of the program's TermOk and its parts. Contract of the specification's l5Move. Contract of the specification's mended row. -/
import Derived.Test.YtdbpjfdlibodcaaGreatDoorP4
namespace Go.Proofs.YtdbpjfdlibodcaaGreatDoor
open Go.ChangeShapes Go.WideShapes Go.ChangeAt Go.RowKit
/-- Cells more, as a step of a region. -/
theorem step_append_os {w : World} {ops : Array Oper} {o : Oper} {ac : Act} {K : Act → World → Prop} {Q : Exit → Act → World → Prop} {E : Prop} (hgd : o.guard = none) (s x : Operand)
    (ho : o.op = .call { callee := .builtin .append, args := #[s, x], argTypes := #[129, 129] })
    (base : Nat) (v : Value) (L : List Ce) (hs : ac.eval s = v) (k : OwnC w base v L) (hb : base ≤ w.heap.size) (u : Value) (xs : List Ce) (hu : SlC w u xs) (hne : xs ≠ []) (hx : ac.eval x = u) (hl : L.length + xs.length < 2000000)
    (h : ∀ v' w', OwnC w' base v' (L ++ xs) → w.grownBy w' v.ownBlock → K (ac.put o.dst v') w') :
    if Region.wanted o (yielded ops ac.tmps) = true then Oper.wp Tryz.prog o ac w K Q else E := by
  have hw : Region.wanted o (yielded ops ac.tmps) = true := by simp [Region.wanted, hgd]
  rw [if_pos hw]
  obtain ⟨i0, hi, hz0, hz1, hz2⟩ := info_parts info_cell
  obtain ⟨a, c, rfl, hc, hn, hr⟩ := hu
  rcases hr with hr | ⟨b, off, rfl, _, hi2⟩
  · exact absurd hr hne
  · refine wp_append_own _ s x _ ho base 114 i0 (ceV Ce.zero) 7 40 Tryz.underlying129 hi hz0 hz1 hz2 rfl (by decide) v L.length _ hs k ⟨b, off, none⟩ xs.length c (xs.flatMap ceL) hx (flat_len xs) ?_ (flat_one xs) (by unfold maxLen; omega) (by omega) hb (fun v' w' ho' hg' _ => ?_)
    · intro j u hj
      rw [Addr.add_mid]
      exact flat_cells hi2 j u hj
    · refine h v' w' ?_ hg'
      unfold OwnC
      rw [List.length_append, List.flatMap_append]
      exact ho'
/-- A row of this call's own that stands apart grows. -/
theorem OwnG.kept2 {w w' : World} {base B : Nat} {v : Value} {rows : List (List Ce)} {row : Option Nat} (h : OwnG w base B v rows) (hg : w.grownBy w' row) (hne : ∀ g, row = some g → B ≤ g) (hu : ∀ g, v.ownBlock = some g → g < B) : OwnG w' base B v rows := by
  obtain ⟨vs, hl, ho, hr, hB, hd⟩ := h
  refine ⟨vs, hl, World.ownsRow.kept ho hg ?_, fun i hi => (hr i hi).kept hg ?_, hB, hd⟩
  · cases hv : v.ownBlock with
    | none => exact .inl rfl
    | some q => right; intro e; have := hne q e.symm; have := hu q hv; omega
  · cases hv : (rowV vs i).ownBlock with
    | none => exact .inl rfl
    | some q => right; intro e; have := hne q e.symm; have := hB i hi q hv; omega
theorem NG.kept2 {M B : Nat} {cols : Int} {u : Value} {rows : List (List Ce)} {w0 W W' : World} {row : Option Nat} (k : NG M B cols u rows w0 W) (hg : W.grownBy W' row) (hne : ∀ g, row = some g → B ≤ g ∧ M + 2 ≤ g) (hu : ∀ g, u.ownBlock = some g → g < B) : NG M B cols u rows w0 W' := by
  have h3 := k.2.2.2.1
  refine ⟨k.1.grown hg (fun e => by have := (hne _ e).2; omega), k.2.1.grown hg (fun e => by have := (hne _ e).2; omega), k.2.2.1.kept2 hg (fun g e => (hne g e).1) hu, Nat.le_trans h3 hg.size, Nat.le_trans k.2.2.2.2.1 hg.size, ?_⟩
  exact k.2.2.2.2.2.grown hg (by omega) (fun g e => by have := (hne g e).2; omega)
set_option maxHeartbeats 8000000 in
theorem l5Copy_any (cols : Int) (v : Value) (rows : List (List Ce)) (w : World) (hv : SlG w v rows) (hl : rows.length ≤ 1000) (h1 : 1 ≤ rows.length) (hx : ∀ i, i < rows.length → (rowX rows i).length ≤ 1000) (hne : ∀ i, i < rows.length → rowX rows i ≠ []) :
    Calls Tryz.prog 67 #[gridV cols v] w fun e w' => ∃ u, e = .returned (gridV cols u) ∧ OwnG w' w.heap.size w'.heap.size u rows ∧ Below w.heap.size w w' := by
  obtain ⟨a, c, vs, rfl, hcp, _, hr, hs⟩ := id hv
  rcases hr with h | ⟨b, off, rfl, hbb, hrc⟩
  · rw [h] at h1; simp at h1
  have hb0 := bal' w (Obj.cells #[.int .i64 cols, .slice (some ⟨b, off, none⟩) rows.length c] 40)
  have hG0 := GrN.new w cols (.slice (some ⟨b, off, none⟩) rows.length c) 40
  have e0 : (w.alloc (Obj.cells #[.int .i64 cols, .slice (some ⟨b, off, none⟩) rows.length c] 40)).heap.size = w.heap.size + 1 := by simp
  have k0 : NG (w.heap.size + 1) (((w.alloc (Obj.cells #[.int .i64 cols, .slice (some ⟨b, off, none⟩) rows.length c] 40)).alloc (Obj.cells #[Value.int IntKind.i64 0, Value.slice none 0 0] 40)).alloc (Obj.cells #[Value.int IntKind.i64 cols, Value.slice none 0 0] 40)).heap.size cols (.slice none 0 0) [] (w.alloc (Obj.cells #[.int .i64 cols, .slice (some ⟨b, off, none⟩) rows.length c] 40)) (((w.alloc (Obj.cells #[.int .i64 cols, .slice (some ⟨b, off, none⟩) rows.length c] 40)).alloc (Obj.cells #[Value.int IntKind.i64 0, Value.slice none 0 0] 40)).alloc (Obj.cells #[Value.int IntKind.i64 cols, Value.slice none 0 0] 40)) := by
    generalize w.alloc (Obj.cells #[.int .i64 cols, .slice (some ⟨b, off, none⟩) rows.length c] 40) = w1 at *
    have h1 := GrW.new w1 0 (.slice none 0 0) 40
    have h2 := GrW.new (w1.alloc (Obj.cells #[Value.int IntKind.i64 0, Value.slice none 0 0] 40)) cols (.slice none 0 0) 40
    have hb1 := bal' w1 (Obj.cells #[Value.int IntKind.i64 0, Value.slice none 0 0] 40)
    have e : (w1.alloc (Obj.cells #[Value.int IntKind.i64 0, Value.slice none 0 0] 40)).heap.size = w1.heap.size + 1 := by simp
    rw [e] at h2
    rw [← e0]
    exact ⟨h1.below (bal' _ _), h2, ownG_none _ _ _, by simp, Nat.le_refl _, hb1.trans ((bal' _ _).mono (by simp))⟩
  unfold gridV
  go_enter Tryz.func67, Tryz.ntmps67
  go_wp2
  go_loopw [4] (fun i wr => ∃ j : Nat, i = .int .i64 j ∧ j ≤ rows.length ∧ ∃ u, NG (w.heap.size + 1) wr.heap.size cols u (rows.take j) (w.alloc (Obj.cells #[.int .i64 cols, .slice (some ⟨b, off, none⟩) rows.length c] 40)) wr) (fun i _ => rows.length - (intOf i).toNat)
  case atStart => exact ⟨0, rfl, Nat.zero_le _, _, k0⟩
  case round =>
    clear k0
    obtain ⟨j, rfl, hj, u, k⟩ := hrel
    obtain ⟨ua, un, uc, rfl⟩ : ∃ a n c, u = Value.slice a n c := by rcases k.2.2.1.shape with ⟨h, _⟩ | ⟨_, _, h, _⟩ <;> exact ⟨_, _, _, h⟩
    have hsb : wr.cell? ⟨w.heap.size, 1, none⟩ = some (.slice (some ⟨b, off, none⟩) rows.length c) := (k.2.2.2.2.2.cell (p := ⟨w.heap.size, 1, none⟩) (Nat.lt_succ_self _)).trans hG0.2.2
    by_cases hlt : j < rows.length
    · have hji : (j : Int) < (rows.length : Int) := by omega
      have hj0 : (0 : Int) ≤ (j : Int) := by omega
      have hsn : Hid (rows.take (j + 1) = rows.take j ++ [rowX rows j]) := by show _ = _; rw [rowX_lt hlt, List.take_succ_eq_append_getElem hlt]
      have hlr : (rows.take j).length < 2000000 := by rw [List.length_take]; omega
      have hxj := hx j hlt
      obtain ⟨aj, cj, ev, hjc, _, _⟩ := id (hs j hlt)
      have hS : ∀ W, Below (w.heap.size + 1) (w.alloc (Obj.cells #[.int .i64 cols, .slice (some ⟨b, off, none⟩) rows.length c] 40)) W → (W.cell? ⟨w.heap.size, 1, none⟩ = some (.slice (some ⟨b, off, none⟩) rows.length c) ∧ W.cell? ⟨b, off + j, none⟩ = some (.slice aj (rowX rows j).length cj) ∧ Below (w.heap.size + 1) (w.alloc (Obj.cells #[.int .i64 cols, .slice (some ⟨b, off, none⟩) rows.length c] 40)) W) :=
        fun W hW => ⟨(hW.cell (p := ⟨w.heap.size, 1, none⟩) (Nat.lt_succ_self _)).trans hG0.2.2, ((hW.cell (p := ⟨b, off + j, none⟩) (show b < _ by omega)).trans (hb0.cell (p := ⟨b, off + j, none⟩) hbb)).trans (by rw [hrc j hlt, ev]), hW⟩
      have hsrc : ∀ W, Below (w.heap.size + 1) (w.alloc (Obj.cells #[.int .i64 cols, .slice (some ⟨b, off, none⟩) rows.length c] 40)) W → SlC W (.slice aj (rowX rows j).length cj) (rowX rows j) := fun W hW => by
        have := ((hs j hlt).below hb0).below (by rw [e0]; exact hW)
        rwa [ev] at this
      have hu : ∀ g, (Value.slice ua un uc).ownBlock = some g → g < wr.heap.size := fun g e => (k.2.2.1.lt g e).2
      have hMB : w.heap.size + 1 + 2 ≤ wr.heap.size := k.2.2.2.1
      clear hs hrc ev hv hG0 hb0 e0
      generalize hBB : wr.heap.size = B at k hu hMB
      generalize rows.take j = R at *
      obtain ⟨⟨_, ⟨d0, d1⟩, ⟨y0, y1⟩⟩, ⟨_, ⟨c0, c1⟩, ⟨z0, z1⟩⟩, _⟩ := id k
      go_wp2
      refine wp_region_noPanic ?_
      refine wp_region_held_drew (S := (fun W => W.cell? ⟨w.heap.size, 1, none⟩ = some (.slice (some ⟨b, off, none⟩) rows.length c) ∧ W.cell? ⟨b, off + j, none⟩ = some (.slice aj (rowX rows j).length cj) ∧ Below (w.heap.size + 1) (w.alloc (Obj.cells #[.int .i64 cols, .slice (some ⟨b, off, none⟩) rows.length c] 40)) W)) (by kernel_rfl) (hS _ k.drew.2.2.2.2.2) (fun hHeld => ?_)
      refine' wpAnyH_take (i := 0) (v := _) rfl (by kernel_rfl) (by kernel_rfl) (by kernel_rfl) (fun _ _ _ h => h) (Or.inl ⟨by rfl, ?hy7⟩) hHeld ?hr7
      case hy7 => (intro w hSw; (try dsimp only at hSw); go_simp; (try with_reducible rfl))
      simp only [Act.put, List.setIfInBounds_toArray, List.set_cons_zero, List.set_cons_succ, List.getElem_toArray, List.getElem_cons_zero]
      refine' wpAnyH_take (i := 3) (v := _) rfl (by kernel_rfl) (by kernel_rfl) (by kernel_rfl) (fun _ _ _ h => h) (Or.inl ⟨by rfl, ?hy8⟩) hHeld ?hr8
      case hy8 => (intro w hSw; (try dsimp only at hSw); go_simp; (try with_reducible rfl))
      simp only [Act.put, List.setIfInBounds_toArray, List.set_cons_zero, List.set_cons_succ, List.getElem_toArray, List.getElem_cons_zero, List.getElem_cons_succ]
      refine' wpAnyH_take (i := 4) (v := _) rfl (by kernel_rfl) (by kernel_rfl) (by kernel_rfl) (fun _ _ _ h => h) (Or.inl ⟨by rfl, ?hy9⟩) hHeld ?hr9
      case hy9 => (intro w hSw; (try dsimp only at hSw); go_simp; (try with_reducible rfl))
      simp only [Act.put, List.setIfInBounds_toArray, List.set_cons_zero, List.set_cons_succ, List.getElem_toArray, List.getElem_cons_zero, List.getElem_cons_succ]
      refine' wpAnyH_take (i := 5) (v := _) rfl (by kernel_rfl) (by kernel_rfl) (by kernel_rfl) (fun _ _ _ h => h) (Or.inl ⟨by rfl, ?hy10⟩) hHeld ?hr10
      case hy10 => (intro w hSw; (try dsimp only at hSw); go_simp; (try with_reducible rfl))
      simp only [Act.put, List.setIfInBounds_toArray, List.set_cons_zero, List.set_cons_succ, List.getElem_toArray, List.getElem_cons_zero, List.getElem_cons_succ]
      refine' wpAnyH_take (i := 6) (v := _) rfl (by kernel_rfl) (by kernel_rfl) (by kernel_rfl) (fun _ _ _ h => h) (Or.inl ⟨by rfl, ?hy11⟩) hHeld ?hr11
      case hy11 => (intro w hSw; (try dsimp only at hSw); go_simp; (try with_reducible rfl))
      simp only [Act.put, List.setIfInBounds_toArray, List.set_cons_zero, List.set_cons_succ, List.getElem_toArray, List.getElem_cons_zero, List.getElem_cons_succ]
      refine' wpAnyH_take (i := 7) (v := _) rfl (by kernel_rfl) (by kernel_rfl) (by kernel_rfl) (fun _ _ _ h => h) (Or.inl ⟨by rfl, ?hy12⟩) hHeld ?hr12
      case hy12 => (intro w hSw; (try dsimp only at hSw); go_simp; (try with_reducible rfl))
      simp only [Act.put, List.setIfInBounds_toArray, List.set_cons_zero, List.set_cons_succ, List.getElem_toArray, List.getElem_cons_zero, List.getElem_cons_succ]
      refine wpAnyH_ready (rs := [1, 2]) (by kernel_rfl) (by simp) (AllReadyH.cons rfl (fun K hK => ?_) (AllReadyH.cons rfl (fun K hK => ?_) AllReadyH.nil))
      · go_simp
        refine hK.out _ _ (by exact hHeld) (fun hHeld => ?_)
        clear hK K
        (try simp only [Act.put, List.setIfInBounds_toArray, List.set_cons_zero, List.set_cons_succ, List.getElem_toArray, List.getElem_cons_zero, List.getElem_cons_succ])
        refine wpAnyH_ready (rs := [2]) (by kernel_rfl) (by simp) (AllReadyH.cons rfl (fun K hK => ?_) AllReadyH.nil)
        go_simp
        have kE := (k.below (bal' wr (Obj.cells #[] 114))).drew
        have hoE := (ownC_nil wr B (by omega)).below (bdr _)
        rw [hBB] at hoE
        clear k
        clear d0 d1 y0 y1 c0 c1 z0 z1
        obtain ⟨⟨_, ⟨d0, d1⟩, ⟨y0, y1⟩⟩, ⟨_, ⟨c0, c1⟩, ⟨z0, z1⟩⟩, _⟩ := id kE
        refine hK.out _ _ (hS _ kE.2.2.2.2.2) (fun hHeld => ?_)
        clear hK K
        (try simp only [Act.put, List.setIfInBounds_toArray, List.set_cons_zero, List.set_cons_succ, List.getElem_toArray, List.getElem_cons_zero, List.getElem_cons_succ])
        refine wpAnyH_ready (rs := [8]) (by kernel_rfl) (by simp) (AllReadyH.cons rfl (fun K hK => ?_) AllReadyH.nil)
        refine step_append_os (by rfl) _ _ (by rfl) B (.slice (some ⟨B, 0, none⟩) 0 0) [] (by rfl) (by exact hoE) (by simp; omega) _ (rowX rows j) (hsrc _ hHeld.2.2) (hne j hlt) (by rfl) (by simp; omega) ?_
        intro r w2 ho2 hg2
        have k2 := kE.kept2 hg2 (fun g e => by simp [Value.ownBlock] at e; omega) hu
        have hor2 : OwnC w2 B r (rowX rows j) := by simpa using ho2
        clear kE ho2 hg2 hoE
        clear d0 d1 y0 y1 c0 c1 z0 z1
        obtain ⟨⟨_, ⟨d0, d1⟩, ⟨y0, y1⟩⟩, ⟨_, ⟨c0, c1⟩, ⟨z0, z1⟩⟩, _⟩ := id k2
        obtain ⟨ra, rn, rc, rfl⟩ : ∃ a n c, r = Value.slice a n c := by rcases hor2.shape with ⟨h, _⟩ | ⟨_, _, h, _⟩ <;> exact ⟨_, _, _, h⟩
        refine hK.out _ _ (hS _ k2.2.2.2.2.2) (fun hHeld => ?_)
        clear hK K
        (try simp only [Act.put, List.setIfInBounds_toArray, List.set_cons_zero, List.set_cons_succ, List.getElem_toArray, List.getElem_cons_zero, List.getElem_cons_succ])
        refine wpAnyH_ready (rs := [9]) (by kernel_rfl) (by simp) (AllReadyH.cons rfl (fun K hK => ?_) AllReadyH.nil)
        go_simp
        refine hK.out _ _ (hS _ (k2.below (bal' _ _)).2.2.2.2.2) (fun hHeld => ?_)
        clear hK K
        (try simp only [Act.put, List.setIfInBounds_toArray, List.set_cons_zero, List.set_cons_succ, List.getElem_toArray, List.getElem_cons_zero, List.getElem_cons_succ])
        refine wpAnyH_ready (rs := [10]) (by kernel_rfl) (by simp) (AllReadyH.cons rfl (fun K hK => ?_) AllReadyH.nil)
        refine step_append_og (by rfl) _ _ (by rfl) (w.heap.size + 1 + 2) B _ _ _ _ (by rfl) k2.2.2.1 (hor2.low hMB) (fun g e => (hor2.lt g e).1) k2.2.2.2.1 hlr _ rfl (by rfl) ?_
        intro v' w' ho' hg'
        have k4 := (k2.below (bal' _ _)).more ho' hg'
        clear k2 ho' hg' hor2
        clear d0 d1 y0 y1 c0 c1 z0 z1
        obtain ⟨⟨_, ⟨d0, d1⟩, ⟨y0, y1⟩⟩, ⟨_, ⟨c0, c1⟩, ⟨z0, z1⟩⟩, _⟩ := id k4
        obtain ⟨va, vn, vc, rfl⟩ : ∃ a n c, v' = Value.slice a n c := by rcases k4.2.2.1.shape with ⟨h, _⟩ | ⟨_, _, h, _⟩ <;> exact ⟨_, _, _, h⟩
        refine hK.out _ _ (hS _ k4.2.2.2.2.2) (fun hHeld => ?_)
        clear hK K
        (try simp only [Act.put, List.setIfInBounds_toArray, List.set_cons_zero, List.set_cons_succ, List.getElem_toArray, List.getElem_cons_zero, List.getElem_cons_succ])
        refine' wpAnyH_take (i := 11) (v := _) rfl (by kernel_rfl) (by kernel_rfl) (by kernel_rfl) (fun _ _ _ h => h) (Or.inl ⟨by rfl, ?hy13⟩) hHeld ?hr13
        case hy13 => (intro w hSw; (try dsimp only at hSw); go_simp; (try with_reducible rfl))
        simp only [Act.put, List.setIfInBounds_toArray, List.set_cons_zero, List.set_cons_succ, List.getElem_toArray, List.getElem_cons_zero, List.getElem_cons_succ]
        refine wpAnyH_ready (rs := [12]) (by kernel_rfl) (by simp) (AllReadyH.cons rfl (fun K hK => ?_) AllReadyH.nil)
        go_simp
        have k5 := ng_put k4
        simp only [putG] at k5
        refine hK.out _ _ (hS _ k5.2.2.2.2.2) (fun hHeld => ?_)
        clear hK K
        (try simp only [Act.put, List.setIfInBounds_toArray, List.set_cons_zero, List.set_cons_succ, List.getElem_toArray, List.getElem_cons_zero, List.getElem_cons_succ])
        refine wpAnyH_done (by kernel_rfl) ?_ _
        refine NoPanic.normal ?_
        clear k4 hHeld d0 d1 y0 y1 c0 c1 z0 z1
        go_wp2
        go_roundw
        case rel => exact ⟨j + 1, by go_num, by omega, _, by rw [hsn.out]; exact k5⟩
        case measure => simp [intOf]; omega
      · go_simp
        have kE := (k.below (bal' wr (Obj.cells #[] 114))).drew
        have hoE := (ownC_nil wr B (by omega)).below (bdr _)
        rw [hBB] at hoE
        clear k
        clear d0 d1 y0 y1 c0 c1 z0 z1
        obtain ⟨⟨_, ⟨d0, d1⟩, ⟨y0, y1⟩⟩, ⟨_, ⟨c0, c1⟩, ⟨z0, z1⟩⟩, _⟩ := id kE
        refine hK.out _ _ (hS _ kE.2.2.2.2.2) (fun hHeld => ?_)
        clear hK K
        (try simp only [Act.put, List.setIfInBounds_toArray, List.set_cons_zero, List.set_cons_succ, List.getElem_toArray, List.getElem_cons_zero, List.getElem_cons_succ])
        refine wpAnyH_ready (rs := [1, 8]) (by kernel_rfl) (by simp) (AllReadyH.cons rfl (fun K hK => ?_) (AllReadyH.cons rfl (fun K hK => ?_) AllReadyH.nil))
        · go_simp
          refine hK.out _ _ (by exact hHeld) (fun hHeld => ?_)
          clear hK K
          (try simp only [Act.put, List.setIfInBounds_toArray, List.set_cons_zero, List.set_cons_succ, List.getElem_toArray, List.getElem_cons_zero, List.getElem_cons_succ])
          refine wpAnyH_ready (rs := [8]) (by kernel_rfl) (by simp) (AllReadyH.cons rfl (fun K hK => ?_) AllReadyH.nil)
          refine step_append_os (by rfl) _ _ (by rfl) B (.slice (some ⟨B, 0, none⟩) 0 0) [] (by rfl) (by exact hoE) (by simp; omega) _ (rowX rows j) (hsrc _ hHeld.2.2) (hne j hlt) (by rfl) (by simp; omega) ?_
          intro r w2 ho2 hg2
          have k2 := kE.kept2 hg2 (fun g e => by simp [Value.ownBlock] at e; omega) hu
          have hor2 : OwnC w2 B r (rowX rows j) := by simpa using ho2
          clear kE ho2 hg2 hoE
          clear d0 d1 y0 y1 c0 c1 z0 z1
          obtain ⟨⟨_, ⟨d0, d1⟩, ⟨y0, y1⟩⟩, ⟨_, ⟨c0, c1⟩, ⟨z0, z1⟩⟩, _⟩ := id k2
          obtain ⟨ra, rn, rc, rfl⟩ : ∃ a n c, r = Value.slice a n c := by rcases hor2.shape with ⟨h, _⟩ | ⟨_, _, h, _⟩ <;> exact ⟨_, _, _, h⟩
          refine hK.out _ _ (hS _ k2.2.2.2.2.2) (fun hHeld => ?_)
          clear hK K
          (try simp only [Act.put, List.setIfInBounds_toArray, List.set_cons_zero, List.set_cons_succ, List.getElem_toArray, List.getElem_cons_zero, List.getElem_cons_succ])
          refine wpAnyH_ready (rs := [9]) (by kernel_rfl) (by simp) (AllReadyH.cons rfl (fun K hK => ?_) AllReadyH.nil)
          go_simp
          refine hK.out _ _ (hS _ (k2.below (bal' _ _)).2.2.2.2.2) (fun hHeld => ?_)
          clear hK K
          (try simp only [Act.put, List.setIfInBounds_toArray, List.set_cons_zero, List.set_cons_succ, List.getElem_toArray, List.getElem_cons_zero, List.getElem_cons_succ])
          refine wpAnyH_ready (rs := [10]) (by kernel_rfl) (by simp) (AllReadyH.cons rfl (fun K hK => ?_) AllReadyH.nil)
          refine step_append_og (by rfl) _ _ (by rfl) (w.heap.size + 1 + 2) B _ _ _ _ (by rfl) k2.2.2.1 (hor2.low hMB) (fun g e => (hor2.lt g e).1) k2.2.2.2.1 hlr _ rfl (by rfl) ?_
          intro v' w' ho' hg'
          have k4 := (k2.below (bal' _ _)).more ho' hg'
          clear k2 ho' hg' hor2
          clear d0 d1 y0 y1 c0 c1 z0 z1
          obtain ⟨⟨_, ⟨d0, d1⟩, ⟨y0, y1⟩⟩, ⟨_, ⟨c0, c1⟩, ⟨z0, z1⟩⟩, _⟩ := id k4
          obtain ⟨va, vn, vc, rfl⟩ : ∃ a n c, v' = Value.slice a n c := by rcases k4.2.2.1.shape with ⟨h, _⟩ | ⟨_, _, h, _⟩ <;> exact ⟨_, _, _, h⟩
          refine hK.out _ _ (hS _ k4.2.2.2.2.2) (fun hHeld => ?_)
          clear hK K
          (try simp only [Act.put, List.setIfInBounds_toArray, List.set_cons_zero, List.set_cons_succ, List.getElem_toArray, List.getElem_cons_zero, List.getElem_cons_succ])
          refine' wpAnyH_take (i := 11) (v := _) rfl (by kernel_rfl) (by kernel_rfl) (by kernel_rfl) (fun _ _ _ h => h) (Or.inl ⟨by rfl, ?hy14⟩) hHeld ?hr14
          case hy14 => (intro w hSw; (try dsimp only at hSw); go_simp; (try with_reducible rfl))
          simp only [Act.put, List.setIfInBounds_toArray, List.set_cons_zero, List.set_cons_succ, List.getElem_toArray, List.getElem_cons_zero, List.getElem_cons_succ]
          refine wpAnyH_ready (rs := [12]) (by kernel_rfl) (by simp) (AllReadyH.cons rfl (fun K hK => ?_) AllReadyH.nil)
          go_simp
          have k5 := ng_put k4
          simp only [putG] at k5
          refine hK.out _ _ (hS _ k5.2.2.2.2.2) (fun hHeld => ?_)
          clear hK K
          (try simp only [Act.put, List.setIfInBounds_toArray, List.set_cons_zero, List.set_cons_succ, List.getElem_toArray, List.getElem_cons_zero, List.getElem_cons_succ])
          refine wpAnyH_done (by kernel_rfl) ?_ _
          refine NoPanic.normal ?_
          clear k4 hHeld d0 d1 y0 y1 c0 c1 z0 z1
          go_wp2
          go_roundw
          case rel => exact ⟨j + 1, by go_num, by omega, _, by rw [hsn.out]; exact k5⟩
          case measure => simp [intOf]; omega
        · refine step_append_os (by rfl) _ _ (by rfl) B (.slice (some ⟨B, 0, none⟩) 0 0) [] (by rfl) (by exact hoE) (by simp; omega) _ (rowX rows j) (hsrc _ hHeld.2.2) (hne j hlt) (by rfl) (by simp; omega) ?_
          intro r w2 ho2 hg2
          have k2 := kE.kept2 hg2 (fun g e => by simp [Value.ownBlock] at e; omega) hu
          have hor2 : OwnC w2 B r (rowX rows j) := by simpa using ho2
          clear kE ho2 hg2 hoE
          clear d0 d1 y0 y1 c0 c1 z0 z1
          obtain ⟨⟨_, ⟨d0, d1⟩, ⟨y0, y1⟩⟩, ⟨_, ⟨c0, c1⟩, ⟨z0, z1⟩⟩, _⟩ := id k2
          obtain ⟨ra, rn, rc, rfl⟩ : ∃ a n c, r = Value.slice a n c := by rcases hor2.shape with ⟨h, _⟩ | ⟨_, _, h, _⟩ <;> exact ⟨_, _, _, h⟩
          refine hK.out _ _ (hS _ k2.2.2.2.2.2) (fun hHeld => ?_)
          clear hK K
          (try simp only [Act.put, List.setIfInBounds_toArray, List.set_cons_zero, List.set_cons_succ, List.getElem_toArray, List.getElem_cons_zero, List.getElem_cons_succ])
          refine wpAnyH_ready (rs := [1, 9]) (by kernel_rfl) (by simp) (AllReadyH.cons rfl (fun K hK => ?_) (AllReadyH.cons rfl (fun K hK => ?_) AllReadyH.nil))
          · go_simp
            refine hK.out _ _ (by exact hHeld) (fun hHeld => ?_)
            clear hK K
            (try simp only [Act.put, List.setIfInBounds_toArray, List.set_cons_zero, List.set_cons_succ, List.getElem_toArray, List.getElem_cons_zero, List.getElem_cons_succ])
            refine wpAnyH_ready (rs := [9]) (by kernel_rfl) (by simp) (AllReadyH.cons rfl (fun K hK => ?_) AllReadyH.nil)
            go_simp
            refine hK.out _ _ (hS _ (k2.below (bal' _ _)).2.2.2.2.2) (fun hHeld => ?_)
            clear hK K
            (try simp only [Act.put, List.setIfInBounds_toArray, List.set_cons_zero, List.set_cons_succ, List.getElem_toArray, List.getElem_cons_zero, List.getElem_cons_succ])
            refine wpAnyH_ready (rs := [10]) (by kernel_rfl) (by simp) (AllReadyH.cons rfl (fun K hK => ?_) AllReadyH.nil)
            refine step_append_og (by rfl) _ _ (by rfl) (w.heap.size + 1 + 2) B _ _ _ _ (by rfl) k2.2.2.1 (hor2.low hMB) (fun g e => (hor2.lt g e).1) k2.2.2.2.1 hlr _ rfl (by rfl) ?_
            intro v' w' ho' hg'
            have k4 := (k2.below (bal' _ _)).more ho' hg'
            clear k2 ho' hg' hor2
            clear d0 d1 y0 y1 c0 c1 z0 z1
            obtain ⟨⟨_, ⟨d0, d1⟩, ⟨y0, y1⟩⟩, ⟨_, ⟨c0, c1⟩, ⟨z0, z1⟩⟩, _⟩ := id k4
            obtain ⟨va, vn, vc, rfl⟩ : ∃ a n c, v' = Value.slice a n c := by rcases k4.2.2.1.shape with ⟨h, _⟩ | ⟨_, _, h, _⟩ <;> exact ⟨_, _, _, h⟩
            refine hK.out _ _ (hS _ k4.2.2.2.2.2) (fun hHeld => ?_)
            clear hK K
            (try simp only [Act.put, List.setIfInBounds_toArray, List.set_cons_zero, List.set_cons_succ, List.getElem_toArray, List.getElem_cons_zero, List.getElem_cons_succ])
            refine' wpAnyH_take (i := 11) (v := _) rfl (by kernel_rfl) (by kernel_rfl) (by kernel_rfl) (fun _ _ _ h => h) (Or.inl ⟨by rfl, ?hy15⟩) hHeld ?hr15
            case hy15 => (intro w hSw; (try dsimp only at hSw); go_simp; (try with_reducible rfl))
            simp only [Act.put, List.setIfInBounds_toArray, List.set_cons_zero, List.set_cons_succ, List.getElem_toArray, List.getElem_cons_zero, List.getElem_cons_succ]
            refine wpAnyH_ready (rs := [12]) (by kernel_rfl) (by simp) (AllReadyH.cons rfl (fun K hK => ?_) AllReadyH.nil)
            go_simp
            have k5 := ng_put k4
            simp only [putG] at k5
            refine hK.out _ _ (hS _ k5.2.2.2.2.2) (fun hHeld => ?_)
            clear hK K
            (try simp only [Act.put, List.setIfInBounds_toArray, List.set_cons_zero, List.set_cons_succ, List.getElem_toArray, List.getElem_cons_zero, List.getElem_cons_succ])
            refine wpAnyH_done (by kernel_rfl) ?_ _
            refine NoPanic.normal ?_
            clear k4 hHeld d0 d1 y0 y1 c0 c1 z0 z1
            go_wp2
            go_roundw
            case rel => exact ⟨j + 1, by go_num, by omega, _, by rw [hsn.out]; exact k5⟩
            case measure => simp [intOf]; omega
          · go_simp
            refine hK.out _ _ (hS _ (k2.below (bal' _ _)).2.2.2.2.2) (fun hHeld => ?_)
            clear hK K
            (try simp only [Act.put, List.setIfInBounds_toArray, List.set_cons_zero, List.set_cons_succ, List.getElem_toArray, List.getElem_cons_zero, List.getElem_cons_succ])
            refine wpAnyH_ready (rs := [1]) (by kernel_rfl) (by simp) (AllReadyH.cons rfl (fun K hK => ?_) AllReadyH.nil)
            go_simp
            refine hK.out _ _ (by exact hHeld) (fun hHeld => ?_)
            clear hK K
            (try simp only [Act.put, List.setIfInBounds_toArray, List.set_cons_zero, List.set_cons_succ, List.getElem_toArray, List.getElem_cons_zero, List.getElem_cons_succ])
            refine wpAnyH_ready (rs := [10]) (by kernel_rfl) (by simp) (AllReadyH.cons rfl (fun K hK => ?_) AllReadyH.nil)
            refine step_append_og (by rfl) _ _ (by rfl) (w.heap.size + 1 + 2) B _ _ _ _ (by rfl) k2.2.2.1 (hor2.low hMB) (fun g e => (hor2.lt g e).1) k2.2.2.2.1 hlr _ rfl (by rfl) ?_
            intro v' w' ho' hg'
            have k4 := (k2.below (bal' _ _)).more ho' hg'
            clear k2 ho' hg' hor2
            clear d0 d1 y0 y1 c0 c1 z0 z1
            obtain ⟨⟨_, ⟨d0, d1⟩, ⟨y0, y1⟩⟩, ⟨_, ⟨c0, c1⟩, ⟨z0, z1⟩⟩, _⟩ := id k4
            obtain ⟨va, vn, vc, rfl⟩ : ∃ a n c, v' = Value.slice a n c := by rcases k4.2.2.1.shape with ⟨h, _⟩ | ⟨_, _, h, _⟩ <;> exact ⟨_, _, _, h⟩
            refine hK.out _ _ (hS _ k4.2.2.2.2.2) (fun hHeld => ?_)
            clear hK K
            (try simp only [Act.put, List.setIfInBounds_toArray, List.set_cons_zero, List.set_cons_succ, List.getElem_toArray, List.getElem_cons_zero, List.getElem_cons_succ])
            refine' wpAnyH_take (i := 11) (v := _) rfl (by kernel_rfl) (by kernel_rfl) (by kernel_rfl) (fun _ _ _ h => h) (Or.inl ⟨by rfl, ?hy16⟩) hHeld ?hr16
            case hy16 => (intro w hSw; (try dsimp only at hSw); go_simp; (try with_reducible rfl))
            simp only [Act.put, List.setIfInBounds_toArray, List.set_cons_zero, List.set_cons_succ, List.getElem_toArray, List.getElem_cons_zero, List.getElem_cons_succ]
            refine wpAnyH_ready (rs := [12]) (by kernel_rfl) (by simp) (AllReadyH.cons rfl (fun K hK => ?_) AllReadyH.nil)
            go_simp
            have k5 := ng_put k4
            simp only [putG] at k5
            refine hK.out _ _ (hS _ k5.2.2.2.2.2) (fun hHeld => ?_)
            clear hK K
            (try simp only [Act.put, List.setIfInBounds_toArray, List.set_cons_zero, List.set_cons_succ, List.getElem_toArray, List.getElem_cons_zero, List.getElem_cons_succ])
            refine wpAnyH_done (by kernel_rfl) ?_ _
            refine NoPanic.normal ?_
            clear k4 hHeld d0 d1 y0 y1 c0 c1 z0 z1
            go_wp2
            go_roundw
            case rel => exact ⟨j + 1, by go_num, by omega, _, by rw [hsn.out]; exact k5⟩
            case measure => simp [intOf]; omega
    · have hjn : j = rows.length := by omega
      have hji : ¬ (j : Int) < (rows.length : Int) := by omega
      subst hjn
      rw [List.take_length] at k
      obtain ⟨⟨_, ⟨d0, d1⟩, ⟨y0, y1⟩⟩, ⟨_, ⟨c0, c1⟩, ⟨z0, z1⟩⟩, _⟩ := id k
      have h3 := k.2.2.2.1
      have kF := (k.1.put2 cols (.slice ua un uc)).2.1
      have hgF := putG2_grown wr (w.heap.size + 1) cols (.slice ua un uc)
      have hoF := ((k.2.2.1).kept hgF (fun g e => by cases e; omega)).up hgF.size
      have hbF := (hb0.trans (k.2.2.2.2.2.mono (by omega))).grown hgF (by omega) (fun g e => by cases e; omega)
      obtain ⟨f0, f1⟩ := kF
      simp only [putG2] at f0 f1 hoF hbF
      clear hgF hs hrc
      go_wp2
      exact bodyPost_ret (v := .agg #[.int .i64 cols, .slice ua un uc]) (by simp [results, Tryz.results67, go_sem, f0, f1]) rfl ⟨_, rfl, hoF.low (by omega), hbF⟩
end Go.Proofs.YtdbpjfdlibodcaaGreatDoor
namespace Go.Proofs.YtdbpjfdlibodcaaGreatDoor
open Go.ChangeShapes Go.WideShapes Go.ChangeAt Go.RowKit
/-- Sizes of a right screen. -/
def RtT (t : Te) : Prop := (1 ≤ t.g.length ∧ t.g.length ≤ 30) ∧ (∀ i, i < t.g.length → 1 ≤ (rowX t.g i).length ∧ (rowX t.g i).length ≤ 60) ∧ (1 ≤ t.o.length ∧ t.o.length ≤ 30) ∧ (∀ i, i < t.o.length → 1 ≤ (rowX t.o i).length ∧ (rowX t.o i).length ≤ 60) ∧ t.ti.length ≤ 40 ∧ t.pa.params.length ≤ 16 ∧ t.pa.text.length ≤ 40
theorem ne_of_len {x : List Ce} (h : 1 ≤ x.length) : x ≠ [] := fun e => by rw [e] at h; simp at h
set_option maxHeartbeats 8000000 in
set_option maxRecDepth 20000 in
theorem l7Copy_any (t : Te) (v : Tv) (w : World) (h : SlT w t v) (hz : RtT t) :
    Calls Tryz.prog 26 #[.agg (teCs t v)] w fun e w' => ∃ v', e = .returned (.agg (teCs t v')) ∧ OwnT w' w.heap.size t v' ∧ Below w.heap.size w w' := by
  obtain ⟨vg, vo, vti, vpp, vpt⟩ := v
  obtain ⟨hg, ho, hti, hpp, hpt⟩ := h
  simp only at hg ho hti hpp hpt
  obtain ⟨⟨z1, z1'⟩, z2, ⟨z3, z3'⟩, z4, z5, z6, z7⟩ := hz
  have cG := fun W hW => l5Copy_any t.gc vg t.g W hW (by omega) z1 (fun i hi => by have := z2 i hi; omega) (fun i hi => ne_of_len (z2 i hi).1)
  have cO := fun W hW => l5Copy_any t.oc vo t.o W hW (by omega) z3 (fun i hi => by have := z4 i hi; omega) (fun i hi => ne_of_len (z4 i hi).1)
  have cP := fun W h1 h2 => l6Copy_any t.pa vpp vpt W h1 h2 (by omega) (by omega)
  have ztl : t.ti.length ≤ 1073741824 := by omega
  obtain ⟨ga, gp, hq1⟩ := slG_shp hg
  obtain ⟨oa, op, hq2⟩ := slG_shp ho
  obtain ⟨tia, tip, hq3⟩ := hti.shp
  obtain ⟨ppa, ppp, hq4⟩ := hpp.shp
  obtain ⟨pta, ptp, hq5⟩ := hpt.shp
  subst hq1; subst hq2; subst hq3; subst hq4; subst hq5
  have hb1 := bal' w (Obj.cells (teCs t ⟨.slice ga t.g.length gp, .slice oa t.o.length op, .slice tia t.ti.length tip, .slice ppa t.pa.params.length ppp, .slice pta t.pa.text.length ptp⟩) 45)
  have hb2 := bal' (w.alloc (Obj.cells (teCs t ⟨.slice ga t.g.length gp, .slice oa t.o.length op, .slice tia t.ti.length tip, .slice ppa t.pa.params.length ppp, .slice pta t.pa.text.length ptp⟩) 45)) (Obj.cells #[.int .i64 0, .slice none 0 0, .int .i64 0, .slice none 0 0, .int .i64 0, .int .i64 0, .int .i64 0, .int .i64 0, .bool false, .bool false, .bool false, .int .i64 0, .int .i64 0, .bool false, .bool false, .bool false, .bool false, .int .i64 0, .int .i64 0, .int .i64 0, .int .i64 0, .bool false, .bool false, .bool false, .slice none 0 0, .int .i64 0, .slice none 0 0, .int .i64 0, .slice none 0 0, .string ⟨#[]⟩] 45)
  have hB := (TB.new w (teCs t ⟨.slice ga t.g.length gp, .slice oa t.o.length op, .slice tia t.ti.length tip, .slice ppa t.pa.params.length ppp, .slice pta t.pa.text.length ptp⟩).toList).below hb2
  have hR := TB.new (w.alloc (Obj.cells (teCs t ⟨.slice ga t.g.length gp, .slice oa t.o.length op, .slice tia t.ti.length tip, .slice ppa t.pa.params.length ppp, .slice pta t.pa.text.length ptp⟩) 45)) [.int .i64 0, .slice none 0 0, .int .i64 0, .slice none 0 0, .int .i64 0, .int .i64 0, .int .i64 0, .int .i64 0, .bool false, .bool false, .bool false, .int .i64 0, .int .i64 0, .bool false, .bool false, .bool false, .bool false, .int .i64 0, .int .i64 0, .int .i64 0, .int .i64 0, .bool false, .bool false, .bool false, .slice none 0 0, .int .i64 0, .slice none 0 0, .int .i64 0, .slice none 0 0, .string ⟨#[]⟩]
  have kb := hb1.trans (hb2.mono hb1.size)
  rw [show (w.alloc (Obj.cells (teCs t ⟨.slice ga t.g.length gp, .slice oa t.o.length op, .slice tia t.ti.length tip, .slice ppa t.pa.params.length ppp, .slice pta t.pa.text.length ptp⟩) 45)).heap.size = w.heap.size + 1 by simp] at hR
  obtain ⟨w2, hw2⟩ : ∃ w2, w2 = (w.alloc (Obj.cells (teCs t ⟨.slice ga t.g.length gp, .slice oa t.o.length op, .slice tia t.ti.length tip, .slice ppa t.pa.params.length ppp, .slice pta t.pa.text.length ptp⟩) 45)).alloc (Obj.cells #[.int .i64 0, .slice none 0 0, .int .i64 0, .slice none 0 0, .int .i64 0, .int .i64 0, .int .i64 0, .int .i64 0, .bool false, .bool false, .bool false, .int .i64 0, .int .i64 0, .bool false, .bool false, .bool false, .bool false, .int .i64 0, .int .i64 0, .int .i64 0, .int .i64 0, .bool false, .bool false, .bool false, .slice none 0 0, .int .i64 0, .slice none 0 0, .int .i64 0, .slice none 0 0, .string ⟨#[]⟩] 45) := ⟨_, rfl⟩
  have hB : TB w2 w.heap.size [.int .i64 t.gc, .slice ga t.g.length gp, .int .i64 t.oc, .slice oa t.o.length op, .int .i64 t.row, .int .i64 t.col, .int .i64 t.st.fore, .int .i64 t.st.back, .bool t.st.bold, .bool t.st.under, .bool t.st.turned, .int .i64 t.top, .int .i64 t.bot, .bool t.full, .bool t.wrap, .bool t.away, .bool t.hid, .int .i64 t.sr, .int .i64 t.sc, .int .i64 t.ss.fore, .int .i64 t.ss.back, .bool t.ss.bold, .bool t.ss.under, .bool t.ss.turned, .slice tia t.ti.length tip, .int .i64 t.pa.state, .slice ppa t.pa.params.length ppp, .int .i64 t.pa.mark, .slice pta t.pa.text.length ptp, .string t.fe] := by rw [hw2]; exact hB
  rw [← hw2] at hR kb
  have zs2 : w2.heap.size = w.heap.size + 2 := by rw [hw2]; simp
  replace hw2 := (show Hid _ from hw2)
  unfold gridV paV at *
  clear hb1 hb2 z1 z1' z2 z3 z3' z4 z5 z6 z7
  go_enter Tryz.func26, Tryz.ntmps26
  refine wp_seq_k (fun K hK => ?_)
  have hH := (show Hid _ from hK)
  clear hK
  go_wp2
  refine hH.out _ _ ?_
  rw [← hw2.out]
  clear hH hw2
  have c0 : w2.cell? ⟨w.heap.size, 0, none⟩ = some (.int .i64 t.gc) := cells_all hB 0
  have c1 : w2.cell? ⟨w.heap.size, 1, none⟩ = some (.slice ga t.g.length gp) := cells_all hB 1
  go_wp2_with fail
  refine (cG _ (hg.below kb)).mono ?_
  rintro e w3 ⟨xg, rfl, hng, hb⟩
  obtain ⟨xga, xgn, xgp, hx⟩ := slShp (SlG.of_own hng)
  subst hx
  have og : OwnR w3 w2.heap.size w3.heap.size (.slice xga xgn xgp) t.g := OwnR.of hng
  replace hB := hB.below hb
  replace hR := hR.below hb
  replace kb := kb.trans (hb.mono kb.size)
  have s23 := hb.size
  clear hng hb c0 c1 cG
  go_wp2_with (refine store_at (by rfl) 40 _ _ (by rfl) inf_g hB (by rfl) (by rfl) (by rfl) (by rfl) (by rfl) ?_; intro W3 hgr hB1 hz1; have c2 : W3.cell? ⟨w.heap.size, 2, none⟩ = some (.int .i64 t.oc) := cells_all hB1 2; have c3 : W3.cell? ⟨w.heap.size, 3, none⟩ = some (.slice oa t.o.length op) := cells_all hB1 3)
  have hb : Below w.heap.size w W3 := kb.grown hgr kb.size (fun g e => by cases e; exact Nat.le_refl _)
  refine (cO _ (ho.below hb)).mono ?_
  rintro e w4 ⟨xo, rfl, hno, hb4⟩
  obtain ⟨xoa, xon, xop, hx⟩ := slShp (SlG.of_own hno)
  subst hx
  have oo : OwnR w4 w3.heap.size w4.heap.size (.slice xoa xon xop) t.o := by rw [← hz1]; exact OwnR.of hno
  replace og := (og.grown hgr (by omega)).below hb4
  replace hB : TB w4 w.heap.size [.int .i64 t.gc, .slice xga xgn xgp, .int .i64 t.oc, .slice oa t.o.length op, .int .i64 t.row, .int .i64 t.col, .int .i64 t.st.fore, .int .i64 t.st.back, .bool t.st.bold, .bool t.st.under, .bool t.st.turned, .int .i64 t.top, .int .i64 t.bot, .bool t.full, .bool t.wrap, .bool t.away, .bool t.hid, .int .i64 t.sr, .int .i64 t.sc, .int .i64 t.ss.fore, .int .i64 t.ss.back, .bool t.ss.bold, .bool t.ss.under, .bool t.ss.turned, .slice tia t.ti.length tip, .int .i64 t.pa.state, .slice ppa t.pa.params.length ppp, .int .i64 t.pa.mark, .slice pta t.pa.text.length ptp, .string t.fe] := TB.below (show TB W3 w.heap.size [.int .i64 t.gc, .slice xga xgn xgp, .int .i64 t.oc, .slice oa t.o.length op, .int .i64 t.row, .int .i64 t.col, .int .i64 t.st.fore, .int .i64 t.st.back, .bool t.st.bold, .bool t.st.under, .bool t.st.turned, .int .i64 t.top, .int .i64 t.bot, .bool t.full, .bool t.wrap, .bool t.away, .bool t.hid, .int .i64 t.sr, .int .i64 t.sc, .int .i64 t.ss.fore, .int .i64 t.ss.back, .bool t.ss.bold, .bool t.ss.under, .bool t.ss.turned, .slice tia t.ti.length tip, .int .i64 t.pa.state, .slice ppa t.pa.params.length ppp, .int .i64 t.pa.mark, .slice pta t.pa.text.length ptp, .string t.fe] from hB1) hb4
  replace hR := (hR.kept hgr (by simp)).below hb4
  have s34 : w3.heap.size ≤ w4.heap.size := by rw [← hz1]; exact hb4.size
  replace kb := hb.trans (hb4.mono hb.size)
  clear hno hb hb4 hgr hB1 hz1 c2 c3 cO
  have hba := fun W => bal' W (Obj.cells #[] 2)
  go_wp2_with (first
    | (refine store_at (by rfl) 40 _ _ (by rfl) inf_g hB (by rfl) (by rfl) (by rfl) (by rfl) (by rfl) ?_; intro W4 hgr hB1 hz1; have c24 : (W4.alloc (Obj.cells #[] 2)).cell? ⟨w.heap.size, 24, none⟩ = some (.slice tia t.ti.length tip) := (cells_all (TB.below (show TB W4 w.heap.size [.int .i64 t.gc, .slice xga xgn xgp, .int .i64 t.oc, .slice xoa xon xop, .int .i64 t.row, .int .i64 t.col, .int .i64 t.st.fore, .int .i64 t.st.back, .bool t.st.bold, .bool t.st.under, .bool t.st.turned, .int .i64 t.top, .int .i64 t.bot, .bool t.full, .bool t.wrap, .bool t.away, .bool t.hid, .int .i64 t.sr, .int .i64 t.sc, .int .i64 t.ss.fore, .int .i64 t.ss.back, .bool t.ss.bold, .bool t.ss.under, .bool t.ss.turned, .slice tia t.ti.length tip, .int .i64 t.pa.state, .slice ppa t.pa.params.length ppp, .int .i64 t.pa.mark, .slice pta t.pa.text.length ptp, .string t.fe] from hB1) (hba W4)) 24); have hb4 : Below w.heap.size w W4 := kb.grown hgr kb.size (fun g e => by cases e; exact Nat.le_refl _); have ht4 := hti.below hb4)
    | (refine copy_g (by rfl) _ _ (by rfl) _ hz1 _ t.ti (by rfl) ht4 ztl (by rfl) ?_; intro xt w5 hnt hb5; obtain ⟨xta, xtn, xtp, hx⟩ := OwnI.shape hnt; subst hx; have hB5 : TB w5 w.heap.size [.int .i64 t.gc, .slice xga xgn xgp, .int .i64 t.oc, .slice xoa xon xop, .int .i64 t.row, .int .i64 t.col, .int .i64 t.st.fore, .int .i64 t.st.back, .bool t.st.bold, .bool t.st.under, .bool t.st.turned, .int .i64 t.top, .int .i64 t.bot, .bool t.full, .bool t.wrap, .bool t.away, .bool t.hid, .int .i64 t.sr, .int .i64 t.sc, .int .i64 t.ss.fore, .int .i64 t.ss.back, .bool t.ss.bold, .bool t.ss.under, .bool t.ss.turned, .slice tia t.ti.length tip, .int .i64 t.pa.state, .slice ppa t.pa.params.length ppp, .int .i64 t.pa.mark, .slice pta t.pa.text.length ptp, .string t.fe] := TB.below (show TB W4 w.heap.size [.int .i64 t.gc, .slice xga xgn xgp, .int .i64 t.oc, .slice xoa xon xop, .int .i64 t.row, .int .i64 t.col, .int .i64 t.st.fore, .int .i64 t.st.back, .bool t.st.bold, .bool t.st.under, .bool t.st.turned, .int .i64 t.top, .int .i64 t.bot, .bool t.full, .bool t.wrap, .bool t.away, .bool t.hid, .int .i64 t.sr, .int .i64 t.sc, .int .i64 t.ss.fore, .int .i64 t.ss.back, .bool t.ss.bold, .bool t.ss.under, .bool t.ss.turned, .slice tia t.ti.length tip, .int .i64 t.pa.state, .slice ppa t.pa.params.length ppp, .int .i64 t.pa.mark, .slice pta t.pa.text.length ptp, .string t.fe] from hB1) hb5; clear c24)
    | (refine store_at (by rfl) 27 _ _ (by rfl) inf_l hB5 (by rfl) (by rfl) (by rfl) (by rfl) (by rfl) ?_; intro W5 hgr5 hB6 hz5; have c25 : W5.cell? ⟨w.heap.size, 25, none⟩ = some (.int .i64 t.pa.state) := cells_all hB6 25; have c26 : W5.cell? ⟨w.heap.size, 26, none⟩ = some (.slice ppa t.pa.params.length ppp) := cells_all hB6 26; have c27 : W5.cell? ⟨w.heap.size, 27, none⟩ = some (.int .i64 t.pa.mark) := cells_all hB6 27; have c28 : W5.cell? ⟨w.heap.size, 28, none⟩ = some (.slice pta t.pa.text.length ptp) := cells_all hB6 28))
  have hb5w : Below w.heap.size w w5 := hb4.trans (hb5.mono hb4.size)
  have hb6 : Below w.heap.size w W5 := hb5w.grown hgr5 hb5w.size (fun g e => by cases e; exact Nat.le_refl _)
  have s45 : w4.heap.size ≤ w5.heap.size := by rw [← hz1]; exact hb5.size
  have ol5 : LiOk w5 w4.heap.size [((.slice xta xtn xtp : Value), t.ti)] := ⟨fun p hp => by rw [List.mem_singleton] at hp; subst hp; rw [← hz1]; exact hnt, List.pairwise_singleton _ _⟩
  have olt : ∀ p ∈ [((.slice xta xtn xtp : Value), t.ti)], ∀ g, p.1.ownBlock = some g → g < w5.heap.size := fun p hp g e => ((ol5.1 p hp).lt g e).2
  have ol6 := ol5.kept hgr5 (fun p hp => .inr ((ol5.1 p hp).not_block hB5 (by decide)))
  replace og := ((og.grown hgr (by omega)).below hb5).grown hgr5 (by omega)
  replace oo := ((oo.grown hgr (by omega)).below hb5).grown hgr5 (by omega)
  have hR6 := ((hR.kept hgr (by simp)).below hb5).kept hgr5 (by simp)
  refine (cP _ (hpp.below hb6) (hpt.below hb6)).mono ?_
  rintro e w7 ⟨xp, xq, rfl, hnp, hb⟩
  rw [hz5] at hnp
  obtain ⟨xpa, xpn, xpp, hxp⟩ := hnp.head.shape
  obtain ⟨xqa, xqn, xqp, hxq⟩ := hnp.tail.head.shape
  simp only at hxp hxq
  subst hxp; subst hxq
  have ol : LiOk w7 w4.heap.size ([((.slice xta xtn xtp : Value), t.ti)] ++ [(.slice xpa xpn xpp, t.pa.params), (.slice xqa xqn xqp, t.pa.text)]) := (ol6.below hb).join olt hnp s45
  replace og := og.below hb
  replace oo := oo.below hb
  replace hR := hR6.below hb
  have hB7 : TB w7 w.heap.size [.int .i64 t.gc, .slice xga xgn xgp, .int .i64 t.oc, .slice xoa xon xop, .int .i64 t.row, .int .i64 t.col, .int .i64 t.st.fore, .int .i64 t.st.back, .bool t.st.bold, .bool t.st.under, .bool t.st.turned, .int .i64 t.top, .int .i64 t.bot, .bool t.full, .bool t.wrap, .bool t.away, .bool t.hid, .int .i64 t.sr, .int .i64 t.sc, .int .i64 t.ss.fore, .int .i64 t.ss.back, .bool t.ss.bold, .bool t.ss.under, .bool t.ss.turned, .slice xta xtn xtp, .int .i64 t.pa.state, .slice ppa t.pa.params.length ppp, .int .i64 t.pa.mark, .slice pta t.pa.text.length ptp, .string t.fe] := TB.below (show TB W5 w.heap.size [.int .i64 t.gc, .slice xga xgn xgp, .int .i64 t.oc, .slice xoa xon xop, .int .i64 t.row, .int .i64 t.col, .int .i64 t.st.fore, .int .i64 t.st.back, .bool t.st.bold, .bool t.st.under, .bool t.st.turned, .int .i64 t.top, .int .i64 t.bot, .bool t.full, .bool t.wrap, .bool t.away, .bool t.hid, .int .i64 t.sr, .int .i64 t.sc, .int .i64 t.ss.fore, .int .i64 t.ss.back, .bool t.ss.bold, .bool t.ss.under, .bool t.ss.turned, .slice xta xtn xtp, .int .i64 t.pa.state, .slice ppa t.pa.params.length ppp, .int .i64 t.pa.mark, .slice pta t.pa.text.length ptp, .string t.fe] from hB6) hb
  have s57 : w5.heap.size ≤ w7.heap.size := by rw [← hz5]; exact hb.size
  have kb7 := hb6.trans (hb.mono hb6.size)
  clear hb hb6 hb5w hb5 hgr5 hB6 hz5 hB5 hb4 ht4 hgr hB1 hz1 hnt hnp ol5 ol6 hR6 c25 c26 c27 c28 cP hB hba
  go_wp2_with (first
    | (refine store_at (by rfl) 42 _ _ (by rfl) inf_p hB7 (by rfl) (by rfl) (by rfl) (by rfl) (by rfl) ?_; intro W7 hgr hB8 hz7)
    | (refine load_T (cs := teCs t ⟨.slice xga xgn xgp, .slice xoa xon xop, .slice xta xtn xtp, .slice xpa xpn xpp, .slice xqa xqn xqp⟩) (by rfl) 45 _ (by rfl) Tryz.underlying45 rfl info_te hB8 (by rfl) ?_)
    | (refine store_T (cs := teCs t ⟨.slice xga xgn xgp, .slice xoa xon xop, .slice xta xtn xtp, .slice xpa xpn xpp, .slice xqa xqn xqp⟩) (by rfl) 45 _ _ (by rfl) info_te (by rfl) (by rfl) (hR.kept hgr (by simp)) (by rfl) (by rfl) ?_; intro w9 hg9 hR9 hz9))
  have hR8 := hR.kept hgr (by simp)
  have ol8 := ol.kept hgr (fun p hp => .inr ((ol.1 p hp).not_block hB7 (by decide)))
  have hfin : OwnT w9 w.heap.size t ⟨.slice xga xgn xgp, .slice xoa xon xop, .slice xta xtn xtp, .slice xpa xpn xpp, .slice xqa xqn xqp⟩ :=
    ⟨w3.heap.size, w4.heap.size, w4.heap.size, OwnR.low ((og.grown hgr (by omega)).grown hg9 (by omega)) (by omega), (oo.grown hgr (by omega)).grown hg9 (by omega), ol8.kept hg9 (fun p hp => .inr ((ol8.1 p hp).not_block hR8 (by decide))), by omega, by omega, Nat.le_refl _, by rw [hz9, hz7]; omega⟩
  have kb8 := kb7.grown hgr kb7.size (fun g e => by cases e; exact Nat.le_refl _)
  exact bodyPost_ret (v := .agg (teCs t ⟨.slice xga xgn xgp, .slice xoa xon xop, .slice xta xtn xtp, .slice xpa xpn xpp, .slice xqa xqn xqp⟩)) (results_cell_row Tryz.results26 _ _ _ _ _ _ _ rfl hR9 Tryz.underlying45 rfl info_te) rfl ⟨_, rfl, hfin, kb8.grown hg9 kb8.size (fun g e => by cases e; omega)⟩
end Go.Proofs.YtdbpjfdlibodcaaGreatDoor
namespace Go.Proofs.YtdbpjfdlibodcaaGreatDoor
open Go.ChangeShapes Go.WideShapes Go.ChangeAt Go.RowKit
/-- A screen at work: the parser's walk, and the screen. -/
def scCs (p : Pa) (pp pt lv av : Value) (t : Te) (v : Tv) : List Value := [.int .i64 p.state, pp, .int .i64 p.mark, pt, lv, av, .int .i64 t.gc, v.g, .int .i64 t.oc, v.o, .int .i64 t.row, .int .i64 t.col, .int .i64 t.st.fore, .int .i64 t.st.back, .bool t.st.bold, .bool t.st.under, .bool t.st.turned, .int .i64 t.top, .int .i64 t.bot, .bool t.full, .bool t.wrap, .bool t.away, .bool t.hid, .int .i64 t.sr, .int .i64 t.sc, .int .i64 t.ss.fore, .int .i64 t.ss.back, .bool t.ss.bold, .bool t.ss.under, .bool t.ss.turned, v.ti, .int .i64 t.pa.state, v.pp, .int .i64 t.pa.mark, v.pt, .string t.fe]
def SB (w : World) (B : Nat) (cs : List Value) : Prop := BlkC w B 90 cs
theorem inf_gs : (Tryz.prog.info? 38).map (·.size) = some 1 := by kernel_rfl
theorem inf_st : (Tryz.prog.info? 9).map (·.size) = some 1 := by kernel_rfl
theorem built_sc (p : Pa) (pp pt lv av : Value) (t : Te) (v : Tv) : Tryz.prog.built 90 [(0, .agg #[.int .i64 p.state, pp, .int .i64 p.mark, pt, lv, av]), (1, .agg (teCs t v))] = some (scCs p pp pt lv av t v).toArray := by kernel_rfl
theorem build2_T {w : World} {ops : Array Oper} {rest : List Oper} {o : Oper} {a : Act} {Q : Exit → Act → World → Prop} (hgd : Region.wanted o (yielded ops a.tmps) = true) (t : TypeId) (i0 i1 : Nat) (x0 x1 : Operand) (ho : o.op = .build t #[(i0, x0), (i1, x1)]) (v0 v1 : Value) (cs : Array Value)
    (h0 : a.eval x0 = v0) (h1 : a.eval x1 = v1) (hf : Tryz.prog.built t [(i0, v0), (i1, v1)] = some cs)
    (h : wpList Tryz.prog ops Q rest (a.put o.dst (.agg cs)) w) : wpList Tryz.prog ops Q (o :: rest) a w := by
  refine wpList_step fun K hK => ?_
  rw [if_pos hgd]
  have e : (#[(i0, x0), (i1, x1)].map fun (i, x) => (i, a.eval x)).toList = [(i0, v0), (i1, v1)] := by simp [h0, h1]
  exact wp_build t _ ho (by rw [e, hf]; rfl) (by rw [e, hf]; exact hK _ _ h)
/-- What stands while a screen is copied. -/
structure ScI (w0 W : World) (b1 b2 : Nat) (cs : List Value) (xg xo : Value) (G O : List (List Ce)) (L : List (Value × List Int)) : Prop where
  b : TB W w0.heap.size cs
  g : OwnR W (w0.heap.size + 1) b1 xg G
  o : OwnR W b1 b2 xo O
  l : LiOk W b2 L
  k : Below w0.heap.size w0 W
  z : w0.heap.size + 1 ≤ b1 ∧ b1 ≤ b2 ∧ b2 ≤ W.heap.size
theorem ScI.below {w0 W W' : World} {b1 b2 : Nat} {cs : List Value} {xg xo : Value} {G O : List (List Ce)} {L : List (Value × List Int)} (h : ScI w0 W b1 b2 cs xg xo G O L) (hb : Below W.heap.size W W') : ScI w0 W' b1 b2 cs xg xo G O L := by
  obtain ⟨h1, h2, h3, h4, h5, z1, z2, z3⟩ := h
  exact ⟨h1.below hb, h2.below hb, h3.below hb, h4.below hb, h5.trans (hb.mono h5.size), z1, z2, Nat.le_trans z3 hb.size⟩
theorem ScI.new {w0 W W' : World} {b1 b2 : Nat} {cs : List Value} {xg xo : Value} {G O : List (List Ce)} {L : List (Value × List Int)} (h : ScI w0 W b1 b2 cs xg xo G O L) (hb : Below W.heap.size W W') {u : Value} {xs : List Int} (ho : OwnI W' W.heap.size u xs) : ScI w0 W' b1 b2 cs xg xo G O ((u, xs) :: L) := by
  obtain ⟨h1, h2, h3, h4, h5, z1, z2, z3⟩ := h
  exact ⟨h1.below hb, h2.below hb, h3.below hb, h4.new hb (ho.low z3) (fun g e => (ho.lt g e).1), h5.trans (hb.mono h5.size), z1, z2, Nat.le_trans z3 hb.size⟩
theorem ScI.stored {w0 W W' : World} {b1 b2 : Nat} {cs cs' : List Value} {xg xo : Value} {G O : List (List Ce)} {L : List (Value × List Int)} (h : ScI w0 W b1 b2 cs xg xo G O L) (hg : W.grownBy W' (some w0.heap.size)) (hp : BlkC W' w0.heap.size 45 cs') : ScI w0 W' b1 b2 cs' xg xo G O L := by
  obtain ⟨h1, h2, h3, h4, h5, z1, z2, z3⟩ := h
  exact ⟨hp, h2.grown hg (by omega), h3.grown hg (by omega), h4.kept hg (fun p hp => .inr ((h4.1 p hp).not_block h1 (by decide))), h5.grown hg h5.size (fun g e => by cases e; omega), z1, z2, Nat.le_trans z3 hg.size⟩
set_option maxHeartbeats 16000000 in
set_option maxRecDepth 20000 in
theorem screenOf_any (t : Te) (v : Tv) (w : World) (h : SlT w t v) (hz : RtT t) (hf : t.fe.size ≤ 281474976710656) :
    Calls Tryz.prog 35 #[.agg (teCs t v)] w fun e w' => ∃ B v' vg vo, e = .returned (.pointer (some ⟨B, 0, none⟩)) ∧ SB w' B (scCs t.pa v'.pp v'.pt (.slice none 0 0) (.slice none 0 0) t v') ∧ OwnS w' (w.heap.size + 1) t v' vg vo ∧ w.heap.size < B ∧ Below w.heap.size w w' := by
  obtain ⟨vg, vo, vti, vpp, vpt⟩ := v
  obtain ⟨hg, ho, hti, hpp, hpt⟩ := h
  simp only at hg ho hti hpp hpt
  obtain ⟨⟨z1, z1'⟩, z2, ⟨z3, z3'⟩, z4, z5, z6, z7⟩ := hz
  have cG := fun W hW => copiedG_any vg t.g W hW (by omega) (fun i hi => by have := z2 i hi; omega)
  have cO := fun W hW => copiedG_any vo t.o W hW (by omega) (fun i hi => by have := z4 i hi; omega)
  have cT := fun W hW => copiedNumbers_any vti t.ti W hW (by omega)
  have cP := fun W hW => copiedNumbers_any vpp t.pa.params W hW (by omega)
  have cQ := fun W hW => copiedNumbers_any vpt t.pa.text W hW (by omega)
  have cF := fun W => clone_any t.fe W hf
  obtain ⟨ga, gp, hq1⟩ := slG_shp hg
  obtain ⟨oa, op, hq2⟩ := slG_shp ho
  obtain ⟨tia, tip, hq3⟩ := hti.shp
  obtain ⟨ppa, ppp, hq4⟩ := hpp.shp
  obtain ⟨pta, ptp, hq5⟩ := hpt.shp
  subst hq1; subst hq2; subst hq3; subst hq4; subst hq5
  have kb := bal' w (Obj.cells (teCs t ⟨.slice ga t.g.length gp, .slice oa t.o.length op, .slice tia t.ti.length tip, .slice ppa t.pa.params.length ppp, .slice pta t.pa.text.length ptp⟩) 45)
  have hB := TB.new w (teCs t ⟨.slice ga t.g.length gp, .slice oa t.o.length op, .slice tia t.ti.length tip, .slice ppa t.pa.params.length ppp, .slice pta t.pa.text.length ptp⟩).toList
  obtain ⟨w1, hw1⟩ : ∃ w1, w1 = w.alloc (Obj.cells (teCs t ⟨.slice ga t.g.length gp, .slice oa t.o.length op, .slice tia t.ti.length tip, .slice ppa t.pa.params.length ppp, .slice pta t.pa.text.length ptp⟩) 45) := ⟨_, rfl⟩
  have zs1 : w1.heap.size = w.heap.size + 1 := by rw [hw1]; simp
  have hB : TB w1 w.heap.size [.int .i64 t.gc, .slice ga t.g.length gp, .int .i64 t.oc, .slice oa t.o.length op, .int .i64 t.row, .int .i64 t.col, .int .i64 t.st.fore, .int .i64 t.st.back, .bool t.st.bold, .bool t.st.under, .bool t.st.turned, .int .i64 t.top, .int .i64 t.bot, .bool t.full, .bool t.wrap, .bool t.away, .bool t.hid, .int .i64 t.sr, .int .i64 t.sc, .int .i64 t.ss.fore, .int .i64 t.ss.back, .bool t.ss.bold, .bool t.ss.under, .bool t.ss.turned, .slice tia t.ti.length tip, .int .i64 t.pa.state, .slice ppa t.pa.params.length ppp, .int .i64 t.pa.mark, .slice pta t.pa.text.length ptp, .string t.fe] := by rw [hw1]; exact hB
  rw [← hw1] at kb
  replace hw1 := (show Hid _ from hw1)
  clear z1 z1' z2 z3 z3' z4 z5 z6 z7 hf
  go_enter Tryz.func35, Tryz.ntmps35
  refine wp_seq_k (fun K hK => ?_)
  have hH := (show Hid _ from hK)
  clear hK
  go_wp2
  refine hH.out _ _ ?_
  rw [← hw1.out]
  clear hH hw1
  have c1 : w1.cell? ⟨w.heap.size, 1, none⟩ = some (.slice ga t.g.length gp) := cells_all hB 1
  go_wp2_with fail
  refine (cG _ (hg.below kb)).mono ?_
  rintro e w2 ⟨vsg, rfl, hng, hb⟩
  have og : OwnR w2 (w.heap.size + 1) w2.heap.size (.slice (some ⟨w1.heap.size, 0, none⟩) t.g.length t.g.length) t.g := by rw [← zs1]; exact OwnR.of hng.g
  obtain ⟨xga, hxga⟩ : ∃ a, a = some (Addr.mk w1.heap.size 0 none) := ⟨_, rfl⟩
  rw [← hxga] at og
  rw [← hxga]
  replace hB := hB.below hb
  replace kb := kb.trans (hb.mono kb.size)
  have s12 := hb.size
  clear hng hb cG hxga c1
  go_wp2_with (refine store_at (by rfl) 38 _ _ (by rfl) inf_gs hB (by rfl) (by rfl) (by rfl) (by rfl) (by rfl) ?_; intro W2 hgr hB1 hz1; have c3 : W2.cell? ⟨w.heap.size, 3, none⟩ = some (.slice oa t.o.length op) := cells_all hB1 3)
  have kb2 : Below w.heap.size w W2 := kb.grown hgr kb.size (fun g e => by cases e; exact Nat.le_refl _)
  replace hB : TB W2 w.heap.size [.int .i64 t.gc, .slice xga t.g.length t.g.length, .int .i64 t.oc, .slice oa t.o.length op, .int .i64 t.row, .int .i64 t.col, .int .i64 t.st.fore, .int .i64 t.st.back, .bool t.st.bold, .bool t.st.under, .bool t.st.turned, .int .i64 t.top, .int .i64 t.bot, .bool t.full, .bool t.wrap, .bool t.away, .bool t.hid, .int .i64 t.sr, .int .i64 t.sc, .int .i64 t.ss.fore, .int .i64 t.ss.back, .bool t.ss.bold, .bool t.ss.under, .bool t.ss.turned, .slice tia t.ti.length tip, .int .i64 t.pa.state, .slice ppa t.pa.params.length ppp, .int .i64 t.pa.mark, .slice pta t.pa.text.length ptp, .string t.fe] := hB1
  replace og := og.grown hgr (by omega)
  clear hB1 hgr kb
  refine (cO _ (ho.below kb2)).mono ?_
  rintro e w3 ⟨vso, rfl, hno, hb⟩
  have oo : OwnR w3 w2.heap.size w3.heap.size (.slice (some ⟨W2.heap.size, 0, none⟩) t.o.length t.o.length) t.o := by rw [← hz1]; exact OwnR.of hno.g
  obtain ⟨xoa, hxoa⟩ : ∃ a, a = some (Addr.mk W2.heap.size 0 none) := ⟨_, rfl⟩
  rw [← hxoa] at oo
  rw [← hxoa]
  have I : ScI w w3 w2.heap.size w3.heap.size [.int .i64 t.gc, .slice xga t.g.length t.g.length, .int .i64 t.oc, .slice oa t.o.length op, .int .i64 t.row, .int .i64 t.col, .int .i64 t.st.fore, .int .i64 t.st.back, .bool t.st.bold, .bool t.st.under, .bool t.st.turned, .int .i64 t.top, .int .i64 t.bot, .bool t.full, .bool t.wrap, .bool t.away, .bool t.hid, .int .i64 t.sr, .int .i64 t.sc, .int .i64 t.ss.fore, .int .i64 t.ss.back, .bool t.ss.bold, .bool t.ss.under, .bool t.ss.turned, .slice tia t.ti.length tip, .int .i64 t.pa.state, .slice ppa t.pa.params.length ppp, .int .i64 t.pa.mark, .slice pta t.pa.text.length ptp, .string t.fe] _ _ _ _ [] := ⟨hB.below hb, og.below hb, oo, LiOk.nil _ _, kb2.trans (hb.mono kb2.size), by omega, by rw [← hz1]; exact hb.size, Nat.le_refl _⟩
  generalize w3.heap.size = b2 at I
  generalize w2.heap.size = b1 at *
  clear hB og oo hno hb kb2 hz1 cO hxoa c3 s12 zs1
  go_wp2_with (refine store_at (by rfl) 38 _ _ (by rfl) inf_gs I.b (by rfl) (by rfl) (by rfl) (by rfl) (by rfl) ?_; intro W3 hgr hp hz3; have I3 : ScI w W3 b1 b2 [.int .i64 t.gc, .slice xga t.g.length t.g.length, .int .i64 t.oc, .slice xoa t.o.length t.o.length, .int .i64 t.row, .int .i64 t.col, .int .i64 t.st.fore, .int .i64 t.st.back, .bool t.st.bold, .bool t.st.under, .bool t.st.turned, .int .i64 t.top, .int .i64 t.bot, .bool t.full, .bool t.wrap, .bool t.away, .bool t.hid, .int .i64 t.sr, .int .i64 t.sc, .int .i64 t.ss.fore, .int .i64 t.ss.back, .bool t.ss.bold, .bool t.ss.under, .bool t.ss.turned, .slice tia t.ti.length tip, .int .i64 t.pa.state, .slice ppa t.pa.params.length ppp, .int .i64 t.pa.mark, .slice pta t.pa.text.length ptp, .string t.fe] _ _ _ _ _ := I.stored hgr hp; have c24 : W3.cell? ⟨w.heap.size, 24, none⟩ = some (.slice tia t.ti.length tip) := cells_all I3.b 24)
  clear I hgr hp hz3
  refine (cT _ (hti.below (I3.k.mono (Nat.le_refl _)))).mono ?_
  rintro e w4 ⟨u, rfl, hnt, hb⟩
  obtain ⟨xta, xtn, xtp, hx⟩ := hnt.shape
  subst hx
  have I4 := I3.new hb hnt
  clear I3 hnt hb cT c24
  go_wp2_with (refine store_at (by rfl) 27 _ _ (by rfl) inf_l I4.b (by rfl) (by rfl) (by rfl) (by rfl) (by rfl) ?_; intro W4 hgr hp hz4; have J4 : ScI w W4 b1 b2 [.int .i64 t.gc, .slice xga t.g.length t.g.length, .int .i64 t.oc, .slice xoa t.o.length t.o.length, .int .i64 t.row, .int .i64 t.col, .int .i64 t.st.fore, .int .i64 t.st.back, .bool t.st.bold, .bool t.st.under, .bool t.st.turned, .int .i64 t.top, .int .i64 t.bot, .bool t.full, .bool t.wrap, .bool t.away, .bool t.hid, .int .i64 t.sr, .int .i64 t.sc, .int .i64 t.ss.fore, .int .i64 t.ss.back, .bool t.ss.bold, .bool t.ss.under, .bool t.ss.turned, .slice xta xtn xtp, .int .i64 t.pa.state, .slice ppa t.pa.params.length ppp, .int .i64 t.pa.mark, .slice pta t.pa.text.length ptp, .string t.fe] _ _ _ _ _ := I4.stored hgr hp; have c26 : W4.cell? ⟨w.heap.size, 26, none⟩ = some (.slice ppa t.pa.params.length ppp) := cells_all J4.b 26)
  clear I4 hgr hp hz4
  refine (cP _ (hpp.below J4.k)).mono ?_
  rintro e w5 ⟨u, rfl, hnt, hb⟩
  obtain ⟨xpa, xpn, xpp, hx⟩ := hnt.shape
  subst hx
  have I5 := J4.new hb hnt
  clear J4 hnt hb cP c26
  go_wp2_with (refine store_at (by rfl) 27 _ _ (by rfl) inf_l I5.b (by rfl) (by rfl) (by rfl) (by rfl) (by rfl) ?_; intro W5 hgr hp hz5; have J5 : ScI w W5 b1 b2 [.int .i64 t.gc, .slice xga t.g.length t.g.length, .int .i64 t.oc, .slice xoa t.o.length t.o.length, .int .i64 t.row, .int .i64 t.col, .int .i64 t.st.fore, .int .i64 t.st.back, .bool t.st.bold, .bool t.st.under, .bool t.st.turned, .int .i64 t.top, .int .i64 t.bot, .bool t.full, .bool t.wrap, .bool t.away, .bool t.hid, .int .i64 t.sr, .int .i64 t.sc, .int .i64 t.ss.fore, .int .i64 t.ss.back, .bool t.ss.bold, .bool t.ss.under, .bool t.ss.turned, .slice xta xtn xtp, .int .i64 t.pa.state, .slice xpa xpn xpp, .int .i64 t.pa.mark, .slice pta t.pa.text.length ptp, .string t.fe] _ _ _ _ _ := I5.stored hgr hp; have c28 : W5.cell? ⟨w.heap.size, 28, none⟩ = some (.slice pta t.pa.text.length ptp) := cells_all J5.b 28)
  clear I5 hgr hp hz5
  refine (cQ _ (hpt.below J5.k)).mono ?_
  rintro e w6 ⟨u, rfl, hnt, hb⟩
  obtain ⟨xqa, xqn, xqp, hx⟩ := hnt.shape
  subst hx
  have I6 := J5.new hb hnt
  clear J5 hnt hb cQ c28
  go_wp2_with (refine store_at (by rfl) 27 _ _ (by rfl) inf_l I6.b (by rfl) (by rfl) (by rfl) (by rfl) (by rfl) ?_; intro W6 hgr hp hz6; have J6 : ScI w W6 b1 b2 [.int .i64 t.gc, .slice xga t.g.length t.g.length, .int .i64 t.oc, .slice xoa t.o.length t.o.length, .int .i64 t.row, .int .i64 t.col, .int .i64 t.st.fore, .int .i64 t.st.back, .bool t.st.bold, .bool t.st.under, .bool t.st.turned, .int .i64 t.top, .int .i64 t.bot, .bool t.full, .bool t.wrap, .bool t.away, .bool t.hid, .int .i64 t.sr, .int .i64 t.sc, .int .i64 t.ss.fore, .int .i64 t.ss.back, .bool t.ss.bold, .bool t.ss.under, .bool t.ss.turned, .slice xta xtn xtp, .int .i64 t.pa.state, .slice xpa xpn xpp, .int .i64 t.pa.mark, .slice xqa xqn xqp, .string t.fe] _ _ _ _ _ := I6.stored hgr hp; have c29 : W6.cell? ⟨w.heap.size, 29, none⟩ = some (.string t.fe) := cells_all J6.b 29)
  clear I6 hgr hp hz6
  refine (cF _).mono ?_
  rintro e w7 ⟨rfl, hb⟩
  have I7 := J6.below hb
  clear J6 hb cF c29
  go_wp2_with (first
    | (refine store_at (by rfl) 9 _ _ (by rfl) inf_st I7.b (by rfl) (by rfl) (by rfl) (by rfl) (by rfl) ?_; intro W7 hgr hp hz7; have J7 : ScI w W7 b1 b2 [.int .i64 t.gc, .slice xga t.g.length t.g.length, .int .i64 t.oc, .slice xoa t.o.length t.o.length, .int .i64 t.row, .int .i64 t.col, .int .i64 t.st.fore, .int .i64 t.st.back, .bool t.st.bold, .bool t.st.under, .bool t.st.turned, .int .i64 t.top, .int .i64 t.bot, .bool t.full, .bool t.wrap, .bool t.away, .bool t.hid, .int .i64 t.sr, .int .i64 t.sc, .int .i64 t.ss.fore, .int .i64 t.ss.back, .bool t.ss.bold, .bool t.ss.under, .bool t.ss.turned, .slice xta xtn xtp, .int .i64 t.pa.state, .slice xpa xpn xpp, .int .i64 t.pa.mark, .slice xqa xqn xqp, .string t.fe] _ _ _ _ _ := I7.stored hgr hp)
    | (refine load_at (by rfl) 42 _ (by rfl) [.int .i64 t.pa.state, .slice xpa xpn xpp, .int .i64 t.pa.mark, .slice xqa xqn xqp] Tryz.underlying42 rfl inf_p J7.b (by rfl) (by rfl) ?_)
    | (refine load_T (cs := teCs t ⟨.slice xga t.g.length t.g.length, .slice xoa t.o.length t.o.length, .slice xta xtn xtp, .slice xpa xpn xpp, .slice xqa xqn xqp⟩) (by rfl) 45 _ (by rfl) Tryz.underlying45 rfl info_te J7.b (by rfl) ?_)
    | (refine build2_T (by rfl) 90 _ _ _ _ (by rfl) _ _ (scCs t.pa (.slice xpa xpn xpp) (.slice xqa xqn xqp) (.slice none 0 0) (.slice none 0 0) t ⟨.slice xga t.g.length t.g.length, .slice xoa t.o.length t.o.length, .slice xta xtn xtp, .slice xpa xpn xpp, .slice xqa xqn xqp⟩).toArray (by rfl) (by rfl) (built_sc t.pa (.slice xpa xpn xpp) (.slice xqa xqn xqp) (.slice none 0 0) (.slice none 0 0) t ⟨.slice xga t.g.length t.g.length, .slice xoa t.o.length t.o.length, .slice xta xtn xtp, .slice xpa xpn xpp, .slice xqa xqn xqp⟩) ?_))
  have hR : RgT W7 (w.heap.size + 1) b1 b2 b2 t ⟨.slice xga t.g.length t.g.length, .slice xoa t.o.length t.o.length, .slice xta xtn xtp, .slice xpa xpn xpp, .slice xqa xqn xqp⟩ := ⟨J7.g, J7.o, J7.l.perm (by exact (List.reverse_perm _).symm), J7.z.1, J7.z.2.1, Nat.le_refl _, J7.z.2.2⟩
  obtain ⟨vg', vo', hO⟩ := hR.own
  have hal := bal' W7 (Obj.cells (scCs t.pa (.slice xpa xpn xpp) (.slice xqa xqn xqp) (.slice none 0 0) (.slice none 0 0) t ⟨.slice xga t.g.length t.g.length, .slice xoa t.o.length t.o.length, .slice xta xtn xtp, .slice xpa xpn xpp, .slice xqa xqn xqp⟩).toArray 90)
  have hS := BlkC.new W7 90 (scCs t.pa (.slice xpa xpn xpp) (.slice xqa xqn xqp) (.slice none 0 0) (.slice none 0 0) t ⟨.slice xga t.g.length t.g.length, .slice xoa t.o.length t.o.length, .slice xta xtn xtp, .slice xpa xpn xpp, .slice xqa xqn xqp⟩)
  rw [hz7] at hS
  have hlt : w.heap.size < w7.heap.size := by rw [← hz7]; have := J7.z; omega
  have kbz := J7.k.trans (hal.mono J7.k.size)
  go_ret
  exact ⟨w7.heap.size, ⟨.slice xga t.g.length t.g.length, .slice xoa t.o.length t.o.length, .slice xta xtn xtp, .slice xpa xpn xpp, .slice xqa xqn xqp⟩, vg', vo', rfl, hS, hO.below hal, hlt, kbz⟩
theorem lastRow_any (B : Nat) (a : Option Addr) (n c : Nat) (w : World) (hc : w.cell? ⟨B, 7, none⟩ = some (.slice a n c)) (hn : n ≤ 1000) :
    Calls Tryz.prog 57 #[.pointer (some ⟨B, 0, none⟩)] w fun e w' => e = .returned (.int .i64 ((n : Int) - 1)) ∧ w' = w := by
  go_enter Tryz.func57, Tryz.ntmps57
  go_wp2
  go_ret
  exact ⟨rfl, rfl⟩
theorem lastCol_any (B : Nat) (c : Int) (w : World) (hc : w.cell? ⟨B, 6, none⟩ = some (.int .i64 c)) (hn : 0 ≤ c ∧ c ≤ 1000) :
    Calls Tryz.prog 58 #[.pointer (some ⟨B, 0, none⟩)] w fun e w' => e = .returned (.int .i64 (c - 1)) ∧ w' = w := by
  obtain ⟨h1, h2⟩ := hn
  go_enter Tryz.func58, Tryz.ntmps58
  go_wp2
  go_ret
  exact ⟨rfl, rfl⟩
set_option maxHeartbeats 4000000 in
set_option maxRecDepth 20000 in
theorem seen_any (B : Nat) (p : Pa) (lv av : Value) (t : Te) (ga oa ta pa qa : Option Addr) (gn oN tn pn qn gc oc tc pc qc : Nat) (x y : Value) (w : World) (hB : SB w B (scCs p (.slice pa pn pc) (.slice qa qn qc) lv av t ⟨.slice ga gn gc, .slice oa oN oc, .slice ta tn tc, x, y⟩)) :
    Calls Tryz.prog 38 #[.pointer (some ⟨B, 0, none⟩)] w fun e w' => e = .returned (.agg (teCs { t with pa := p } ⟨.slice ga gn gc, .slice oa oN oc, .slice ta tn tc, .slice pa pn pc, .slice qa qn qc⟩)) ∧
      SB w' B (scCs p (.slice pa pn pc) (.slice qa qn qc) lv av { t with pa := p } ⟨.slice ga gn gc, .slice oa oN oc, .slice ta tn tc, .slice pa pn pc, .slice qa qn qc⟩) ∧ w.grownBy w' (some B) := by
  have hR := TB.new w [.int .i64 0, .slice none 0 0, .int .i64 0, .slice none 0 0, .int .i64 0, .int .i64 0, .int .i64 0, .int .i64 0, .bool false, .bool false, .bool false, .int .i64 0, .int .i64 0, .bool false, .bool false, .bool false, .bool false, .int .i64 0, .int .i64 0, .int .i64 0, .int .i64 0, .bool false, .bool false, .bool false, .slice none 0 0, .int .i64 0, .slice none 0 0, .int .i64 0, .slice none 0 0, .string ⟨#[]⟩]
  have hb0 := bal' w (Obj.cells #[.int .i64 0, .slice none 0 0, .int .i64 0, .slice none 0 0, .int .i64 0, .int .i64 0, .int .i64 0, .int .i64 0, .bool false, .bool false, .bool false, .int .i64 0, .int .i64 0, .bool false, .bool false, .bool false, .bool false, .int .i64 0, .int .i64 0, .int .i64 0, .int .i64 0, .bool false, .bool false, .bool false, .slice none 0 0, .int .i64 0, .slice none 0 0, .int .i64 0, .slice none 0 0, .string ⟨#[]⟩] 45)
  obtain ⟨w1, hw1⟩ : ∃ w1, w1 = w.alloc (Obj.cells #[.int .i64 0, .slice none 0 0, .int .i64 0, .slice none 0 0, .int .i64 0, .int .i64 0, .int .i64 0, .int .i64 0, .bool false, .bool false, .bool false, .int .i64 0, .int .i64 0, .bool false, .bool false, .bool false, .bool false, .int .i64 0, .int .i64 0, .int .i64 0, .int .i64 0, .bool false, .bool false, .bool false, .slice none 0 0, .int .i64 0, .slice none 0 0, .int .i64 0, .slice none 0 0, .string ⟨#[]⟩] 45) := ⟨_, rfl⟩
  rw [← hw1] at hb0 hR
  have hB1 : SB w1 B _ := BlkC.below hB hb0
  have hlt : B < w.heap.size := BlkC.lt hB
  replace hw1 := (show Hid _ from hw1)
  go_enter Tryz.func38, Tryz.ntmps38
  refine wp_seq_k (fun K hK => ?_)
  have hH := (show Hid _ from hK)
  clear hK
  go_wp2
  refine hH.out _ _ ?_
  rw [← hw1.out]
  clear hH hw1 hB
  go_wp2_with (first
    | (refine load_at (by rfl) 42 _ (by rfl) [.int .i64 p.state, .slice pa pn pc, .int .i64 p.mark, .slice qa qn qc] Tryz.underlying42 rfl inf_p hB1 (by rfl) (by rfl) ?_)
    | (refine store_at (by rfl) 42 _ _ (by rfl) inf_p hB1 (by rfl) (by rfl) (by rfl) (by rfl) (by rfl) ?_; intro w2 hg2 hp hz2; have hB2 : SB w2 B (scCs p (.slice pa pn pc) (.slice qa qn qc) lv av { t with pa := p } ⟨.slice ga gn gc, .slice oa oN oc, .slice ta tn tc, .slice pa pn pc, .slice qa qn qc⟩) := hp)
    | (refine load_at (by rfl) 45 _ (by rfl) (teCs { t with pa := p } ⟨.slice ga gn gc, .slice oa oN oc, .slice ta tn tc, .slice pa pn pc, .slice qa qn qc⟩).toList Tryz.underlying45 rfl info_te hB2 (by rfl) (by rfl) ?_)
    | (refine store_T (cs := teCs { t with pa := p } ⟨.slice ga gn gc, .slice oa oN oc, .slice ta tn tc, .slice pa pn pc, .slice qa qn qc⟩) (by rfl) 45 _ _ (by rfl) info_te (by rfl) (by rfl) (hR.kept hg2 (by intro e; injection e with e; omega)) (by rfl) (by rfl) ?_; intro w3 hg3 hR3 hz3))
  have hB3 : SB w3 B _ := BlkC.kept hB2 hg3 (by intro e; injection e with e; omega)
  have hgz : w.grownBy w3 (some B) := by
    have h1 := hb0.block
    refine ⟨hg3.os.trans (hg2.os.trans hb0.os), hg3.tape.trans (hg2.tape.trans hb0.tape), hg3.output.trans (hg2.output.trans hb0.output), by have := hb0.size; omega, fun k hk hne => ?_⟩
    have := hb0.size
    rw [hg3.block k (by omega) (by intro e; injection e with e; omega), hg2.block k (by omega) hne, hb0.block k hk]
  exact bodyPost_ret (v := .agg (teCs { t with pa := p } ⟨.slice ga gn gc, .slice oa oN oc, .slice ta tn tc, .slice pa pn pc, .slice qa qn qc⟩)) (results_cell_row Tryz.results38 _ _ _ _ _ _ _ rfl hR3 Tryz.underlying45 rfl info_te) rfl ⟨rfl, hB3, hgz⟩
end Go.Proofs.YtdbpjfdlibodcaaGreatDoor
namespace Go.Proofs.YtdbpjfdlibodcaaGreatDoor
open Go.ChangeShapes Go.WideShapes Go.ChangeAt Go.RowKit
theorem isCell_any (gc r c : Int) (a : Option Addr) (n cp : Nat) (w : World) (_hn : n ≤ 1048576) :
    Calls Tryz.prog 133 #[.agg #[.int .i64 gc, .slice a n cp], .int .i64 r, .int .i64 c] w fun e w' => e = .returned (.bool (cellB gc n r c)) ∧ Below w.heap.size w w' := by
  have hb0 := bal' w (Obj.cells #[.int .i64 gc, .slice a n cp] 40)
  obtain ⟨rv, hrv⟩ : ∃ rv, Hid (rv = cellB gc n r c) := ⟨_, rfl⟩
  rw [← hrv.out]
  by_cases h1 : 0 ≤ r
  case neg =>
    have hv : Hid (rv = false) := by show _ = _; rw [hrv.out]; unfold cellB; rw [decide_eq_false (by omega), Bool.false_and]
    go_enter Tryz.func133, Tryz.ntmps133
    go_wp2
    go_ret
    exact ⟨by rw [hv.out]; rfl, hb0⟩
  by_cases h2 : r < (n : Int)
  case neg =>
    have hv : Hid (rv = false) := by show _ = _; rw [hrv.out]; unfold cellB; rw [decide_eq_false (by omega), Bool.false_and]
    go_enter Tryz.func133, Tryz.ntmps133
    go_wp2
    go_ret
    exact ⟨by rw [hv.out]; rfl, hb0⟩
  by_cases h3 : 0 ≤ c
  case neg =>
    have hv : Hid (rv = false) := by show _ = _; rw [hrv.out]; unfold cellB; rw [decide_eq_false (p := 0 ≤ c ∧ _) (by omega), Bool.and_false]
    go_enter Tryz.func133, Tryz.ntmps133
    go_wp2
    go_ret
    exact ⟨by rw [hv.out]; rfl, hb0⟩
  by_cases h4 : c < gc
  case neg =>
    have hv : Hid (rv = false) := by show _ = _; rw [hrv.out]; unfold cellB; rw [decide_eq_false (p := 0 ≤ c ∧ _) (by omega), Bool.and_false]
    go_enter Tryz.func133, Tryz.ntmps133
    go_wp2
    go_ret
    exact ⟨by rw [hv.out]; rfl, hb0⟩
  have hv : Hid (rv = true) := by show _ = _; rw [hrv.out]; unfold cellB; rw [decide_eq_true (by omega), decide_eq_true (by omega)]; rfl
  go_enter Tryz.func133, Tryz.ntmps133
  go_wp2
  go_ret
  exact ⟨by rw [hv.out]; rfl, hb0⟩
set_option maxHeartbeats 8000000 in
set_option maxRecDepth 20000 in
theorem implSizeOk_any (t : Te) (v : Tv) (w : World) (h : SlT w t v) (hS : SpansAt w) (hz : SzT 1048576 t) :
    Calls Tryz.prog 76 #[teV t v] w fun e w' => e = .returned (.bool (gridOkB t.gc t.g && (gridOkB t.oc t.o && (decide (t.gc = t.oc) && decide (t.g.length = t.o.length))))) ∧ Below w.heap.size w w' := by
  obtain ⟨vg, vo, vti, vpp, vpt⟩ := v
  obtain ⟨hg, ho, hti, hpp, hpt⟩ := h
  simp only at hg ho hti hpp hpt
  obtain ⟨z1, z2, z3, z4, z5, z6, z7⟩ := hz
  obtain ⟨rv, hrv⟩ : ∃ rv, Hid (rv = (gridOkB t.gc t.g && (gridOkB t.oc t.o && (decide (t.gc = t.oc) && decide (t.g.length = t.o.length))))) := ⟨_, rfl⟩
  rw [← hrv.out]
  have hb0 := bal' w (Obj.cells (teCs t ⟨vg, vo, vti, vpp, vpt⟩) 45)
  have hB := TeB.new w 45 t ⟨vg, vo, vti, vpp, vpt⟩
  have cG := fun W hS hW => implGridOk_any t.gc vg t.g W hS hW z1 z2
  have cO := fun W hS hW => implGridOk_any t.oc vo t.o W hS hW z3 z4
  obtain ⟨bG, eG⟩ : ∃ b, Hid (gridOkB t.gc t.g = b) := ⟨_, rfl⟩
  obtain ⟨bO, eO⟩ : ∃ b, Hid (gridOkB t.oc t.o = b) := ⟨_, rfl⟩
  rw [eG.out] at cG
  rw [eO.out] at cO
  obtain ⟨ga, gp, hq1⟩ := slG_shp hg
  obtain ⟨oa, op, hq2⟩ := slG_shp ho
  obtain ⟨tia, tip, hq3⟩ := hti.shp
  obtain ⟨ppa, ppp, hq4⟩ := hpp.shp
  obtain ⟨pta, ptp, hq5⟩ := hpt.shp
  subst hq1; subst hq2; subst hq3; subst hq4; subst hq5
  unfold teV gridV at *
  obtain ⟨w1, hw1⟩ : ∃ w1, w1 = w.alloc (Obj.cells (teCs t ⟨.slice ga t.g.length gp, .slice oa t.o.length op, .slice tia t.ti.length tip, .slice ppa t.pa.params.length ppp, .slice pta t.pa.text.length ptp⟩) 45) := ⟨_, rfl⟩
  rw [← hw1] at hB hb0
  replace hw1 := (show Hid _ from hw1)
  clear z1 z2 z3 z4 z5 z6 z7
  go_enter Tryz.func76, Tryz.ntmps76
  refine wp_seq_k (fun K hK => ?_)
  have hH := (show Hid _ from hK)
  clear hK
  go_wp2
  refine hH.out _ _ ?_
  rw [← hw1.out]
  clear hH hw1
  obtain ⟨c0, c1, c2, c3, c4, c5, c6, c7, c8, c9, c10, c11, c12, c13, c14, c15, c16, c17, c18, c19, c20, c21, c22, c23, c24, c25, c26, c27, c28, c29⟩ := hB.cells
  go_wp2_with fail
  refine (cG _ (hS.below hb0 hS.lt) (hg.below hb0)).mono ?_
  rintro e w2 ⟨rfl, hb⟩
  have hb1 := hb0.trans (hb.mono hb0.size)
  replace hB := hB.below hb
  clear c0 c1 c2 c3 c4 c5 c6 c7 c8 c9 c10 c11 c12 c13 c14 c15 c16 c17 c18 c19 c20 c21 c22 c23 c24 c25 c26 c27 c28 c29
  clear hb hb0
  obtain ⟨c0, c1, c2, c3, c4, c5, c6, c7, c8, c9, c10, c11, c12, c13, c14, c15, c16, c17, c18, c19, c20, c21, c22, c23, c24, c25, c26, c27, c28, c29⟩ := hB.cells
  cases bG
  case false =>
    have hv : Hid (rv = false) := by show _ = _; rw [hrv.out]; rw [eG.out]; simp
    go_wp2
    go_ret
    exact ⟨by rw [hv.out]; rfl, hb1⟩
  go_wp2_with fail
  refine (cO _ (hS.below hb1 hS.lt) (ho.below hb1)).mono ?_
  rintro e w3 ⟨rfl, hb⟩
  have hb2 := hb1.trans (hb.mono hb1.size)
  replace hB := hB.below hb
  clear c0 c1 c2 c3 c4 c5 c6 c7 c8 c9 c10 c11 c12 c13 c14 c15 c16 c17 c18 c19 c20 c21 c22 c23 c24 c25 c26 c27 c28 c29
  clear hb hb1
  obtain ⟨c0, c1, c2, c3, c4, c5, c6, c7, c8, c9, c10, c11, c12, c13, c14, c15, c16, c17, c18, c19, c20, c21, c22, c23, c24, c25, c26, c27, c28, c29⟩ := hB.cells
  cases bO
  case false =>
    have hv : Hid (rv = false) := by show _ = _; rw [hrv.out]; rw [eO.out]; simp
    go_wp2
    go_ret
    exact ⟨by rw [hv.out]; rfl, hb2⟩
  by_cases q3 : t.gc = t.oc
  case neg =>
    have hv : Hid (rv = false) := by show _ = _; rw [hrv.out]; simp [q3]
    have q3b : (t.gc == t.oc) = false := by simp [q3]
    clear q3
    go_wp2
    go_ret
    exact ⟨by rw [hv.out]; rfl, hb2⟩
  have q3b : (t.gc == t.oc) = true := by simp [q3]
  have q3h := (show Hid _ from q3)
  clear q3
  by_cases q4 : t.g.length = t.o.length
  case neg =>
    have hv : Hid (rv = false) := by show _ = _; rw [hrv.out]; simp [q4]
    have q4b : ((t.g.length : Int) == (t.o.length : Int)) = false := by simp; omega
    clear q4
    go_wp2
    go_ret
    exact ⟨by rw [hv.out]; rfl, hb2⟩
  have hv : Hid (rv = true) := by show _ = _; rw [hrv.out, eG.out, eO.out, decide_eq_true q3h.out, decide_eq_true q4]; rfl
  have q4b : ((t.g.length : Int) == (t.o.length : Int)) = true := by simp; omega
  clear q4
  go_wp2
  go_ret
  exact ⟨by rw [hv.out]; rfl, hb2⟩
set_option maxHeartbeats 8000000 in
set_option maxRecDepth 20000 in
theorem implPlacesOk_any (t : Te) (v : Tv) (w : World) (h : SlT w t v) (hc1 : 1 ≤ t.gc) (hc2 : t.gc ≤ 60) (hn : t.g.length ≤ 30) :
    Calls Tryz.prog 77 #[teV t v] w fun e w' => e = .returned (.bool ((cellB t.gc t.g.length t.row t.col && cellB t.gc t.g.length t.sr t.sc) && decide (t.full = true → t.col = t.gc - 1))) ∧ Below w.heap.size w w' := by
  obtain ⟨vg, vo, vti, vpp, vpt⟩ := v
  obtain ⟨hg, ho, hti, hpp, hpt⟩ := h
  simp only at hg ho hti hpp hpt
  obtain ⟨rv, hrv⟩ : ∃ rv, Hid (rv = ((cellB t.gc t.g.length t.row t.col && cellB t.gc t.g.length t.sr t.sc) && decide (t.full = true → t.col = t.gc - 1))) := ⟨_, rfl⟩
  rw [← hrv.out]
  have hb0 := bal' w (Obj.cells (teCs t ⟨vg, vo, vti, vpp, vpt⟩) 45)
  have hB := TeB.new w 45 t ⟨vg, vo, vti, vpp, vpt⟩
  obtain ⟨ga, gp, hq1⟩ := slG_shp hg
  obtain ⟨oa, op, hq2⟩ := slG_shp ho
  obtain ⟨tia, tip, hq3⟩ := hti.shp
  obtain ⟨ppa, ppp, hq4⟩ := hpp.shp
  obtain ⟨pta, ptp, hq5⟩ := hpt.shp
  subst hq1; subst hq2; subst hq3; subst hq4; subst hq5
  unfold teV at *
  obtain ⟨w1, hw1⟩ : ∃ w1, w1 = w.alloc (Obj.cells (teCs t ⟨.slice ga t.g.length gp, .slice oa t.o.length op, .slice tia t.ti.length tip, .slice ppa t.pa.params.length ppp, .slice pta t.pa.text.length ptp⟩) 45) := ⟨_, rfl⟩
  rw [← hw1] at hB hb0
  replace hw1 := (show Hid _ from hw1)
  have cC := fun W => isCell_any t.gc t.row t.col ga t.g.length gp W (by omega)
  have cD := fun W => isCell_any t.gc t.sr t.sc ga t.g.length gp W (by omega)
  obtain ⟨bC, eC⟩ : ∃ b, Hid (cellB t.gc t.g.length t.row t.col = b) := ⟨_, rfl⟩
  obtain ⟨bD, eD⟩ : ∃ b, Hid (cellB t.gc t.g.length t.sr t.sc = b) := ⟨_, rfl⟩
  rw [eC.out] at cC
  rw [eD.out] at cD
  go_enter Tryz.func77, Tryz.ntmps77
  refine wp_seq_k (fun K hK => ?_)
  have hH := (show Hid _ from hK)
  clear hK
  go_wp2
  refine hH.out _ _ ?_
  rw [← hw1.out]
  clear hH hw1
  obtain ⟨c0, c1, c2, c3, c4, c5, c6, c7, c8, c9, c10, c11, c12, c13, c14, c15, c16, c17, c18, c19, c20, c21, c22, c23, c24, c25, c26, c27, c28, c29⟩ := hB.cells
  go_wp2_with fail
  refine (cC _).mono ?_
  rintro e w2 ⟨rfl, hb⟩
  have hb1 := hb0.trans (hb.mono hb0.size)
  replace hB := hB.below hb
  clear c0 c1 c2 c3 c4 c5 c6 c7 c8 c9 c10 c11 c12 c13 c14 c15 c16 c17 c18 c19 c20 c21 c22 c23 c24 c25 c26 c27 c28 c29
  clear hb hb0
  obtain ⟨c0, c1, c2, c3, c4, c5, c6, c7, c8, c9, c10, c11, c12, c13, c14, c15, c16, c17, c18, c19, c20, c21, c22, c23, c24, c25, c26, c27, c28, c29⟩ := hB.cells
  cases bC
  case false =>
    have hv : Hid (rv = false) := by show _ = _; rw [hrv.out]; rw [eC.out]; simp
    go_wp2
    go_ret
    exact ⟨by rw [hv.out]; rfl, hb1⟩
  go_wp2_with fail
  refine (cD _).mono ?_
  rintro e w3 ⟨rfl, hb⟩
  have hb2 := hb1.trans (hb.mono hb1.size)
  replace hB := hB.below hb
  clear c0 c1 c2 c3 c4 c5 c6 c7 c8 c9 c10 c11 c12 c13 c14 c15 c16 c17 c18 c19 c20 c21 c22 c23 c24 c25 c26 c27 c28 c29
  clear hb hb1
  obtain ⟨c0, c1, c2, c3, c4, c5, c6, c7, c8, c9, c10, c11, c12, c13, c14, c15, c16, c17, c18, c19, c20, c21, c22, c23, c24, c25, c26, c27, c28, c29⟩ := hB.cells
  cases bD
  case false =>
    have hv : Hid (rv = false) := by show _ = _; rw [hrv.out]; rw [eD.out]; simp
    go_wp2
    go_ret
    exact ⟨by rw [hv.out]; rfl, hb2⟩
  obtain ⟨fu, hfu⟩ : ∃ fu, Hid (t.full = fu) := ⟨_, rfl⟩
  rw [hfu.out] at c13
  cases fu
  case false =>
    have hv : Hid (rv = true) := by show _ = _; rw [hrv.out, eC.out, eD.out, decide_eq_true (fun h => by rw [hfu.out] at h; cases h)]; rfl
    go_wp2
    go_ret
    exact ⟨by rw [hv.out]; rfl, hb2⟩
  by_cases q : t.col = t.gc - 1
  case pos =>
    have hv : Hid (rv = true) := by show _ = _; rw [hrv.out, eC.out, eD.out, decide_eq_true (fun _ => q)]; rfl
    have qb : (t.col == t.gc - 1) = true := by simp [q]
    clear q
    go_wp2
    go_ret
    exact ⟨by rw [hv.out]; rfl, hb2⟩
  have hv : Hid (rv = false) := by show _ = _; rw [hrv.out, eC.out, eD.out, decide_eq_false (fun h => q (h hfu.out))]; rfl
  have qb : (t.col == t.gc - 1) = false := by simp [q]
  clear q
  go_wp2
  go_ret
  exact ⟨by rw [hv.out]; rfl, hb2⟩
set_option maxHeartbeats 8000000 in
set_option maxRecDepth 20000 in
theorem implMarginsOk_any (t : Te) (v : Tv) (w : World) (h : SlT w t v) (hn1 : 1 ≤ t.g.length) (hn : t.g.length ≤ 30) :
    Calls Tryz.prog 78 #[teV t v] w fun e w' => e = .returned (.bool (decide (0 ≤ t.top ∧ t.top ≤ t.bot ∧ t.bot ≤ (t.g.length : Int) - 1 ∧ ¬ (t.top = t.bot ∧ 0 < (t.g.length : Int) - 1)))) ∧ Below w.heap.size w w' := by
  obtain ⟨vg, vo, vti, vpp, vpt⟩ := v
  obtain ⟨hg, ho, hti, hpp, hpt⟩ := h
  simp only at hg ho hti hpp hpt
  obtain ⟨rv, hrv⟩ : ∃ rv, Hid (rv = (decide (0 ≤ t.top ∧ t.top ≤ t.bot ∧ t.bot ≤ (t.g.length : Int) - 1 ∧ ¬ (t.top = t.bot ∧ 0 < (t.g.length : Int) - 1)))) := ⟨_, rfl⟩
  rw [← hrv.out]
  have hb0 := bal' w (Obj.cells (teCs t ⟨vg, vo, vti, vpp, vpt⟩) 45)
  have hB := TeB.new w 45 t ⟨vg, vo, vti, vpp, vpt⟩
  obtain ⟨ga, gp, hq1⟩ := slG_shp hg
  obtain ⟨oa, op, hq2⟩ := slG_shp ho
  obtain ⟨tia, tip, hq3⟩ := hti.shp
  obtain ⟨ppa, ppp, hq4⟩ := hpp.shp
  obtain ⟨pta, ptp, hq5⟩ := hpt.shp
  subst hq1; subst hq2; subst hq3; subst hq4; subst hq5
  unfold teV at *
  obtain ⟨w1, hw1⟩ : ∃ w1, w1 = w.alloc (Obj.cells (teCs t ⟨.slice ga t.g.length gp, .slice oa t.o.length op, .slice tia t.ti.length tip, .slice ppa t.pa.params.length ppp, .slice pta t.pa.text.length ptp⟩) 45) := ⟨_, rfl⟩
  rw [← hw1] at hB hb0
  replace hw1 := (show Hid _ from hw1)
  go_enter Tryz.func78, Tryz.ntmps78
  refine wp_seq_k (fun K hK => ?_)
  have hH := (show Hid _ from hK)
  clear hK
  go_wp2
  refine hH.out _ _ ?_
  rw [← hw1.out]
  clear hH hw1
  obtain ⟨c0, c1, c2, c3, c4, c5, c6, c7, c8, c9, c10, c11, c12, c13, c14, c15, c16, c17, c18, c19, c20, c21, c22, c23, c24, c25, c26, c27, c28, c29⟩ := hB.cells
  by_cases q1 : t.g.length = 1
  case pos =>
    have q1b : ((t.g.length : Int) == 1) = true := by simp; omega
    by_cases q2 : t.top = 0
    case neg =>
      have q2b : (t.top == 0) = false := by simp [q2]
      have hv : Hid (rv = false) := by show _ = _; rw [hrv.out]; exact decide_eq_false (by omega)
      clear q1 q2
      go_wp2
      go_ret
      exact ⟨by rw [hv.out]; rfl, hb0⟩
    have q2b : (t.top == 0) = true := by simp [q2]
    by_cases q3 : t.bot = 0
    case neg =>
      have q3b : (t.bot == 0) = false := by simp [q3]
      have hv : Hid (rv = false) := by show _ = _; rw [hrv.out]; exact decide_eq_false (by omega)
      clear q1 q2 q3
      go_wp2
      go_ret
      exact ⟨by rw [hv.out]; rfl, hb0⟩
    have q3b : (t.bot == 0) = true := by simp [q3]
    have hv : Hid (rv = true) := by show _ = _; rw [hrv.out]; exact decide_eq_true (by omega)
    clear q1 q2 q3
    go_wp2
    go_ret
    exact ⟨by rw [hv.out]; rfl, hb0⟩
  have q1b : ((t.g.length : Int) == 1) = false := by simp; omega
  have q1i : 1 < (t.g.length : Int) := by omega
  clear q1
  by_cases q2 : 0 ≤ t.top
  case neg =>
    have hv : Hid (rv = false) := by show _ = _; rw [hrv.out]; exact decide_eq_false (by omega)
    go_wp2
    go_ret
    exact ⟨by rw [hv.out]; rfl, hb0⟩
  by_cases q3 : t.top < t.bot
  case neg =>
    have hv : Hid (rv = false) := by show _ = _; rw [hrv.out]; exact decide_eq_false (by omega)
    go_wp2
    go_ret
    exact ⟨by rw [hv.out]; rfl, hb0⟩
  by_cases q4 : t.bot < (t.g.length : Int)
  case neg =>
    have hv : Hid (rv = false) := by show _ = _; rw [hrv.out]; exact decide_eq_false (by omega)
    go_wp2
    go_ret
    exact ⟨by rw [hv.out]; rfl, hb0⟩
  have hv : Hid (rv = true) := by show _ = _; rw [hrv.out]; exact decide_eq_true (by omega)
  go_wp2
  go_ret
  exact ⟨by rw [hv.out]; rfl, hb0⟩
set_option maxHeartbeats 8000000 in
set_option maxRecDepth 20000 in
theorem implTermOk_any (t : Te) (v : Tv) (w : World) (h : SlT w t v) (hS : SpansAt w) (hz : SzT 1048576 t) :
    Calls Tryz.prog 34 #[teV t v] w fun e w' => e = .returned (.bool (termOkB t)) ∧ Below w.heap.size w w' := by
  have dS := fun W hS h => implSizeOk_any t v W h hS hz
  have dP := fun W h => implPlacesOk_any t v W h
  have dM := fun W h => implMarginsOk_any t v W h
  have hh := h
  obtain ⟨z1, z2, z3, z4, z5, z6, z7⟩ := hz
  obtain ⟨vg, vo, vti, vpp, vpt⟩ := v
  obtain ⟨hg, ho, hti, hpp, hpt⟩ := h
  simp only at hg ho hti hpp hpt
  obtain ⟨rv, hrv⟩ : ∃ rv, Hid (rv = (termOkB t)) := ⟨_, rfl⟩
  rw [← hrv.out]
  have hb0 := bal' w (Obj.cells (teCs t ⟨vg, vo, vti, vpp, vpt⟩) 45)
  have hB := TeB.new w 45 t ⟨vg, vo, vti, vpp, vpt⟩
  have cS := fun W => implStyleOk_any t.st W
  have cSs := fun W => implStyleOk_any t.ss W
  have cT := fun W hW => titleOk_any vti t.ti W hW (by omega)
  have cP := fun W h1 h2 => implParserOk_any t.pa vpp vpt W h1 h2 (by omega) (by omega)
  have cF := fun W => implFeederOk_any t.fe W
  obtain ⟨bZ, eZ⟩ : ∃ b, Hid ((gridOkB t.gc t.g && (gridOkB t.oc t.o && (decide (t.gc = t.oc) && decide (t.g.length = t.o.length)))) = b) := ⟨_, rfl⟩
  obtain ⟨bQ, eQ⟩ : ∃ b, Hid (((cellB t.gc t.g.length t.row t.col && cellB t.gc t.g.length t.sr t.sc) && decide (t.full = true → t.col = t.gc - 1)) = b) := ⟨_, rfl⟩
  obtain ⟨bM, eM⟩ : ∃ b, Hid (decide (0 ≤ t.top ∧ t.top ≤ t.bot ∧ t.bot ≤ (t.g.length : Int) - 1 ∧ ¬ (t.top = t.bot ∧ 0 < (t.g.length : Int) - 1)) = b) := ⟨_, rfl⟩
  obtain ⟨bS, eS⟩ : ∃ b, Hid (t.st.ok = b) := ⟨_, rfl⟩
  obtain ⟨bSs, eSs⟩ : ∃ b, Hid (t.ss.ok = b) := ⟨_, rfl⟩
  obtain ⟨bT, eT⟩ : ∃ b, Hid ((decide (t.ti.length ≤ 40) && runesB t.ti) = b) := ⟨_, rfl⟩
  obtain ⟨bP, eP⟩ : ∃ b, Hid (okV t.pa = b) := ⟨_, rfl⟩
  obtain ⟨bF, eF⟩ : ∃ b, Hid (feedOk t.fe = b) := ⟨_, rfl⟩
  rw [eZ.out] at dS
  rw [eQ.out] at dP
  rw [eM.out] at dM
  rw [eS.out] at cS
  rw [eSs.out] at cSs
  rw [eT.out] at cT
  rw [eP.out] at cP
  rw [eF.out] at cF
  obtain ⟨ga, gp, hq1⟩ := slG_shp hg
  obtain ⟨oa, op, hq2⟩ := slG_shp ho
  obtain ⟨tia, tip, hq3⟩ := hti.shp
  obtain ⟨ppa, ppp, hq4⟩ := hpp.shp
  obtain ⟨pta, ptp, hq5⟩ := hpt.shp
  subst hq1; subst hq2; subst hq3; subst hq4; subst hq5
  unfold teV stV paV at *
  obtain ⟨w1, hw1⟩ : ∃ w1, w1 = w.alloc (Obj.cells (teCs t ⟨.slice ga t.g.length gp, .slice oa t.o.length op, .slice tia t.ti.length tip, .slice ppa t.pa.params.length ppp, .slice pta t.pa.text.length ptp⟩) 45) := ⟨_, rfl⟩
  rw [← hw1] at hB hb0
  replace hw1 := (show Hid _ from hw1)
  clear z1 z2 z3 z4 z5 z6 z7
  go_enter Tryz.func34, Tryz.ntmps34
  refine wp_seq_k (fun K hK => ?_)
  have hH := (show Hid _ from hK)
  clear hK
  go_wp2
  refine hH.out _ _ ?_
  rw [← hw1.out]
  clear hH hw1
  go_wp2_with (refine load_te hB (by rfl) _ (by rfl) (by rfl) ?_)
  refine (dS _ (hS.below hb0 hS.lt) (hh.below hb0)).mono ?_
  rintro e w2 ⟨rfl, hb⟩
  have hb1 := hb0.trans (hb.mono hb0.size)
  replace hB := hB.below hb
  clear hb hb0
  cases bZ
  case false =>
    have hv : Hid (rv = false) := by show _ = _; rw [hrv.out]; unfold termOkB; rw [eZ.out]; rfl
    go_wp2
    go_ret
    exact ⟨by rw [hv.out]; rfl, hb1⟩
  obtain ⟨⟨hc1, hc2⟩, ⟨hn1, hn2⟩, _⟩ := (gridOk_iff t.gc t.g).1 (Bool.and_eq_true _ _ ▸ eZ.out).1
  go_wp2_with (refine load_te hB (by rfl) _ (by rfl) (by rfl) ?_)
  refine (dP _ (hh.below hb1) hc1 hc2 hn2).mono ?_
  rintro e w3 ⟨rfl, hb⟩
  have hb2 := hb1.trans (hb.mono hb1.size)
  replace hB := hB.below hb
  clear hb hb1
  cases bQ
  case false =>
    have hv : Hid (rv = false) := by
      show _ = _; rw [hrv.out]; unfold termOkB
      have := eQ.out
      rw [Bool.and_eq_false_iff] at this
      rcases this with this | this <;> (rw [this]; simp)
    go_wp2
    go_ret
    exact ⟨by rw [hv.out]; rfl, hb2⟩
  go_wp2_with (refine load_te hB (by rfl) _ (by rfl) (by rfl) ?_)
  refine (dM _ (hh.below hb2) hn1 hn2).mono ?_
  rintro e w4 ⟨rfl, hb⟩
  have hb3 := hb2.trans (hb.mono hb2.size)
  replace hB := hB.below hb
  clear hb hb2
  obtain ⟨c0, c1, c2, c3, c4, c5, c6, c7, c8, c9, c10, c11, c12, c13, c14, c15, c16, c17, c18, c19, c20, c21, c22, c23, c24, c25, c26, c27, c28, c29⟩ := hB.cells
  cases bM
  case false =>
    have hv : Hid (rv = false) := by show _ = _; rw [hrv.out]; unfold termOkB; rw [eM.out]; simp
    go_wp2
    go_ret
    exact ⟨by rw [hv.out]; rfl, hb3⟩
  go_wp2_with fail
  refine (cS _).mono ?_
  rintro e w5 ⟨rfl, hb⟩
  have hb4 := hb3.trans (hb.mono hb3.size)
  replace hB := hB.below hb
  clear c0 c1 c2 c3 c4 c5 c6 c7 c8 c9 c10 c11 c12 c13 c14 c15 c16 c17 c18 c19 c20 c21 c22 c23 c24 c25 c26 c27 c28 c29
  clear hb hb3
  obtain ⟨c0, c1, c2, c3, c4, c5, c6, c7, c8, c9, c10, c11, c12, c13, c14, c15, c16, c17, c18, c19, c20, c21, c22, c23, c24, c25, c26, c27, c28, c29⟩ := hB.cells
  cases bS
  case false =>
    have hv : Hid (rv = false) := by show _ = _; rw [hrv.out]; unfold termOkB; rw [eS.out]; simp
    go_wp2
    go_ret
    exact ⟨by rw [hv.out]; rfl, hb4⟩
  go_wp2_with fail
  refine (cSs _).mono ?_
  rintro e w6 ⟨rfl, hb⟩
  have hb5 := hb4.trans (hb.mono hb4.size)
  replace hB := hB.below hb
  clear c0 c1 c2 c3 c4 c5 c6 c7 c8 c9 c10 c11 c12 c13 c14 c15 c16 c17 c18 c19 c20 c21 c22 c23 c24 c25 c26 c27 c28 c29
  clear hb hb4
  obtain ⟨c0, c1, c2, c3, c4, c5, c6, c7, c8, c9, c10, c11, c12, c13, c14, c15, c16, c17, c18, c19, c20, c21, c22, c23, c24, c25, c26, c27, c28, c29⟩ := hB.cells
  cases bSs
  case false =>
    have hv : Hid (rv = false) := by show _ = _; rw [hrv.out]; unfold termOkB; rw [eSs.out]; simp
    go_wp2
    go_ret
    exact ⟨by rw [hv.out]; rfl, hb5⟩
  go_wp2_with fail
  refine (cT _ (hti.below hb5).l.sl).mono ?_
  rintro e w7 ⟨rfl, hw⟩
  subst hw
  cases bT
  case false =>
    have hv : Hid (rv = false) := by show _ = _; rw [hrv.out]; unfold termOkB; rw [eT.out]; simp
    go_wp2
    go_ret
    exact ⟨by rw [hv.out]; rfl, hb5⟩
  go_wp2_with fail
  refine (cP _ (hpp.below hb5).l.sl (hpt.below hb5).l.sl).mono ?_
  rintro e w8 ⟨rfl, hb⟩
  have hb6 := hb5.trans (hb.mono hb5.size)
  replace hB := hB.below hb
  clear c0 c1 c2 c3 c4 c5 c6 c7 c8 c9 c10 c11 c12 c13 c14 c15 c16 c17 c18 c19 c20 c21 c22 c23 c24 c25 c26 c27 c28 c29
  clear hb hb5
  obtain ⟨c0, c1, c2, c3, c4, c5, c6, c7, c8, c9, c10, c11, c12, c13, c14, c15, c16, c17, c18, c19, c20, c21, c22, c23, c24, c25, c26, c27, c28, c29⟩ := hB.cells
  cases bP
  case false =>
    have hv : Hid (rv = false) := by show _ = _; rw [hrv.out]; unfold termOkB; rw [eP.out]; simp
    go_wp2
    go_ret
    exact ⟨by rw [hv.out]; rfl, hb6⟩
  go_wp2_with fail
  refine (cF _).mono ?_
  rintro e w9 ⟨rfl, hb⟩
  have hb7 := hb6.trans (hb.mono hb6.size)
  have hv : Hid (rv = bF) := by
    show _ = _; rw [hrv.out]; unfold termOkB
    have := eQ.out
    rw [Bool.and_eq_true] at this
    rw [eZ.out, this.1, this.2, eM.out, eS.out, eSs.out, eT.out, eP.out, eF.out]; simp
  go_wp2
  go_ret
  exact ⟨by rw [hv.out]; rfl, hb7⟩
end Go.Proofs.YtdbpjfdlibodcaaGreatDoor
namespace Go.Proofs.YtdbpjfdlibodcaaGreatDoor
open Go.ChangeShapes Go.WideShapes Go.ChangeAt Go.RowKit
/-- The state of the first loop. -/
def MvK (M : Nat) (u : Value) (vs us : List Value) (X : List Ce) (σ : Nat → Option Nat) (s : St) (w0 W : World) : Prop :=
  StAt W M s ∧ W.ownsRow (M + 1) 129 1 u us.length us ∧ Gat W M vs X σ us ∧ Below M w0 W
theorem MvK.below {M : Nat} {u : Value} {vs us : List Value} {X : List Ce} {σ : Nat → Option Nat} {s : St} {w0 W W' : World} (k : MvK M u vs us X σ s w0 W) (hb : Below W.heap.size W W') : MvK M u vs us X σ s w0 W' :=
  ⟨k.1.below hb, World.ownsRow.below k.2.1 hb, k.2.2.1.below hb, k.2.2.2.trans (hb.mono (by have := k.1.1; omega))⟩
theorem MvK.drew {M : Nat} {u : Value} {vs us : List Value} {X : List Ce} {σ : Nat → Option Nat} {s : St} {w0 W : World} (k : MvK M u vs us X σ s w0 W) : MvK M u vs us X σ s w0 W.drew := k.below (bdr W)
theorem MvK.alloc {M : Nat} {u : Value} {vs us : List Value} {X : List Ce} {σ : Nat → Option Nat} {s : St} {w0 W : World} (k : MvK M u vs us X σ s w0 W) (o : Obj) : MvK M u vs us X σ s w0 (W.alloc o) := k.below (bal' W o)
theorem MvK.more {M : Nat} {u v' : Value} {vs us : List Value} {X : List Ce} {σ : Nat → Option Nat} {s : St} {w0 W W' : World} {r : Value} (k : MvK M u vs us X σ s w0 W) (hG : Gat W M vs X σ (us ++ [r])) (ho : W'.ownsRow (M + 1) 129 1 v' (us.length + 1) (us ++ [r])) (hg : (W.alloc (.cells #[r] 129)).grownBy W' u.ownBlock) : MvK M v' vs (us ++ [r]) X σ s w0 W' := by
  have hba := bal' W (Obj.cells #[r] 129)
  have h1 := hba.size
  have h2 := k.1.1
  have h3 := fun g e => (k.2.1.lt g e).1
  refine ⟨(k.1.below hba).grown hg (fun e => by have := h3 M e; omega), by rw [List.length_append]; exact ho, (hG.below hba).kept (World.ownsRow.below k.2.1 hba) hg, ?_⟩
  exact (k.2.2.2.trans (hba.mono (by omega))).grown hg (by omega) (fun g e => by have := h3 g e; omega)
end Go.Proofs.YtdbpjfdlibodcaaGreatDoor
namespace Go.Proofs.YtdbpjfdlibodcaaGreatDoor
open Go.ChangeShapes Go.WideShapes Go.ChangeAt Go.RowKit
set_option maxHeartbeats 4000000 in
set_option maxRecDepth 20000 in
theorem l4Mended_any (v : Value) (xs : List Ce) (w : World) (hv : SlC w v xs) (hl : xs.length ≤ 1000000) :
    Calls Tryz.prog 174 #[v] w fun e w' => ∃ u, e = .returned u ∧ OwnC w' w.heap.size u (mendV xs) ∧ Below w.heap.size w w' := by
  have hbl := fun s W => l4Blank_any s W
  obtain ⟨a, c, rfl, hr⟩ := id hv
  have k00 := ownC_nil w w.heap.size (Nat.le_refl _)
  have hv0 := hv.below (bal' w (Obj.cells #[] 114))
  go_enter Tryz.func174, Tryz.ntmps174
  go_wp2_with (at_builtin; refine append_os rfl _ _ rfl w.heap.size _ [] rfl (by exact k00) (by simp) _ xs hv0 rfl (by simp; omega) ?_; intro u w1 ho1 hg1)
  have k1 : OC w.heap.size u xs w w1 := by
    have k : OC w.heap.size (.slice (some ⟨w.heap.size, 0, none⟩) 0 0) [] w (w.alloc (Obj.cells #[] 114)) := ⟨k00, bal' _ _, by simp, Nat.le_refl _⟩
    exact k.own (by simpa using ho1) hg1
  clear k00 hv0 ho1 hg1
  rcases k1.1.shape with ⟨rfl, rfl⟩ | ⟨g, cap, rfl, hbg, hlg, hcap⟩
  · clear hr
    go_wp2
    refine wp_loop_rounds 1 ?_
    rw [rounds_succ]
    go_wp2
    go_ret
    exact ⟨_, rfl, k1.1, k1.2.1⟩
  · go_wp2
    go_loopw [4] (fun i wr => ∃ j : Nat, i = .int .i64 j ∧ j ≤ xs.length ∧ OC w.heap.size (.slice (some ⟨g, 0, none⟩) xs.length cap) (mendUp xs j) w wr) (fun i _ => xs.length - (intOf i).toNat)
    case atStart => exact ⟨0, rfl, Nat.zero_le _, by rw [mendUp_zero]; exact k1⟩
    case round =>
      clear k1
      obtain ⟨j, rfl, hj, k⟩ := hrel
      by_cases hlt : j < xs.length
      · have hji : (j : Int) < (xs.length : Int) := by omega
        have hj0 : (0 : Int) ≤ (j : Int) := by omega
        have hat := k.1.at (mendUp_len xs j) j hlt
        rw [mendUp_at xs j j hlt, if_neg (Nat.lt_irrefl j)] at hat
        have hsz : (mendUp xs j).length = xs.length := mendUp_len xs j
        have hsrc : ∀ i, i < xs.length → ∃ b off, a = some ⟨b, off, none⟩ ∧ CeAt wr b (off + i * 7) (atC xs i) := by
          intro i hi
          rcases hr.2.2 with h | ⟨b, off, ha, hlt, hc⟩
          · rw [h] at hi; simp at hi
          · exact ⟨b, off, ha, (hc i hi).below k.2.1 hlt⟩
        have hkeep : aloneB xs j = false → OC w.heap.size (.slice (some ⟨g, 0, none⟩) xs.length cap) (mendUp xs (j + 1)) w wr := fun h => by rw [mendUp_keep xs j hlt h]; exact k
        have hstep : aloneB xs j = true → mendUp xs (j + 1) = (mendUp xs j).set j (blankC (atC xs j).st) := fun h => by rw [mendUp_step xs j hlt, mendC, if_pos h]
        have hal : aloneB xs j = (((atC xs j).part == 1 && (decide (j + 1 = xs.length) || (atC xs (j + 1)).part != 2)) || ((atC xs j).part == 2 && (decide (j = 0) || (atC xs (j - 1)).part != 1))) := rfl
        have hnext : j + 1 < xs.length → CeAt wr g ((j + 1) * 7) (atC xs (j + 1)) := fun h => by
          have := k.1.at (mendUp_len xs j) (j + 1) h
          rwa [mendUp_at xs j (j + 1) h, if_neg (by omega)] at this
        obtain ⟨p0, p1, p2, p3, p4, p5, p6⟩ := id hat
        by_cases e1 : (atC xs j).part = 1
        · have b1 : ((atC xs j).part == 1) = true := by simp [e1]
          by_cases e2 : j + 1 = xs.length
          · have e2i : ((j : Int) + 1 == (xs.length : Int)) = true := by simp; omega
            have ha : aloneB xs j = true := by rw [hal]; simp [e1, e2]
            have hst := hstep ha
            clear hkeep hstep hal ha hsrc hnext hv hr
            obtain ⟨c0, c1, c2, c3, c4, c5, c6⟩ := id hat
            have hb1 := hbl (atC xs j).st
            unfold stV ceV blankC at hb1
            simp only at hb1
            go_wp2_with fail
            refine (hb1 _).mono ?_
            rintro e w2 ⟨rfl, hb2⟩
            have k2 := k.below hb2
            have hat2 := hat.below hb2 (by have := k.1.lt g rfl; exact this.2)
            have hp := k2.1.put hsz j hlt ⟨32, (atC xs j).st, 0⟩
            have kk : OC w.heap.size (.slice (some ⟨g, 0, none⟩) xs.length cap) (mendUp xs (j + 1)) w (putCe w2 g (j * 7) ⟨32, (atC xs j).st, 0⟩) := by rw [hst]; exact k2.own hp.1 hp.2
            have f0 := k2.1.frozen hsz (j * 7)
            have f1 := k2.1.frozen hsz (j * 7 + 1)
            have f2 := k2.1.frozen hsz (j * 7 + 2)
            have f3 := k2.1.frozen hsz (j * 7 + 3)
            have f4 := k2.1.frozen hsz (j * 7 + 4)
            have f5 := k2.1.frozen hsz (j * 7 + 5)
            have f6 := k2.1.frozen hsz (j * 7 + 6)
            clear hp hat k hb1 hb2 hbl hst c0 c1 c2 c3 c4 c5 c6
            obtain ⟨c0, c1, c2, c3, c4, c5, c6⟩ := hat2
            clear k2
            simp only [putCe] at kk
            go_wp2
            go_roundw
            case rel => exact ⟨j + 1, by go_num, by omega, kk⟩
            case measure => simp [intOf]; omega
          · have e2i : ((j : Int) + 1 == (xs.length : Int)) = false := by simp; omega
            have hj1 : j + 1 < xs.length := by omega
            have hj1i : (j : Int) + 1 < (xs.length : Int) := by omega
            obtain ⟨q0, q1, q2, q3, q4, q5, q6⟩ := hnext hj1
            by_cases e3 : (atC xs (j + 1)).part = 2
            · have b3 : ((atC xs (j + 1)).part != 2) = false := by simp [e3]
              have b4 : ((atC xs j).part == 2) = false := by simp [e1]
              have ha : aloneB xs j = false := by rw [hal]; simp [e1, e2, e3]
              have kk := hkeep ha
              clear hkeep hstep hal ha hsrc hnext hbl k hv hr
              go_wp2
              go_roundw
              case rel => exact ⟨j + 1, by go_num, by omega, kk⟩
              case measure => simp [intOf]; omega
            · have b3 : ((atC xs (j + 1)).part != 2) = true := by simp [e3]
              have ha : aloneB xs j = true := by rw [hal]; simp [e1, e3]
              have hst := hstep ha
              clear hkeep hstep hal ha hsrc hnext hv hr
              obtain ⟨c0, c1, c2, c3, c4, c5, c6⟩ := id hat
              have hb1 := hbl (atC xs j).st
              unfold stV ceV blankC at hb1
              simp only at hb1
              go_wp2_with fail
              refine (hb1 _).mono ?_
              rintro e w2 ⟨rfl, hb2⟩
              have k2 := k.below hb2
              have hat2 := hat.below hb2 (by have := k.1.lt g rfl; exact this.2)
              have hp := k2.1.put hsz j hlt ⟨32, (atC xs j).st, 0⟩
              have kk : OC w.heap.size (.slice (some ⟨g, 0, none⟩) xs.length cap) (mendUp xs (j + 1)) w (putCe w2 g (j * 7) ⟨32, (atC xs j).st, 0⟩) := by rw [hst]; exact k2.own hp.1 hp.2
              have f0 := k2.1.frozen hsz (j * 7)
              have f1 := k2.1.frozen hsz (j * 7 + 1)
              have f2 := k2.1.frozen hsz (j * 7 + 2)
              have f3 := k2.1.frozen hsz (j * 7 + 3)
              have f4 := k2.1.frozen hsz (j * 7 + 4)
              have f5 := k2.1.frozen hsz (j * 7 + 5)
              have f6 := k2.1.frozen hsz (j * 7 + 6)
              clear hp hat k hb1 hb2 hbl hst c0 c1 c2 c3 c4 c5 c6
              obtain ⟨c0, c1, c2, c3, c4, c5, c6⟩ := hat2
              clear k2
              simp only [putCe] at kk
              go_wp2
              go_roundw
              case rel => exact ⟨j + 1, by go_num, by omega, kk⟩
              case measure => simp [intOf]; omega
        · have b1 : ((atC xs j).part == 1) = false := by simp [e1]
          by_cases e2 : (atC xs j).part = 2
          · have b2 : ((atC xs j).part == 2) = true := by simp [e2]
            by_cases e3 : j = 0
            · have e3i : ((j : Int) == 0) = true := by simp [e3]
              have ha : aloneB xs j = true := by rw [hal]; rw [show decide (j = 0) = true from decide_eq_true e3]; simp [e2]
              clear e3
              have hst := hstep ha
              clear hkeep hstep hal ha hsrc hnext hv hr
              obtain ⟨c0, c1, c2, c3, c4, c5, c6⟩ := id hat
              have hb1 := hbl (atC xs j).st
              unfold stV ceV blankC at hb1
              simp only at hb1
              go_wp2_with fail
              refine (hb1 _).mono ?_
              rintro e w2 ⟨rfl, hb2⟩
              have k2 := k.below hb2
              have hat2 := hat.below hb2 (by have := k.1.lt g rfl; exact this.2)
              have hp := k2.1.put hsz j hlt ⟨32, (atC xs j).st, 0⟩
              have kk : OC w.heap.size (.slice (some ⟨g, 0, none⟩) xs.length cap) (mendUp xs (j + 1)) w (putCe w2 g (j * 7) ⟨32, (atC xs j).st, 0⟩) := by rw [hst]; exact k2.own hp.1 hp.2
              have f0 := k2.1.frozen hsz (j * 7)
              have f1 := k2.1.frozen hsz (j * 7 + 1)
              have f2 := k2.1.frozen hsz (j * 7 + 2)
              have f3 := k2.1.frozen hsz (j * 7 + 3)
              have f4 := k2.1.frozen hsz (j * 7 + 4)
              have f5 := k2.1.frozen hsz (j * 7 + 5)
              have f6 := k2.1.frozen hsz (j * 7 + 6)
              clear hp hat k hb1 hb2 hbl hst c0 c1 c2 c3 c4 c5 c6
              obtain ⟨c0, c1, c2, c3, c4, c5, c6⟩ := hat2
              clear k2
              simp only [putCe] at kk
              go_wp2
              go_roundw
              case rel => exact ⟨j + 1, by go_num, by omega, kk⟩
              case measure => simp [intOf]; omega
            · obtain ⟨m, rfl⟩ : ∃ m, j = m + 1 := ⟨j - 1, by omega⟩
              obtain ⟨b, off, rfl, q0, q1, q2, q3, q4, q5, q6⟩ := hsrc m (by omega)
              have e3i : ((m : Int) + 1 == 0) = false := by simp; omega
              have hmi : (m : Int) < (xs.length : Int) := by omega
              by_cases e4 : (atC xs m).part = 1
              · have b4 : ((atC xs m).part != 1) = false := by simp [e4]
                have ha : aloneB xs (m + 1) = false := by rw [hal]; simp [e2, e4]
                have kk := hkeep ha
                clear hkeep hstep hal ha hsrc hnext hbl k hv hr
                go_wp2
                go_roundw
                case rel => exact ⟨m + 1 + 1, by go_num, by omega, kk⟩
                case measure => simp [intOf]; omega
              · have b4 : ((atC xs m).part != 1) = true := by simp [e4]
                have ha : aloneB xs (m + 1) = true := by rw [hal]; simp [e2, e4]
                have hst := hstep ha
                clear hkeep hstep hal ha hsrc hnext hv hr
                obtain ⟨c0, c1, c2, c3, c4, c5, c6⟩ := id hat
                have hb1 := hbl (atC xs (m + 1)).st
                unfold stV ceV blankC at hb1
                simp only at hb1
                go_wp2_with fail
                refine (hb1 _).mono ?_
                rintro e w2 ⟨rfl, hb2⟩
                have k2 := k.below hb2
                have hat2 := hat.below hb2 (by have := k.1.lt g rfl; exact this.2)
                have hp := k2.1.put hsz (m + 1) hlt ⟨32, (atC xs (m + 1)).st, 0⟩
                have kk : OC w.heap.size (.slice (some ⟨g, 0, none⟩) xs.length cap) (mendUp xs ((m + 1) + 1)) w (putCe w2 g ((m + 1) * 7) ⟨32, (atC xs (m + 1)).st, 0⟩) := by rw [hst]; exact k2.own hp.1 hp.2
                have f0 := k2.1.frozen hsz ((m + 1) * 7)
                have f1 := k2.1.frozen hsz ((m + 1) * 7 + 1)
                have f2 := k2.1.frozen hsz ((m + 1) * 7 + 2)
                have f3 := k2.1.frozen hsz ((m + 1) * 7 + 3)
                have f4 := k2.1.frozen hsz ((m + 1) * 7 + 4)
                have f5 := k2.1.frozen hsz ((m + 1) * 7 + 5)
                have f6 := k2.1.frozen hsz ((m + 1) * 7 + 6)
                clear hp hat k hb1 hb2 hbl hst c0 c1 c2 c3 c4 c5 c6
                obtain ⟨c0, c1, c2, c3, c4, c5, c6⟩ := hat2
                clear k2
                simp only [putCe] at kk
                go_wp2
                go_roundw
                case rel => exact ⟨m + 1 + 1, by go_num, by omega, kk⟩
                case measure => simp [intOf]; omega
          · have b2 : ((atC xs j).part == 2) = false := by simp [e2]
            have ha : aloneB xs j = false := by rw [hal]; simp [e1, e2]
            have kk := hkeep ha
            clear hkeep hstep hal ha hsrc hnext hbl k hv hr
            go_wp2
            go_roundw
            case rel => exact ⟨j + 1, by go_num, by omega, kk⟩
            case measure => simp [intOf]; omega
      · have hjn : j = xs.length := by omega
        have hji : ¬ (j : Int) < (xs.length : Int) := by omega
        subst hjn
        clear hbl hv hr
        go_wp2
        go_ret
        exact ⟨_, rfl, k.1, k.2.1⟩
end Go.Proofs.YtdbpjfdlibodcaaGreatDoor
