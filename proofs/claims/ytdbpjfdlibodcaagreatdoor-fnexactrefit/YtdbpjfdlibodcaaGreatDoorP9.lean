/- Contract of the program's Refit. -/
import Derived.Test.YtdbpjfdlibodcaaGreatDoorP8
import Derived.Deep.RegionHeld3
namespace Go.Proofs.YtdbpjfdlibodcaaGreatDoor
open Go.ChangeShapes Go.WideShapes Go.ChangeAt Go.RowKit
theorem feed_small (h : ByteArray) (hk : feedOk h = true) : h.size ≤ 3 := by
  by_cases h3 : h.size ≤ 3
  · exact h3
  · rw [feedOk_big h h3] at hk; cases hk
/-- What stands while both grids are resized. -/
structure RfK (w0 W : World) (t : Te) (v : Tv) : Prop where
  x : TeB W w0.heap.size 45 t v
  r : TB W (w0.heap.size + 1) [.int .i64 0, .slice none 0 0, .int .i64 0, .slice none 0 0, .int .i64 0, .int .i64 0, .int .i64 0, .int .i64 0, .bool false, .bool false, .bool false, .int .i64 0, .int .i64 0, .bool false, .bool false, .bool false, .bool false, .int .i64 0, .int .i64 0, .int .i64 0, .int .i64 0, .bool false, .bool false, .bool false, .slice none 0 0, .int .i64 0, .slice none 0 0, .int .i64 0, .slice none 0 0, .string ⟨#[]⟩]
  k : Below w0.heap.size w0 W
  z : w0.heap.size + 2 ≤ W.heap.size
theorem RfK.below {w0 W W' : World} {t : Te} {v : Tv} (h : RfK w0 W t v) (hb : Below W.heap.size W W') : RfK w0 W' t v :=
  ⟨h.x.below hb, h.r.below hb, h.k.trans (hb.mono h.k.size), Nat.le_trans h.z hb.size⟩
theorem RfK.grown {w0 W W' : World} {t : Te} {v : Tv} {b : Nat} (h : RfK w0 W t v) (hg : W.grownBy W' (some b)) (hb : w0.heap.size + 2 ≤ b) : RfK w0 W' t v :=
  ⟨h.x.kept hg (fun e => by injection e with e; omega), h.r.kept hg (fun e => by injection e with e; omega), h.k.grown hg h.k.size (fun g e => by cases e; omega), Nat.le_trans h.z hg.size⟩
/-- A grid's variable. -/
def GB (W : World) (b : Nat) (C : Int) (u : Value) : Prop := BlkC W b 40 [.int .i64 C, u]
theorem GB.new (W : World) (C : Int) (u : Value) : GB (W.alloc (.cells #[.int .i64 C, u] 40)) W.heap.size C u := BlkC.new W 40 [.int .i64 C, u]
theorem GB.below {W W' : World} {b : Nat} {C : Int} {u : Value} (h : GB W b C u) (hb : Below W.heap.size W W') : GB W' b C u := BlkC.below h hb
theorem GB.kept {W W' : World} {b b' : Nat} {C : Int} {u : Value} (h : GB W b C u) (hg : W.grownBy W' (some b')) (hne : b' ≠ b) : GB W' b C u := BlkC.kept h hg (fun e => hne (Option.some.inj e))
theorem GB.put {W : World} {b : Nat} {C : Int} {u : Value} (h : GB W b C u) (C' : Int) (u' : Value) : GB ((W.setCell ⟨b, 0, none⟩ (.int .i64 C')).setCell ⟨b, 1, none⟩ u') b C' u' ∧ W.grownBy ((W.setCell ⟨b, 0, none⟩ (.int .i64 C')).setCell ⟨b, 1, none⟩ u') (some b) ∧ ((W.setCell ⟨b, 0, none⟩ (.int .i64 C')).setCell ⟨b, 1, none⟩ u').heap.size = W.heap.size :=
  ⟨setCells_heap b 40 [.int .i64 C', u'] 0 W [.int .i64 C, u] h, setCells_gr b [.int .i64 C', u'] 0 W, setCells_size b [.int .i64 C', u'] 0 W⟩
theorem GB.cells {W : World} {b : Nat} {C : Int} {u : Value} (h : GB W b C u) : W.cell? ⟨b, 0, none⟩ = some (.int .i64 C) ∧ W.cell? ⟨b, 1, none⟩ = some u ∧ W.frozen? ⟨b, 0, none⟩ = false ∧ W.frozen? ⟨b, 1, none⟩ = false :=
  ⟨cells_all h 0, cells_all h 1, frozen_of_row W b 0 _ _ h, frozen_of_row W b 1 _ _ h⟩
/-- A grid's rows, of this call's own. -/
def PG (w0 W : World) (u : Value) (vs : List Value) (R : List (List Ce)) : Prop := OwnV W (w0.heap.size + 2) W.heap.size u vs R
theorem PG.below {w0 W W' : World} {u : Value} {vs : List Value} {R : List (List Ce)} (h : PG w0 W u vs R) (hb : Below W.heap.size W W') : PG w0 W' u vs R := (OwnV.below h hb).up hb.size
theorem PG.grown {w0 W W' : World} {u : Value} {vs : List Value} {R : List (List Ce)} {b : Nat} {C : Int} {x : Value} (h : PG w0 W u vs R) (hg : W.grownBy W' (some b)) (hB : GB W b C x) : PG w0 W' u vs R :=
  (OwnV.grp h (GrP.of_grown (S := fun k => k = b) hg (fun g e => by cases e; rfl)) (fun k hk e => by subst e; exact grS_not h hB (by decide) (by decide) hk)).up hg.size
theorem PG.of {w0 W W' : World} {u : Value} {R : List (List Ce)} (h : OwnG W' W.heap.size W'.heap.size u R) (hz : w0.heap.size + 2 ≤ W.heap.size) : ∃ vs, PG w0 W' u vs R ∧ (∀ k, GrS u vs k → W.heap.size ≤ k) := by
  obtain ⟨vs, hv⟩ := h.v
  exact ⟨vs, ownV_low hv hz, fun _ hk => (GrS.bd hv hk).1⟩
theorem PG.apart {w0 W : World} {u : Value} {vs : List Value} {R : List (List Ce)} (h : PG w0 W u vs R) : ∀ k, GrS u vs k → k < W.heap.size := fun _ hk => (GrS.bd h hk).2
set_option maxHeartbeats 16000000 in
set_option maxRecDepth 20000 in
theorem implRefit_any (t : Te) (v : Tv) (cols n : Int) (w : World) (hSp : SpansAt w) (h : SlT w t v) (hz : SzT 1048576 t) :
    Calls Tryz.prog 20 #[.agg (teCs t v), .int .i64 cols, .int .i64 n] w fun e w' => ∃ v' vg vo, e = .returned (.agg (teCs (refitT t cols n) v')) ∧ OwnS w' w.heap.size (refitT t cols n) v' vg vo ∧ Below w.heap.size w w' := by
  have hS : Hid (SlT w t v) := h
  obtain ⟨vg, vo, vti, vpp, vpt⟩ := v
  obtain ⟨sg, so, sti, spp, spt⟩ := h
  simp only at sg so sti spp spt
  obtain ⟨m1, m2, m3, m4, _⟩ := id hz
  have cG := fun W hSp hW => implResized_any t.gc vg t.g cols n W hSp hW m1 m2
  have cO := fun W hSp hW => implResized_any t.oc vo t.o cols n W hSp hW m3 m4
  obtain ⟨ga, gp, hq1⟩ := slG_shp sg
  obtain ⟨oa, op, hq2⟩ := slG_shp so
  obtain ⟨tia, tip, hq3⟩ := sti.shp
  obtain ⟨ppa, ppp, hq4⟩ := spp.shp
  obtain ⟨pta, ptp, hq5⟩ := spt.shp
  subst hq1; subst hq2; subst hq3; subst hq4; subst hq5
  unfold gridV at cG cO
  have hb1 := bal' w (Obj.cells (teCs t ⟨.slice ga t.g.length gp, .slice oa t.o.length op, .slice tia t.ti.length tip, .slice ppa t.pa.params.length ppp, .slice pta t.pa.text.length ptp⟩) 45)
  have hb2 := bal' (w.alloc (Obj.cells (teCs t ⟨.slice ga t.g.length gp, .slice oa t.o.length op, .slice tia t.ti.length tip, .slice ppa t.pa.params.length ppp, .slice pta t.pa.text.length ptp⟩) 45)) (Obj.cells #[.int .i64 0, .slice none 0 0, .int .i64 0, .slice none 0 0, .int .i64 0, .int .i64 0, .int .i64 0, .int .i64 0, .bool false, .bool false, .bool false, .int .i64 0, .int .i64 0, .bool false, .bool false, .bool false, .bool false, .int .i64 0, .int .i64 0, .int .i64 0, .int .i64 0, .bool false, .bool false, .bool false, .slice none 0 0, .int .i64 0, .slice none 0 0, .int .i64 0, .slice none 0 0, .string ⟨#[]⟩] 45)
  have hX := (TB.new w (teCs t ⟨.slice ga t.g.length gp, .slice oa t.o.length op, .slice tia t.ti.length tip, .slice ppa t.pa.params.length ppp, .slice pta t.pa.text.length ptp⟩).toList).below hb2
  have hR := TB.new (w.alloc (Obj.cells (teCs t ⟨.slice ga t.g.length gp, .slice oa t.o.length op, .slice tia t.ti.length tip, .slice ppa t.pa.params.length ppp, .slice pta t.pa.text.length ptp⟩) 45)) [.int .i64 0, .slice none 0 0, .int .i64 0, .slice none 0 0, .int .i64 0, .int .i64 0, .int .i64 0, .int .i64 0, .bool false, .bool false, .bool false, .int .i64 0, .int .i64 0, .bool false, .bool false, .bool false, .bool false, .int .i64 0, .int .i64 0, .int .i64 0, .int .i64 0, .bool false, .bool false, .bool false, .slice none 0 0, .int .i64 0, .slice none 0 0, .int .i64 0, .slice none 0 0, .string ⟨#[]⟩]
  have kb := hb1.trans (hb2.mono hb1.size)
  rw [show (w.alloc (Obj.cells (teCs t ⟨.slice ga t.g.length gp, .slice oa t.o.length op, .slice tia t.ti.length tip, .slice ppa t.pa.params.length ppp, .slice pta t.pa.text.length ptp⟩) 45)).heap.size = w.heap.size + 1 by simp] at hR
  obtain ⟨w2, hw2⟩ : ∃ w2, w2 = (w.alloc (Obj.cells (teCs t ⟨.slice ga t.g.length gp, .slice oa t.o.length op, .slice tia t.ti.length tip, .slice ppa t.pa.params.length ppp, .slice pta t.pa.text.length ptp⟩) 45)).alloc (Obj.cells #[.int .i64 0, .slice none 0 0, .int .i64 0, .slice none 0 0, .int .i64 0, .int .i64 0, .int .i64 0, .int .i64 0, .bool false, .bool false, .bool false, .int .i64 0, .int .i64 0, .bool false, .bool false, .bool false, .bool false, .int .i64 0, .int .i64 0, .int .i64 0, .int .i64 0, .bool false, .bool false, .bool false, .slice none 0 0, .int .i64 0, .slice none 0 0, .int .i64 0, .slice none 0 0, .string ⟨#[]⟩] 45) := ⟨_, rfl⟩
  replace hX : TeB w2 w.heap.size 45 t ⟨.slice ga t.g.length gp, .slice oa t.o.length op, .slice tia t.ti.length tip, .slice ppa t.pa.params.length ppp, .slice pta t.pa.text.length ptp⟩ := by rw [hw2]; exact hX
  rw [← hw2] at hR kb
  have zs2 : w2.heap.size = w.heap.size + 2 := by rw [hw2]; simp
  replace hw2 := (show Hid _ from hw2)
  clear hb1 hb2 sti spp spt m1 m2 m3 m4
  go_enter Tryz.func20, Tryz.ntmps20
  refine wp_seq_k (fun K hK => ?_)
  have hH := (show Hid _ from hK)
  clear hK
  go_wp2
  refine hH.out _ _ ?_
  rw [← hw2.out]
  clear hH hw2
  refine wp_seq_k (fun K hK => ?_)
  have hH := (show Hid _ from hK)
  clear hK
  suffices hcut : Hid (∀ (j11 j12 j13 j14 j15 j16 j17 j18 j19 j20 : Value) (na nb : Nat) (u1a u2a : Option Addr) (u1n u1c u2n u2c : Nat) (vs1 vs2 : List Value) (W : World), RfK w W t ⟨.slice ga t.g.length gp, .slice oa t.o.length op, .slice tia t.ti.length tip, .slice ppa t.pa.params.length ppp, .slice pta t.pa.text.length ptp⟩ → GB W na (resC t.gc t.g cols n) (.slice u1a u1n u1c) → GB W nb (resC t.oc t.o cols n) (.slice u2a u2n u2c) → PG w W (.slice u1a u1n u1c) vs1 (resR t.gc t.g cols n) → PG w W (.slice u2a u2n u2c) vs2 (resR t.oc t.o cols n) → (∀ k, GrS (.slice u1a u1n u1c) vs1 k → ¬ GrS (.slice u2a u2n u2c) vs2 k) → K { tmps := #[.agg (teCs t ⟨.slice ga t.g.length gp, .slice oa t.o.length op, .slice tia t.ti.length tip, .slice ppa t.pa.params.length ppp, .slice pta t.pa.text.length ptp⟩), .int .i64 cols, .int .i64 n, .pointer (some ⟨w.heap.size, 0, none⟩), undef, undef, .pointer (some ⟨w.heap.size + 1, 0, none⟩), .pointer (some ⟨na, 0, none⟩), .pointer (some ⟨nb, 0, none⟩), undef, undef, j11, j12, j13, j14, j15, j16, j17, j18, j19, j20, undef, undef, undef, undef, undef, undef, undef, undef, undef, undef, undef, undef, undef, undef, undef, undef, undef, undef, undef, undef, undef, undef, undef, undef, undef, undef, undef, undef, undef, undef, undef, undef, undef, undef, undef, undef, undef, undef, undef, undef, undef, undef, undef, undef, undef, undef, undef, undef, undef, undef, undef, undef, undef, undef, undef, undef, undef, undef, undef, undef, undef, undef, undef, undef, undef, undef, undef, undef, undef, undef, undef, undef, undef, undef, undef, undef, undef, undef, undef, undef, undef, undef, undef, undef, undef, undef, undef, undef, undef, undef, undef, undef, undef, undef, undef, undef, undef, undef], defers := [] } W) by
    have k : RfK w w2 t ⟨.slice ga t.g.length gp, .slice oa t.o.length op, .slice tia t.ti.length tip, .slice ppa t.pa.params.length ppp, .slice pta t.pa.text.length ptp⟩ := ⟨hX, hR, kb, by omega⟩
    clear hX hR kb zs2 hH hS hz
    go_wp2
    refine wp_region_noPanic ?_
    refine wp_region_held_drew (S := (fun W => RfK w W t ⟨.slice ga t.g.length gp, .slice oa t.o.length op, .slice tia t.ti.length tip, .slice ppa t.pa.params.length ppp, .slice pta t.pa.text.length ptp⟩)) (by kernel_rfl) (k.below (bdr w2)) (fun hHeld => ?_)
    replace k := k.below (bdr w2)
    generalize w2.drew = V0 at *
    refine' wpAnyH_take (i := 0) (v := _) rfl (by kernel_rfl) (by kernel_rfl) (by kernel_rfl) (fun _ _ _ h => h) (Or.inl ⟨by rfl, ?hy8⟩) hHeld ?hr8
    case hy8 => (intro w hSw; (try dsimp only at hSw); go_simp; (try with_reducible rfl))
    simp only [Act.put, List.setIfInBounds_toArray, List.set_cons_zero, List.set_cons_succ, List.getElem_toArray, List.getElem_cons_zero]
    refine' wpAnyH_take (i := 1) (v := _) rfl (by kernel_rfl) (by kernel_rfl) (by kernel_rfl) (fun _ _ _ h => h) (Or.inl ⟨by rfl, ?hy9⟩) hHeld ?hr9
    case hy9 => (intro w hSw; (try dsimp only at hSw); obtain ⟨c0, c1, c2, c3, _⟩ := hSw.x.cells; go_simp; (try with_reducible rfl))
    simp only [Act.put, List.setIfInBounds_toArray, List.set_cons_zero, List.set_cons_succ, List.getElem_toArray, List.getElem_cons_zero, List.getElem_cons_succ]
    refine' wpAnyH_take (i := 2) (v := _) rfl (by kernel_rfl) (by kernel_rfl) (by kernel_rfl) (fun _ _ _ h => h) (Or.inl ⟨by rfl, ?hy10⟩) hHeld ?hr10
    case hy10 => (intro w hSw; (try dsimp only at hSw); go_simp; (try with_reducible rfl))
    simp only [Act.put, List.setIfInBounds_toArray, List.set_cons_zero, List.set_cons_succ, List.getElem_toArray, List.getElem_cons_zero, List.getElem_cons_succ]
    refine' wpAnyH_take (i := 3) (v := _) rfl (by kernel_rfl) (by kernel_rfl) (by kernel_rfl) (fun _ _ _ h => h) (Or.inl ⟨by rfl, ?hy11⟩) hHeld ?hr11
    case hy11 => (intro w hSw; (try dsimp only at hSw); go_simp; (try with_reducible rfl))
    simp only [Act.put, List.setIfInBounds_toArray, List.set_cons_zero, List.set_cons_succ, List.getElem_toArray, List.getElem_cons_zero, List.getElem_cons_succ]
    refine' wpAnyH_take (i := 5) (v := _) rfl (by kernel_rfl) (by kernel_rfl) (by kernel_rfl) (fun _ _ _ h => h) (Or.inl ⟨by rfl, ?hy12⟩) hHeld ?hr12
    case hy12 => (intro w hSw; (try dsimp only at hSw); go_simp; (try with_reducible rfl))
    simp only [Act.put, List.setIfInBounds_toArray, List.set_cons_zero, List.set_cons_succ, List.getElem_toArray, List.getElem_cons_zero, List.getElem_cons_succ]
    refine' wpAnyH_take (i := 6) (v := _) rfl (by kernel_rfl) (by kernel_rfl) (by kernel_rfl) (fun _ _ _ h => h) (Or.inl ⟨by rfl, ?hy13⟩) hHeld ?hr13
    case hy13 => (intro w hSw; (try dsimp only at hSw); obtain ⟨c0, c1, c2, c3, _⟩ := hSw.x.cells; go_simp; (try with_reducible rfl))
    simp only [Act.put, List.setIfInBounds_toArray, List.set_cons_zero, List.set_cons_succ, List.getElem_toArray, List.getElem_cons_zero, List.getElem_cons_succ]
    refine' wpAnyH_take (i := 7) (v := _) rfl (by kernel_rfl) (by kernel_rfl) (by kernel_rfl) (fun _ _ _ h => h) (Or.inl ⟨by rfl, ?hy14⟩) hHeld ?hr14
    case hy14 => (intro w hSw; (try dsimp only at hSw); go_simp; (try with_reducible rfl))
    simp only [Act.put, List.setIfInBounds_toArray, List.set_cons_zero, List.set_cons_succ, List.getElem_toArray, List.getElem_cons_zero, List.getElem_cons_succ]
    refine' wpAnyH_take (i := 8) (v := _) rfl (by kernel_rfl) (by kernel_rfl) (by kernel_rfl) (fun _ _ _ h => h) (Or.inl ⟨by rfl, ?hy15⟩) hHeld ?hr15
    case hy15 => (intro w hSw; (try dsimp only at hSw); go_simp; (try with_reducible rfl))
    simp only [Act.put, List.setIfInBounds_toArray, List.set_cons_zero, List.set_cons_succ, List.getElem_toArray, List.getElem_cons_zero, List.getElem_cons_succ]
    refine wpAnyH_ready (rs := [4, 10, 11]) (by kernel_rfl) (by simp) (AllReadyH.cons rfl (fun K hK => ?_) (AllReadyH.cons rfl (fun K hK => ?_) (AllReadyH.cons rfl (fun K hK => ?_) AllReadyH.nil)))
    · go_simp
      refine (cG _ (hSp.below k.k hSp.lt) (sg.below k.k)).mono ?_
      rintro e V1 ⟨u1, rfl, ho, hb⟩
      obtain ⟨u1a, u1n, u1c, hx⟩ := slShp (SlG.of_own ho)
      subst hx
      obtain ⟨vsu1, pN, hN⟩ := PG.of ho k.z
      have pG := pN
      replace k := k.below hb
      clear ho hb pN hN
      go_wp2_with fail
      refine hK.out _ _ k (fun hHeld => ?_)
      clear hK K
      (try simp only [Act.put, List.setIfInBounds_toArray, List.set_cons_zero, List.set_cons_succ, List.getElem_toArray, List.getElem_cons_zero, List.getElem_cons_succ])
      refine wpAnyH_ready (rs := [9, 10, 11]) (by kernel_rfl) (by simp) (AllReadyH.cons rfl (fun K hK => ?_) (AllReadyH.cons rfl (fun K hK => ?_) (AllReadyH.cons rfl (fun K hK => ?_) AllReadyH.nil)))
      · go_simp
        refine (cO _ (hSp.below k.k hSp.lt) (so.below k.k)).mono ?_
        rintro e V2 ⟨u2, rfl, ho, hb⟩
        obtain ⟨u2a, u2n, u2c, hx⟩ := slShp (SlG.of_own ho)
        subst hx
        obtain ⟨vsu2, pN, hN⟩ := PG.of ho k.z
        have hap : ∀ k, GrS _ _ k → ¬ GrS _ _ k := fun i h1 h2 => by have := PG.apart pG i h1; have := hN i h2; omega
        replace pG := pG.below hb
        have pO := pN
        replace k := k.below hb
        clear ho hb pN hN
        go_wp2_with fail
        refine hK.out _ _ k (fun hHeld => ?_)
        clear hK K
        (try simp only [Act.put, List.setIfInBounds_toArray, List.set_cons_zero, List.set_cons_succ, List.getElem_toArray, List.getElem_cons_zero, List.getElem_cons_succ])
        refine wpAnyH_ready (rs := [10, 11]) (by kernel_rfl) (by simp) (AllReadyH.cons rfl (fun K hK => ?_) (AllReadyH.cons rfl (fun K hK => ?_) AllReadyH.nil))
        · go_simp
          have k' := k.below (bal' V2 (Obj.cells #[.int .i64 0, .slice none 0 0] 40))
          have gN : GB (V2.alloc (Obj.cells #[.int .i64 0, .slice none 0 0] 40)) V2.heap.size 0 (.slice none 0 0) := GB.new V2 0 (.slice none 0 0)
          have zN := k.z
          replace pG := pG.below (bal' V2 (Obj.cells #[.int .i64 0, .slice none 0 0] 40))
          replace pO := pO.below (bal' V2 (Obj.cells #[.int .i64 0, .slice none 0 0] 40))
          refine hK.out _ _ k' (fun hHeld => ?_)
          clear hK K
          (try simp only [Act.put, List.setIfInBounds_toArray, List.set_cons_zero, List.set_cons_succ, List.getElem_toArray, List.getElem_cons_zero, List.getElem_cons_succ])
          clear k
          have k := k'
          clear k'
          have gA := gN
          have zA := zN
          clear gN zN
          generalize V2.alloc (Obj.cells #[.int .i64 0, .slice none 0 0] 40) = V3 at *
          refine wpAnyH_ready (rs := [11]) (by kernel_rfl) (by simp) (AllReadyH.cons rfl (fun K hK => ?_) AllReadyH.nil)
          go_simp
          have k' := k.below (bal' V3 (Obj.cells #[.int .i64 0, .slice none 0 0] 40))
          have gN : GB (V3.alloc (Obj.cells #[.int .i64 0, .slice none 0 0] 40)) V3.heap.size 0 (.slice none 0 0) := GB.new V3 0 (.slice none 0 0)
          have zN := k.z
          have nab : V2.heap.size ≠ V3.heap.size := Nat.ne_of_lt (BlkC.lt gA)
          replace gA := gA.below (bal' V3 (Obj.cells #[.int .i64 0, .slice none 0 0] 40))
          replace pG := pG.below (bal' V3 (Obj.cells #[.int .i64 0, .slice none 0 0] 40))
          replace pO := pO.below (bal' V3 (Obj.cells #[.int .i64 0, .slice none 0 0] 40))
          refine hK.out _ _ k' (fun hHeld => ?_)
          clear hK K
          (try simp only [Act.put, List.setIfInBounds_toArray, List.set_cons_zero, List.set_cons_succ, List.getElem_toArray, List.getElem_cons_zero, List.getElem_cons_succ])
          clear k
          have k := k'
          clear k'
          have gB := gN
          have zB := zN
          clear gN zN
          generalize V3.alloc (Obj.cells #[.int .i64 0, .slice none 0 0] 40) = V4 at *
          refine wpAnyH_ready (rs := [12]) (by kernel_rfl) (by simp) (AllReadyH.cons rfl (fun K hK => ?_) AllReadyH.nil)
          obtain ⟨e0, e1, f0, f1⟩ := gA.cells
          go_simp
          clear e0 e1 f0 f1
          obtain ⟨gA2, hg, _⟩ := gA.put (resC t.gc t.g cols n) (.slice u1a u1n u1c)
          replace gB := gB.kept hg nab
          replace pG := pG.grown hg gA
          replace pO := pO.grown hg gA
          replace k := k.grown hg zA
          clear hg gA
          refine hK.out _ _ k (fun hHeld => ?_)
          clear hK K
          (try simp only [Act.put, List.setIfInBounds_toArray, List.set_cons_zero, List.set_cons_succ, List.getElem_toArray, List.getElem_cons_zero, List.getElem_cons_succ])
          refine wpAnyH_ready (rs := [13]) (by kernel_rfl) (by simp) (AllReadyH.cons rfl (fun K hK => ?_) AllReadyH.nil)
          obtain ⟨e0, e1, f0, f1⟩ := gB.cells
          go_simp
          clear e0 e1 f0 f1
          obtain ⟨gB2, hg, _⟩ := gB.put (resC t.oc t.o cols n) (.slice u2a u2n u2c)
          replace gA2 := gA2.kept hg (Ne.symm nab)
          replace pG := pG.grown hg gB
          replace pO := pO.grown hg gB
          replace k := k.grown hg zB
          clear hg gB
          refine hK.out _ _ k (fun hHeld => ?_)
          clear hK K
          (try simp only [Act.put, List.setIfInBounds_toArray, List.set_cons_zero, List.set_cons_succ, List.getElem_toArray, List.getElem_cons_zero, List.getElem_cons_succ])
          refine wpAnyH_done (by kernel_rfl) ?_ _
          refine NoPanic.normal ?_
          exact hcut.out _ _ _ _ _ _ _ _ _ _ _ _ _ _ _ _ _ _ _ _ _ k gA2 gB2 pG pO hap
        · go_simp
          have k' := k.below (bal' V2 (Obj.cells #[.int .i64 0, .slice none 0 0] 40))
          have gN : GB (V2.alloc (Obj.cells #[.int .i64 0, .slice none 0 0] 40)) V2.heap.size 0 (.slice none 0 0) := GB.new V2 0 (.slice none 0 0)
          have zN := k.z
          replace pG := pG.below (bal' V2 (Obj.cells #[.int .i64 0, .slice none 0 0] 40))
          replace pO := pO.below (bal' V2 (Obj.cells #[.int .i64 0, .slice none 0 0] 40))
          refine hK.out _ _ k' (fun hHeld => ?_)
          clear hK K
          (try simp only [Act.put, List.setIfInBounds_toArray, List.set_cons_zero, List.set_cons_succ, List.getElem_toArray, List.getElem_cons_zero, List.getElem_cons_succ])
          clear k
          have k := k'
          clear k'
          have gB := gN
          have zB := zN
          clear gN zN
          generalize V2.alloc (Obj.cells #[.int .i64 0, .slice none 0 0] 40) = V5 at *
          refine wpAnyH_ready (rs := [10]) (by kernel_rfl) (by simp) (AllReadyH.cons rfl (fun K hK => ?_) AllReadyH.nil)
          go_simp
          have k' := k.below (bal' V5 (Obj.cells #[.int .i64 0, .slice none 0 0] 40))
          have gN : GB (V5.alloc (Obj.cells #[.int .i64 0, .slice none 0 0] 40)) V5.heap.size 0 (.slice none 0 0) := GB.new V5 0 (.slice none 0 0)
          have zN := k.z
          have nab : V5.heap.size ≠ V2.heap.size := Nat.ne_of_gt (BlkC.lt gB)
          replace gB := gB.below (bal' V5 (Obj.cells #[.int .i64 0, .slice none 0 0] 40))
          replace pG := pG.below (bal' V5 (Obj.cells #[.int .i64 0, .slice none 0 0] 40))
          replace pO := pO.below (bal' V5 (Obj.cells #[.int .i64 0, .slice none 0 0] 40))
          refine hK.out _ _ k' (fun hHeld => ?_)
          clear hK K
          (try simp only [Act.put, List.setIfInBounds_toArray, List.set_cons_zero, List.set_cons_succ, List.getElem_toArray, List.getElem_cons_zero, List.getElem_cons_succ])
          clear k
          have k := k'
          clear k'
          have gA := gN
          have zA := zN
          clear gN zN
          generalize V5.alloc (Obj.cells #[.int .i64 0, .slice none 0 0] 40) = V6 at *
          refine wpAnyH_ready (rs := [12]) (by kernel_rfl) (by simp) (AllReadyH.cons rfl (fun K hK => ?_) AllReadyH.nil)
          obtain ⟨e0, e1, f0, f1⟩ := gA.cells
          go_simp
          clear e0 e1 f0 f1
          obtain ⟨gA2, hg, _⟩ := gA.put (resC t.gc t.g cols n) (.slice u1a u1n u1c)
          replace gB := gB.kept hg nab
          replace pG := pG.grown hg gA
          replace pO := pO.grown hg gA
          replace k := k.grown hg zA
          clear hg gA
          refine hK.out _ _ k (fun hHeld => ?_)
          clear hK K
          (try simp only [Act.put, List.setIfInBounds_toArray, List.set_cons_zero, List.set_cons_succ, List.getElem_toArray, List.getElem_cons_zero, List.getElem_cons_succ])
          refine wpAnyH_ready (rs := [13]) (by kernel_rfl) (by simp) (AllReadyH.cons rfl (fun K hK => ?_) AllReadyH.nil)
          obtain ⟨e0, e1, f0, f1⟩ := gB.cells
          go_simp
          clear e0 e1 f0 f1
          obtain ⟨gB2, hg, _⟩ := gB.put (resC t.oc t.o cols n) (.slice u2a u2n u2c)
          replace gA2 := gA2.kept hg (Ne.symm nab)
          replace pG := pG.grown hg gB
          replace pO := pO.grown hg gB
          replace k := k.grown hg zB
          clear hg gB
          refine hK.out _ _ k (fun hHeld => ?_)
          clear hK K
          (try simp only [Act.put, List.setIfInBounds_toArray, List.set_cons_zero, List.set_cons_succ, List.getElem_toArray, List.getElem_cons_zero, List.getElem_cons_succ])
          refine wpAnyH_done (by kernel_rfl) ?_ _
          refine NoPanic.normal ?_
          exact hcut.out _ _ _ _ _ _ _ _ _ _ _ _ _ _ _ _ _ _ _ _ _ k gA2 gB2 pG pO hap
      · go_simp
        have k' := k.below (bal' V1 (Obj.cells #[.int .i64 0, .slice none 0 0] 40))
        have gN : GB (V1.alloc (Obj.cells #[.int .i64 0, .slice none 0 0] 40)) V1.heap.size 0 (.slice none 0 0) := GB.new V1 0 (.slice none 0 0)
        have zN := k.z
        replace pG := pG.below (bal' V1 (Obj.cells #[.int .i64 0, .slice none 0 0] 40))
        refine hK.out _ _ k' (fun hHeld => ?_)
        clear hK K
        (try simp only [Act.put, List.setIfInBounds_toArray, List.set_cons_zero, List.set_cons_succ, List.getElem_toArray, List.getElem_cons_zero, List.getElem_cons_succ])
        clear k
        have k := k'
        clear k'
        have gA := gN
        have zA := zN
        clear gN zN
        generalize V1.alloc (Obj.cells #[.int .i64 0, .slice none 0 0] 40) = V7 at *
        refine wpAnyH_ready (rs := [9, 11]) (by kernel_rfl) (by simp) (AllReadyH.cons rfl (fun K hK => ?_) (AllReadyH.cons rfl (fun K hK => ?_) AllReadyH.nil))
        · go_simp
          refine (cO _ (hSp.below k.k hSp.lt) (so.below k.k)).mono ?_
          rintro e V8 ⟨u2, rfl, ho, hb⟩
          obtain ⟨u2a, u2n, u2c, hx⟩ := slShp (SlG.of_own ho)
          subst hx
          obtain ⟨vsu2, pN, hN⟩ := PG.of ho k.z
          have hap : ∀ k, GrS _ _ k → ¬ GrS _ _ k := fun i h1 h2 => by have := PG.apart pG i h1; have := hN i h2; omega
          replace gA := gA.below hb
          replace pG := pG.below hb
          have pO := pN
          replace k := k.below hb
          clear ho hb pN hN
          go_wp2_with fail
          refine hK.out _ _ k (fun hHeld => ?_)
          clear hK K
          (try simp only [Act.put, List.setIfInBounds_toArray, List.set_cons_zero, List.set_cons_succ, List.getElem_toArray, List.getElem_cons_zero, List.getElem_cons_succ])
          refine wpAnyH_ready (rs := [11]) (by kernel_rfl) (by simp) (AllReadyH.cons rfl (fun K hK => ?_) AllReadyH.nil)
          go_simp
          have k' := k.below (bal' V8 (Obj.cells #[.int .i64 0, .slice none 0 0] 40))
          have gN : GB (V8.alloc (Obj.cells #[.int .i64 0, .slice none 0 0] 40)) V8.heap.size 0 (.slice none 0 0) := GB.new V8 0 (.slice none 0 0)
          have zN := k.z
          have nab : V1.heap.size ≠ V8.heap.size := Nat.ne_of_lt (BlkC.lt gA)
          replace gA := gA.below (bal' V8 (Obj.cells #[.int .i64 0, .slice none 0 0] 40))
          replace pG := pG.below (bal' V8 (Obj.cells #[.int .i64 0, .slice none 0 0] 40))
          replace pO := pO.below (bal' V8 (Obj.cells #[.int .i64 0, .slice none 0 0] 40))
          refine hK.out _ _ k' (fun hHeld => ?_)
          clear hK K
          (try simp only [Act.put, List.setIfInBounds_toArray, List.set_cons_zero, List.set_cons_succ, List.getElem_toArray, List.getElem_cons_zero, List.getElem_cons_succ])
          clear k
          have k := k'
          clear k'
          have gB := gN
          have zB := zN
          clear gN zN
          generalize V8.alloc (Obj.cells #[.int .i64 0, .slice none 0 0] 40) = V9 at *
          refine wpAnyH_ready (rs := [12]) (by kernel_rfl) (by simp) (AllReadyH.cons rfl (fun K hK => ?_) AllReadyH.nil)
          obtain ⟨e0, e1, f0, f1⟩ := gA.cells
          go_simp
          clear e0 e1 f0 f1
          obtain ⟨gA2, hg, _⟩ := gA.put (resC t.gc t.g cols n) (.slice u1a u1n u1c)
          replace gB := gB.kept hg nab
          replace pG := pG.grown hg gA
          replace pO := pO.grown hg gA
          replace k := k.grown hg zA
          clear hg gA
          refine hK.out _ _ k (fun hHeld => ?_)
          clear hK K
          (try simp only [Act.put, List.setIfInBounds_toArray, List.set_cons_zero, List.set_cons_succ, List.getElem_toArray, List.getElem_cons_zero, List.getElem_cons_succ])
          refine wpAnyH_ready (rs := [13]) (by kernel_rfl) (by simp) (AllReadyH.cons rfl (fun K hK => ?_) AllReadyH.nil)
          obtain ⟨e0, e1, f0, f1⟩ := gB.cells
          go_simp
          clear e0 e1 f0 f1
          obtain ⟨gB2, hg, _⟩ := gB.put (resC t.oc t.o cols n) (.slice u2a u2n u2c)
          replace gA2 := gA2.kept hg (Ne.symm nab)
          replace pG := pG.grown hg gB
          replace pO := pO.grown hg gB
          replace k := k.grown hg zB
          clear hg gB
          refine hK.out _ _ k (fun hHeld => ?_)
          clear hK K
          (try simp only [Act.put, List.setIfInBounds_toArray, List.set_cons_zero, List.set_cons_succ, List.getElem_toArray, List.getElem_cons_zero, List.getElem_cons_succ])
          refine wpAnyH_done (by kernel_rfl) ?_ _
          refine NoPanic.normal ?_
          exact hcut.out _ _ _ _ _ _ _ _ _ _ _ _ _ _ _ _ _ _ _ _ _ k gA2 gB2 pG pO hap
        · go_simp
          have k' := k.below (bal' V7 (Obj.cells #[.int .i64 0, .slice none 0 0] 40))
          have gN : GB (V7.alloc (Obj.cells #[.int .i64 0, .slice none 0 0] 40)) V7.heap.size 0 (.slice none 0 0) := GB.new V7 0 (.slice none 0 0)
          have zN := k.z
          have nab : V1.heap.size ≠ V7.heap.size := Nat.ne_of_lt (BlkC.lt gA)
          replace gA := gA.below (bal' V7 (Obj.cells #[.int .i64 0, .slice none 0 0] 40))
          replace pG := pG.below (bal' V7 (Obj.cells #[.int .i64 0, .slice none 0 0] 40))
          refine hK.out _ _ k' (fun hHeld => ?_)
          clear hK K
          (try simp only [Act.put, List.setIfInBounds_toArray, List.set_cons_zero, List.set_cons_succ, List.getElem_toArray, List.getElem_cons_zero, List.getElem_cons_succ])
          clear k
          have k := k'
          clear k'
          have gB := gN
          have zB := zN
          clear gN zN
          generalize V7.alloc (Obj.cells #[.int .i64 0, .slice none 0 0] 40) = V10 at *
          refine wpAnyH_ready (rs := [9]) (by kernel_rfl) (by simp) (AllReadyH.cons rfl (fun K hK => ?_) AllReadyH.nil)
          go_simp
          refine (cO _ (hSp.below k.k hSp.lt) (so.below k.k)).mono ?_
          rintro e V11 ⟨u2, rfl, ho, hb⟩
          obtain ⟨u2a, u2n, u2c, hx⟩ := slShp (SlG.of_own ho)
          subst hx
          obtain ⟨vsu2, pN, hN⟩ := PG.of ho k.z
          have hap : ∀ k, GrS _ _ k → ¬ GrS _ _ k := fun i h1 h2 => by have := PG.apart pG i h1; have := hN i h2; omega
          replace gA := gA.below hb
          replace gB := gB.below hb
          replace pG := pG.below hb
          have pO := pN
          replace k := k.below hb
          clear ho hb pN hN
          go_wp2_with fail
          refine hK.out _ _ k (fun hHeld => ?_)
          clear hK K
          (try simp only [Act.put, List.setIfInBounds_toArray, List.set_cons_zero, List.set_cons_succ, List.getElem_toArray, List.getElem_cons_zero, List.getElem_cons_succ])
          refine wpAnyH_ready (rs := [12]) (by kernel_rfl) (by simp) (AllReadyH.cons rfl (fun K hK => ?_) AllReadyH.nil)
          obtain ⟨e0, e1, f0, f1⟩ := gA.cells
          go_simp
          clear e0 e1 f0 f1
          obtain ⟨gA2, hg, _⟩ := gA.put (resC t.gc t.g cols n) (.slice u1a u1n u1c)
          replace gB := gB.kept hg nab
          replace pG := pG.grown hg gA
          replace pO := pO.grown hg gA
          replace k := k.grown hg zA
          clear hg gA
          refine hK.out _ _ k (fun hHeld => ?_)
          clear hK K
          (try simp only [Act.put, List.setIfInBounds_toArray, List.set_cons_zero, List.set_cons_succ, List.getElem_toArray, List.getElem_cons_zero, List.getElem_cons_succ])
          refine wpAnyH_ready (rs := [13]) (by kernel_rfl) (by simp) (AllReadyH.cons rfl (fun K hK => ?_) AllReadyH.nil)
          obtain ⟨e0, e1, f0, f1⟩ := gB.cells
          go_simp
          clear e0 e1 f0 f1
          obtain ⟨gB2, hg, _⟩ := gB.put (resC t.oc t.o cols n) (.slice u2a u2n u2c)
          replace gA2 := gA2.kept hg (Ne.symm nab)
          replace pG := pG.grown hg gB
          replace pO := pO.grown hg gB
          replace k := k.grown hg zB
          clear hg gB
          refine hK.out _ _ k (fun hHeld => ?_)
          clear hK K
          (try simp only [Act.put, List.setIfInBounds_toArray, List.set_cons_zero, List.set_cons_succ, List.getElem_toArray, List.getElem_cons_zero, List.getElem_cons_succ])
          refine wpAnyH_done (by kernel_rfl) ?_ _
          refine NoPanic.normal ?_
          exact hcut.out _ _ _ _ _ _ _ _ _ _ _ _ _ _ _ _ _ _ _ _ _ k gA2 gB2 pG pO hap
      · go_simp
        have k' := k.below (bal' V1 (Obj.cells #[.int .i64 0, .slice none 0 0] 40))
        have gN : GB (V1.alloc (Obj.cells #[.int .i64 0, .slice none 0 0] 40)) V1.heap.size 0 (.slice none 0 0) := GB.new V1 0 (.slice none 0 0)
        have zN := k.z
        replace pG := pG.below (bal' V1 (Obj.cells #[.int .i64 0, .slice none 0 0] 40))
        refine hK.out _ _ k' (fun hHeld => ?_)
        clear hK K
        (try simp only [Act.put, List.setIfInBounds_toArray, List.set_cons_zero, List.set_cons_succ, List.getElem_toArray, List.getElem_cons_zero, List.getElem_cons_succ])
        clear k
        have k := k'
        clear k'
        have gB := gN
        have zB := zN
        clear gN zN
        generalize V1.alloc (Obj.cells #[.int .i64 0, .slice none 0 0] 40) = V12 at *
        refine wpAnyH_ready (rs := [9, 10]) (by kernel_rfl) (by simp) (AllReadyH.cons rfl (fun K hK => ?_) (AllReadyH.cons rfl (fun K hK => ?_) AllReadyH.nil))
        · go_simp
          refine (cO _ (hSp.below k.k hSp.lt) (so.below k.k)).mono ?_
          rintro e V13 ⟨u2, rfl, ho, hb⟩
          obtain ⟨u2a, u2n, u2c, hx⟩ := slShp (SlG.of_own ho)
          subst hx
          obtain ⟨vsu2, pN, hN⟩ := PG.of ho k.z
          have hap : ∀ k, GrS _ _ k → ¬ GrS _ _ k := fun i h1 h2 => by have := PG.apart pG i h1; have := hN i h2; omega
          replace gB := gB.below hb
          replace pG := pG.below hb
          have pO := pN
          replace k := k.below hb
          clear ho hb pN hN
          go_wp2_with fail
          refine hK.out _ _ k (fun hHeld => ?_)
          clear hK K
          (try simp only [Act.put, List.setIfInBounds_toArray, List.set_cons_zero, List.set_cons_succ, List.getElem_toArray, List.getElem_cons_zero, List.getElem_cons_succ])
          refine wpAnyH_ready (rs := [10]) (by kernel_rfl) (by simp) (AllReadyH.cons rfl (fun K hK => ?_) AllReadyH.nil)
          go_simp
          have k' := k.below (bal' V13 (Obj.cells #[.int .i64 0, .slice none 0 0] 40))
          have gN : GB (V13.alloc (Obj.cells #[.int .i64 0, .slice none 0 0] 40)) V13.heap.size 0 (.slice none 0 0) := GB.new V13 0 (.slice none 0 0)
          have zN := k.z
          have nab : V13.heap.size ≠ V1.heap.size := Nat.ne_of_gt (BlkC.lt gB)
          replace gB := gB.below (bal' V13 (Obj.cells #[.int .i64 0, .slice none 0 0] 40))
          replace pG := pG.below (bal' V13 (Obj.cells #[.int .i64 0, .slice none 0 0] 40))
          replace pO := pO.below (bal' V13 (Obj.cells #[.int .i64 0, .slice none 0 0] 40))
          refine hK.out _ _ k' (fun hHeld => ?_)
          clear hK K
          (try simp only [Act.put, List.setIfInBounds_toArray, List.set_cons_zero, List.set_cons_succ, List.getElem_toArray, List.getElem_cons_zero, List.getElem_cons_succ])
          clear k
          have k := k'
          clear k'
          have gA := gN
          have zA := zN
          clear gN zN
          generalize V13.alloc (Obj.cells #[.int .i64 0, .slice none 0 0] 40) = V14 at *
          refine wpAnyH_ready (rs := [12]) (by kernel_rfl) (by simp) (AllReadyH.cons rfl (fun K hK => ?_) AllReadyH.nil)
          obtain ⟨e0, e1, f0, f1⟩ := gA.cells
          go_simp
          clear e0 e1 f0 f1
          obtain ⟨gA2, hg, _⟩ := gA.put (resC t.gc t.g cols n) (.slice u1a u1n u1c)
          replace gB := gB.kept hg nab
          replace pG := pG.grown hg gA
          replace pO := pO.grown hg gA
          replace k := k.grown hg zA
          clear hg gA
          refine hK.out _ _ k (fun hHeld => ?_)
          clear hK K
          (try simp only [Act.put, List.setIfInBounds_toArray, List.set_cons_zero, List.set_cons_succ, List.getElem_toArray, List.getElem_cons_zero, List.getElem_cons_succ])
          refine wpAnyH_ready (rs := [13]) (by kernel_rfl) (by simp) (AllReadyH.cons rfl (fun K hK => ?_) AllReadyH.nil)
          obtain ⟨e0, e1, f0, f1⟩ := gB.cells
          go_simp
          clear e0 e1 f0 f1
          obtain ⟨gB2, hg, _⟩ := gB.put (resC t.oc t.o cols n) (.slice u2a u2n u2c)
          replace gA2 := gA2.kept hg (Ne.symm nab)
          replace pG := pG.grown hg gB
          replace pO := pO.grown hg gB
          replace k := k.grown hg zB
          clear hg gB
          refine hK.out _ _ k (fun hHeld => ?_)
          clear hK K
          (try simp only [Act.put, List.setIfInBounds_toArray, List.set_cons_zero, List.set_cons_succ, List.getElem_toArray, List.getElem_cons_zero, List.getElem_cons_succ])
          refine wpAnyH_done (by kernel_rfl) ?_ _
          refine NoPanic.normal ?_
          exact hcut.out _ _ _ _ _ _ _ _ _ _ _ _ _ _ _ _ _ _ _ _ _ k gA2 gB2 pG pO hap
        · go_simp
          have k' := k.below (bal' V12 (Obj.cells #[.int .i64 0, .slice none 0 0] 40))
          have gN : GB (V12.alloc (Obj.cells #[.int .i64 0, .slice none 0 0] 40)) V12.heap.size 0 (.slice none 0 0) := GB.new V12 0 (.slice none 0 0)
          have zN := k.z
          have nab : V12.heap.size ≠ V1.heap.size := Nat.ne_of_gt (BlkC.lt gB)
          replace gB := gB.below (bal' V12 (Obj.cells #[.int .i64 0, .slice none 0 0] 40))
          replace pG := pG.below (bal' V12 (Obj.cells #[.int .i64 0, .slice none 0 0] 40))
          refine hK.out _ _ k' (fun hHeld => ?_)
          clear hK K
          (try simp only [Act.put, List.setIfInBounds_toArray, List.set_cons_zero, List.set_cons_succ, List.getElem_toArray, List.getElem_cons_zero, List.getElem_cons_succ])
          clear k
          have k := k'
          clear k'
          have gA := gN
          have zA := zN
          clear gN zN
          generalize V12.alloc (Obj.cells #[.int .i64 0, .slice none 0 0] 40) = V15 at *
          refine wpAnyH_ready (rs := [9]) (by kernel_rfl) (by simp) (AllReadyH.cons rfl (fun K hK => ?_) AllReadyH.nil)
          go_simp
          refine (cO _ (hSp.below k.k hSp.lt) (so.below k.k)).mono ?_
          rintro e V16 ⟨u2, rfl, ho, hb⟩
          obtain ⟨u2a, u2n, u2c, hx⟩ := slShp (SlG.of_own ho)
          subst hx
          obtain ⟨vsu2, pN, hN⟩ := PG.of ho k.z
          have hap : ∀ k, GrS _ _ k → ¬ GrS _ _ k := fun i h1 h2 => by have := PG.apart pG i h1; have := hN i h2; omega
          replace gA := gA.below hb
          replace gB := gB.below hb
          replace pG := pG.below hb
          have pO := pN
          replace k := k.below hb
          clear ho hb pN hN
          go_wp2_with fail
          refine hK.out _ _ k (fun hHeld => ?_)
          clear hK K
          (try simp only [Act.put, List.setIfInBounds_toArray, List.set_cons_zero, List.set_cons_succ, List.getElem_toArray, List.getElem_cons_zero, List.getElem_cons_succ])
          refine wpAnyH_ready (rs := [12]) (by kernel_rfl) (by simp) (AllReadyH.cons rfl (fun K hK => ?_) AllReadyH.nil)
          obtain ⟨e0, e1, f0, f1⟩ := gA.cells
          go_simp
          clear e0 e1 f0 f1
          obtain ⟨gA2, hg, _⟩ := gA.put (resC t.gc t.g cols n) (.slice u1a u1n u1c)
          replace gB := gB.kept hg nab
          replace pG := pG.grown hg gA
          replace pO := pO.grown hg gA
          replace k := k.grown hg zA
          clear hg gA
          refine hK.out _ _ k (fun hHeld => ?_)
          clear hK K
          (try simp only [Act.put, List.setIfInBounds_toArray, List.set_cons_zero, List.set_cons_succ, List.getElem_toArray, List.getElem_cons_zero, List.getElem_cons_succ])
          refine wpAnyH_ready (rs := [13]) (by kernel_rfl) (by simp) (AllReadyH.cons rfl (fun K hK => ?_) AllReadyH.nil)
          obtain ⟨e0, e1, f0, f1⟩ := gB.cells
          go_simp
          clear e0 e1 f0 f1
          obtain ⟨gB2, hg, _⟩ := gB.put (resC t.oc t.o cols n) (.slice u2a u2n u2c)
          replace gA2 := gA2.kept hg (Ne.symm nab)
          replace pG := pG.grown hg gB
          replace pO := pO.grown hg gB
          replace k := k.grown hg zB
          clear hg gB
          refine hK.out _ _ k (fun hHeld => ?_)
          clear hK K
          (try simp only [Act.put, List.setIfInBounds_toArray, List.set_cons_zero, List.set_cons_succ, List.getElem_toArray, List.getElem_cons_zero, List.getElem_cons_succ])
          refine wpAnyH_done (by kernel_rfl) ?_ _
          refine NoPanic.normal ?_
          exact hcut.out _ _ _ _ _ _ _ _ _ _ _ _ _ _ _ _ _ _ _ _ _ k gA2 gB2 pG pO hap
    · go_simp
      have k' := k.below (bal' V0 (Obj.cells #[.int .i64 0, .slice none 0 0] 40))
      have gN : GB (V0.alloc (Obj.cells #[.int .i64 0, .slice none 0 0] 40)) V0.heap.size 0 (.slice none 0 0) := GB.new V0 0 (.slice none 0 0)
      have zN := k.z
      refine hK.out _ _ k' (fun hHeld => ?_)
      clear hK K
      (try simp only [Act.put, List.setIfInBounds_toArray, List.set_cons_zero, List.set_cons_succ, List.getElem_toArray, List.getElem_cons_zero, List.getElem_cons_succ])
      clear k
      have k := k'
      clear k'
      have gA := gN
      have zA := zN
      clear gN zN
      generalize V0.alloc (Obj.cells #[.int .i64 0, .slice none 0 0] 40) = V17 at *
      refine wpAnyH_ready (rs := [4, 11]) (by kernel_rfl) (by simp) (AllReadyH.cons rfl (fun K hK => ?_) (AllReadyH.cons rfl (fun K hK => ?_) AllReadyH.nil))
      · go_simp
        refine (cG _ (hSp.below k.k hSp.lt) (sg.below k.k)).mono ?_
        rintro e V18 ⟨u1, rfl, ho, hb⟩
        obtain ⟨u1a, u1n, u1c, hx⟩ := slShp (SlG.of_own ho)
        subst hx
        obtain ⟨vsu1, pN, hN⟩ := PG.of ho k.z
        replace gA := gA.below hb
        have pG := pN
        replace k := k.below hb
        clear ho hb pN hN
        go_wp2_with fail
        refine hK.out _ _ k (fun hHeld => ?_)
        clear hK K
        (try simp only [Act.put, List.setIfInBounds_toArray, List.set_cons_zero, List.set_cons_succ, List.getElem_toArray, List.getElem_cons_zero, List.getElem_cons_succ])
        refine wpAnyH_ready (rs := [9, 11]) (by kernel_rfl) (by simp) (AllReadyH.cons rfl (fun K hK => ?_) (AllReadyH.cons rfl (fun K hK => ?_) AllReadyH.nil))
        · go_simp
          refine (cO _ (hSp.below k.k hSp.lt) (so.below k.k)).mono ?_
          rintro e V19 ⟨u2, rfl, ho, hb⟩
          obtain ⟨u2a, u2n, u2c, hx⟩ := slShp (SlG.of_own ho)
          subst hx
          obtain ⟨vsu2, pN, hN⟩ := PG.of ho k.z
          have hap : ∀ k, GrS _ _ k → ¬ GrS _ _ k := fun i h1 h2 => by have := PG.apart pG i h1; have := hN i h2; omega
          replace gA := gA.below hb
          replace pG := pG.below hb
          have pO := pN
          replace k := k.below hb
          clear ho hb pN hN
          go_wp2_with fail
          refine hK.out _ _ k (fun hHeld => ?_)
          clear hK K
          (try simp only [Act.put, List.setIfInBounds_toArray, List.set_cons_zero, List.set_cons_succ, List.getElem_toArray, List.getElem_cons_zero, List.getElem_cons_succ])
          refine wpAnyH_ready (rs := [11]) (by kernel_rfl) (by simp) (AllReadyH.cons rfl (fun K hK => ?_) AllReadyH.nil)
          go_simp
          have k' := k.below (bal' V19 (Obj.cells #[.int .i64 0, .slice none 0 0] 40))
          have gN : GB (V19.alloc (Obj.cells #[.int .i64 0, .slice none 0 0] 40)) V19.heap.size 0 (.slice none 0 0) := GB.new V19 0 (.slice none 0 0)
          have zN := k.z
          have nab : V0.heap.size ≠ V19.heap.size := Nat.ne_of_lt (BlkC.lt gA)
          replace gA := gA.below (bal' V19 (Obj.cells #[.int .i64 0, .slice none 0 0] 40))
          replace pG := pG.below (bal' V19 (Obj.cells #[.int .i64 0, .slice none 0 0] 40))
          replace pO := pO.below (bal' V19 (Obj.cells #[.int .i64 0, .slice none 0 0] 40))
          refine hK.out _ _ k' (fun hHeld => ?_)
          clear hK K
          (try simp only [Act.put, List.setIfInBounds_toArray, List.set_cons_zero, List.set_cons_succ, List.getElem_toArray, List.getElem_cons_zero, List.getElem_cons_succ])
          clear k
          have k := k'
          clear k'
          have gB := gN
          have zB := zN
          clear gN zN
          generalize V19.alloc (Obj.cells #[.int .i64 0, .slice none 0 0] 40) = V20 at *
          refine wpAnyH_ready (rs := [12]) (by kernel_rfl) (by simp) (AllReadyH.cons rfl (fun K hK => ?_) AllReadyH.nil)
          obtain ⟨e0, e1, f0, f1⟩ := gA.cells
          go_simp
          clear e0 e1 f0 f1
          obtain ⟨gA2, hg, _⟩ := gA.put (resC t.gc t.g cols n) (.slice u1a u1n u1c)
          replace gB := gB.kept hg nab
          replace pG := pG.grown hg gA
          replace pO := pO.grown hg gA
          replace k := k.grown hg zA
          clear hg gA
          refine hK.out _ _ k (fun hHeld => ?_)
          clear hK K
          (try simp only [Act.put, List.setIfInBounds_toArray, List.set_cons_zero, List.set_cons_succ, List.getElem_toArray, List.getElem_cons_zero, List.getElem_cons_succ])
          refine wpAnyH_ready (rs := [13]) (by kernel_rfl) (by simp) (AllReadyH.cons rfl (fun K hK => ?_) AllReadyH.nil)
          obtain ⟨e0, e1, f0, f1⟩ := gB.cells
          go_simp
          clear e0 e1 f0 f1
          obtain ⟨gB2, hg, _⟩ := gB.put (resC t.oc t.o cols n) (.slice u2a u2n u2c)
          replace gA2 := gA2.kept hg (Ne.symm nab)
          replace pG := pG.grown hg gB
          replace pO := pO.grown hg gB
          replace k := k.grown hg zB
          clear hg gB
          refine hK.out _ _ k (fun hHeld => ?_)
          clear hK K
          (try simp only [Act.put, List.setIfInBounds_toArray, List.set_cons_zero, List.set_cons_succ, List.getElem_toArray, List.getElem_cons_zero, List.getElem_cons_succ])
          refine wpAnyH_done (by kernel_rfl) ?_ _
          refine NoPanic.normal ?_
          exact hcut.out _ _ _ _ _ _ _ _ _ _ _ _ _ _ _ _ _ _ _ _ _ k gA2 gB2 pG pO hap
        · go_simp
          have k' := k.below (bal' V18 (Obj.cells #[.int .i64 0, .slice none 0 0] 40))
          have gN : GB (V18.alloc (Obj.cells #[.int .i64 0, .slice none 0 0] 40)) V18.heap.size 0 (.slice none 0 0) := GB.new V18 0 (.slice none 0 0)
          have zN := k.z
          have nab : V0.heap.size ≠ V18.heap.size := Nat.ne_of_lt (BlkC.lt gA)
          replace gA := gA.below (bal' V18 (Obj.cells #[.int .i64 0, .slice none 0 0] 40))
          replace pG := pG.below (bal' V18 (Obj.cells #[.int .i64 0, .slice none 0 0] 40))
          refine hK.out _ _ k' (fun hHeld => ?_)
          clear hK K
          (try simp only [Act.put, List.setIfInBounds_toArray, List.set_cons_zero, List.set_cons_succ, List.getElem_toArray, List.getElem_cons_zero, List.getElem_cons_succ])
          clear k
          have k := k'
          clear k'
          have gB := gN
          have zB := zN
          clear gN zN
          generalize V18.alloc (Obj.cells #[.int .i64 0, .slice none 0 0] 40) = V21 at *
          refine wpAnyH_ready (rs := [9]) (by kernel_rfl) (by simp) (AllReadyH.cons rfl (fun K hK => ?_) AllReadyH.nil)
          go_simp
          refine (cO _ (hSp.below k.k hSp.lt) (so.below k.k)).mono ?_
          rintro e V22 ⟨u2, rfl, ho, hb⟩
          obtain ⟨u2a, u2n, u2c, hx⟩ := slShp (SlG.of_own ho)
          subst hx
          obtain ⟨vsu2, pN, hN⟩ := PG.of ho k.z
          have hap : ∀ k, GrS _ _ k → ¬ GrS _ _ k := fun i h1 h2 => by have := PG.apart pG i h1; have := hN i h2; omega
          replace gA := gA.below hb
          replace gB := gB.below hb
          replace pG := pG.below hb
          have pO := pN
          replace k := k.below hb
          clear ho hb pN hN
          go_wp2_with fail
          refine hK.out _ _ k (fun hHeld => ?_)
          clear hK K
          (try simp only [Act.put, List.setIfInBounds_toArray, List.set_cons_zero, List.set_cons_succ, List.getElem_toArray, List.getElem_cons_zero, List.getElem_cons_succ])
          refine wpAnyH_ready (rs := [12]) (by kernel_rfl) (by simp) (AllReadyH.cons rfl (fun K hK => ?_) AllReadyH.nil)
          obtain ⟨e0, e1, f0, f1⟩ := gA.cells
          go_simp
          clear e0 e1 f0 f1
          obtain ⟨gA2, hg, _⟩ := gA.put (resC t.gc t.g cols n) (.slice u1a u1n u1c)
          replace gB := gB.kept hg nab
          replace pG := pG.grown hg gA
          replace pO := pO.grown hg gA
          replace k := k.grown hg zA
          clear hg gA
          refine hK.out _ _ k (fun hHeld => ?_)
          clear hK K
          (try simp only [Act.put, List.setIfInBounds_toArray, List.set_cons_zero, List.set_cons_succ, List.getElem_toArray, List.getElem_cons_zero, List.getElem_cons_succ])
          refine wpAnyH_ready (rs := [13]) (by kernel_rfl) (by simp) (AllReadyH.cons rfl (fun K hK => ?_) AllReadyH.nil)
          obtain ⟨e0, e1, f0, f1⟩ := gB.cells
          go_simp
          clear e0 e1 f0 f1
          obtain ⟨gB2, hg, _⟩ := gB.put (resC t.oc t.o cols n) (.slice u2a u2n u2c)
          replace gA2 := gA2.kept hg (Ne.symm nab)
          replace pG := pG.grown hg gB
          replace pO := pO.grown hg gB
          replace k := k.grown hg zB
          clear hg gB
          refine hK.out _ _ k (fun hHeld => ?_)
          clear hK K
          (try simp only [Act.put, List.setIfInBounds_toArray, List.set_cons_zero, List.set_cons_succ, List.getElem_toArray, List.getElem_cons_zero, List.getElem_cons_succ])
          refine wpAnyH_done (by kernel_rfl) ?_ _
          refine NoPanic.normal ?_
          exact hcut.out _ _ _ _ _ _ _ _ _ _ _ _ _ _ _ _ _ _ _ _ _ k gA2 gB2 pG pO hap
      · go_simp
        have k' := k.below (bal' V17 (Obj.cells #[.int .i64 0, .slice none 0 0] 40))
        have gN : GB (V17.alloc (Obj.cells #[.int .i64 0, .slice none 0 0] 40)) V17.heap.size 0 (.slice none 0 0) := GB.new V17 0 (.slice none 0 0)
        have zN := k.z
        have nab : V0.heap.size ≠ V17.heap.size := Nat.ne_of_lt (BlkC.lt gA)
        replace gA := gA.below (bal' V17 (Obj.cells #[.int .i64 0, .slice none 0 0] 40))
        refine hK.out _ _ k' (fun hHeld => ?_)
        clear hK K
        (try simp only [Act.put, List.setIfInBounds_toArray, List.set_cons_zero, List.set_cons_succ, List.getElem_toArray, List.getElem_cons_zero, List.getElem_cons_succ])
        clear k
        have k := k'
        clear k'
        have gB := gN
        have zB := zN
        clear gN zN
        generalize V17.alloc (Obj.cells #[.int .i64 0, .slice none 0 0] 40) = V23 at *
        refine wpAnyH_ready (rs := [4]) (by kernel_rfl) (by simp) (AllReadyH.cons rfl (fun K hK => ?_) AllReadyH.nil)
        go_simp
        refine (cG _ (hSp.below k.k hSp.lt) (sg.below k.k)).mono ?_
        rintro e V24 ⟨u1, rfl, ho, hb⟩
        obtain ⟨u1a, u1n, u1c, hx⟩ := slShp (SlG.of_own ho)
        subst hx
        obtain ⟨vsu1, pN, hN⟩ := PG.of ho k.z
        replace gA := gA.below hb
        replace gB := gB.below hb
        have pG := pN
        replace k := k.below hb
        clear ho hb pN hN
        go_wp2_with fail
        refine hK.out _ _ k (fun hHeld => ?_)
        clear hK K
        (try simp only [Act.put, List.setIfInBounds_toArray, List.set_cons_zero, List.set_cons_succ, List.getElem_toArray, List.getElem_cons_zero, List.getElem_cons_succ])
        refine wpAnyH_ready (rs := [9]) (by kernel_rfl) (by simp) (AllReadyH.cons rfl (fun K hK => ?_) AllReadyH.nil)
        go_simp
        refine (cO _ (hSp.below k.k hSp.lt) (so.below k.k)).mono ?_
        rintro e V25 ⟨u2, rfl, ho, hb⟩
        obtain ⟨u2a, u2n, u2c, hx⟩ := slShp (SlG.of_own ho)
        subst hx
        obtain ⟨vsu2, pN, hN⟩ := PG.of ho k.z
        have hap : ∀ k, GrS _ _ k → ¬ GrS _ _ k := fun i h1 h2 => by have := PG.apart pG i h1; have := hN i h2; omega
        replace gA := gA.below hb
        replace gB := gB.below hb
        replace pG := pG.below hb
        have pO := pN
        replace k := k.below hb
        clear ho hb pN hN
        go_wp2_with fail
        refine hK.out _ _ k (fun hHeld => ?_)
        clear hK K
        (try simp only [Act.put, List.setIfInBounds_toArray, List.set_cons_zero, List.set_cons_succ, List.getElem_toArray, List.getElem_cons_zero, List.getElem_cons_succ])
        refine wpAnyH_ready (rs := [12]) (by kernel_rfl) (by simp) (AllReadyH.cons rfl (fun K hK => ?_) AllReadyH.nil)
        obtain ⟨e0, e1, f0, f1⟩ := gA.cells
        go_simp
        clear e0 e1 f0 f1
        obtain ⟨gA2, hg, _⟩ := gA.put (resC t.gc t.g cols n) (.slice u1a u1n u1c)
        replace gB := gB.kept hg nab
        replace pG := pG.grown hg gA
        replace pO := pO.grown hg gA
        replace k := k.grown hg zA
        clear hg gA
        refine hK.out _ _ k (fun hHeld => ?_)
        clear hK K
        (try simp only [Act.put, List.setIfInBounds_toArray, List.set_cons_zero, List.set_cons_succ, List.getElem_toArray, List.getElem_cons_zero, List.getElem_cons_succ])
        refine wpAnyH_ready (rs := [13]) (by kernel_rfl) (by simp) (AllReadyH.cons rfl (fun K hK => ?_) AllReadyH.nil)
        obtain ⟨e0, e1, f0, f1⟩ := gB.cells
        go_simp
        clear e0 e1 f0 f1
        obtain ⟨gB2, hg, _⟩ := gB.put (resC t.oc t.o cols n) (.slice u2a u2n u2c)
        replace gA2 := gA2.kept hg (Ne.symm nab)
        replace pG := pG.grown hg gB
        replace pO := pO.grown hg gB
        replace k := k.grown hg zB
        clear hg gB
        refine hK.out _ _ k (fun hHeld => ?_)
        clear hK K
        (try simp only [Act.put, List.setIfInBounds_toArray, List.set_cons_zero, List.set_cons_succ, List.getElem_toArray, List.getElem_cons_zero, List.getElem_cons_succ])
        refine wpAnyH_done (by kernel_rfl) ?_ _
        refine NoPanic.normal ?_
        exact hcut.out _ _ _ _ _ _ _ _ _ _ _ _ _ _ _ _ _ _ _ _ _ k gA2 gB2 pG pO hap
    · go_simp
      have k' := k.below (bal' V0 (Obj.cells #[.int .i64 0, .slice none 0 0] 40))
      have gN : GB (V0.alloc (Obj.cells #[.int .i64 0, .slice none 0 0] 40)) V0.heap.size 0 (.slice none 0 0) := GB.new V0 0 (.slice none 0 0)
      have zN := k.z
      refine hK.out _ _ k' (fun hHeld => ?_)
      clear hK K
      (try simp only [Act.put, List.setIfInBounds_toArray, List.set_cons_zero, List.set_cons_succ, List.getElem_toArray, List.getElem_cons_zero, List.getElem_cons_succ])
      clear k
      have k := k'
      clear k'
      have gB := gN
      have zB := zN
      clear gN zN
      generalize V0.alloc (Obj.cells #[.int .i64 0, .slice none 0 0] 40) = V26 at *
      refine wpAnyH_ready (rs := [4, 10]) (by kernel_rfl) (by simp) (AllReadyH.cons rfl (fun K hK => ?_) (AllReadyH.cons rfl (fun K hK => ?_) AllReadyH.nil))
      · go_simp
        refine (cG _ (hSp.below k.k hSp.lt) (sg.below k.k)).mono ?_
        rintro e V27 ⟨u1, rfl, ho, hb⟩
        obtain ⟨u1a, u1n, u1c, hx⟩ := slShp (SlG.of_own ho)
        subst hx
        obtain ⟨vsu1, pN, hN⟩ := PG.of ho k.z
        replace gB := gB.below hb
        have pG := pN
        replace k := k.below hb
        clear ho hb pN hN
        go_wp2_with fail
        refine hK.out _ _ k (fun hHeld => ?_)
        clear hK K
        (try simp only [Act.put, List.setIfInBounds_toArray, List.set_cons_zero, List.set_cons_succ, List.getElem_toArray, List.getElem_cons_zero, List.getElem_cons_succ])
        refine wpAnyH_ready (rs := [9, 10]) (by kernel_rfl) (by simp) (AllReadyH.cons rfl (fun K hK => ?_) (AllReadyH.cons rfl (fun K hK => ?_) AllReadyH.nil))
        · go_simp
          refine (cO _ (hSp.below k.k hSp.lt) (so.below k.k)).mono ?_
          rintro e V28 ⟨u2, rfl, ho, hb⟩
          obtain ⟨u2a, u2n, u2c, hx⟩ := slShp (SlG.of_own ho)
          subst hx
          obtain ⟨vsu2, pN, hN⟩ := PG.of ho k.z
          have hap : ∀ k, GrS _ _ k → ¬ GrS _ _ k := fun i h1 h2 => by have := PG.apart pG i h1; have := hN i h2; omega
          replace gB := gB.below hb
          replace pG := pG.below hb
          have pO := pN
          replace k := k.below hb
          clear ho hb pN hN
          go_wp2_with fail
          refine hK.out _ _ k (fun hHeld => ?_)
          clear hK K
          (try simp only [Act.put, List.setIfInBounds_toArray, List.set_cons_zero, List.set_cons_succ, List.getElem_toArray, List.getElem_cons_zero, List.getElem_cons_succ])
          refine wpAnyH_ready (rs := [10]) (by kernel_rfl) (by simp) (AllReadyH.cons rfl (fun K hK => ?_) AllReadyH.nil)
          go_simp
          have k' := k.below (bal' V28 (Obj.cells #[.int .i64 0, .slice none 0 0] 40))
          have gN : GB (V28.alloc (Obj.cells #[.int .i64 0, .slice none 0 0] 40)) V28.heap.size 0 (.slice none 0 0) := GB.new V28 0 (.slice none 0 0)
          have zN := k.z
          have nab : V28.heap.size ≠ V0.heap.size := Nat.ne_of_gt (BlkC.lt gB)
          replace gB := gB.below (bal' V28 (Obj.cells #[.int .i64 0, .slice none 0 0] 40))
          replace pG := pG.below (bal' V28 (Obj.cells #[.int .i64 0, .slice none 0 0] 40))
          replace pO := pO.below (bal' V28 (Obj.cells #[.int .i64 0, .slice none 0 0] 40))
          refine hK.out _ _ k' (fun hHeld => ?_)
          clear hK K
          (try simp only [Act.put, List.setIfInBounds_toArray, List.set_cons_zero, List.set_cons_succ, List.getElem_toArray, List.getElem_cons_zero, List.getElem_cons_succ])
          clear k
          have k := k'
          clear k'
          have gA := gN
          have zA := zN
          clear gN zN
          generalize V28.alloc (Obj.cells #[.int .i64 0, .slice none 0 0] 40) = V29 at *
          refine wpAnyH_ready (rs := [12]) (by kernel_rfl) (by simp) (AllReadyH.cons rfl (fun K hK => ?_) AllReadyH.nil)
          obtain ⟨e0, e1, f0, f1⟩ := gA.cells
          go_simp
          clear e0 e1 f0 f1
          obtain ⟨gA2, hg, _⟩ := gA.put (resC t.gc t.g cols n) (.slice u1a u1n u1c)
          replace gB := gB.kept hg nab
          replace pG := pG.grown hg gA
          replace pO := pO.grown hg gA
          replace k := k.grown hg zA
          clear hg gA
          refine hK.out _ _ k (fun hHeld => ?_)
          clear hK K
          (try simp only [Act.put, List.setIfInBounds_toArray, List.set_cons_zero, List.set_cons_succ, List.getElem_toArray, List.getElem_cons_zero, List.getElem_cons_succ])
          refine wpAnyH_ready (rs := [13]) (by kernel_rfl) (by simp) (AllReadyH.cons rfl (fun K hK => ?_) AllReadyH.nil)
          obtain ⟨e0, e1, f0, f1⟩ := gB.cells
          go_simp
          clear e0 e1 f0 f1
          obtain ⟨gB2, hg, _⟩ := gB.put (resC t.oc t.o cols n) (.slice u2a u2n u2c)
          replace gA2 := gA2.kept hg (Ne.symm nab)
          replace pG := pG.grown hg gB
          replace pO := pO.grown hg gB
          replace k := k.grown hg zB
          clear hg gB
          refine hK.out _ _ k (fun hHeld => ?_)
          clear hK K
          (try simp only [Act.put, List.setIfInBounds_toArray, List.set_cons_zero, List.set_cons_succ, List.getElem_toArray, List.getElem_cons_zero, List.getElem_cons_succ])
          refine wpAnyH_done (by kernel_rfl) ?_ _
          refine NoPanic.normal ?_
          exact hcut.out _ _ _ _ _ _ _ _ _ _ _ _ _ _ _ _ _ _ _ _ _ k gA2 gB2 pG pO hap
        · go_simp
          have k' := k.below (bal' V27 (Obj.cells #[.int .i64 0, .slice none 0 0] 40))
          have gN : GB (V27.alloc (Obj.cells #[.int .i64 0, .slice none 0 0] 40)) V27.heap.size 0 (.slice none 0 0) := GB.new V27 0 (.slice none 0 0)
          have zN := k.z
          have nab : V27.heap.size ≠ V0.heap.size := Nat.ne_of_gt (BlkC.lt gB)
          replace gB := gB.below (bal' V27 (Obj.cells #[.int .i64 0, .slice none 0 0] 40))
          replace pG := pG.below (bal' V27 (Obj.cells #[.int .i64 0, .slice none 0 0] 40))
          refine hK.out _ _ k' (fun hHeld => ?_)
          clear hK K
          (try simp only [Act.put, List.setIfInBounds_toArray, List.set_cons_zero, List.set_cons_succ, List.getElem_toArray, List.getElem_cons_zero, List.getElem_cons_succ])
          clear k
          have k := k'
          clear k'
          have gA := gN
          have zA := zN
          clear gN zN
          generalize V27.alloc (Obj.cells #[.int .i64 0, .slice none 0 0] 40) = V30 at *
          refine wpAnyH_ready (rs := [9]) (by kernel_rfl) (by simp) (AllReadyH.cons rfl (fun K hK => ?_) AllReadyH.nil)
          go_simp
          refine (cO _ (hSp.below k.k hSp.lt) (so.below k.k)).mono ?_
          rintro e V31 ⟨u2, rfl, ho, hb⟩
          obtain ⟨u2a, u2n, u2c, hx⟩ := slShp (SlG.of_own ho)
          subst hx
          obtain ⟨vsu2, pN, hN⟩ := PG.of ho k.z
          have hap : ∀ k, GrS _ _ k → ¬ GrS _ _ k := fun i h1 h2 => by have := PG.apart pG i h1; have := hN i h2; omega
          replace gA := gA.below hb
          replace gB := gB.below hb
          replace pG := pG.below hb
          have pO := pN
          replace k := k.below hb
          clear ho hb pN hN
          go_wp2_with fail
          refine hK.out _ _ k (fun hHeld => ?_)
          clear hK K
          (try simp only [Act.put, List.setIfInBounds_toArray, List.set_cons_zero, List.set_cons_succ, List.getElem_toArray, List.getElem_cons_zero, List.getElem_cons_succ])
          refine wpAnyH_ready (rs := [12]) (by kernel_rfl) (by simp) (AllReadyH.cons rfl (fun K hK => ?_) AllReadyH.nil)
          obtain ⟨e0, e1, f0, f1⟩ := gA.cells
          go_simp
          clear e0 e1 f0 f1
          obtain ⟨gA2, hg, _⟩ := gA.put (resC t.gc t.g cols n) (.slice u1a u1n u1c)
          replace gB := gB.kept hg nab
          replace pG := pG.grown hg gA
          replace pO := pO.grown hg gA
          replace k := k.grown hg zA
          clear hg gA
          refine hK.out _ _ k (fun hHeld => ?_)
          clear hK K
          (try simp only [Act.put, List.setIfInBounds_toArray, List.set_cons_zero, List.set_cons_succ, List.getElem_toArray, List.getElem_cons_zero, List.getElem_cons_succ])
          refine wpAnyH_ready (rs := [13]) (by kernel_rfl) (by simp) (AllReadyH.cons rfl (fun K hK => ?_) AllReadyH.nil)
          obtain ⟨e0, e1, f0, f1⟩ := gB.cells
          go_simp
          clear e0 e1 f0 f1
          obtain ⟨gB2, hg, _⟩ := gB.put (resC t.oc t.o cols n) (.slice u2a u2n u2c)
          replace gA2 := gA2.kept hg (Ne.symm nab)
          replace pG := pG.grown hg gB
          replace pO := pO.grown hg gB
          replace k := k.grown hg zB
          clear hg gB
          refine hK.out _ _ k (fun hHeld => ?_)
          clear hK K
          (try simp only [Act.put, List.setIfInBounds_toArray, List.set_cons_zero, List.set_cons_succ, List.getElem_toArray, List.getElem_cons_zero, List.getElem_cons_succ])
          refine wpAnyH_done (by kernel_rfl) ?_ _
          refine NoPanic.normal ?_
          exact hcut.out _ _ _ _ _ _ _ _ _ _ _ _ _ _ _ _ _ _ _ _ _ k gA2 gB2 pG pO hap
      · go_simp
        have k' := k.below (bal' V26 (Obj.cells #[.int .i64 0, .slice none 0 0] 40))
        have gN : GB (V26.alloc (Obj.cells #[.int .i64 0, .slice none 0 0] 40)) V26.heap.size 0 (.slice none 0 0) := GB.new V26 0 (.slice none 0 0)
        have zN := k.z
        have nab : V26.heap.size ≠ V0.heap.size := Nat.ne_of_gt (BlkC.lt gB)
        replace gB := gB.below (bal' V26 (Obj.cells #[.int .i64 0, .slice none 0 0] 40))
        refine hK.out _ _ k' (fun hHeld => ?_)
        clear hK K
        (try simp only [Act.put, List.setIfInBounds_toArray, List.set_cons_zero, List.set_cons_succ, List.getElem_toArray, List.getElem_cons_zero, List.getElem_cons_succ])
        clear k
        have k := k'
        clear k'
        have gA := gN
        have zA := zN
        clear gN zN
        generalize V26.alloc (Obj.cells #[.int .i64 0, .slice none 0 0] 40) = V32 at *
        refine wpAnyH_ready (rs := [4]) (by kernel_rfl) (by simp) (AllReadyH.cons rfl (fun K hK => ?_) AllReadyH.nil)
        go_simp
        refine (cG _ (hSp.below k.k hSp.lt) (sg.below k.k)).mono ?_
        rintro e V33 ⟨u1, rfl, ho, hb⟩
        obtain ⟨u1a, u1n, u1c, hx⟩ := slShp (SlG.of_own ho)
        subst hx
        obtain ⟨vsu1, pN, hN⟩ := PG.of ho k.z
        replace gA := gA.below hb
        replace gB := gB.below hb
        have pG := pN
        replace k := k.below hb
        clear ho hb pN hN
        go_wp2_with fail
        refine hK.out _ _ k (fun hHeld => ?_)
        clear hK K
        (try simp only [Act.put, List.setIfInBounds_toArray, List.set_cons_zero, List.set_cons_succ, List.getElem_toArray, List.getElem_cons_zero, List.getElem_cons_succ])
        refine wpAnyH_ready (rs := [9]) (by kernel_rfl) (by simp) (AllReadyH.cons rfl (fun K hK => ?_) AllReadyH.nil)
        go_simp
        refine (cO _ (hSp.below k.k hSp.lt) (so.below k.k)).mono ?_
        rintro e V34 ⟨u2, rfl, ho, hb⟩
        obtain ⟨u2a, u2n, u2c, hx⟩ := slShp (SlG.of_own ho)
        subst hx
        obtain ⟨vsu2, pN, hN⟩ := PG.of ho k.z
        have hap : ∀ k, GrS _ _ k → ¬ GrS _ _ k := fun i h1 h2 => by have := PG.apart pG i h1; have := hN i h2; omega
        replace gA := gA.below hb
        replace gB := gB.below hb
        replace pG := pG.below hb
        have pO := pN
        replace k := k.below hb
        clear ho hb pN hN
        go_wp2_with fail
        refine hK.out _ _ k (fun hHeld => ?_)
        clear hK K
        (try simp only [Act.put, List.setIfInBounds_toArray, List.set_cons_zero, List.set_cons_succ, List.getElem_toArray, List.getElem_cons_zero, List.getElem_cons_succ])
        refine wpAnyH_ready (rs := [12]) (by kernel_rfl) (by simp) (AllReadyH.cons rfl (fun K hK => ?_) AllReadyH.nil)
        obtain ⟨e0, e1, f0, f1⟩ := gA.cells
        go_simp
        clear e0 e1 f0 f1
        obtain ⟨gA2, hg, _⟩ := gA.put (resC t.gc t.g cols n) (.slice u1a u1n u1c)
        replace gB := gB.kept hg nab
        replace pG := pG.grown hg gA
        replace pO := pO.grown hg gA
        replace k := k.grown hg zA
        clear hg gA
        refine hK.out _ _ k (fun hHeld => ?_)
        clear hK K
        (try simp only [Act.put, List.setIfInBounds_toArray, List.set_cons_zero, List.set_cons_succ, List.getElem_toArray, List.getElem_cons_zero, List.getElem_cons_succ])
        refine wpAnyH_ready (rs := [13]) (by kernel_rfl) (by simp) (AllReadyH.cons rfl (fun K hK => ?_) AllReadyH.nil)
        obtain ⟨e0, e1, f0, f1⟩ := gB.cells
        go_simp
        clear e0 e1 f0 f1
        obtain ⟨gB2, hg, _⟩ := gB.put (resC t.oc t.o cols n) (.slice u2a u2n u2c)
        replace gA2 := gA2.kept hg (Ne.symm nab)
        replace pG := pG.grown hg gB
        replace pO := pO.grown hg gB
        replace k := k.grown hg zB
        clear hg gB
        refine hK.out _ _ k (fun hHeld => ?_)
        clear hK K
        (try simp only [Act.put, List.setIfInBounds_toArray, List.set_cons_zero, List.set_cons_succ, List.getElem_toArray, List.getElem_cons_zero, List.getElem_cons_succ])
        refine wpAnyH_done (by kernel_rfl) ?_ _
        refine NoPanic.normal ?_
        exact hcut.out _ _ _ _ _ _ _ _ _ _ _ _ _ _ _ _ _ _ _ _ _ k gA2 gB2 pG pO hap
  intro j11 j12 j13 j14 j15 j16 j17 j18 j19 j20 na nb u1a u2a u1n u1c u2n u2c vs1 vs2 W k gA gB pG pO hap
  refine hH.out _ _ ?_
  obtain ⟨b2, q4⟩ : ∃ x, Hid (termOkB t = x) := ⟨_, rfl⟩
  have cT := fun W hSp hW => implTermOk_any t ⟨.slice ga t.g.length gp, .slice oa t.o.length op, .slice tia t.ti.length tip, .slice ppa t.pa.params.length ppp, .slice pta t.pa.text.length ptp⟩ W hW hSp hz
  rw [q4.out] at cT
  unfold teV at cT
  clear hH hX hR kb zs2 cG cO sg so
  go_wp2_with (refine load_te k.x (by rfl) _ (by rfl) (by rfl) ?_)
  refine (cT _ (hSp.below k.k hSp.lt) (SlT.below hS.out k.k)).mono ?_
  rintro e W1 ⟨rfl, hb⟩
  replace k := k.below hb
  replace gA := gA.below hb
  replace gB := gB.below hb
  replace pG := pG.below hb
  replace pO := pO.below hb
  clear hb cT
  have hZero : ∀ W', TB W' (w.heap.size + 1) (teCs teZ (tvN (.slice none 0 0) (.slice none 0 0))).toList → w.heap.size + 2 ≤ W'.heap.size → Below w.heap.size w W' → refitT t cols n = teZ → ∃ v' vg vo, (Ending.returned (.agg (teCs teZ (tvN (.slice none 0 0) (.slice none 0 0))))) = .returned (.agg (teCs (refitT t cols n) v')) ∧ OwnS W' w.heap.size (refitT t cols n) v' vg vo ∧ Below w.heap.size w W' := by
    intro W' hT hs hb e
    rw [e]
    obtain ⟨b1, b2, b3, hr⟩ := ownT_zero W' w.heap.size (by omega)
    obtain ⟨vg, vo, hO⟩ := RgT.own (show RgT W' w.heap.size b1 b2 b3 _ _ from hr)
    exact ⟨_, vg, vo, rfl, hO, hb⟩
  cases b2
  · have hV : refitT t cols n = teZ := by unfold refitT; rw [q4.out]; simp
    go_wp2_with (refine store_T (cs := teCs teZ (tvN (.slice none 0 0) (.slice none 0 0))) (by rfl) 45 _ _ (by rfl) info_te (by rfl) (by rfl) k.r (by rfl) (by rfl) ?_; intro w4 hg hR4 hz4)
    exact bodyPost_ret (v := .agg (teCs teZ (tvN (.slice none 0 0) (.slice none 0 0)))) (results_cell_row Tryz.results20 _ _ _ _ _ _ _ rfl hR4 Tryz.underlying45 rfl info_te) rfl (hZero w4 hR4 (by rw [hz4]; exact k.z) (k.k.grown hg k.k.size (fun g e => by cases e; omega)) hV)
  obtain ⟨gc, f1, f2, f3, f4, f5, f6⟩ := termOk_sizes q4.out
  have sR1 : SlG W1 _ _ := SlG.of_own pG.g
  by_cases hnw : newOk cols n
  case neg =>
    have hV : refitT t cols n = teZ := by unfold refitT; rw [decide_eq_false hnw, Bool.false_and]; rfl
    have hno : resOkB t.gc t.g cols n = false := by
      unfold resOkB newOk at *
      rw [← Bool.decide_and, decide_eq_false hnw, Bool.and_false]
    have hC : resC t.gc t.g cols n = 0 := by unfold resC; rw [hno]; rfl
    have hRR : resR t.gc t.g cols n = [] := by unfold resR; rw [hno]; rfl
    rw [hC] at gA
    rw [hRR] at sR1
    have cK := fun W hSp hW => implGridOk_any 0 (.slice u1a u1n u1c) [] W hSp hW (by simp) (fun i hi => by simp at hi)
    rw [gridOk_cols (cols := 0) (rows := []) (by omega)] at cK
    unfold gridV at cK
    obtain ⟨e0, e1, _, _⟩ := gA.cells
    clear gB pG pO hap f1 f2 f3 f4 f5 f6 hno hC hRR
    go_wp2_with fail
    refine (cK _ (hSp.below k.k hSp.lt) sR1).mono ?_
    rintro e W2 ⟨rfl, hb⟩
    replace k := k.below hb
    clear hb e0 e1 sR1 gA cK
    go_wp2_with (refine store_T (cs := teCs teZ (tvN (.slice none 0 0) (.slice none 0 0))) (by rfl) 45 _ _ (by rfl) info_te (by rfl) (by rfl) k.r (by rfl) (by rfl) ?_; intro w4 hg hR4 hz4)
    exact bodyPost_ret (v := .agg (teCs teZ (tvN (.slice none 0 0) (.slice none 0 0)))) (results_cell_row Tryz.results20 _ _ _ _ _ _ _ rfl hR4 Tryz.underlying45 rfl info_te) rfl (hZero w4 hR4 (by rw [hz4]; exact k.z) (k.k.grown hg k.k.size (fun g e => by cases e; omega)) hV)
  have hnw' := hnw
  unfold newOk at hnw'
  obtain ⟨cn, rfl⟩ : ∃ k : Nat, cols = k := ⟨cols.toNat, by omega⟩
  obtain ⟨nn, rfl⟩ : ∃ k : Nat, n = k := ⟨n.toNat, by omega⟩
  have hV : Hid (refitT t cn nn = refitM t cn nn) := by show _ = _; unfold refitT; rw [q4.out, decide_eq_true hnw]; simp
  have hyg : resOkB t.gc t.g cn nn = true := by
    unfold resOkB
    rw [f1, f3, decide_eq_true hnw'.1, decide_eq_true hnw'.2]; rfl
  have hyo : resOkB t.oc t.o cn nn = true := by
    unfold resOkB
    rw [f2, f4, decide_eq_true hnw'.1, decide_eq_true hnw'.2]; rfl
  have hC : resC t.gc t.g cn nn = cn := by unfold resC; rw [hyg]; rfl
  have hCo : resC t.oc t.o cn nn = cn := by unfold resC; rw [hyo]; rfl
  have hRR : resR t.gc t.g cn nn = (refitM t cn nn).g := by unfold resR; rw [hyg]; simp [refitM]
  have hRo : resR t.oc t.o cn nn = (refitM t cn nn).o := by unfold resR; rw [hyo]; simp [refitM]
  have hok1 : gridOkB (cn : Int) (refitM t cn nn).g = true := by
    show gridOkB (cn : Int) (resUp _ _ _ _ _) = true
    rw [f1] at *
    exact resUp_ok f3 cn nn _ _ (by omega) (by omega) (by omega)
  rw [hC] at gA
  rw [hCo] at gB
  rw [hRR] at sR1 pG
  rw [hRo] at pO
  have hlg : (refitM t cn nn).g.length = nn := by show (resUp _ _ _ _ _).length = _; rw [resUp_len]
  obtain ⟨_, _, hq6⟩ := slG_shp sR1
  simp only [Value.slice.injEq] at hq6
  have hun : nn = u1n := hlg.symm.trans hq6.2.1.symm
  subst hun
  clear hq6
  obtain ⟨⟨_, _⟩, ⟨l1, l2⟩, lx⟩ := gridOk_rows hok1
  have cK := fun W hSp hW => implGridOk_any cn (.slice u1a nn u1c) (refitM t cn nn).g W hSp hW (by omega) (fun i hi => by rw [(lx i hi).1]; omega)
  rw [hok1] at cK
  unfold gridV at cK
  obtain ⟨e0, e1, e2, e3⟩ := gA.cells
  have hf : t.fe.size ≤ 281474976710656 := by
    have hq := q4.out
    unfold termOkB at hq
    simp only [Bool.and_eq_true] at hq
    have := feed_small t.fe hq.2.2.2.2.2.2.2
    omega
  have cSc := fun W hW => screenOf_any t ⟨.slice ga t.g.length gp, .slice oa t.o.length op, .slice tia t.ti.length tip, .slice ppa t.pa.params.length ppp, .slice pta t.pa.text.length ptp⟩ W hW f6 hf
  clear hyg hyo hC hCo hRR hRo lx hf hZero
  go_wp2_with fail
  refine (cK _ (hSp.below k.k hSp.lt) sR1).mono ?_
  rintro e W2 ⟨rfl, hb⟩
  replace k := k.below hb
  replace gA := gA.below hb
  replace gB := gB.below hb
  replace pG := pG.below hb
  replace pO := pO.below hb
  clear hb e0 e1 e2 e3 sR1 cK
  go_wp2_with (refine load_te k.x (by rfl) _ (by rfl) (by rfl) ?_)
  refine (cSc _ (SlT.below hS.out k.k)).mono ?_
  rintro e W3 ⟨B, v', vg', vo', rfl, hB, hO, hlt, hb⟩
  have hz3 := k.z
  have nA : na ≠ B := by have := BlkC.lt gA; omega
  have nB : nb ≠ B := by have := BlkC.lt gB; omega
  have hBz : w.heap.size + 2 ≤ B := by omega
  have hL := hO.2.2.2
  have hx0 := hO.sl
  obtain ⟨ya, yc, hy1⟩ := slG_shp hx0.1
  obtain ⟨za, zc, hy2⟩ := slG_shp hx0.2.1
  obtain ⟨xta, xtc, hy3⟩ := hx0.2.2.1.shp
  obtain ⟨xpa, xpc, hy4⟩ := hx0.2.2.2.1.shp
  obtain ⟨xqa, xqc, hy5⟩ := hx0.2.2.2.2.shp
  obtain ⟨v1, v2, v3, v4, v5⟩ := v'
  simp only at hy1 hy2 hy3 hy4 hy5
  subst hy1; subst hy2; subst hy3; subst hy4; subst hy5
  replace k := k.below hb
  replace gA := gA.below hb
  replace gB := gB.below hb
  replace pG := pG.below hb
  replace pO := pO.below hb
  clear hb cSc hO hx0 hlt
  have c7 : W3.cell? ⟨B, 7, none⟩ = some (.slice ya t.g.length yc) := cells_all hB 7
  have hl1 : (1 : Int) ≤ (t.g.length : Int) := by have := f6.1; omega
  have hl2 : (t.g.length : Int) ≤ 30 := by have := f6.1; omega
  obtain ⟨gone, e1⟩ : ∃ x, Hid (max ((t.g.length : Int) - nn) 0 = x) := ⟨_, rfl⟩
  have e1' := e1.out
  have hn1 : (1 : Int) ≤ (nn : Int) := by omega
  have hn2 : (nn : Int) ≤ 30 := by omega
  have a01 := gA.cells
  have b01 := gB.cells
  go_wp2
  rename_i K6 hK6
  replace hK6 := (show Hid _ from hK6)
  clear c7
  obtain ⟨a0, a1, a2, a3⟩ := a01
  obtain ⟨b0, b1, b2, b3⟩ := b01
  have d6 : W3.cell? ⟨B, 6, none⟩ = some (.int .i64 t.gc) := cells_all hB 6
  have d7 : W3.cell? ⟨B, 7, none⟩ = some (.slice ya t.g.length yc) := cells_all hB 7
  have d8 : W3.cell? ⟨B, 8, none⟩ = some (.int .i64 t.oc) := cells_all hB 8
  have d9 : W3.cell? ⟨B, 9, none⟩ = some (.slice za t.o.length zc) := cells_all hB 9
  have z6 : W3.frozen? ⟨B, 6, none⟩ = false := frozen_of_row _ _ _ _ _ hB
  have z7 : W3.frozen? ⟨B, 7, none⟩ = false := frozen_of_row _ _ _ _ _ hB
  have z8 : W3.frozen? ⟨B, 8, none⟩ = false := frozen_of_row _ _ _ _ _ hB
  have z9 : W3.frozen? ⟨B, 9, none⟩ = false := frozen_of_row _ _ _ _ _ hB
  go_region
  clear d6 d7 d8 d9 z6 z7 z8 z9 a0 a1 b0 b1 a2 a3 b2 b3
  refine hK6.out _ _ ?_
  clear hK6
  have hL0 := hL
  have hBl := BlkC.lt hB
  have hgr := setCells_gr B [.int .i64 (cn : Int), .slice u1a nn u1c, .int .i64 (cn : Int), .slice u2a u2n u2c] 6 W3
  have hB6 : SB ((((W3.setCell ⟨B, 6, none⟩ (.int .i64 (cn : Int))).setCell ⟨B, 7, none⟩ (.slice u1a nn u1c)).setCell ⟨B, 8, none⟩ (.int .i64 (cn : Int))).setCell ⟨B, 9, none⟩ (.slice u2a u2n u2c)).drew B (scCs t.pa (.slice xpa t.pa.params.length xpc) (.slice xqa t.pa.text.length xqc) (.slice none 0 0) (.slice none 0 0) { t with gc := cn, oc := cn } ⟨.slice u1a nn u1c, .slice u2a u2n u2c, .slice xta t.ti.length xtc, .slice xpa t.pa.params.length xpc, .slice xqa t.pa.text.length xqc⟩) :=
    BlkC.below (setCells_heap B 90 [.int .i64 (cn : Int), .slice u1a nn u1c, .int .i64 (cn : Int), .slice u2a u2n u2c] 6 W3 _ hB) (bdr _)
  have hgr6 : W3.grownBy ((((W3.setCell ⟨B, 6, none⟩ (.int .i64 (cn : Int))).setCell ⟨B, 7, none⟩ (.slice u1a nn u1c)).setCell ⟨B, 8, none⟩ (.int .i64 (cn : Int))).setCell ⟨B, 9, none⟩ (.slice u2a u2n u2c)).drew (some B) := grown_tr hgr (gbl (bdr _) (some B))
  clear hgr
  generalize ((((W3.setCell ⟨B, 6, none⟩ (.int .i64 (cn : Int))).setCell ⟨B, 7, none⟩ (.slice u1a nn u1c)).setCell ⟨B, 8, none⟩ (.int .i64 (cn : Int))).setCell ⟨B, 9, none⟩ (.slice u2a u2n u2c)).drew = W6 at *
  have hbg : 0 ≤ gone ∧ gone ≤ 30 := by have := e1.out; omega
  obtain ⟨d7, e7⟩ : ∃ x, Hid (t.row - gone = x) := ⟨_, rfl⟩
  have w7 : IntKind.i64.wrap (t.row - gone) = d7 := by rw [← e7.out]; simp [IntKind.wrap, IntKind.bits, IntKind.signed]; omega
  have hAll := (show Hid (_ ∧ _ ∧ _ ∧ _ ∧ _ ∧ _) from ⟨k, pG, pO, hap, hL, hB⟩)
  clear hz f1 f2 f3 f4 f5 f6 hnw hok1 hlg hap l1 l2 nA nB gA gB pG pO k hL e1' hS hB hL0 hBl hl1 hl2 hbg
  go_wp2
  rename_i K7 hK7
  replace hK7 := (show Hid _ from hK7)
  have hcut7 : Hid (∀ (i7_0 i7_1 i7_2 i7_3 i7_4 i7_5 i7_7 i7_8 i7_10 i7_11 i7_12 i7_13 i7_14 i7_15 i7_16 i7_17 i7_18 i7_19 i7_20 i7_21 i7_22 i7_23 i7_24 i7_25 i7_26 i7_27 i7_28 i7_29 i7_30 i7_31 i7_32 i7_33 i7_34 i7_35 i7_36 i7_37 i7_38 i7_39 i7_40 i7_41 i7_42 i7_43 i7_44 i7_45 i7_46 i7_47 i7_48 i7_49 i7_50 i7_51 i7_52 i7_53 i7_54 i7_55 i7_56 i7_57 i7_58 i7_59 i7_60 i7_61 i7_62 i7_63 i7_64 i7_65 i7_66 i7_67 i7_68 i7_69 i7_70 i7_71 i7_72 i7_73 i7_74 i7_75 i7_76 i7_77 i7_78 i7_79 i7_80 i7_81 i7_82 i7_83 i7_84 i7_85 i7_86 i7_87 i7_88 i7_89 i7_90 i7_91 i7_92 i7_93 i7_94 i7_95 i7_96 i7_97 i7_98 i7_99 i7_100 i7_101 i7_102 i7_103 i7_104 i7_105 i7_106 i7_107 i7_108 i7_109 i7_110 i7_111 i7_112 i7_113 i7_114 i7_115 i7_116 i7_117 i7_118 : Value) (W7 : World), SB W7 B (scCs t.pa (.slice xpa t.pa.params.length xpc) (.slice xqa t.pa.text.length xqc) (.slice none 0 0) (.slice none 0 0) { t with gc := (cn : Int), oc := (cn : Int), row := min (max d7 0) ((nn : Int) - 1) } ⟨.slice u1a nn u1c, .slice u2a u2n u2c, .slice xta t.ti.length xtc, .slice xpa t.pa.params.length xpc, .slice xqa t.pa.text.length xqc⟩) → W3.grownBy W7 (some B) → K7 { tmps := #[i7_0, i7_1, i7_2, i7_3, i7_4, i7_5, .pointer (some ⟨w.heap.size + 1, 0, none⟩), i7_7, i7_8, .pointer (some ⟨B, 0, none⟩), i7_10, i7_11, i7_12, i7_13, i7_14, i7_15, i7_16, i7_17, i7_18, i7_19, i7_20, i7_21, i7_22, i7_23, i7_24, i7_25, i7_26, i7_27, i7_28, i7_29, i7_30, i7_31, i7_32, i7_33, i7_34, i7_35, i7_36, i7_37, i7_38, i7_39, i7_40, i7_41, i7_42, i7_43, i7_44, i7_45, i7_46, i7_47, i7_48, i7_49, i7_50, i7_51, i7_52, i7_53, i7_54, i7_55, i7_56, i7_57, i7_58, i7_59, i7_60, i7_61, i7_62, i7_63, i7_64, i7_65, i7_66, i7_67, i7_68, i7_69, i7_70, i7_71, i7_72, i7_73, i7_74, i7_75, i7_76, i7_77, i7_78, i7_79, i7_80, i7_81, i7_82, i7_83, i7_84, i7_85, i7_86, i7_87, i7_88, i7_89, i7_90, i7_91, i7_92, i7_93, i7_94, i7_95, i7_96, i7_97, i7_98, i7_99, i7_100, i7_101, i7_102, i7_103, i7_104, i7_105, i7_106, i7_107, i7_108, i7_109, i7_110, i7_111, i7_112, i7_113, i7_114, i7_115, i7_116, i7_117, i7_118], defers := [] } W7) := by
    intro i7_0 i7_1 i7_2 i7_3 i7_4 i7_5 i7_7 i7_8 i7_10 i7_11 i7_12 i7_13 i7_14 i7_15 i7_16 i7_17 i7_18 i7_19 i7_20 i7_21 i7_22 i7_23 i7_24 i7_25 i7_26 i7_27 i7_28 i7_29 i7_30 i7_31 i7_32 i7_33 i7_34 i7_35 i7_36 i7_37 i7_38 i7_39 i7_40 i7_41 i7_42 i7_43 i7_44 i7_45 i7_46 i7_47 i7_48 i7_49 i7_50 i7_51 i7_52 i7_53 i7_54 i7_55 i7_56 i7_57 i7_58 i7_59 i7_60 i7_61 i7_62 i7_63 i7_64 i7_65 i7_66 i7_67 i7_68 i7_69 i7_70 i7_71 i7_72 i7_73 i7_74 i7_75 i7_76 i7_77 i7_78 i7_79 i7_80 i7_81 i7_82 i7_83 i7_84 i7_85 i7_86 i7_87 i7_88 i7_89 i7_90 i7_91 i7_92 i7_93 i7_94 i7_95 i7_96 i7_97 i7_98 i7_99 i7_100 i7_101 i7_102 i7_103 i7_104 i7_105 i7_106 i7_107 i7_108 i7_109 i7_110 i7_111 i7_112 i7_113 i7_114 i7_115 i7_116 i7_117 i7_118 W7 hB7 hgr7
    refine hK7.out _ _ ?_
    clear hK7 hB6 hgr6
    go_wp2
    rename_i K8 hK8
    replace hK8 := (show Hid _ from hK8)
    have hcut8 : Hid (∀ (i8_0 i8_1 i8_2 i8_3 i8_4 i8_5 i8_7 i8_8 i8_10 i8_11 i8_12 i8_13 i8_14 i8_15 i8_16 i8_17 i8_18 i8_19 i8_20 i8_21 i8_22 i8_23 i8_24 i8_25 i8_26 i8_27 i8_28 i8_29 i8_30 i8_31 i8_32 i8_33 i8_34 i8_35 i8_36 i8_37 i8_38 i8_39 i8_40 i8_41 i8_42 i8_43 i8_44 i8_45 i8_46 i8_47 i8_48 i8_49 i8_50 i8_51 i8_52 i8_53 i8_54 i8_55 i8_56 i8_57 i8_58 i8_59 i8_60 i8_61 i8_62 i8_63 i8_64 i8_65 i8_66 i8_67 i8_68 i8_69 i8_70 i8_71 i8_72 i8_73 i8_74 i8_75 i8_76 i8_77 i8_78 i8_79 i8_80 i8_81 i8_82 i8_83 i8_84 i8_85 i8_86 i8_87 i8_88 i8_89 i8_90 i8_91 i8_92 i8_93 i8_94 i8_95 i8_96 i8_97 i8_98 i8_99 i8_100 i8_101 i8_102 i8_103 i8_104 i8_105 i8_106 i8_107 i8_108 i8_109 i8_110 i8_111 i8_112 i8_113 i8_114 i8_115 i8_116 i8_117 i8_118 : Value) (W8 : World), SB W8 B (scCs t.pa (.slice xpa t.pa.params.length xpc) (.slice xqa t.pa.text.length xqc) (.slice none 0 0) (.slice none 0 0) { t with gc := (cn : Int), oc := (cn : Int), row := min (max d7 0) ((nn : Int) - 1), col := min t.col ((cn : Int) - 1) } ⟨.slice u1a nn u1c, .slice u2a u2n u2c, .slice xta t.ti.length xtc, .slice xpa t.pa.params.length xpc, .slice xqa t.pa.text.length xqc⟩) → W3.grownBy W8 (some B) → K8 { tmps := #[i8_0, i8_1, i8_2, i8_3, i8_4, i8_5, .pointer (some ⟨w.heap.size + 1, 0, none⟩), i8_7, i8_8, .pointer (some ⟨B, 0, none⟩), i8_10, i8_11, i8_12, i8_13, i8_14, i8_15, i8_16, i8_17, i8_18, i8_19, i8_20, i8_21, i8_22, i8_23, i8_24, i8_25, i8_26, i8_27, i8_28, i8_29, i8_30, i8_31, i8_32, i8_33, i8_34, i8_35, i8_36, i8_37, i8_38, i8_39, i8_40, i8_41, i8_42, i8_43, i8_44, i8_45, i8_46, i8_47, i8_48, i8_49, i8_50, i8_51, i8_52, i8_53, i8_54, i8_55, i8_56, i8_57, i8_58, i8_59, i8_60, i8_61, i8_62, i8_63, i8_64, i8_65, i8_66, i8_67, i8_68, i8_69, i8_70, i8_71, i8_72, i8_73, i8_74, i8_75, i8_76, i8_77, i8_78, i8_79, i8_80, i8_81, i8_82, i8_83, i8_84, i8_85, i8_86, i8_87, i8_88, i8_89, i8_90, i8_91, i8_92, i8_93, i8_94, i8_95, i8_96, i8_97, i8_98, i8_99, i8_100, i8_101, i8_102, i8_103, i8_104, i8_105, i8_106, i8_107, i8_108, i8_109, i8_110, i8_111, i8_112, i8_113, i8_114, i8_115, i8_116, i8_117, i8_118], defers := [] } W8) := by
      intro i8_0 i8_1 i8_2 i8_3 i8_4 i8_5 i8_7 i8_8 i8_10 i8_11 i8_12 i8_13 i8_14 i8_15 i8_16 i8_17 i8_18 i8_19 i8_20 i8_21 i8_22 i8_23 i8_24 i8_25 i8_26 i8_27 i8_28 i8_29 i8_30 i8_31 i8_32 i8_33 i8_34 i8_35 i8_36 i8_37 i8_38 i8_39 i8_40 i8_41 i8_42 i8_43 i8_44 i8_45 i8_46 i8_47 i8_48 i8_49 i8_50 i8_51 i8_52 i8_53 i8_54 i8_55 i8_56 i8_57 i8_58 i8_59 i8_60 i8_61 i8_62 i8_63 i8_64 i8_65 i8_66 i8_67 i8_68 i8_69 i8_70 i8_71 i8_72 i8_73 i8_74 i8_75 i8_76 i8_77 i8_78 i8_79 i8_80 i8_81 i8_82 i8_83 i8_84 i8_85 i8_86 i8_87 i8_88 i8_89 i8_90 i8_91 i8_92 i8_93 i8_94 i8_95 i8_96 i8_97 i8_98 i8_99 i8_100 i8_101 i8_102 i8_103 i8_104 i8_105 i8_106 i8_107 i8_108 i8_109 i8_110 i8_111 i8_112 i8_113 i8_114 i8_115 i8_116 i8_117 i8_118 W8 hB8 hgr8
      refine hK8.out _ _ ?_
      clear hK8 hB7 hgr7 i7_0 i7_1 i7_2 i7_3 i7_4 i7_5 i7_7 i7_8 i7_10 i7_11 i7_12 i7_13 i7_14 i7_15 i7_16 i7_17 i7_18 i7_19 i7_20 i7_21 i7_22 i7_23 i7_24 i7_25 i7_26 i7_27 i7_28 i7_29 i7_30 i7_31 i7_32 i7_33 i7_34 i7_35 i7_36 i7_37 i7_38 i7_39 i7_40 i7_41 i7_42 i7_43 i7_44 i7_45 i7_46 i7_47 i7_48 i7_49 i7_50 i7_51 i7_52 i7_53 i7_54 i7_55 i7_56 i7_57 i7_58 i7_59 i7_60 i7_61 i7_62 i7_63 i7_64 i7_65 i7_66 i7_67 i7_68 i7_69 i7_70 i7_71 i7_72 i7_73 i7_74 i7_75 i7_76 i7_77 i7_78 i7_79 i7_80 i7_81 i7_82 i7_83 i7_84 i7_85 i7_86 i7_87 i7_88 i7_89 i7_90 i7_91 i7_92 i7_93 i7_94 i7_95 i7_96 i7_97 i7_98 i7_99 i7_100 i7_101 i7_102 i7_103 i7_104 i7_105 i7_106 i7_107 i7_108 i7_109 i7_110 i7_111 i7_112 i7_113 i7_114 i7_115 i7_116 i7_117 i7_118
      go_wp2
      rename_i K9 hK9
      replace hK9 := (show Hid _ from hK9)
      have hcut9 : Hid (∀ (i9_0 i9_1 i9_2 i9_3 i9_4 i9_5 i9_7 i9_8 i9_10 i9_11 i9_12 i9_13 i9_14 i9_15 i9_16 i9_17 i9_18 i9_19 i9_20 i9_21 i9_22 i9_23 i9_24 i9_25 i9_26 i9_27 i9_28 i9_29 i9_30 i9_31 i9_32 i9_33 i9_34 i9_35 i9_36 i9_37 i9_38 i9_39 i9_40 i9_41 i9_42 i9_43 i9_44 i9_45 i9_46 i9_47 i9_48 i9_49 i9_50 i9_51 i9_52 i9_53 i9_54 i9_55 i9_56 i9_57 i9_58 i9_59 i9_60 i9_61 i9_62 i9_63 i9_64 i9_65 i9_66 i9_67 i9_68 i9_69 i9_70 i9_71 i9_72 i9_73 i9_74 i9_75 i9_76 i9_77 i9_78 i9_79 i9_80 i9_81 i9_82 i9_83 i9_84 i9_85 i9_86 i9_87 i9_88 i9_89 i9_90 i9_91 i9_92 i9_93 i9_94 i9_95 i9_96 i9_97 i9_98 i9_99 i9_100 i9_101 i9_102 i9_103 i9_104 i9_105 i9_106 i9_107 i9_108 i9_109 i9_110 i9_111 i9_112 i9_113 i9_114 i9_115 i9_116 i9_117 i9_118 : Value) (W9 : World), SB W9 B (scCs t.pa (.slice xpa t.pa.params.length xpc) (.slice xqa t.pa.text.length xqc) (.slice none 0 0) (.slice none 0 0) { t with gc := (cn : Int), oc := (cn : Int), row := min (max d7 0) ((nn : Int) - 1), col := min t.col ((cn : Int) - 1), sr := min t.sr ((nn : Int) - 1) } ⟨.slice u1a nn u1c, .slice u2a u2n u2c, .slice xta t.ti.length xtc, .slice xpa t.pa.params.length xpc, .slice xqa t.pa.text.length xqc⟩) → W3.grownBy W9 (some B) → K9 { tmps := #[i9_0, i9_1, i9_2, i9_3, i9_4, i9_5, .pointer (some ⟨w.heap.size + 1, 0, none⟩), i9_7, i9_8, .pointer (some ⟨B, 0, none⟩), i9_10, i9_11, i9_12, i9_13, i9_14, i9_15, i9_16, i9_17, i9_18, i9_19, i9_20, i9_21, i9_22, i9_23, i9_24, i9_25, i9_26, i9_27, i9_28, i9_29, i9_30, i9_31, i9_32, i9_33, i9_34, i9_35, i9_36, i9_37, i9_38, i9_39, i9_40, i9_41, i9_42, i9_43, i9_44, i9_45, i9_46, i9_47, i9_48, i9_49, i9_50, i9_51, i9_52, i9_53, i9_54, i9_55, i9_56, i9_57, i9_58, i9_59, i9_60, i9_61, i9_62, i9_63, i9_64, i9_65, i9_66, i9_67, i9_68, i9_69, i9_70, i9_71, i9_72, i9_73, i9_74, i9_75, i9_76, i9_77, i9_78, i9_79, i9_80, i9_81, i9_82, i9_83, i9_84, i9_85, i9_86, i9_87, i9_88, i9_89, i9_90, i9_91, i9_92, i9_93, i9_94, i9_95, i9_96, i9_97, i9_98, i9_99, i9_100, i9_101, i9_102, i9_103, i9_104, i9_105, i9_106, i9_107, i9_108, i9_109, i9_110, i9_111, i9_112, i9_113, i9_114, i9_115, i9_116, i9_117, i9_118], defers := [] } W9) := by
        intro i9_0 i9_1 i9_2 i9_3 i9_4 i9_5 i9_7 i9_8 i9_10 i9_11 i9_12 i9_13 i9_14 i9_15 i9_16 i9_17 i9_18 i9_19 i9_20 i9_21 i9_22 i9_23 i9_24 i9_25 i9_26 i9_27 i9_28 i9_29 i9_30 i9_31 i9_32 i9_33 i9_34 i9_35 i9_36 i9_37 i9_38 i9_39 i9_40 i9_41 i9_42 i9_43 i9_44 i9_45 i9_46 i9_47 i9_48 i9_49 i9_50 i9_51 i9_52 i9_53 i9_54 i9_55 i9_56 i9_57 i9_58 i9_59 i9_60 i9_61 i9_62 i9_63 i9_64 i9_65 i9_66 i9_67 i9_68 i9_69 i9_70 i9_71 i9_72 i9_73 i9_74 i9_75 i9_76 i9_77 i9_78 i9_79 i9_80 i9_81 i9_82 i9_83 i9_84 i9_85 i9_86 i9_87 i9_88 i9_89 i9_90 i9_91 i9_92 i9_93 i9_94 i9_95 i9_96 i9_97 i9_98 i9_99 i9_100 i9_101 i9_102 i9_103 i9_104 i9_105 i9_106 i9_107 i9_108 i9_109 i9_110 i9_111 i9_112 i9_113 i9_114 i9_115 i9_116 i9_117 i9_118 W9 hB9 hgr9
        refine hK9.out _ _ ?_
        clear hK9 hB8 hgr8 i8_0 i8_1 i8_2 i8_3 i8_4 i8_5 i8_7 i8_8 i8_10 i8_11 i8_12 i8_13 i8_14 i8_15 i8_16 i8_17 i8_18 i8_19 i8_20 i8_21 i8_22 i8_23 i8_24 i8_25 i8_26 i8_27 i8_28 i8_29 i8_30 i8_31 i8_32 i8_33 i8_34 i8_35 i8_36 i8_37 i8_38 i8_39 i8_40 i8_41 i8_42 i8_43 i8_44 i8_45 i8_46 i8_47 i8_48 i8_49 i8_50 i8_51 i8_52 i8_53 i8_54 i8_55 i8_56 i8_57 i8_58 i8_59 i8_60 i8_61 i8_62 i8_63 i8_64 i8_65 i8_66 i8_67 i8_68 i8_69 i8_70 i8_71 i8_72 i8_73 i8_74 i8_75 i8_76 i8_77 i8_78 i8_79 i8_80 i8_81 i8_82 i8_83 i8_84 i8_85 i8_86 i8_87 i8_88 i8_89 i8_90 i8_91 i8_92 i8_93 i8_94 i8_95 i8_96 i8_97 i8_98 i8_99 i8_100 i8_101 i8_102 i8_103 i8_104 i8_105 i8_106 i8_107 i8_108 i8_109 i8_110 i8_111 i8_112 i8_113 i8_114 i8_115 i8_116 i8_117 i8_118
        go_wp2
        rename_i K10 hK10
        replace hK10 := (show Hid _ from hK10)
        have hcut10 : Hid (∀ (i10_0 i10_1 i10_2 i10_3 i10_4 i10_5 i10_7 i10_8 i10_10 i10_11 i10_12 i10_13 i10_14 i10_15 i10_16 i10_17 i10_18 i10_19 i10_20 i10_21 i10_22 i10_23 i10_24 i10_25 i10_26 i10_27 i10_28 i10_29 i10_30 i10_31 i10_32 i10_33 i10_34 i10_35 i10_36 i10_37 i10_38 i10_39 i10_40 i10_41 i10_42 i10_43 i10_44 i10_45 i10_46 i10_47 i10_48 i10_49 i10_50 i10_51 i10_52 i10_53 i10_54 i10_55 i10_56 i10_57 i10_58 i10_59 i10_60 i10_61 i10_62 i10_63 i10_64 i10_65 i10_66 i10_67 i10_68 i10_69 i10_70 i10_71 i10_72 i10_73 i10_74 i10_75 i10_76 i10_77 i10_78 i10_79 i10_80 i10_81 i10_82 i10_83 i10_84 i10_85 i10_86 i10_87 i10_88 i10_89 i10_90 i10_91 i10_92 i10_93 i10_94 i10_95 i10_96 i10_97 i10_98 i10_99 i10_100 i10_101 i10_102 i10_103 i10_104 i10_105 i10_106 i10_107 i10_108 i10_109 i10_110 i10_111 i10_112 i10_113 i10_114 i10_115 i10_116 i10_117 i10_118 : Value) (W10 : World), SB W10 B (scCs t.pa (.slice xpa t.pa.params.length xpc) (.slice xqa t.pa.text.length xqc) (.slice none 0 0) (.slice none 0 0) { t with gc := (cn : Int), oc := (cn : Int), row := min (max d7 0) ((nn : Int) - 1), col := min t.col ((cn : Int) - 1), sr := min t.sr ((nn : Int) - 1), sc := min t.sc ((cn : Int) - 1) } ⟨.slice u1a nn u1c, .slice u2a u2n u2c, .slice xta t.ti.length xtc, .slice xpa t.pa.params.length xpc, .slice xqa t.pa.text.length xqc⟩) → W3.grownBy W10 (some B) → K10 { tmps := #[i10_0, i10_1, i10_2, i10_3, i10_4, i10_5, .pointer (some ⟨w.heap.size + 1, 0, none⟩), i10_7, i10_8, .pointer (some ⟨B, 0, none⟩), i10_10, i10_11, i10_12, i10_13, i10_14, i10_15, i10_16, i10_17, i10_18, i10_19, i10_20, i10_21, i10_22, i10_23, i10_24, i10_25, i10_26, i10_27, i10_28, i10_29, i10_30, i10_31, i10_32, i10_33, i10_34, i10_35, i10_36, i10_37, i10_38, i10_39, i10_40, i10_41, i10_42, i10_43, i10_44, i10_45, i10_46, i10_47, i10_48, i10_49, i10_50, i10_51, i10_52, i10_53, i10_54, i10_55, i10_56, i10_57, i10_58, i10_59, i10_60, i10_61, i10_62, i10_63, i10_64, i10_65, i10_66, i10_67, i10_68, i10_69, i10_70, i10_71, i10_72, i10_73, i10_74, i10_75, i10_76, i10_77, i10_78, i10_79, i10_80, i10_81, i10_82, i10_83, i10_84, i10_85, i10_86, i10_87, i10_88, i10_89, i10_90, i10_91, i10_92, i10_93, i10_94, i10_95, i10_96, i10_97, i10_98, i10_99, i10_100, i10_101, i10_102, i10_103, i10_104, i10_105, i10_106, i10_107, i10_108, i10_109, i10_110, i10_111, i10_112, i10_113, i10_114, i10_115, i10_116, i10_117, i10_118], defers := [] } W10) := by
          intro i10_0 i10_1 i10_2 i10_3 i10_4 i10_5 i10_7 i10_8 i10_10 i10_11 i10_12 i10_13 i10_14 i10_15 i10_16 i10_17 i10_18 i10_19 i10_20 i10_21 i10_22 i10_23 i10_24 i10_25 i10_26 i10_27 i10_28 i10_29 i10_30 i10_31 i10_32 i10_33 i10_34 i10_35 i10_36 i10_37 i10_38 i10_39 i10_40 i10_41 i10_42 i10_43 i10_44 i10_45 i10_46 i10_47 i10_48 i10_49 i10_50 i10_51 i10_52 i10_53 i10_54 i10_55 i10_56 i10_57 i10_58 i10_59 i10_60 i10_61 i10_62 i10_63 i10_64 i10_65 i10_66 i10_67 i10_68 i10_69 i10_70 i10_71 i10_72 i10_73 i10_74 i10_75 i10_76 i10_77 i10_78 i10_79 i10_80 i10_81 i10_82 i10_83 i10_84 i10_85 i10_86 i10_87 i10_88 i10_89 i10_90 i10_91 i10_92 i10_93 i10_94 i10_95 i10_96 i10_97 i10_98 i10_99 i10_100 i10_101 i10_102 i10_103 i10_104 i10_105 i10_106 i10_107 i10_108 i10_109 i10_110 i10_111 i10_112 i10_113 i10_114 i10_115 i10_116 i10_117 i10_118 W10 hB10 hgr10
          refine hK10.out _ _ ?_
          clear hK10 hB9 hgr9 i9_0 i9_1 i9_2 i9_3 i9_4 i9_5 i9_7 i9_8 i9_10 i9_11 i9_12 i9_13 i9_14 i9_15 i9_16 i9_17 i9_18 i9_19 i9_20 i9_21 i9_22 i9_23 i9_24 i9_25 i9_26 i9_27 i9_28 i9_29 i9_30 i9_31 i9_32 i9_33 i9_34 i9_35 i9_36 i9_37 i9_38 i9_39 i9_40 i9_41 i9_42 i9_43 i9_44 i9_45 i9_46 i9_47 i9_48 i9_49 i9_50 i9_51 i9_52 i9_53 i9_54 i9_55 i9_56 i9_57 i9_58 i9_59 i9_60 i9_61 i9_62 i9_63 i9_64 i9_65 i9_66 i9_67 i9_68 i9_69 i9_70 i9_71 i9_72 i9_73 i9_74 i9_75 i9_76 i9_77 i9_78 i9_79 i9_80 i9_81 i9_82 i9_83 i9_84 i9_85 i9_86 i9_87 i9_88 i9_89 i9_90 i9_91 i9_92 i9_93 i9_94 i9_95 i9_96 i9_97 i9_98 i9_99 i9_100 i9_101 i9_102 i9_103 i9_104 i9_105 i9_106 i9_107 i9_108 i9_109 i9_110 i9_111 i9_112 i9_113 i9_114 i9_115 i9_116 i9_117 i9_118
          have cR := lastRow_any B u1a nn u1c W10 (cells_all hB10 7) (by omega)
          go_wp2_with fail
          refine cR.mono ?_
          rintro e wk ⟨rfl, hw⟩
          subst hw
          clear cR
          go_wp2_with (first
            | (refine store_at (by rfl) 2 _ _ (by rfl) inf_i hB10 (by rfl) (by rfl) (by rfl) (by rfl) (by rfl) ?_; intro W11 hg11 hB11 hz11)
            | (refine store_at (by rfl) 2 _ _ (by rfl) inf_i hB11 (by rfl) (by rfl) (by rfl) (by rfl) (by rfl) ?_; intro W12 hg12 hB12 hz12)
            | (refine store_at (by rfl) 4 _ _ (by rfl) inf_b hB12 (by rfl) (by rfl) (by rfl) (by rfl) (by rfl) ?_; intro W13 hg13 hB13 hz13))
          have hBs : SB W13 B (scCs t.pa (.slice xpa t.pa.params.length xpc) (.slice xqa t.pa.text.length xqc) (.slice none 0 0) (.slice none 0 0) { t with gc := (cn : Int), oc := (cn : Int), row := min (max d7 0) ((nn : Int) - 1), col := min t.col ((cn : Int) - 1), sr := min t.sr ((nn : Int) - 1), sc := min t.sc ((cn : Int) - 1), top := 0, bot := (nn : Int) - 1, full := false } ⟨.slice u1a nn u1c, .slice u2a u2n u2c, .slice xta t.ti.length xtc, .slice xpa t.pa.params.length xpc, .slice xqa t.pa.text.length xqc⟩) := hB13
          have hgA : W3.grownBy W13 (some B) := grown_tr hgr10 (grown_tr hg11 (grown_tr hg12 hg13))
          clear hgr10 hg11 hg12 hg13 hB11 hB12 hB13 hz11 hz12 hz13 hB10
          refine (seen_any B t.pa _ _ { t with gc := (cn : Int), oc := (cn : Int), row := min (max d7 0) ((nn : Int) - 1), col := min t.col ((cn : Int) - 1), sr := min t.sr ((nn : Int) - 1), sc := min t.sc ((cn : Int) - 1), top := 0, bot := (nn : Int) - 1, full := false } _ _ _ _ _ _ _ _ _ _ _ _ _ _ _ _ _ W13 hBs).mono ?_
          rintro e W14 ⟨rfl, hB14, hg14⟩
          have hgF : W3.grownBy W14 (some B) := grown_tr hgA hg14
          obtain ⟨k, pG, pO, hap, hL, hB⟩ := hAll.out
          have q1 : min (max d7 0) ((nn : Int) - 1) = min ((nn : Int) - 1) (max 0 (t.row - max 0 ((t.g.length : Int) - nn))) := by have := e7.out; have := e1.out; omega
          have q2 : min t.col ((cn : Int) - 1) = min ((cn : Int) - 1) t.col := by omega
          have q3 : min t.sr ((nn : Int) - 1) = min ((nn : Int) - 1) t.sr := by omega
          have q4 : min t.sc ((cn : Int) - 1) = min ((cn : Int) - 1) t.sc := by omega
          have hcells : Hid (teCs { t with gc := (cn : Int), oc := (cn : Int), row := min (max d7 0) ((nn : Int) - 1), col := min t.col ((cn : Int) - 1), sr := min t.sr ((nn : Int) - 1), sc := min t.sc ((cn : Int) - 1), top := 0, bot := (nn : Int) - 1, full := false } ⟨.slice u1a nn u1c, .slice u2a u2n u2c, .slice xta t.ti.length xtc, .slice xpa t.pa.params.length xpc, .slice xqa t.pa.text.length xqc⟩ = teCs (refitM t cn nn) ⟨.slice u1a nn u1c, .slice u2a u2n u2c, .slice xta t.ti.length xtc, .slice xpa t.pa.params.length xpc, .slice xqa t.pa.text.length xqc⟩) := by
            show _ = _
            unfold refitM teCs
            simp only [q1, q2, q3, q4]
          have kF := k.grown hgF hBz
          have hO3 : OwnS W3 w.heap.size (refitM t cn nn) ⟨.slice u1a nn u1c, .slice u2a u2n u2c, .slice xta t.ti.length xtc, .slice xpa t.pa.params.length xpc, .slice xqa t.pa.text.length xqc⟩ vs1 vs2 := ⟨ownV_low pG (by omega), ownV_low pO (by omega), hap, hL.low (by have := k.k.size; omega)⟩
          have hO14 := hO3.grown hgF hB (by decide) (by decide) (by decide)
          clear q1 q2 q3 q4 hgA hg14 hB14 hBs hO3 pG pO hap hL
          go_wp2_with (refine store_T (cs := teCs { t with gc := (cn : Int), oc := (cn : Int), row := min (max d7 0) ((nn : Int) - 1), col := min t.col ((cn : Int) - 1), sr := min t.sr ((nn : Int) - 1), sc := min t.sc ((cn : Int) - 1), top := 0, bot := (nn : Int) - 1, full := false } ⟨.slice u1a nn u1c, .slice u2a u2n u2c, .slice xta t.ti.length xtc, .slice xpa t.pa.params.length xpc, .slice xqa t.pa.text.length xqc⟩) (by rfl) 45 _ _ (by rfl) info_te (by rfl) (by rfl) kF.r (by rfl) (by rfl) ?_; intro w15 hg15 hR15 hz15)
          rw [hcells.out] at hR15
          have hO15 := hO14.grown hg15 kF.r (by decide) (by decide) (by decide)
          exact bodyPost_ret (v := .agg (teCs (refitM t cn nn) ⟨.slice u1a nn u1c, .slice u2a u2n u2c, .slice xta t.ti.length xtc, .slice xpa t.pa.params.length xpc, .slice xqa t.pa.text.length xqc⟩)) (results_cell_row Tryz.results20 _ _ _ _ _ _ _ rfl hR15 Tryz.underlying45 rfl info_te) rfl ⟨_, vs1, vs2, by rw [hV.out], by rw [hV.out]; exact hO15, kF.k.grown hg15 kF.k.size (fun g e => by cases e; omega)⟩
        have d : W9.cell? ⟨B, 24, none⟩ = some (.int .i64 t.sc) := cells_all hB9 24
        have z : W9.frozen? ⟨B, 24, none⟩ = false := frozen_of_row _ _ _ _ _ hB9
        have cR := lastCol_any B (cn : Int) W9.drew (cells_all hB9 6) (by omega)
        have hN10 : Hid (SB (W9.setCell ⟨B, 24, none⟩ (.int .i64 (min t.sc ((cn : Int) - 1)))).drew B (scCs t.pa (.slice xpa t.pa.params.length xpc) (.slice xqa t.pa.text.length xqc) (.slice none 0 0) (.slice none 0 0) { t with gc := (cn : Int), oc := (cn : Int), row := min (max d7 0) ((nn : Int) - 1), col := min t.col ((cn : Int) - 1), sr := min t.sr ((nn : Int) - 1), sc := min t.sc ((cn : Int) - 1) } ⟨.slice u1a nn u1c, .slice u2a u2n u2c, .slice xta t.ti.length xtc, .slice xpa t.pa.params.length xpc, .slice xqa t.pa.text.length xqc⟩) ∧ W3.grownBy (W9.setCell ⟨B, 24, none⟩ (.int .i64 (min t.sc ((cn : Int) - 1)))).drew (some B)) := ⟨BlkC.below (setCells_heap B 90 [.int .i64 (min t.sc ((cn : Int) - 1))] 24 W9 _ hB9) (bdr _), grown_tr hgr9 (grown_tr (setCells_gr B [.int .i64 (min t.sc ((cn : Int) - 1))] 24 W9) (gbl (bdr _) (some B)))⟩
        clear hB9 hgr9 
        replace hcut10 : Hid (∀ (i10_0 i10_1 i10_2 i10_3 i10_4 i10_5 i10_7 i10_8 i10_10 i10_11 i10_12 i10_13 i10_14 i10_15 i10_16 i10_17 i10_18 i10_19 i10_20 i10_21 i10_22 i10_23 i10_24 i10_25 i10_26 i10_27 i10_28 i10_29 i10_30 i10_31 i10_32 i10_33 i10_34 i10_35 i10_36 i10_37 i10_38 i10_39 i10_40 i10_41 i10_42 i10_43 i10_44 i10_45 i10_46 i10_47 i10_48 i10_49 i10_50 i10_51 i10_52 i10_53 i10_54 i10_55 i10_56 i10_57 i10_58 i10_59 i10_60 i10_61 i10_62 i10_63 i10_64 i10_65 i10_66 i10_67 i10_68 i10_69 i10_70 i10_71 i10_72 i10_73 i10_74 i10_75 i10_76 i10_77 i10_78 i10_79 i10_80 i10_81 i10_82 i10_83 i10_84 i10_85 i10_86 i10_87 i10_88 i10_89 i10_90 i10_91 i10_92 i10_93 i10_94 i10_95 i10_96 i10_97 i10_98 i10_99 i10_100 i10_101 i10_102 i10_103 i10_104 i10_105 i10_106 i10_107 i10_108 i10_109 i10_110 i10_111 i10_112 i10_113 i10_114 i10_115 i10_116 i10_117 i10_118 : Value), K10 { tmps := #[i10_0, i10_1, i10_2, i10_3, i10_4, i10_5, .pointer (some ⟨w.heap.size + 1, 0, none⟩), i10_7, i10_8, .pointer (some ⟨B, 0, none⟩), i10_10, i10_11, i10_12, i10_13, i10_14, i10_15, i10_16, i10_17, i10_18, i10_19, i10_20, i10_21, i10_22, i10_23, i10_24, i10_25, i10_26, i10_27, i10_28, i10_29, i10_30, i10_31, i10_32, i10_33, i10_34, i10_35, i10_36, i10_37, i10_38, i10_39, i10_40, i10_41, i10_42, i10_43, i10_44, i10_45, i10_46, i10_47, i10_48, i10_49, i10_50, i10_51, i10_52, i10_53, i10_54, i10_55, i10_56, i10_57, i10_58, i10_59, i10_60, i10_61, i10_62, i10_63, i10_64, i10_65, i10_66, i10_67, i10_68, i10_69, i10_70, i10_71, i10_72, i10_73, i10_74, i10_75, i10_76, i10_77, i10_78, i10_79, i10_80, i10_81, i10_82, i10_83, i10_84, i10_85, i10_86, i10_87, i10_88, i10_89, i10_90, i10_91, i10_92, i10_93, i10_94, i10_95, i10_96, i10_97, i10_98, i10_99, i10_100, i10_101, i10_102, i10_103, i10_104, i10_105, i10_106, i10_107, i10_108, i10_109, i10_110, i10_111, i10_112, i10_113, i10_114, i10_115, i10_116, i10_117, i10_118], defers := [] } (W9.setCell ⟨B, 24, none⟩ (.int .i64 (min t.sc ((cn : Int) - 1)))).drew) := fun i10_0 i10_1 i10_2 i10_3 i10_4 i10_5 i10_7 i10_8 i10_10 i10_11 i10_12 i10_13 i10_14 i10_15 i10_16 i10_17 i10_18 i10_19 i10_20 i10_21 i10_22 i10_23 i10_24 i10_25 i10_26 i10_27 i10_28 i10_29 i10_30 i10_31 i10_32 i10_33 i10_34 i10_35 i10_36 i10_37 i10_38 i10_39 i10_40 i10_41 i10_42 i10_43 i10_44 i10_45 i10_46 i10_47 i10_48 i10_49 i10_50 i10_51 i10_52 i10_53 i10_54 i10_55 i10_56 i10_57 i10_58 i10_59 i10_60 i10_61 i10_62 i10_63 i10_64 i10_65 i10_66 i10_67 i10_68 i10_69 i10_70 i10_71 i10_72 i10_73 i10_74 i10_75 i10_76 i10_77 i10_78 i10_79 i10_80 i10_81 i10_82 i10_83 i10_84 i10_85 i10_86 i10_87 i10_88 i10_89 i10_90 i10_91 i10_92 i10_93 i10_94 i10_95 i10_96 i10_97 i10_98 i10_99 i10_100 i10_101 i10_102 i10_103 i10_104 i10_105 i10_106 i10_107 i10_108 i10_109 i10_110 i10_111 i10_112 i10_113 i10_114 i10_115 i10_116 i10_117 i10_118 => hcut10.out i10_0 i10_1 i10_2 i10_3 i10_4 i10_5 i10_7 i10_8 i10_10 i10_11 i10_12 i10_13 i10_14 i10_15 i10_16 i10_17 i10_18 i10_19 i10_20 i10_21 i10_22 i10_23 i10_24 i10_25 i10_26 i10_27 i10_28 i10_29 i10_30 i10_31 i10_32 i10_33 i10_34 i10_35 i10_36 i10_37 i10_38 i10_39 i10_40 i10_41 i10_42 i10_43 i10_44 i10_45 i10_46 i10_47 i10_48 i10_49 i10_50 i10_51 i10_52 i10_53 i10_54 i10_55 i10_56 i10_57 i10_58 i10_59 i10_60 i10_61 i10_62 i10_63 i10_64 i10_65 i10_66 i10_67 i10_68 i10_69 i10_70 i10_71 i10_72 i10_73 i10_74 i10_75 i10_76 i10_77 i10_78 i10_79 i10_80 i10_81 i10_82 i10_83 i10_84 i10_85 i10_86 i10_87 i10_88 i10_89 i10_90 i10_91 i10_92 i10_93 i10_94 i10_95 i10_96 i10_97 i10_98 i10_99 i10_100 i10_101 i10_102 i10_103 i10_104 i10_105 i10_106 i10_107 i10_108 i10_109 i10_110 i10_111 i10_112 i10_113 i10_114 i10_115 i10_116 i10_117 i10_118 _ hN10.out.1 hN10.out.2
        clear hN10 hAll e1 e7 hn1 hn2 hnw' hBz q4 hV hSp
        refine wp_region_noPanic ?_
        refine wp_region_held_drew (S := (fun _ => True)) (by kernel_rfl) trivial (fun hHeld => ?_)
        refine' wpAnyH_take (i := 0) (v := _) rfl (by kernel_rfl) (by kernel_rfl) (by kernel_rfl) (fun _ _ _ h => h) (Or.inl ⟨by rfl, ?hy1001⟩) hHeld ?hr1001
        case hy1001 => (intro w hSw; (try dsimp only at hSw); go_simp; (try with_reducible rfl))
        simp only [Act.put, List.setIfInBounds_toArray, List.set_cons_zero, List.set_cons_succ, List.getElem_toArray, List.getElem_cons_zero]
        refine' wpAnyH_take (i := 1) (v := _) rfl (by kernel_rfl) (by kernel_rfl) (by kernel_rfl) (fun _ _ _ h => h) (Or.inl ⟨by rfl, ?hy1002⟩) hHeld ?hr1002
        case hy1002 => (intro w hSw; (try dsimp only at hSw); go_simp; (try with_reducible rfl))
        simp only [Act.put, List.setIfInBounds_toArray, List.set_cons_zero, List.set_cons_succ, List.getElem_toArray, List.getElem_cons_zero, List.getElem_cons_succ]
        refine' wpAnyH_take (i := 2) (v := _) rfl (by kernel_rfl) (by kernel_rfl) (by kernel_rfl) (fun _ _ _ h => h) (Or.inl ⟨by rfl, ?hy1003⟩) hHeld ?hr1003
        case hy1003 => (intro w hSw; (try dsimp only at hSw); go_simp; (try with_reducible rfl))
        simp only [Act.put, List.setIfInBounds_toArray, List.set_cons_zero, List.set_cons_succ, List.getElem_toArray, List.getElem_cons_zero, List.getElem_cons_succ]
        refine' wpAnyH_take (i := 3) (v := _) rfl (by kernel_rfl) (by kernel_rfl) (by kernel_rfl) (fun _ _ _ h => h) (Or.inl ⟨by rfl, ?hy1004⟩) hHeld ?hr1004
        case hy1004 => (intro w hSw; (try dsimp only at hSw); go_simp; (try with_reducible rfl))
        simp only [Act.put, List.setIfInBounds_toArray, List.set_cons_zero, List.set_cons_succ, List.getElem_toArray, List.getElem_cons_zero, List.getElem_cons_succ]
        refine' wpAnyH_take (i := 4) (v := _) rfl (by kernel_rfl) (by kernel_rfl) (by kernel_rfl) (fun _ _ _ h => h) (Or.inl ⟨by rfl, ?hy1005⟩) hHeld ?hr1005
        case hy1005 => (intro w hSw; (try dsimp only at hSw); go_simp; (try with_reducible rfl))
        simp only [Act.put, List.setIfInBounds_toArray, List.set_cons_zero, List.set_cons_succ, List.getElem_toArray, List.getElem_cons_zero, List.getElem_cons_succ]
        refine' wpAnyH_take (i := 6) (v := _) rfl (by kernel_rfl) (by kernel_rfl) (by kernel_rfl) (fun _ _ _ h => h) (Or.inl ⟨by rfl, ?hy1006⟩) hHeld ?hr1006
        case hy1006 => (intro w hSw; (try dsimp only at hSw); go_simp; (try with_reducible rfl))
        simp only [Act.put, List.setIfInBounds_toArray, List.set_cons_zero, List.set_cons_succ, List.getElem_toArray, List.getElem_cons_zero, List.getElem_cons_succ]
        refine wpAnyH_ready (rs := [5, 7]) (by kernel_rfl) (by simp) (AllReadyH.cons rfl (fun K hK => ?_) (AllReadyH.cons rfl (fun K hK => ?_) AllReadyH.nil))
        · go_simp
          refine hK.out _ _ trivial (fun hHeld => ?_)
          clear hK K
          (try simp only [Act.put, List.setIfInBounds_toArray, List.set_cons_zero, List.set_cons_succ, List.getElem_toArray, List.getElem_cons_zero, List.getElem_cons_succ])
          refine wpAnyH_ready (rs := [7]) (by kernel_rfl) (by simp) (AllReadyH.cons rfl (fun K hK => ?_) AllReadyH.nil)
          go_simp
          refine cR.mono ?_
          rintro e wk ⟨rfl, hw⟩
          subst hw
          go_wp2_with fail
          refine hK.out _ _ trivial (fun hHeld => ?_)
          clear hK K
          (try simp only [Act.put, List.setIfInBounds_toArray, List.set_cons_zero, List.set_cons_succ, List.getElem_toArray, List.getElem_cons_zero, List.getElem_cons_succ])
          refine' wpAnyH_take (i := 8) (v := _) rfl (by kernel_rfl) (by kernel_rfl) (by kernel_rfl) (fun _ _ _ h => h) (Or.inl ⟨by rfl, ?hy1007⟩) hHeld ?hr1007
          case hy1007 => (intro w hSw; (try dsimp only at hSw); go_simp; (try with_reducible rfl))
          simp only [Act.put, List.setIfInBounds_toArray, List.set_cons_zero, List.set_cons_succ, List.getElem_toArray, List.getElem_cons_zero, List.getElem_cons_succ]
          refine' wpAnyH_take (i := 9) (v := _) rfl (by kernel_rfl) (by kernel_rfl) (by kernel_rfl) (fun _ _ _ h => h) (Or.inl ⟨by rfl, ?hy1008⟩) hHeld ?hr1008
          case hy1008 => (intro w hSw; (try dsimp only at hSw); go_simp; (try with_reducible rfl))
          simp only [Act.put, List.setIfInBounds_toArray, List.set_cons_zero, List.set_cons_succ, List.getElem_toArray, List.getElem_cons_zero, List.getElem_cons_succ]
          refine' wpAnyH_take (i := 10) (v := _) rfl (by kernel_rfl) (by kernel_rfl) (by kernel_rfl) (fun _ _ _ h => h) (Or.inl ⟨by rfl, ?hy1009⟩) hHeld ?hr1009
          case hy1009 => (intro w hSw; (try dsimp only at hSw); go_simp; (try with_reducible rfl))
          simp only [Act.put, List.setIfInBounds_toArray, List.set_cons_zero, List.set_cons_succ, List.getElem_toArray, List.getElem_cons_zero, List.getElem_cons_succ]
          refine' wpAnyH_take (i := 11) (v := _) rfl (by kernel_rfl) (by kernel_rfl) (by kernel_rfl) (fun _ _ _ h => h) (Or.inl ⟨by rfl, ?hy1010⟩) hHeld ?hr1010
          case hy1010 => (intro w hSw; (try dsimp only at hSw); go_simp; (try with_reducible rfl))
          simp only [Act.put, List.setIfInBounds_toArray, List.set_cons_zero, List.set_cons_succ, List.getElem_toArray, List.getElem_cons_zero, List.getElem_cons_succ]
          refine wpAnyH_ready (rs := [12]) (by kernel_rfl) (by simp) (AllReadyH.cons rfl (fun K hK => ?_) AllReadyH.nil)
          go_simp
          refine hK.out _ _ trivial (fun hHeld => ?_)
          clear hK K
          (try simp only [Act.put, List.setIfInBounds_toArray, List.set_cons_zero, List.set_cons_succ, List.getElem_toArray, List.getElem_cons_zero, List.getElem_cons_succ])
          refine wpAnyH_done (by kernel_rfl) ?_ _
          refine NoPanic.normal ?_
          exact hcut10.out _ _ _ _ _ _ _ _ _ _ _ _ _ _ _ _ _ _ _ _ _ _ _ _ _ _ _ _ _ _ _ _ _ _ _ _ _ _ _ _ _ _ _ _ _ _ _ _ _ _ _ _ _ _ _ _ _ _ _ _ _ _ _ _ _ _ _ _ _ _ _ _ _ _ _ _ _ _ _ _ _ _ _ _ _ _ _ _ _ _ _ _ _ _ _ _ _ _ _ _ _ _ _ _ _ _ _ _ _ _ _ _ _ _ _ _ _
        · go_simp
          refine cR.mono ?_
          rintro e wk ⟨rfl, hw⟩
          subst hw
          go_wp2_with fail
          refine hK.out _ _ trivial (fun hHeld => ?_)
          clear hK K
          (try simp only [Act.put, List.setIfInBounds_toArray, List.set_cons_zero, List.set_cons_succ, List.getElem_toArray, List.getElem_cons_zero, List.getElem_cons_succ])
          refine wpAnyH_ready (rs := [5]) (by kernel_rfl) (by simp) (AllReadyH.cons rfl (fun K hK => ?_) AllReadyH.nil)
          go_simp
          refine hK.out _ _ trivial (fun hHeld => ?_)
          clear hK K
          (try simp only [Act.put, List.setIfInBounds_toArray, List.set_cons_zero, List.set_cons_succ, List.getElem_toArray, List.getElem_cons_zero, List.getElem_cons_succ])
          refine' wpAnyH_take (i := 8) (v := _) rfl (by kernel_rfl) (by kernel_rfl) (by kernel_rfl) (fun _ _ _ h => h) (Or.inl ⟨by rfl, ?hy1011⟩) hHeld ?hr1011
          case hy1011 => (intro w hSw; (try dsimp only at hSw); go_simp; (try with_reducible rfl))
          simp only [Act.put, List.setIfInBounds_toArray, List.set_cons_zero, List.set_cons_succ, List.getElem_toArray, List.getElem_cons_zero, List.getElem_cons_succ]
          refine' wpAnyH_take (i := 9) (v := _) rfl (by kernel_rfl) (by kernel_rfl) (by kernel_rfl) (fun _ _ _ h => h) (Or.inl ⟨by rfl, ?hy1012⟩) hHeld ?hr1012
          case hy1012 => (intro w hSw; (try dsimp only at hSw); go_simp; (try with_reducible rfl))
          simp only [Act.put, List.setIfInBounds_toArray, List.set_cons_zero, List.set_cons_succ, List.getElem_toArray, List.getElem_cons_zero, List.getElem_cons_succ]
          refine' wpAnyH_take (i := 10) (v := _) rfl (by kernel_rfl) (by kernel_rfl) (by kernel_rfl) (fun _ _ _ h => h) (Or.inl ⟨by rfl, ?hy1013⟩) hHeld ?hr1013
          case hy1013 => (intro w hSw; (try dsimp only at hSw); go_simp; (try with_reducible rfl))
          simp only [Act.put, List.setIfInBounds_toArray, List.set_cons_zero, List.set_cons_succ, List.getElem_toArray, List.getElem_cons_zero, List.getElem_cons_succ]
          refine' wpAnyH_take (i := 11) (v := _) rfl (by kernel_rfl) (by kernel_rfl) (by kernel_rfl) (fun _ _ _ h => h) (Or.inl ⟨by rfl, ?hy1014⟩) hHeld ?hr1014
          case hy1014 => (intro w hSw; (try dsimp only at hSw); go_simp; (try with_reducible rfl))
          simp only [Act.put, List.setIfInBounds_toArray, List.set_cons_zero, List.set_cons_succ, List.getElem_toArray, List.getElem_cons_zero, List.getElem_cons_succ]
          refine wpAnyH_ready (rs := [12]) (by kernel_rfl) (by simp) (AllReadyH.cons rfl (fun K hK => ?_) AllReadyH.nil)
          go_simp
          refine hK.out _ _ trivial (fun hHeld => ?_)
          clear hK K
          (try simp only [Act.put, List.setIfInBounds_toArray, List.set_cons_zero, List.set_cons_succ, List.getElem_toArray, List.getElem_cons_zero, List.getElem_cons_succ])
          refine wpAnyH_done (by kernel_rfl) ?_ _
          refine NoPanic.normal ?_
          exact hcut10.out _ _ _ _ _ _ _ _ _ _ _ _ _ _ _ _ _ _ _ _ _ _ _ _ _ _ _ _ _ _ _ _ _ _ _ _ _ _ _ _ _ _ _ _ _ _ _ _ _ _ _ _ _ _ _ _ _ _ _ _ _ _ _ _ _ _ _ _ _ _ _ _ _ _ _ _ _ _ _ _ _ _ _ _ _ _ _ _ _ _ _ _ _ _ _ _ _ _ _ _ _ _ _ _ _ _ _ _ _ _ _ _ _ _ _ _ _
      have d : W8.cell? ⟨B, 23, none⟩ = some (.int .i64 t.sr) := cells_all hB8 23
      have z : W8.frozen? ⟨B, 23, none⟩ = false := frozen_of_row _ _ _ _ _ hB8
      have cR := lastRow_any B u1a nn u1c W8.drew (cells_all hB8 7) (by omega)
      have hN9 : Hid (SB (W8.setCell ⟨B, 23, none⟩ (.int .i64 (min t.sr ((nn : Int) - 1)))).drew B (scCs t.pa (.slice xpa t.pa.params.length xpc) (.slice xqa t.pa.text.length xqc) (.slice none 0 0) (.slice none 0 0) { t with gc := (cn : Int), oc := (cn : Int), row := min (max d7 0) ((nn : Int) - 1), col := min t.col ((cn : Int) - 1), sr := min t.sr ((nn : Int) - 1) } ⟨.slice u1a nn u1c, .slice u2a u2n u2c, .slice xta t.ti.length xtc, .slice xpa t.pa.params.length xpc, .slice xqa t.pa.text.length xqc⟩) ∧ W3.grownBy (W8.setCell ⟨B, 23, none⟩ (.int .i64 (min t.sr ((nn : Int) - 1)))).drew (some B)) := ⟨BlkC.below (setCells_heap B 90 [.int .i64 (min t.sr ((nn : Int) - 1))] 23 W8 _ hB8) (bdr _), grown_tr hgr8 (grown_tr (setCells_gr B [.int .i64 (min t.sr ((nn : Int) - 1))] 23 W8) (gbl (bdr _) (some B)))⟩
      clear hB8 hgr8 
      replace hcut9 : Hid (∀ (i9_0 i9_1 i9_2 i9_3 i9_4 i9_5 i9_7 i9_8 i9_10 i9_11 i9_12 i9_13 i9_14 i9_15 i9_16 i9_17 i9_18 i9_19 i9_20 i9_21 i9_22 i9_23 i9_24 i9_25 i9_26 i9_27 i9_28 i9_29 i9_30 i9_31 i9_32 i9_33 i9_34 i9_35 i9_36 i9_37 i9_38 i9_39 i9_40 i9_41 i9_42 i9_43 i9_44 i9_45 i9_46 i9_47 i9_48 i9_49 i9_50 i9_51 i9_52 i9_53 i9_54 i9_55 i9_56 i9_57 i9_58 i9_59 i9_60 i9_61 i9_62 i9_63 i9_64 i9_65 i9_66 i9_67 i9_68 i9_69 i9_70 i9_71 i9_72 i9_73 i9_74 i9_75 i9_76 i9_77 i9_78 i9_79 i9_80 i9_81 i9_82 i9_83 i9_84 i9_85 i9_86 i9_87 i9_88 i9_89 i9_90 i9_91 i9_92 i9_93 i9_94 i9_95 i9_96 i9_97 i9_98 i9_99 i9_100 i9_101 i9_102 i9_103 i9_104 i9_105 i9_106 i9_107 i9_108 i9_109 i9_110 i9_111 i9_112 i9_113 i9_114 i9_115 i9_116 i9_117 i9_118 : Value), K9 { tmps := #[i9_0, i9_1, i9_2, i9_3, i9_4, i9_5, .pointer (some ⟨w.heap.size + 1, 0, none⟩), i9_7, i9_8, .pointer (some ⟨B, 0, none⟩), i9_10, i9_11, i9_12, i9_13, i9_14, i9_15, i9_16, i9_17, i9_18, i9_19, i9_20, i9_21, i9_22, i9_23, i9_24, i9_25, i9_26, i9_27, i9_28, i9_29, i9_30, i9_31, i9_32, i9_33, i9_34, i9_35, i9_36, i9_37, i9_38, i9_39, i9_40, i9_41, i9_42, i9_43, i9_44, i9_45, i9_46, i9_47, i9_48, i9_49, i9_50, i9_51, i9_52, i9_53, i9_54, i9_55, i9_56, i9_57, i9_58, i9_59, i9_60, i9_61, i9_62, i9_63, i9_64, i9_65, i9_66, i9_67, i9_68, i9_69, i9_70, i9_71, i9_72, i9_73, i9_74, i9_75, i9_76, i9_77, i9_78, i9_79, i9_80, i9_81, i9_82, i9_83, i9_84, i9_85, i9_86, i9_87, i9_88, i9_89, i9_90, i9_91, i9_92, i9_93, i9_94, i9_95, i9_96, i9_97, i9_98, i9_99, i9_100, i9_101, i9_102, i9_103, i9_104, i9_105, i9_106, i9_107, i9_108, i9_109, i9_110, i9_111, i9_112, i9_113, i9_114, i9_115, i9_116, i9_117, i9_118], defers := [] } (W8.setCell ⟨B, 23, none⟩ (.int .i64 (min t.sr ((nn : Int) - 1)))).drew) := fun i9_0 i9_1 i9_2 i9_3 i9_4 i9_5 i9_7 i9_8 i9_10 i9_11 i9_12 i9_13 i9_14 i9_15 i9_16 i9_17 i9_18 i9_19 i9_20 i9_21 i9_22 i9_23 i9_24 i9_25 i9_26 i9_27 i9_28 i9_29 i9_30 i9_31 i9_32 i9_33 i9_34 i9_35 i9_36 i9_37 i9_38 i9_39 i9_40 i9_41 i9_42 i9_43 i9_44 i9_45 i9_46 i9_47 i9_48 i9_49 i9_50 i9_51 i9_52 i9_53 i9_54 i9_55 i9_56 i9_57 i9_58 i9_59 i9_60 i9_61 i9_62 i9_63 i9_64 i9_65 i9_66 i9_67 i9_68 i9_69 i9_70 i9_71 i9_72 i9_73 i9_74 i9_75 i9_76 i9_77 i9_78 i9_79 i9_80 i9_81 i9_82 i9_83 i9_84 i9_85 i9_86 i9_87 i9_88 i9_89 i9_90 i9_91 i9_92 i9_93 i9_94 i9_95 i9_96 i9_97 i9_98 i9_99 i9_100 i9_101 i9_102 i9_103 i9_104 i9_105 i9_106 i9_107 i9_108 i9_109 i9_110 i9_111 i9_112 i9_113 i9_114 i9_115 i9_116 i9_117 i9_118 => hcut9.out i9_0 i9_1 i9_2 i9_3 i9_4 i9_5 i9_7 i9_8 i9_10 i9_11 i9_12 i9_13 i9_14 i9_15 i9_16 i9_17 i9_18 i9_19 i9_20 i9_21 i9_22 i9_23 i9_24 i9_25 i9_26 i9_27 i9_28 i9_29 i9_30 i9_31 i9_32 i9_33 i9_34 i9_35 i9_36 i9_37 i9_38 i9_39 i9_40 i9_41 i9_42 i9_43 i9_44 i9_45 i9_46 i9_47 i9_48 i9_49 i9_50 i9_51 i9_52 i9_53 i9_54 i9_55 i9_56 i9_57 i9_58 i9_59 i9_60 i9_61 i9_62 i9_63 i9_64 i9_65 i9_66 i9_67 i9_68 i9_69 i9_70 i9_71 i9_72 i9_73 i9_74 i9_75 i9_76 i9_77 i9_78 i9_79 i9_80 i9_81 i9_82 i9_83 i9_84 i9_85 i9_86 i9_87 i9_88 i9_89 i9_90 i9_91 i9_92 i9_93 i9_94 i9_95 i9_96 i9_97 i9_98 i9_99 i9_100 i9_101 i9_102 i9_103 i9_104 i9_105 i9_106 i9_107 i9_108 i9_109 i9_110 i9_111 i9_112 i9_113 i9_114 i9_115 i9_116 i9_117 i9_118 _ hN9.out.1 hN9.out.2
      clear hN9 hAll e1 e7 hn1 hn2 hnw' hBz q4 hV hSp
      refine wp_region_noPanic ?_
      refine wp_region_held_drew (S := (fun _ => True)) (by kernel_rfl) trivial (fun hHeld => ?_)
      refine' wpAnyH_take (i := 0) (v := _) rfl (by kernel_rfl) (by kernel_rfl) (by kernel_rfl) (fun _ _ _ h => h) (Or.inl ⟨by rfl, ?hy1015⟩) hHeld ?hr1015
      case hy1015 => (intro w hSw; (try dsimp only at hSw); go_simp; (try with_reducible rfl))
      simp only [Act.put, List.setIfInBounds_toArray, List.set_cons_zero, List.set_cons_succ, List.getElem_toArray, List.getElem_cons_zero]
      refine' wpAnyH_take (i := 1) (v := _) rfl (by kernel_rfl) (by kernel_rfl) (by kernel_rfl) (fun _ _ _ h => h) (Or.inl ⟨by rfl, ?hy1016⟩) hHeld ?hr1016
      case hy1016 => (intro w hSw; (try dsimp only at hSw); go_simp; (try with_reducible rfl))
      simp only [Act.put, List.setIfInBounds_toArray, List.set_cons_zero, List.set_cons_succ, List.getElem_toArray, List.getElem_cons_zero, List.getElem_cons_succ]
      refine' wpAnyH_take (i := 2) (v := _) rfl (by kernel_rfl) (by kernel_rfl) (by kernel_rfl) (fun _ _ _ h => h) (Or.inl ⟨by rfl, ?hy1017⟩) hHeld ?hr1017
      case hy1017 => (intro w hSw; (try dsimp only at hSw); go_simp; (try with_reducible rfl))
      simp only [Act.put, List.setIfInBounds_toArray, List.set_cons_zero, List.set_cons_succ, List.getElem_toArray, List.getElem_cons_zero, List.getElem_cons_succ]
      refine' wpAnyH_take (i := 3) (v := _) rfl (by kernel_rfl) (by kernel_rfl) (by kernel_rfl) (fun _ _ _ h => h) (Or.inl ⟨by rfl, ?hy1018⟩) hHeld ?hr1018
      case hy1018 => (intro w hSw; (try dsimp only at hSw); go_simp; (try with_reducible rfl))
      simp only [Act.put, List.setIfInBounds_toArray, List.set_cons_zero, List.set_cons_succ, List.getElem_toArray, List.getElem_cons_zero, List.getElem_cons_succ]
      refine' wpAnyH_take (i := 4) (v := _) rfl (by kernel_rfl) (by kernel_rfl) (by kernel_rfl) (fun _ _ _ h => h) (Or.inl ⟨by rfl, ?hy1019⟩) hHeld ?hr1019
      case hy1019 => (intro w hSw; (try dsimp only at hSw); go_simp; (try with_reducible rfl))
      simp only [Act.put, List.setIfInBounds_toArray, List.set_cons_zero, List.set_cons_succ, List.getElem_toArray, List.getElem_cons_zero, List.getElem_cons_succ]
      refine' wpAnyH_take (i := 6) (v := _) rfl (by kernel_rfl) (by kernel_rfl) (by kernel_rfl) (fun _ _ _ h => h) (Or.inl ⟨by rfl, ?hy1020⟩) hHeld ?hr1020
      case hy1020 => (intro w hSw; (try dsimp only at hSw); go_simp; (try with_reducible rfl))
      simp only [Act.put, List.setIfInBounds_toArray, List.set_cons_zero, List.set_cons_succ, List.getElem_toArray, List.getElem_cons_zero, List.getElem_cons_succ]
      refine wpAnyH_ready (rs := [5, 7]) (by kernel_rfl) (by simp) (AllReadyH.cons rfl (fun K hK => ?_) (AllReadyH.cons rfl (fun K hK => ?_) AllReadyH.nil))
      · go_simp
        refine hK.out _ _ trivial (fun hHeld => ?_)
        clear hK K
        (try simp only [Act.put, List.setIfInBounds_toArray, List.set_cons_zero, List.set_cons_succ, List.getElem_toArray, List.getElem_cons_zero, List.getElem_cons_succ])
        refine wpAnyH_ready (rs := [7]) (by kernel_rfl) (by simp) (AllReadyH.cons rfl (fun K hK => ?_) AllReadyH.nil)
        go_simp
        refine cR.mono ?_
        rintro e wk ⟨rfl, hw⟩
        subst hw
        go_wp2_with fail
        refine hK.out _ _ trivial (fun hHeld => ?_)
        clear hK K
        (try simp only [Act.put, List.setIfInBounds_toArray, List.set_cons_zero, List.set_cons_succ, List.getElem_toArray, List.getElem_cons_zero, List.getElem_cons_succ])
        refine' wpAnyH_take (i := 8) (v := _) rfl (by kernel_rfl) (by kernel_rfl) (by kernel_rfl) (fun _ _ _ h => h) (Or.inl ⟨by rfl, ?hy1021⟩) hHeld ?hr1021
        case hy1021 => (intro w hSw; (try dsimp only at hSw); go_simp; (try with_reducible rfl))
        simp only [Act.put, List.setIfInBounds_toArray, List.set_cons_zero, List.set_cons_succ, List.getElem_toArray, List.getElem_cons_zero, List.getElem_cons_succ]
        refine' wpAnyH_take (i := 9) (v := _) rfl (by kernel_rfl) (by kernel_rfl) (by kernel_rfl) (fun _ _ _ h => h) (Or.inl ⟨by rfl, ?hy1022⟩) hHeld ?hr1022
        case hy1022 => (intro w hSw; (try dsimp only at hSw); go_simp; (try with_reducible rfl))
        simp only [Act.put, List.setIfInBounds_toArray, List.set_cons_zero, List.set_cons_succ, List.getElem_toArray, List.getElem_cons_zero, List.getElem_cons_succ]
        refine' wpAnyH_take (i := 10) (v := _) rfl (by kernel_rfl) (by kernel_rfl) (by kernel_rfl) (fun _ _ _ h => h) (Or.inl ⟨by rfl, ?hy1023⟩) hHeld ?hr1023
        case hy1023 => (intro w hSw; (try dsimp only at hSw); go_simp; (try with_reducible rfl))
        simp only [Act.put, List.setIfInBounds_toArray, List.set_cons_zero, List.set_cons_succ, List.getElem_toArray, List.getElem_cons_zero, List.getElem_cons_succ]
        refine' wpAnyH_take (i := 11) (v := _) rfl (by kernel_rfl) (by kernel_rfl) (by kernel_rfl) (fun _ _ _ h => h) (Or.inl ⟨by rfl, ?hy1024⟩) hHeld ?hr1024
        case hy1024 => (intro w hSw; (try dsimp only at hSw); go_simp; (try with_reducible rfl))
        simp only [Act.put, List.setIfInBounds_toArray, List.set_cons_zero, List.set_cons_succ, List.getElem_toArray, List.getElem_cons_zero, List.getElem_cons_succ]
        refine wpAnyH_ready (rs := [12]) (by kernel_rfl) (by simp) (AllReadyH.cons rfl (fun K hK => ?_) AllReadyH.nil)
        go_simp
        refine hK.out _ _ trivial (fun hHeld => ?_)
        clear hK K
        (try simp only [Act.put, List.setIfInBounds_toArray, List.set_cons_zero, List.set_cons_succ, List.getElem_toArray, List.getElem_cons_zero, List.getElem_cons_succ])
        refine wpAnyH_done (by kernel_rfl) ?_ _
        refine NoPanic.normal ?_
        exact hcut9.out _ _ _ _ _ _ _ _ _ _ _ _ _ _ _ _ _ _ _ _ _ _ _ _ _ _ _ _ _ _ _ _ _ _ _ _ _ _ _ _ _ _ _ _ _ _ _ _ _ _ _ _ _ _ _ _ _ _ _ _ _ _ _ _ _ _ _ _ _ _ _ _ _ _ _ _ _ _ _ _ _ _ _ _ _ _ _ _ _ _ _ _ _ _ _ _ _ _ _ _ _ _ _ _ _ _ _ _ _ _ _ _ _ _ _ _ _
      · go_simp
        refine cR.mono ?_
        rintro e wk ⟨rfl, hw⟩
        subst hw
        go_wp2_with fail
        refine hK.out _ _ trivial (fun hHeld => ?_)
        clear hK K
        (try simp only [Act.put, List.setIfInBounds_toArray, List.set_cons_zero, List.set_cons_succ, List.getElem_toArray, List.getElem_cons_zero, List.getElem_cons_succ])
        refine wpAnyH_ready (rs := [5]) (by kernel_rfl) (by simp) (AllReadyH.cons rfl (fun K hK => ?_) AllReadyH.nil)
        go_simp
        refine hK.out _ _ trivial (fun hHeld => ?_)
        clear hK K
        (try simp only [Act.put, List.setIfInBounds_toArray, List.set_cons_zero, List.set_cons_succ, List.getElem_toArray, List.getElem_cons_zero, List.getElem_cons_succ])
        refine' wpAnyH_take (i := 8) (v := _) rfl (by kernel_rfl) (by kernel_rfl) (by kernel_rfl) (fun _ _ _ h => h) (Or.inl ⟨by rfl, ?hy1025⟩) hHeld ?hr1025
        case hy1025 => (intro w hSw; (try dsimp only at hSw); go_simp; (try with_reducible rfl))
        simp only [Act.put, List.setIfInBounds_toArray, List.set_cons_zero, List.set_cons_succ, List.getElem_toArray, List.getElem_cons_zero, List.getElem_cons_succ]
        refine' wpAnyH_take (i := 9) (v := _) rfl (by kernel_rfl) (by kernel_rfl) (by kernel_rfl) (fun _ _ _ h => h) (Or.inl ⟨by rfl, ?hy1026⟩) hHeld ?hr1026
        case hy1026 => (intro w hSw; (try dsimp only at hSw); go_simp; (try with_reducible rfl))
        simp only [Act.put, List.setIfInBounds_toArray, List.set_cons_zero, List.set_cons_succ, List.getElem_toArray, List.getElem_cons_zero, List.getElem_cons_succ]
        refine' wpAnyH_take (i := 10) (v := _) rfl (by kernel_rfl) (by kernel_rfl) (by kernel_rfl) (fun _ _ _ h => h) (Or.inl ⟨by rfl, ?hy1027⟩) hHeld ?hr1027
        case hy1027 => (intro w hSw; (try dsimp only at hSw); go_simp; (try with_reducible rfl))
        simp only [Act.put, List.setIfInBounds_toArray, List.set_cons_zero, List.set_cons_succ, List.getElem_toArray, List.getElem_cons_zero, List.getElem_cons_succ]
        refine' wpAnyH_take (i := 11) (v := _) rfl (by kernel_rfl) (by kernel_rfl) (by kernel_rfl) (fun _ _ _ h => h) (Or.inl ⟨by rfl, ?hy1028⟩) hHeld ?hr1028
        case hy1028 => (intro w hSw; (try dsimp only at hSw); go_simp; (try with_reducible rfl))
        simp only [Act.put, List.setIfInBounds_toArray, List.set_cons_zero, List.set_cons_succ, List.getElem_toArray, List.getElem_cons_zero, List.getElem_cons_succ]
        refine wpAnyH_ready (rs := [12]) (by kernel_rfl) (by simp) (AllReadyH.cons rfl (fun K hK => ?_) AllReadyH.nil)
        go_simp
        refine hK.out _ _ trivial (fun hHeld => ?_)
        clear hK K
        (try simp only [Act.put, List.setIfInBounds_toArray, List.set_cons_zero, List.set_cons_succ, List.getElem_toArray, List.getElem_cons_zero, List.getElem_cons_succ])
        refine wpAnyH_done (by kernel_rfl) ?_ _
        refine NoPanic.normal ?_
        exact hcut9.out _ _ _ _ _ _ _ _ _ _ _ _ _ _ _ _ _ _ _ _ _ _ _ _ _ _ _ _ _ _ _ _ _ _ _ _ _ _ _ _ _ _ _ _ _ _ _ _ _ _ _ _ _ _ _ _ _ _ _ _ _ _ _ _ _ _ _ _ _ _ _ _ _ _ _ _ _ _ _ _ _ _ _ _ _ _ _ _ _ _ _ _ _ _ _ _ _ _ _ _ _ _ _ _ _ _ _ _ _ _ _ _ _ _ _ _ _
    have d : W7.cell? ⟨B, 11, none⟩ = some (.int .i64 t.col) := cells_all hB7 11
    have z : W7.frozen? ⟨B, 11, none⟩ = false := frozen_of_row _ _ _ _ _ hB7
    have cR := lastCol_any B (cn : Int) W7.drew (cells_all hB7 6) (by omega)
    have hN8 : Hid (SB (W7.setCell ⟨B, 11, none⟩ (.int .i64 (min t.col ((cn : Int) - 1)))).drew B (scCs t.pa (.slice xpa t.pa.params.length xpc) (.slice xqa t.pa.text.length xqc) (.slice none 0 0) (.slice none 0 0) { t with gc := (cn : Int), oc := (cn : Int), row := min (max d7 0) ((nn : Int) - 1), col := min t.col ((cn : Int) - 1) } ⟨.slice u1a nn u1c, .slice u2a u2n u2c, .slice xta t.ti.length xtc, .slice xpa t.pa.params.length xpc, .slice xqa t.pa.text.length xqc⟩) ∧ W3.grownBy (W7.setCell ⟨B, 11, none⟩ (.int .i64 (min t.col ((cn : Int) - 1)))).drew (some B)) := ⟨BlkC.below (setCells_heap B 90 [.int .i64 (min t.col ((cn : Int) - 1))] 11 W7 _ hB7) (bdr _), grown_tr hgr7 (grown_tr (setCells_gr B [.int .i64 (min t.col ((cn : Int) - 1))] 11 W7) (gbl (bdr _) (some B)))⟩
    clear hB7 hgr7 
    replace hcut8 : Hid (∀ (i8_0 i8_1 i8_2 i8_3 i8_4 i8_5 i8_7 i8_8 i8_10 i8_11 i8_12 i8_13 i8_14 i8_15 i8_16 i8_17 i8_18 i8_19 i8_20 i8_21 i8_22 i8_23 i8_24 i8_25 i8_26 i8_27 i8_28 i8_29 i8_30 i8_31 i8_32 i8_33 i8_34 i8_35 i8_36 i8_37 i8_38 i8_39 i8_40 i8_41 i8_42 i8_43 i8_44 i8_45 i8_46 i8_47 i8_48 i8_49 i8_50 i8_51 i8_52 i8_53 i8_54 i8_55 i8_56 i8_57 i8_58 i8_59 i8_60 i8_61 i8_62 i8_63 i8_64 i8_65 i8_66 i8_67 i8_68 i8_69 i8_70 i8_71 i8_72 i8_73 i8_74 i8_75 i8_76 i8_77 i8_78 i8_79 i8_80 i8_81 i8_82 i8_83 i8_84 i8_85 i8_86 i8_87 i8_88 i8_89 i8_90 i8_91 i8_92 i8_93 i8_94 i8_95 i8_96 i8_97 i8_98 i8_99 i8_100 i8_101 i8_102 i8_103 i8_104 i8_105 i8_106 i8_107 i8_108 i8_109 i8_110 i8_111 i8_112 i8_113 i8_114 i8_115 i8_116 i8_117 i8_118 : Value), K8 { tmps := #[i8_0, i8_1, i8_2, i8_3, i8_4, i8_5, .pointer (some ⟨w.heap.size + 1, 0, none⟩), i8_7, i8_8, .pointer (some ⟨B, 0, none⟩), i8_10, i8_11, i8_12, i8_13, i8_14, i8_15, i8_16, i8_17, i8_18, i8_19, i8_20, i8_21, i8_22, i8_23, i8_24, i8_25, i8_26, i8_27, i8_28, i8_29, i8_30, i8_31, i8_32, i8_33, i8_34, i8_35, i8_36, i8_37, i8_38, i8_39, i8_40, i8_41, i8_42, i8_43, i8_44, i8_45, i8_46, i8_47, i8_48, i8_49, i8_50, i8_51, i8_52, i8_53, i8_54, i8_55, i8_56, i8_57, i8_58, i8_59, i8_60, i8_61, i8_62, i8_63, i8_64, i8_65, i8_66, i8_67, i8_68, i8_69, i8_70, i8_71, i8_72, i8_73, i8_74, i8_75, i8_76, i8_77, i8_78, i8_79, i8_80, i8_81, i8_82, i8_83, i8_84, i8_85, i8_86, i8_87, i8_88, i8_89, i8_90, i8_91, i8_92, i8_93, i8_94, i8_95, i8_96, i8_97, i8_98, i8_99, i8_100, i8_101, i8_102, i8_103, i8_104, i8_105, i8_106, i8_107, i8_108, i8_109, i8_110, i8_111, i8_112, i8_113, i8_114, i8_115, i8_116, i8_117, i8_118], defers := [] } (W7.setCell ⟨B, 11, none⟩ (.int .i64 (min t.col ((cn : Int) - 1)))).drew) := fun i8_0 i8_1 i8_2 i8_3 i8_4 i8_5 i8_7 i8_8 i8_10 i8_11 i8_12 i8_13 i8_14 i8_15 i8_16 i8_17 i8_18 i8_19 i8_20 i8_21 i8_22 i8_23 i8_24 i8_25 i8_26 i8_27 i8_28 i8_29 i8_30 i8_31 i8_32 i8_33 i8_34 i8_35 i8_36 i8_37 i8_38 i8_39 i8_40 i8_41 i8_42 i8_43 i8_44 i8_45 i8_46 i8_47 i8_48 i8_49 i8_50 i8_51 i8_52 i8_53 i8_54 i8_55 i8_56 i8_57 i8_58 i8_59 i8_60 i8_61 i8_62 i8_63 i8_64 i8_65 i8_66 i8_67 i8_68 i8_69 i8_70 i8_71 i8_72 i8_73 i8_74 i8_75 i8_76 i8_77 i8_78 i8_79 i8_80 i8_81 i8_82 i8_83 i8_84 i8_85 i8_86 i8_87 i8_88 i8_89 i8_90 i8_91 i8_92 i8_93 i8_94 i8_95 i8_96 i8_97 i8_98 i8_99 i8_100 i8_101 i8_102 i8_103 i8_104 i8_105 i8_106 i8_107 i8_108 i8_109 i8_110 i8_111 i8_112 i8_113 i8_114 i8_115 i8_116 i8_117 i8_118 => hcut8.out i8_0 i8_1 i8_2 i8_3 i8_4 i8_5 i8_7 i8_8 i8_10 i8_11 i8_12 i8_13 i8_14 i8_15 i8_16 i8_17 i8_18 i8_19 i8_20 i8_21 i8_22 i8_23 i8_24 i8_25 i8_26 i8_27 i8_28 i8_29 i8_30 i8_31 i8_32 i8_33 i8_34 i8_35 i8_36 i8_37 i8_38 i8_39 i8_40 i8_41 i8_42 i8_43 i8_44 i8_45 i8_46 i8_47 i8_48 i8_49 i8_50 i8_51 i8_52 i8_53 i8_54 i8_55 i8_56 i8_57 i8_58 i8_59 i8_60 i8_61 i8_62 i8_63 i8_64 i8_65 i8_66 i8_67 i8_68 i8_69 i8_70 i8_71 i8_72 i8_73 i8_74 i8_75 i8_76 i8_77 i8_78 i8_79 i8_80 i8_81 i8_82 i8_83 i8_84 i8_85 i8_86 i8_87 i8_88 i8_89 i8_90 i8_91 i8_92 i8_93 i8_94 i8_95 i8_96 i8_97 i8_98 i8_99 i8_100 i8_101 i8_102 i8_103 i8_104 i8_105 i8_106 i8_107 i8_108 i8_109 i8_110 i8_111 i8_112 i8_113 i8_114 i8_115 i8_116 i8_117 i8_118 _ hN8.out.1 hN8.out.2
    clear hN8 hAll e1 e7 hn1 hn2 hnw' hBz q4 hV hSp
    refine wp_region_noPanic ?_
    refine wp_region_held_drew (S := (fun _ => True)) (by kernel_rfl) trivial (fun hHeld => ?_)
    refine' wpAnyH_take (i := 0) (v := _) rfl (by kernel_rfl) (by kernel_rfl) (by kernel_rfl) (fun _ _ _ h => h) (Or.inl ⟨by rfl, ?hy1029⟩) hHeld ?hr1029
    case hy1029 => (intro w hSw; (try dsimp only at hSw); go_simp; (try with_reducible rfl))
    simp only [Act.put, List.setIfInBounds_toArray, List.set_cons_zero, List.set_cons_succ, List.getElem_toArray, List.getElem_cons_zero]
    refine' wpAnyH_take (i := 1) (v := _) rfl (by kernel_rfl) (by kernel_rfl) (by kernel_rfl) (fun _ _ _ h => h) (Or.inl ⟨by rfl, ?hy1030⟩) hHeld ?hr1030
    case hy1030 => (intro w hSw; (try dsimp only at hSw); go_simp; (try with_reducible rfl))
    simp only [Act.put, List.setIfInBounds_toArray, List.set_cons_zero, List.set_cons_succ, List.getElem_toArray, List.getElem_cons_zero, List.getElem_cons_succ]
    refine' wpAnyH_take (i := 2) (v := _) rfl (by kernel_rfl) (by kernel_rfl) (by kernel_rfl) (fun _ _ _ h => h) (Or.inl ⟨by rfl, ?hy1031⟩) hHeld ?hr1031
    case hy1031 => (intro w hSw; (try dsimp only at hSw); go_simp; (try with_reducible rfl))
    simp only [Act.put, List.setIfInBounds_toArray, List.set_cons_zero, List.set_cons_succ, List.getElem_toArray, List.getElem_cons_zero, List.getElem_cons_succ]
    refine' wpAnyH_take (i := 3) (v := _) rfl (by kernel_rfl) (by kernel_rfl) (by kernel_rfl) (fun _ _ _ h => h) (Or.inl ⟨by rfl, ?hy1032⟩) hHeld ?hr1032
    case hy1032 => (intro w hSw; (try dsimp only at hSw); go_simp; (try with_reducible rfl))
    simp only [Act.put, List.setIfInBounds_toArray, List.set_cons_zero, List.set_cons_succ, List.getElem_toArray, List.getElem_cons_zero, List.getElem_cons_succ]
    refine' wpAnyH_take (i := 4) (v := _) rfl (by kernel_rfl) (by kernel_rfl) (by kernel_rfl) (fun _ _ _ h => h) (Or.inl ⟨by rfl, ?hy1033⟩) hHeld ?hr1033
    case hy1033 => (intro w hSw; (try dsimp only at hSw); go_simp; (try with_reducible rfl))
    simp only [Act.put, List.setIfInBounds_toArray, List.set_cons_zero, List.set_cons_succ, List.getElem_toArray, List.getElem_cons_zero, List.getElem_cons_succ]
    refine' wpAnyH_take (i := 6) (v := _) rfl (by kernel_rfl) (by kernel_rfl) (by kernel_rfl) (fun _ _ _ h => h) (Or.inl ⟨by rfl, ?hy1034⟩) hHeld ?hr1034
    case hy1034 => (intro w hSw; (try dsimp only at hSw); go_simp; (try with_reducible rfl))
    simp only [Act.put, List.setIfInBounds_toArray, List.set_cons_zero, List.set_cons_succ, List.getElem_toArray, List.getElem_cons_zero, List.getElem_cons_succ]
    refine wpAnyH_ready (rs := [5, 7]) (by kernel_rfl) (by simp) (AllReadyH.cons rfl (fun K hK => ?_) (AllReadyH.cons rfl (fun K hK => ?_) AllReadyH.nil))
    · go_simp
      refine hK.out _ _ trivial (fun hHeld => ?_)
      clear hK K
      (try simp only [Act.put, List.setIfInBounds_toArray, List.set_cons_zero, List.set_cons_succ, List.getElem_toArray, List.getElem_cons_zero, List.getElem_cons_succ])
      refine wpAnyH_ready (rs := [7]) (by kernel_rfl) (by simp) (AllReadyH.cons rfl (fun K hK => ?_) AllReadyH.nil)
      go_simp
      refine cR.mono ?_
      rintro e wk ⟨rfl, hw⟩
      subst hw
      go_wp2_with fail
      refine hK.out _ _ trivial (fun hHeld => ?_)
      clear hK K
      (try simp only [Act.put, List.setIfInBounds_toArray, List.set_cons_zero, List.set_cons_succ, List.getElem_toArray, List.getElem_cons_zero, List.getElem_cons_succ])
      refine' wpAnyH_take (i := 8) (v := _) rfl (by kernel_rfl) (by kernel_rfl) (by kernel_rfl) (fun _ _ _ h => h) (Or.inl ⟨by rfl, ?hy1035⟩) hHeld ?hr1035
      case hy1035 => (intro w hSw; (try dsimp only at hSw); go_simp; (try with_reducible rfl))
      simp only [Act.put, List.setIfInBounds_toArray, List.set_cons_zero, List.set_cons_succ, List.getElem_toArray, List.getElem_cons_zero, List.getElem_cons_succ]
      refine' wpAnyH_take (i := 9) (v := _) rfl (by kernel_rfl) (by kernel_rfl) (by kernel_rfl) (fun _ _ _ h => h) (Or.inl ⟨by rfl, ?hy1036⟩) hHeld ?hr1036
      case hy1036 => (intro w hSw; (try dsimp only at hSw); go_simp; (try with_reducible rfl))
      simp only [Act.put, List.setIfInBounds_toArray, List.set_cons_zero, List.set_cons_succ, List.getElem_toArray, List.getElem_cons_zero, List.getElem_cons_succ]
      refine' wpAnyH_take (i := 10) (v := _) rfl (by kernel_rfl) (by kernel_rfl) (by kernel_rfl) (fun _ _ _ h => h) (Or.inl ⟨by rfl, ?hy1037⟩) hHeld ?hr1037
      case hy1037 => (intro w hSw; (try dsimp only at hSw); go_simp; (try with_reducible rfl))
      simp only [Act.put, List.setIfInBounds_toArray, List.set_cons_zero, List.set_cons_succ, List.getElem_toArray, List.getElem_cons_zero, List.getElem_cons_succ]
      refine' wpAnyH_take (i := 11) (v := _) rfl (by kernel_rfl) (by kernel_rfl) (by kernel_rfl) (fun _ _ _ h => h) (Or.inl ⟨by rfl, ?hy1038⟩) hHeld ?hr1038
      case hy1038 => (intro w hSw; (try dsimp only at hSw); go_simp; (try with_reducible rfl))
      simp only [Act.put, List.setIfInBounds_toArray, List.set_cons_zero, List.set_cons_succ, List.getElem_toArray, List.getElem_cons_zero, List.getElem_cons_succ]
      refine wpAnyH_ready (rs := [12]) (by kernel_rfl) (by simp) (AllReadyH.cons rfl (fun K hK => ?_) AllReadyH.nil)
      go_simp
      refine hK.out _ _ trivial (fun hHeld => ?_)
      clear hK K
      (try simp only [Act.put, List.setIfInBounds_toArray, List.set_cons_zero, List.set_cons_succ, List.getElem_toArray, List.getElem_cons_zero, List.getElem_cons_succ])
      refine wpAnyH_done (by kernel_rfl) ?_ _
      refine NoPanic.normal ?_
      exact hcut8.out _ _ _ _ _ _ _ _ _ _ _ _ _ _ _ _ _ _ _ _ _ _ _ _ _ _ _ _ _ _ _ _ _ _ _ _ _ _ _ _ _ _ _ _ _ _ _ _ _ _ _ _ _ _ _ _ _ _ _ _ _ _ _ _ _ _ _ _ _ _ _ _ _ _ _ _ _ _ _ _ _ _ _ _ _ _ _ _ _ _ _ _ _ _ _ _ _ _ _ _ _ _ _ _ _ _ _ _ _ _ _ _ _ _ _ _ _
    · go_simp
      refine cR.mono ?_
      rintro e wk ⟨rfl, hw⟩
      subst hw
      go_wp2_with fail
      refine hK.out _ _ trivial (fun hHeld => ?_)
      clear hK K
      (try simp only [Act.put, List.setIfInBounds_toArray, List.set_cons_zero, List.set_cons_succ, List.getElem_toArray, List.getElem_cons_zero, List.getElem_cons_succ])
      refine wpAnyH_ready (rs := [5]) (by kernel_rfl) (by simp) (AllReadyH.cons rfl (fun K hK => ?_) AllReadyH.nil)
      go_simp
      refine hK.out _ _ trivial (fun hHeld => ?_)
      clear hK K
      (try simp only [Act.put, List.setIfInBounds_toArray, List.set_cons_zero, List.set_cons_succ, List.getElem_toArray, List.getElem_cons_zero, List.getElem_cons_succ])
      refine' wpAnyH_take (i := 8) (v := _) rfl (by kernel_rfl) (by kernel_rfl) (by kernel_rfl) (fun _ _ _ h => h) (Or.inl ⟨by rfl, ?hy1039⟩) hHeld ?hr1039
      case hy1039 => (intro w hSw; (try dsimp only at hSw); go_simp; (try with_reducible rfl))
      simp only [Act.put, List.setIfInBounds_toArray, List.set_cons_zero, List.set_cons_succ, List.getElem_toArray, List.getElem_cons_zero, List.getElem_cons_succ]
      refine' wpAnyH_take (i := 9) (v := _) rfl (by kernel_rfl) (by kernel_rfl) (by kernel_rfl) (fun _ _ _ h => h) (Or.inl ⟨by rfl, ?hy1040⟩) hHeld ?hr1040
      case hy1040 => (intro w hSw; (try dsimp only at hSw); go_simp; (try with_reducible rfl))
      simp only [Act.put, List.setIfInBounds_toArray, List.set_cons_zero, List.set_cons_succ, List.getElem_toArray, List.getElem_cons_zero, List.getElem_cons_succ]
      refine' wpAnyH_take (i := 10) (v := _) rfl (by kernel_rfl) (by kernel_rfl) (by kernel_rfl) (fun _ _ _ h => h) (Or.inl ⟨by rfl, ?hy1041⟩) hHeld ?hr1041
      case hy1041 => (intro w hSw; (try dsimp only at hSw); go_simp; (try with_reducible rfl))
      simp only [Act.put, List.setIfInBounds_toArray, List.set_cons_zero, List.set_cons_succ, List.getElem_toArray, List.getElem_cons_zero, List.getElem_cons_succ]
      refine' wpAnyH_take (i := 11) (v := _) rfl (by kernel_rfl) (by kernel_rfl) (by kernel_rfl) (fun _ _ _ h => h) (Or.inl ⟨by rfl, ?hy1042⟩) hHeld ?hr1042
      case hy1042 => (intro w hSw; (try dsimp only at hSw); go_simp; (try with_reducible rfl))
      simp only [Act.put, List.setIfInBounds_toArray, List.set_cons_zero, List.set_cons_succ, List.getElem_toArray, List.getElem_cons_zero, List.getElem_cons_succ]
      refine wpAnyH_ready (rs := [12]) (by kernel_rfl) (by simp) (AllReadyH.cons rfl (fun K hK => ?_) AllReadyH.nil)
      go_simp
      refine hK.out _ _ trivial (fun hHeld => ?_)
      clear hK K
      (try simp only [Act.put, List.setIfInBounds_toArray, List.set_cons_zero, List.set_cons_succ, List.getElem_toArray, List.getElem_cons_zero, List.getElem_cons_succ])
      refine wpAnyH_done (by kernel_rfl) ?_ _
      refine NoPanic.normal ?_
      exact hcut8.out _ _ _ _ _ _ _ _ _ _ _ _ _ _ _ _ _ _ _ _ _ _ _ _ _ _ _ _ _ _ _ _ _ _ _ _ _ _ _ _ _ _ _ _ _ _ _ _ _ _ _ _ _ _ _ _ _ _ _ _ _ _ _ _ _ _ _ _ _ _ _ _ _ _ _ _ _ _ _ _ _ _ _ _ _ _ _ _ _ _ _ _ _ _ _ _ _ _ _ _ _ _ _ _ _ _ _ _ _ _ _ _ _ _ _ _ _
  have d : W6.cell? ⟨B, 10, none⟩ = some (.int .i64 t.row) := cells_all hB6 10
  have z : W6.frozen? ⟨B, 10, none⟩ = false := frozen_of_row _ _ _ _ _ hB6
  have cR := lastRow_any B u1a nn u1c W6.drew (cells_all hB6 7) (by omega)
  have hN7 : Hid (SB (W6.setCell ⟨B, 10, none⟩ (.int .i64 (min (max d7 0) ((nn : Int) - 1)))).drew B (scCs t.pa (.slice xpa t.pa.params.length xpc) (.slice xqa t.pa.text.length xqc) (.slice none 0 0) (.slice none 0 0) { t with gc := (cn : Int), oc := (cn : Int), row := min (max d7 0) ((nn : Int) - 1) } ⟨.slice u1a nn u1c, .slice u2a u2n u2c, .slice xta t.ti.length xtc, .slice xpa t.pa.params.length xpc, .slice xqa t.pa.text.length xqc⟩) ∧ W3.grownBy (W6.setCell ⟨B, 10, none⟩ (.int .i64 (min (max d7 0) ((nn : Int) - 1)))).drew (some B)) := ⟨BlkC.below (setCells_heap B 90 [.int .i64 (min (max d7 0) ((nn : Int) - 1))] 10 W6 _ hB6) (bdr _), grown_tr hgr6 (grown_tr (setCells_gr B [.int .i64 (min (max d7 0) ((nn : Int) - 1))] 10 W6) (gbl (bdr _) (some B)))⟩
  clear hB6 hgr6 
  replace hcut7 : Hid (∀ (i7_0 i7_1 i7_2 i7_3 i7_4 i7_5 i7_7 i7_8 i7_10 i7_11 i7_12 i7_13 i7_14 i7_15 i7_16 i7_17 i7_18 i7_19 i7_20 i7_21 i7_22 i7_23 i7_24 i7_25 i7_26 i7_27 i7_28 i7_29 i7_30 i7_31 i7_32 i7_33 i7_34 i7_35 i7_36 i7_37 i7_38 i7_39 i7_40 i7_41 i7_42 i7_43 i7_44 i7_45 i7_46 i7_47 i7_48 i7_49 i7_50 i7_51 i7_52 i7_53 i7_54 i7_55 i7_56 i7_57 i7_58 i7_59 i7_60 i7_61 i7_62 i7_63 i7_64 i7_65 i7_66 i7_67 i7_68 i7_69 i7_70 i7_71 i7_72 i7_73 i7_74 i7_75 i7_76 i7_77 i7_78 i7_79 i7_80 i7_81 i7_82 i7_83 i7_84 i7_85 i7_86 i7_87 i7_88 i7_89 i7_90 i7_91 i7_92 i7_93 i7_94 i7_95 i7_96 i7_97 i7_98 i7_99 i7_100 i7_101 i7_102 i7_103 i7_104 i7_105 i7_106 i7_107 i7_108 i7_109 i7_110 i7_111 i7_112 i7_113 i7_114 i7_115 i7_116 i7_117 i7_118 : Value), K7 { tmps := #[i7_0, i7_1, i7_2, i7_3, i7_4, i7_5, .pointer (some ⟨w.heap.size + 1, 0, none⟩), i7_7, i7_8, .pointer (some ⟨B, 0, none⟩), i7_10, i7_11, i7_12, i7_13, i7_14, i7_15, i7_16, i7_17, i7_18, i7_19, i7_20, i7_21, i7_22, i7_23, i7_24, i7_25, i7_26, i7_27, i7_28, i7_29, i7_30, i7_31, i7_32, i7_33, i7_34, i7_35, i7_36, i7_37, i7_38, i7_39, i7_40, i7_41, i7_42, i7_43, i7_44, i7_45, i7_46, i7_47, i7_48, i7_49, i7_50, i7_51, i7_52, i7_53, i7_54, i7_55, i7_56, i7_57, i7_58, i7_59, i7_60, i7_61, i7_62, i7_63, i7_64, i7_65, i7_66, i7_67, i7_68, i7_69, i7_70, i7_71, i7_72, i7_73, i7_74, i7_75, i7_76, i7_77, i7_78, i7_79, i7_80, i7_81, i7_82, i7_83, i7_84, i7_85, i7_86, i7_87, i7_88, i7_89, i7_90, i7_91, i7_92, i7_93, i7_94, i7_95, i7_96, i7_97, i7_98, i7_99, i7_100, i7_101, i7_102, i7_103, i7_104, i7_105, i7_106, i7_107, i7_108, i7_109, i7_110, i7_111, i7_112, i7_113, i7_114, i7_115, i7_116, i7_117, i7_118], defers := [] } (W6.setCell ⟨B, 10, none⟩ (.int .i64 (min (max d7 0) ((nn : Int) - 1)))).drew) := fun i7_0 i7_1 i7_2 i7_3 i7_4 i7_5 i7_7 i7_8 i7_10 i7_11 i7_12 i7_13 i7_14 i7_15 i7_16 i7_17 i7_18 i7_19 i7_20 i7_21 i7_22 i7_23 i7_24 i7_25 i7_26 i7_27 i7_28 i7_29 i7_30 i7_31 i7_32 i7_33 i7_34 i7_35 i7_36 i7_37 i7_38 i7_39 i7_40 i7_41 i7_42 i7_43 i7_44 i7_45 i7_46 i7_47 i7_48 i7_49 i7_50 i7_51 i7_52 i7_53 i7_54 i7_55 i7_56 i7_57 i7_58 i7_59 i7_60 i7_61 i7_62 i7_63 i7_64 i7_65 i7_66 i7_67 i7_68 i7_69 i7_70 i7_71 i7_72 i7_73 i7_74 i7_75 i7_76 i7_77 i7_78 i7_79 i7_80 i7_81 i7_82 i7_83 i7_84 i7_85 i7_86 i7_87 i7_88 i7_89 i7_90 i7_91 i7_92 i7_93 i7_94 i7_95 i7_96 i7_97 i7_98 i7_99 i7_100 i7_101 i7_102 i7_103 i7_104 i7_105 i7_106 i7_107 i7_108 i7_109 i7_110 i7_111 i7_112 i7_113 i7_114 i7_115 i7_116 i7_117 i7_118 => hcut7.out i7_0 i7_1 i7_2 i7_3 i7_4 i7_5 i7_7 i7_8 i7_10 i7_11 i7_12 i7_13 i7_14 i7_15 i7_16 i7_17 i7_18 i7_19 i7_20 i7_21 i7_22 i7_23 i7_24 i7_25 i7_26 i7_27 i7_28 i7_29 i7_30 i7_31 i7_32 i7_33 i7_34 i7_35 i7_36 i7_37 i7_38 i7_39 i7_40 i7_41 i7_42 i7_43 i7_44 i7_45 i7_46 i7_47 i7_48 i7_49 i7_50 i7_51 i7_52 i7_53 i7_54 i7_55 i7_56 i7_57 i7_58 i7_59 i7_60 i7_61 i7_62 i7_63 i7_64 i7_65 i7_66 i7_67 i7_68 i7_69 i7_70 i7_71 i7_72 i7_73 i7_74 i7_75 i7_76 i7_77 i7_78 i7_79 i7_80 i7_81 i7_82 i7_83 i7_84 i7_85 i7_86 i7_87 i7_88 i7_89 i7_90 i7_91 i7_92 i7_93 i7_94 i7_95 i7_96 i7_97 i7_98 i7_99 i7_100 i7_101 i7_102 i7_103 i7_104 i7_105 i7_106 i7_107 i7_108 i7_109 i7_110 i7_111 i7_112 i7_113 i7_114 i7_115 i7_116 i7_117 i7_118 _ hN7.out.1 hN7.out.2
  clear hN7 hAll e1 e7 hn1 hn2 hnw' hBz q4 hV hSp
  refine wp_region_noPanic ?_
  refine wp_region_held_drew (S := (fun _ => True)) (by kernel_rfl) trivial (fun hHeld => ?_)
  refine' wpAnyH_take (i := 0) (v := _) rfl (by kernel_rfl) (by kernel_rfl) (by kernel_rfl) (fun _ _ _ h => h) (Or.inl ⟨by rfl, ?hy1043⟩) hHeld ?hr1043
  case hy1043 => (intro w hSw; (try dsimp only at hSw); go_simp; (try with_reducible rfl))
  simp only [Act.put, List.setIfInBounds_toArray, List.set_cons_zero, List.set_cons_succ, List.getElem_toArray, List.getElem_cons_zero]
  refine' wpAnyH_take (i := 1) (v := _) rfl (by kernel_rfl) (by kernel_rfl) (by kernel_rfl) (fun _ _ _ h => h) (Or.inl ⟨by rfl, ?hy1044⟩) hHeld ?hr1044
  case hy1044 => (intro w hSw; (try dsimp only at hSw); go_simp; (try with_reducible rfl))
  simp only [Act.put, List.setIfInBounds_toArray, List.set_cons_zero, List.set_cons_succ, List.getElem_toArray, List.getElem_cons_zero, List.getElem_cons_succ]
  refine' wpAnyH_take (i := 2) (v := _) rfl (by kernel_rfl) (by kernel_rfl) (by kernel_rfl) (fun _ _ _ h => h) (Or.inl ⟨by rfl, ?hy1045⟩) hHeld ?hr1045
  case hy1045 => (intro w hSw; (try dsimp only at hSw); go_simp; (try with_reducible rfl))
  simp only [Act.put, List.setIfInBounds_toArray, List.set_cons_zero, List.set_cons_succ, List.getElem_toArray, List.getElem_cons_zero, List.getElem_cons_succ]
  refine' wpAnyH_take (i := 3) (v := _) rfl (by kernel_rfl) (by kernel_rfl) (by kernel_rfl) (fun _ _ _ h => h) (Or.inl ⟨by rfl, ?hy1046⟩) hHeld ?hr1046
  case hy1046 => (intro w hSw; (try dsimp only at hSw); go_simp; (try with_reducible rfl))
  simp only [Act.put, List.setIfInBounds_toArray, List.set_cons_zero, List.set_cons_succ, List.getElem_toArray, List.getElem_cons_zero, List.getElem_cons_succ]
  refine' wpAnyH_take (i := 4) (v := _) rfl (by kernel_rfl) (by kernel_rfl) (by kernel_rfl) (fun _ _ _ h => h) (Or.inl ⟨by rfl, ?hy1047⟩) hHeld ?hr1047
  case hy1047 => (intro w hSw; (try dsimp only at hSw); go_simp; (try with_reducible rfl))
  simp only [Act.put, List.setIfInBounds_toArray, List.set_cons_zero, List.set_cons_succ, List.getElem_toArray, List.getElem_cons_zero, List.getElem_cons_succ]
  refine' wpAnyH_take (i := 6) (v := _) rfl (by kernel_rfl) (by kernel_rfl) (by kernel_rfl) (fun _ _ _ h => h) (Or.inl ⟨by rfl, ?hy1048⟩) hHeld ?hr1048
  case hy1048 => (intro w hSw; (try dsimp only at hSw); go_simp; (try with_reducible rfl))
  simp only [Act.put, List.setIfInBounds_toArray, List.set_cons_zero, List.set_cons_succ, List.getElem_toArray, List.getElem_cons_zero, List.getElem_cons_succ]
  refine' wpAnyH_take (i := 9) (v := _) rfl (by kernel_rfl) (by kernel_rfl) (by kernel_rfl) (fun _ _ _ h => h) (Or.inl ⟨by rfl, ?hy1049⟩) hHeld ?hr1049
  case hy1049 => (intro w hSw; (try dsimp only at hSw); go_simp; (try with_reducible rfl))
  simp only [Act.put, List.setIfInBounds_toArray, List.set_cons_zero, List.set_cons_succ, List.getElem_toArray, List.getElem_cons_zero, List.getElem_cons_succ]
  refine wpAnyH_ready (rs := [5, 10]) (by kernel_rfl) (by simp) (AllReadyH.cons rfl (fun K hK => ?_) (AllReadyH.cons rfl (fun K hK => ?_) AllReadyH.nil))
  · go_simp
    refine hK.out _ _ trivial (fun hHeld => ?_)
    clear hK K
    (try simp only [Act.put, List.setIfInBounds_toArray, List.set_cons_zero, List.set_cons_succ, List.getElem_toArray, List.getElem_cons_zero, List.getElem_cons_succ])
    refine' wpAnyH_take (i := 7) (v := _) rfl (by kernel_rfl) (by kernel_rfl) (by kernel_rfl) (fun _ _ _ h => h) (Or.inl ⟨by rfl, ?hy1050⟩) hHeld ?hr1050
    case hy1050 => (intro w hSw; (try dsimp only at hSw); go_simp; (try with_reducible rfl))
    simp only [Act.put, List.setIfInBounds_toArray, List.set_cons_zero, List.set_cons_succ, List.getElem_toArray, List.getElem_cons_zero, List.getElem_cons_succ]
    refine' wpAnyH_take (i := 8) (v := _) rfl (by kernel_rfl) (by kernel_rfl) (by kernel_rfl) (fun _ _ _ h => h) (Or.inl ⟨by rfl, ?hy1051⟩) hHeld ?hr1051
    case hy1051 => (intro w hSw; (try dsimp only at hSw); go_simp; (try with_reducible rfl))
    simp only [Act.put, List.setIfInBounds_toArray, List.set_cons_zero, List.set_cons_succ, List.getElem_toArray, List.getElem_cons_zero, List.getElem_cons_succ]
    refine wpAnyH_ready (rs := [10]) (by kernel_rfl) (by simp) (AllReadyH.cons rfl (fun K hK => ?_) AllReadyH.nil)
    go_simp
    refine cR.mono ?_
    rintro e wk ⟨rfl, hw⟩
    subst hw
    go_wp2_with fail
    refine hK.out _ _ trivial (fun hHeld => ?_)
    clear hK K
    (try simp only [Act.put, List.setIfInBounds_toArray, List.set_cons_zero, List.set_cons_succ, List.getElem_toArray, List.getElem_cons_zero, List.getElem_cons_succ])
    refine' wpAnyH_take (i := 11) (v := _) rfl (by kernel_rfl) (by kernel_rfl) (by kernel_rfl) (fun _ _ _ h => h) (Or.inl ⟨by rfl, ?hy1052⟩) hHeld ?hr1052
    case hy1052 => (intro w hSw; (try dsimp only at hSw); go_simp; (try with_reducible rfl))
    simp only [Act.put, List.setIfInBounds_toArray, List.set_cons_zero, List.set_cons_succ, List.getElem_toArray, List.getElem_cons_zero, List.getElem_cons_succ]
    refine' wpAnyH_take (i := 12) (v := _) rfl (by kernel_rfl) (by kernel_rfl) (by kernel_rfl) (fun _ _ _ h => h) (Or.inl ⟨by rfl, ?hy1053⟩) hHeld ?hr1053
    case hy1053 => (intro w hSw; (try dsimp only at hSw); go_simp; (try with_reducible rfl))
    simp only [Act.put, List.setIfInBounds_toArray, List.set_cons_zero, List.set_cons_succ, List.getElem_toArray, List.getElem_cons_zero, List.getElem_cons_succ]
    refine' wpAnyH_take (i := 13) (v := _) rfl (by kernel_rfl) (by kernel_rfl) (by kernel_rfl) (fun _ _ _ h => h) (Or.inl ⟨by rfl, ?hy1054⟩) hHeld ?hr1054
    case hy1054 => (intro w hSw; (try dsimp only at hSw); go_simp; (try with_reducible rfl))
    simp only [Act.put, List.setIfInBounds_toArray, List.set_cons_zero, List.set_cons_succ, List.getElem_toArray, List.getElem_cons_zero, List.getElem_cons_succ]
    refine' wpAnyH_take (i := 14) (v := _) rfl (by kernel_rfl) (by kernel_rfl) (by kernel_rfl) (fun _ _ _ h => h) (Or.inl ⟨by rfl, ?hy1055⟩) hHeld ?hr1055
    case hy1055 => (intro w hSw; (try dsimp only at hSw); go_simp; (try with_reducible rfl))
    simp only [Act.put, List.setIfInBounds_toArray, List.set_cons_zero, List.set_cons_succ, List.getElem_toArray, List.getElem_cons_zero, List.getElem_cons_succ]
    refine wpAnyH_ready (rs := [15]) (by kernel_rfl) (by simp) (AllReadyH.cons rfl (fun K hK => ?_) AllReadyH.nil)
    go_simp
    refine hK.out _ _ trivial (fun hHeld => ?_)
    clear hK K
    (try simp only [Act.put, List.setIfInBounds_toArray, List.set_cons_zero, List.set_cons_succ, List.getElem_toArray, List.getElem_cons_zero, List.getElem_cons_succ])
    refine wpAnyH_done (by kernel_rfl) ?_ _
    refine NoPanic.normal ?_
    exact hcut7.out _ _ _ _ _ _ _ _ _ _ _ _ _ _ _ _ _ _ _ _ _ _ _ _ _ _ _ _ _ _ _ _ _ _ _ _ _ _ _ _ _ _ _ _ _ _ _ _ _ _ _ _ _ _ _ _ _ _ _ _ _ _ _ _ _ _ _ _ _ _ _ _ _ _ _ _ _ _ _ _ _ _ _ _ _ _ _ _ _ _ _ _ _ _ _ _ _ _ _ _ _ _ _ _ _ _ _ _ _ _ _ _ _ _ _ _ _
  · go_simp
    refine cR.mono ?_
    rintro e wk ⟨rfl, hw⟩
    subst hw
    go_wp2_with fail
    refine hK.out _ _ trivial (fun hHeld => ?_)
    clear hK K
    (try simp only [Act.put, List.setIfInBounds_toArray, List.set_cons_zero, List.set_cons_succ, List.getElem_toArray, List.getElem_cons_zero, List.getElem_cons_succ])
    refine wpAnyH_ready (rs := [5]) (by kernel_rfl) (by simp) (AllReadyH.cons rfl (fun K hK => ?_) AllReadyH.nil)
    go_simp
    refine hK.out _ _ trivial (fun hHeld => ?_)
    clear hK K
    (try simp only [Act.put, List.setIfInBounds_toArray, List.set_cons_zero, List.set_cons_succ, List.getElem_toArray, List.getElem_cons_zero, List.getElem_cons_succ])
    refine' wpAnyH_take (i := 7) (v := _) rfl (by kernel_rfl) (by kernel_rfl) (by kernel_rfl) (fun _ _ _ h => h) (Or.inl ⟨by rfl, ?hy1056⟩) hHeld ?hr1056
    case hy1056 => (intro w hSw; (try dsimp only at hSw); go_simp; (try with_reducible rfl))
    simp only [Act.put, List.setIfInBounds_toArray, List.set_cons_zero, List.set_cons_succ, List.getElem_toArray, List.getElem_cons_zero, List.getElem_cons_succ]
    refine' wpAnyH_take (i := 8) (v := _) rfl (by kernel_rfl) (by kernel_rfl) (by kernel_rfl) (fun _ _ _ h => h) (Or.inl ⟨by rfl, ?hy1057⟩) hHeld ?hr1057
    case hy1057 => (intro w hSw; (try dsimp only at hSw); go_simp; (try with_reducible rfl))
    simp only [Act.put, List.setIfInBounds_toArray, List.set_cons_zero, List.set_cons_succ, List.getElem_toArray, List.getElem_cons_zero, List.getElem_cons_succ]
    refine' wpAnyH_take (i := 11) (v := _) rfl (by kernel_rfl) (by kernel_rfl) (by kernel_rfl) (fun _ _ _ h => h) (Or.inl ⟨by rfl, ?hy1058⟩) hHeld ?hr1058
    case hy1058 => (intro w hSw; (try dsimp only at hSw); go_simp; (try with_reducible rfl))
    simp only [Act.put, List.setIfInBounds_toArray, List.set_cons_zero, List.set_cons_succ, List.getElem_toArray, List.getElem_cons_zero, List.getElem_cons_succ]
    refine' wpAnyH_take (i := 12) (v := _) rfl (by kernel_rfl) (by kernel_rfl) (by kernel_rfl) (fun _ _ _ h => h) (Or.inl ⟨by rfl, ?hy1059⟩) hHeld ?hr1059
    case hy1059 => (intro w hSw; (try dsimp only at hSw); go_simp; (try with_reducible rfl))
    simp only [Act.put, List.setIfInBounds_toArray, List.set_cons_zero, List.set_cons_succ, List.getElem_toArray, List.getElem_cons_zero, List.getElem_cons_succ]
    refine' wpAnyH_take (i := 13) (v := _) rfl (by kernel_rfl) (by kernel_rfl) (by kernel_rfl) (fun _ _ _ h => h) (Or.inl ⟨by rfl, ?hy1060⟩) hHeld ?hr1060
    case hy1060 => (intro w hSw; (try dsimp only at hSw); go_simp; (try with_reducible rfl))
    simp only [Act.put, List.setIfInBounds_toArray, List.set_cons_zero, List.set_cons_succ, List.getElem_toArray, List.getElem_cons_zero, List.getElem_cons_succ]
    refine' wpAnyH_take (i := 14) (v := _) rfl (by kernel_rfl) (by kernel_rfl) (by kernel_rfl) (fun _ _ _ h => h) (Or.inl ⟨by rfl, ?hy1061⟩) hHeld ?hr1061
    case hy1061 => (intro w hSw; (try dsimp only at hSw); go_simp; (try with_reducible rfl))
    simp only [Act.put, List.setIfInBounds_toArray, List.set_cons_zero, List.set_cons_succ, List.getElem_toArray, List.getElem_cons_zero, List.getElem_cons_succ]
    refine wpAnyH_ready (rs := [15]) (by kernel_rfl) (by simp) (AllReadyH.cons rfl (fun K hK => ?_) AllReadyH.nil)
    go_simp
    refine hK.out _ _ trivial (fun hHeld => ?_)
    clear hK K
    (try simp only [Act.put, List.setIfInBounds_toArray, List.set_cons_zero, List.set_cons_succ, List.getElem_toArray, List.getElem_cons_zero, List.getElem_cons_succ])
    refine wpAnyH_done (by kernel_rfl) ?_ _
    refine NoPanic.normal ?_
    exact hcut7.out _ _ _ _ _ _ _ _ _ _ _ _ _ _ _ _ _ _ _ _ _ _ _ _ _ _ _ _ _ _ _ _ _ _ _ _ _ _ _ _ _ _ _ _ _ _ _ _ _ _ _ _ _ _ _ _ _ _ _ _ _ _ _ _ _ _ _ _ _ _ _ _ _ _ _ _ _ _ _ _ _ _ _ _ _ _ _ _ _ _ _ _ _ _ _ _ _ _ _ _ _ _ _ _ _ _ _ _ _ _ _ _ _ _ _ _ _
end Go.Proofs.YtdbpjfdlibodcaaGreatDoor
