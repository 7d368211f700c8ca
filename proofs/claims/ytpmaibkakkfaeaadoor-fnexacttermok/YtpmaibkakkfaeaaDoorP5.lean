/- The laws' own helpers on screens: copy. The laws' own helpers on grids: likeness. The walk of the law of Feed. The laws' own helpers on screens: likeness. The walk of the exact law of TermOk. -/
import Derived.Test.YtpmaibkakkfaeaaDoorP4
import Derived.Deep.RegionHeld3
namespace Go.Proofs.YtpmaibkakkfaeaaDoor
open Go.ChangeShapes Go.WideShapes Go.ChangeAt Go.RowKit
/-- A screen's block by its cells. -/
def TB (w : World) (B : Nat) (cs : List Value) : Prop := BlkC w B 43 cs
theorem TB.lt {w : World} {B : Nat} {cs : List Value} (h : TB w B cs) : B < w.heap.size := (Array.getElem?_eq_some_iff.1 h).1
theorem inf_i : (Tryd.prog.info? 2).map (·.size) = some 1 := by kernel_rfl
theorem inf_b : (Tryd.prog.info? 4).map (·.size) = some 1 := by kernel_rfl
theorem inf_g : (Tryd.prog.info? 38).map (·.size) = some 2 := by kernel_rfl
theorem inf_s : (Tryd.prog.info? 39).map (·.size) = some 5 := by kernel_rfl
theorem inf_l : (Tryd.prog.info? 27).map (·.size) = some 1 := by kernel_rfl
theorem inf_p : (Tryd.prog.info? 40).map (·.size) = some 4 := by kernel_rfl
theorem inf_f : (Tryd.prog.info? 41).map (·.size) = some 1 := by kernel_rfl
theorem TB.kept {w w' : World} {B : Nat} {cs : List Value} {row : Option Nat} (h : TB w B cs) (hg : w.grownBy w' row) (hne : row ≠ some B) : TB w' B cs := by
  unfold TB BlkC
  rw [hg.block B h.lt (Ne.symm hne)]
  exact h
theorem TB.below {w w' : World} {B : Nat} {cs : List Value} (h : TB w B cs) (hb : Below w.heap.size w w') : TB w' B cs := h.kept (gbl hb none) (by simp)
theorem TB.new (w : World) (cs : List Value) : TB (w.alloc (.cells cs.toArray 43)) w.heap.size cs := heap_alloc_new w _
theorem LiOk.join {w : World} {b c : Nat} {L M : List (Value × List Int)} (h : LiOk w b L) (hl : ∀ p ∈ L, ∀ g, p.1.ownBlock = some g → g < c) (k : LiOk w c M) (hbc : b ≤ c) : LiOk w b (L ++ M) :=
  ⟨fun p hp => (List.mem_append.1 hp).elim (h.1 p) (fun hm => (k.1 p hm).low hbc), List.pairwise_append.2 ⟨h.2, k.2, fun p hp q hq g e1 e2 => by have := hl p hp g e1; have := ((k.1 q hq).lt g e2).1; omega⟩⟩
theorem OwnR.low {w : World} {lo lo' hi : Nat} {v : Value} {rows : List (List Ce)} (h : OwnR w lo hi v rows) (hb : lo' ≤ lo) : OwnR w lo' hi v rows := ⟨h.1.low hb, h.2.1, h.2.2⟩
/-- A screen's memory, all of one call's own: grids in ranges of their own. -/
def OwnT (w : World) (base : Nat) (t : Te) (v : Tv) : Prop := ∃ b1 b2 b3, OwnR w base b1 v.g t.g ∧ OwnR w b1 b2 v.o t.o ∧ LiOk w b3 [(v.ti, t.ti), (v.pp, t.pa.params), (v.pt, t.pa.text)] ∧ base ≤ b1 ∧ b1 ≤ b2 ∧ b2 ≤ b3 ∧ b3 ≤ w.heap.size
theorem OwnT.below {w w' : World} {base : Nat} {t : Te} {v : Tv} (h : OwnT w base t v) (hb : Below w.heap.size w w') : OwnT w' base t v := by
  obtain ⟨b1, b2, b3, h1, h2, h3, h4, h5, h6, h7⟩ := h
  exact ⟨b1, b2, b3, h1.below hb, h2.below hb, h3.below hb, h4, h5, h6, Nat.le_trans h7 hb.size⟩
theorem OwnT.sl {w : World} {base : Nat} {t : Te} {v : Tv} (h : OwnT w base t v) : SlT w t v := by
  obtain ⟨b1, b2, b3, h1, h2, h3, _⟩ := h
  exact ⟨h1.sl, h2.sl, SlN.of_own h3.head, SlN.of_own h3.tail.head, SlN.of_own h3.tail.tail.head⟩
theorem OwnR.grown {w w' : World} {lo hi B : Nat} {v : Value} {rows : List (List Ce)} (h : OwnR w lo hi v rows) (hg : w.grownBy w' (some B)) (hB : B < lo) : OwnR w' lo hi v rows :=
  ⟨h.1.kept hg (fun g e => by cases e; exact hB), h.2.1, Nat.le_trans h.2.2 hg.size⟩
set_option maxHeartbeats 16000000 in
set_option maxRecDepth 40000 in
theorem toTerm_copy (t : Te) (v : Tv) (w : World) (h : SlT w t v) (hz : SzT 1048576 t) :
    Calls Tryd.prog 6 #[teV t v] w fun e w' => ∃ v', e = .returned (teV t v') ∧ OwnT w' w.heap.size t v' ∧ Below w.heap.size w w' := by
  obtain ⟨vg, vo, vti, vpp, vpt⟩ := v
  obtain ⟨hg, ho, hti, hpp, hpt⟩ := h
  simp only at hg ho hti hpp hpt
  obtain ⟨z1, z2, z3, z4, z5, z6, z7⟩ := hz
  have cG := fun W hW => toGrid_copy t.gc vg t.g W hW (by omega) (fun i hi => by have := z2 i hi; omega)
  have cO := fun W hW => toGrid_copy t.oc vo t.o W hW (by omega) (fun i hi => by have := z4 i hi; omega)
  have cS := fun W => toStyle_any t.st W
  have cSs := fun W => toStyle_any t.ss W
  have cT := fun W hW => toI_copy vti t.ti W hW (by omega)
  have cP := fun W h1 h2 => toParser_copy t.pa vpp vpt W h1 h2 (by omega) (by omega)
  have cF := fun W => toFeeder_any t.fe W
  have hb0 := bal' w (Obj.cells (teCs t ⟨vg, vo, vti, vpp, vpt⟩) 33)
  have hX0 := TeB.new w 33 t ⟨vg, vo, vti, vpp, vpt⟩
  obtain ⟨ga, gp, hq1⟩ := slG_shp hg
  obtain ⟨oa, op, hq2⟩ := slG_shp ho
  obtain ⟨tia, tip, hq3⟩ := hti.shp
  obtain ⟨ppa, ppp, hq4⟩ := hpp.shp
  obtain ⟨pta, ptp, hq5⟩ := hpt.shp
  subst hq1; subst hq2; subst hq3; subst hq4; subst hq5
  obtain ⟨w1, hw1⟩ : ∃ w1, w1 = w.alloc (Obj.cells (teCs t ⟨.slice ga t.g.length gp, .slice oa t.o.length op, .slice tia t.ti.length tip, .slice ppa t.pa.params.length ppp, .slice pta t.pa.text.length ptp⟩) 33) := ⟨_, rfl⟩
  rw [← hw1] at hX0 hb0
  have zs1 : w1.heap.size = w.heap.size + 1 := by rw [hw1]; simp
  obtain ⟨w2, hw2⟩ : ∃ w2, w2 = (w1.alloc (Obj.cells #[.int .i64 0, .slice none 0 0, .int .i64 0, .slice none 0 0, .int .i64 0, .int .i64 0, .int .i64 0, .int .i64 0, .bool false, .bool false, .bool false, .int .i64 0, .int .i64 0, .bool false, .bool false, .bool false, .bool false, .int .i64 0, .int .i64 0, .int .i64 0, .int .i64 0, .bool false, .bool false, .bool false, .slice none 0 0, .int .i64 0, .slice none 0 0, .int .i64 0, .slice none 0 0, .string ⟨#[]⟩] 43)).alloc (Obj.cells #[.int .i64 0, .slice none 0 0, .int .i64 0, .slice none 0 0, .int .i64 0, .int .i64 0, .int .i64 0, .int .i64 0, .bool false, .bool false, .bool false, .int .i64 0, .int .i64 0, .bool false, .bool false, .bool false, .bool false, .int .i64 0, .int .i64 0, .int .i64 0, .int .i64 0, .bool false, .bool false, .bool false, .slice none 0 0, .int .i64 0, .slice none 0 0, .int .i64 0, .slice none 0 0, .string ⟨#[]⟩] 43) := ⟨_, rfl⟩
  have hb1 := bal' w1 (Obj.cells #[.int .i64 0, .slice none 0 0, .int .i64 0, .slice none 0 0, .int .i64 0, .int .i64 0, .int .i64 0, .int .i64 0, .bool false, .bool false, .bool false, .int .i64 0, .int .i64 0, .bool false, .bool false, .bool false, .bool false, .int .i64 0, .int .i64 0, .int .i64 0, .int .i64 0, .bool false, .bool false, .bool false, .slice none 0 0, .int .i64 0, .slice none 0 0, .int .i64 0, .slice none 0 0, .string ⟨#[]⟩] 43)
  have hb2 := bal' (w1.alloc (Obj.cells #[.int .i64 0, .slice none 0 0, .int .i64 0, .slice none 0 0, .int .i64 0, .int .i64 0, .int .i64 0, .int .i64 0, .bool false, .bool false, .bool false, .int .i64 0, .int .i64 0, .bool false, .bool false, .bool false, .bool false, .int .i64 0, .int .i64 0, .int .i64 0, .int .i64 0, .bool false, .bool false, .bool false, .slice none 0 0, .int .i64 0, .slice none 0 0, .int .i64 0, .slice none 0 0, .string ⟨#[]⟩] 43)) (Obj.cells #[.int .i64 0, .slice none 0 0, .int .i64 0, .slice none 0 0, .int .i64 0, .int .i64 0, .int .i64 0, .int .i64 0, .bool false, .bool false, .bool false, .int .i64 0, .int .i64 0, .bool false, .bool false, .bool false, .bool false, .int .i64 0, .int .i64 0, .int .i64 0, .int .i64 0, .bool false, .bool false, .bool false, .slice none 0 0, .int .i64 0, .slice none 0 0, .int .i64 0, .slice none 0 0, .string ⟨#[]⟩] 43)
  have hR0 := (TB.new w1 [.int .i64 0, .slice none 0 0, .int .i64 0, .slice none 0 0, .int .i64 0, .int .i64 0, .int .i64 0, .int .i64 0, .bool false, .bool false, .bool false, .int .i64 0, .int .i64 0, .bool false, .bool false, .bool false, .bool false, .int .i64 0, .int .i64 0, .int .i64 0, .int .i64 0, .bool false, .bool false, .bool false, .slice none 0 0, .int .i64 0, .slice none 0 0, .int .i64 0, .slice none 0 0, .string ⟨#[]⟩]).below hb2
  have hB0 := TB.new (w1.alloc (Obj.cells #[.int .i64 0, .slice none 0 0, .int .i64 0, .slice none 0 0, .int .i64 0, .int .i64 0, .int .i64 0, .int .i64 0, .bool false, .bool false, .bool false, .int .i64 0, .int .i64 0, .bool false, .bool false, .bool false, .bool false, .int .i64 0, .int .i64 0, .int .i64 0, .int .i64 0, .bool false, .bool false, .bool false, .slice none 0 0, .int .i64 0, .slice none 0 0, .int .i64 0, .slice none 0 0, .string ⟨#[]⟩] 43)) [.int .i64 0, .slice none 0 0, .int .i64 0, .slice none 0 0, .int .i64 0, .int .i64 0, .int .i64 0, .int .i64 0, .bool false, .bool false, .bool false, .int .i64 0, .int .i64 0, .bool false, .bool false, .bool false, .bool false, .int .i64 0, .int .i64 0, .int .i64 0, .int .i64 0, .bool false, .bool false, .bool false, .slice none 0 0, .int .i64 0, .slice none 0 0, .int .i64 0, .slice none 0 0, .string ⟨#[]⟩]
  have hbb := hb1.trans (hb2.mono hb1.size)
  have zs2 : w2.heap.size = w.heap.size + 3 := by rw [hw2]; simp; omega
  rw [← hw2] at hR0 hB0 hbb
  rw [zs1] at hR0
  rw [show (w1.alloc (Obj.cells #[.int .i64 0, .slice none 0 0, .int .i64 0, .slice none 0 0, .int .i64 0, .int .i64 0, .int .i64 0, .int .i64 0, .bool false, .bool false, .bool false, .int .i64 0, .int .i64 0, .bool false, .bool false, .bool false, .bool false, .int .i64 0, .int .i64 0, .int .i64 0, .int .i64 0, .bool false, .bool false, .bool false, .slice none 0 0, .int .i64 0, .slice none 0 0, .int .i64 0, .slice none 0 0, .string ⟨#[]⟩] 43)).heap.size = w.heap.size + 2 by simp; omega] at hB0
  have hX := hX0.below hbb
  have kb := hb0.trans (hbb.mono hb0.size)
  rw [hw1] at hw2
  replace hw2 := (show Hid _ from hw2)
  clear z1 z2 z3 z4 z5 z6 z7 hb0 hb1 hb2 hbb hX0 hw1 zs1
  unfold teV gridV stV paV at *
  go_enter Tryd.func6, Tryd.ntmps6
  refine wp_seq_k (fun K hK => ?_)
  have hH := (show Hid _ from hK)
  clear hK
  go_wp2
  refine hH.out _ _ ?_
  clear hH
  refine wp_seq_k (fun K hK => ?_)
  have hH := (show Hid _ from hK)
  clear hK
  go_wp2
  refine hH.out _ _ ?_
  rw [← hw2.out, show w.heap.size + 1 + 1 = w.heap.size + 2 from rfl]
  clear hH hw2
  obtain ⟨c0, c1, c2, c3, c4, c5, c6, c7, c8, c9, c10, c11, c12, c13, c14, c15, c16, c17, c18, c19, c20, c21, c22, c23, c24, c25, c26, c27, c28, c29⟩ := hX.cells
  go_wp2_with fail
  refine (cG _ (hg.below kb)).mono ?_
  rintro e w3 ⟨xg, rfl, hng, hb⟩
  clear c0 c1 c2 c3 c4 c5 c6 c7 c8 c9 c10 c11 c12 c13 c14 c15 c16 c17 c18 c19 c20 c21 c22 c23 c24 c25 c26 c27 c28 c29
  have hB := hB0.below hb
  replace hX := hX.below hb
  have hR := hR0.below hb
  have s23 : w2.heap.size ≤ w3.heap.size := hb.size
  replace kb := kb.trans (hb.mono kb.size)
  clear hB0 hR0 hb
  obtain ⟨xga, xgn, xgp, hxg⟩ := slShp (SlG.of_own hng)
  subst hxg
  have og : OwnR w3 w2.heap.size w3.heap.size (.slice xga xgn xgp) t.g := OwnR.of hng
  clear hng
  have hBl := hB
  have hac := World.grownBy.refl w3 (some (w.heap.size + 2))
  obtain ⟨z3, hz3⟩ : ∃ z, Hid (w3.heap.size = z) := ⟨_, rfl⟩
  have zc := hz3
  obtain ⟨c0, c1, c2, c3, c4, c5, c6, c7, c8, c9, c10, c11, c12, c13, c14, c15, c16, c17, c18, c19, c20, c21, c22, c23, c24, c25, c26, c27, c28, c29⟩ := hX.cells
  go_wp2_with (first | (refine store_at (by rfl) 38 _ _ (by rfl) inf_g hB (by rfl) (by rfl) (by rfl) (by rfl) (by rfl) ?_; intro W hg1 hB1 hz1; clear c0 c1 c2 c3 c4 c5 c6 c7 c8 c9 c10 c11 c12 c13 c14 c15 c16 c17 c18 c19 c20 c21 c22 c23 c24 c25 c26 c27 c28 c29; have hX1 := hX.kept hg1 (by simp); have hac1 := grown_tr hac hg1; have zc1 := (show Hid _ from hz1.trans zc.out); clear hX hB hac zc hg1 hz1; have hX := hX1; have hB := hB1; have hac := hac1; have zc := zc1; clear hX1 hB1 hac1 zc1; obtain ⟨c0, c1, c2, c3, c4, c5, c6, c7, c8, c9, c10, c11, c12, c13, c14, c15, c16, c17, c18, c19, c20, c21, c22, c23, c24, c25, c26, c27, c28, c29⟩ := hX.cells))
  clear c0 c1 c2 c3 c4 c5 c6 c7 c8 c9 c10 c11 c12 c13 c14 c15 c16 c17 c18 c19 c20 c21 c22 c23 c24 c25 c26 c27 c28 c29
  have kbc := kb.grown hac kb.size (fun g e => by cases e; omega)
  have hR := hR.kept hac (by simp)
  have og := og.grown hac (by omega)
  replace hB : TB _ (w.heap.size + 2) [.int .i64 t.gc, .slice xga xgn xgp, .int .i64 0, .slice none 0 0, .int .i64 0, .int .i64 0, .int .i64 0, .int .i64 0, .bool false, .bool false, .bool false, .int .i64 0, .int .i64 0, .bool false, .bool false, .bool false, .bool false, .int .i64 0, .int .i64 0, .int .i64 0, .int .i64 0, .bool false, .bool false, .bool false, .slice none 0 0, .int .i64 0, .slice none 0 0, .int .i64 0, .slice none 0 0, .string ⟨#[]⟩] := hB
  clear hac hBl
  refine (cO _ (ho.below kbc)).mono ?_
  rintro e w4 ⟨xo, rfl, hno, hb⟩
  replace hB := hB.below hb
  replace hX := hX.below hb
  replace hR := hR.below hb
  replace kb := kbc.trans (hb.mono kbc.size)
  have s34 : w3.heap.size ≤ w4.heap.size := by have := hb.size; rw [zc.out, ← hz3.out] at this; exact this
  replace og := og.below hb
  clear kbc hb
  rw [zc.out, ← hz3.out] at hno
  obtain ⟨xoa, xon, xop, hxo⟩ := slShp (SlG.of_own hno)
  subst hxo
  have oo : OwnR w4 w3.heap.size w4.heap.size (.slice xoa xon xop) t.o := OwnR.of hno
  clear hno
  clear zc
  have hBl := hB
  have hac := World.grownBy.refl w4 (some (w.heap.size + 2))
  obtain ⟨z4, hz4⟩ : ∃ z, Hid (w4.heap.size = z) := ⟨_, rfl⟩
  have zc := hz4
  obtain ⟨c0, c1, c2, c3, c4, c5, c6, c7, c8, c9, c10, c11, c12, c13, c14, c15, c16, c17, c18, c19, c20, c21, c22, c23, c24, c25, c26, c27, c28, c29⟩ := hX.cells
  go_wp2_with (first | (refine store_at (by rfl) 38 _ _ (by rfl) inf_g hB (by rfl) (by rfl) (by rfl) (by rfl) (by rfl) ?_; intro W hg1 hB1 hz1; clear c0 c1 c2 c3 c4 c5 c6 c7 c8 c9 c10 c11 c12 c13 c14 c15 c16 c17 c18 c19 c20 c21 c22 c23 c24 c25 c26 c27 c28 c29; have hX1 := hX.kept hg1 (by simp); have hac1 := grown_tr hac hg1; have zc1 := (show Hid _ from hz1.trans zc.out); clear hX hB hac zc hg1 hz1; have hX := hX1; have hB := hB1; have hac := hac1; have zc := zc1; clear hX1 hB1 hac1 zc1; obtain ⟨c0, c1, c2, c3, c4, c5, c6, c7, c8, c9, c10, c11, c12, c13, c14, c15, c16, c17, c18, c19, c20, c21, c22, c23, c24, c25, c26, c27, c28, c29⟩ := hX.cells) | (refine store_at (by rfl) 2 _ _ (by rfl) inf_i hB (by rfl) (by rfl) (by rfl) (by rfl) (by rfl) ?_; intro W hg1 hB1 hz1; clear c0 c1 c2 c3 c4 c5 c6 c7 c8 c9 c10 c11 c12 c13 c14 c15 c16 c17 c18 c19 c20 c21 c22 c23 c24 c25 c26 c27 c28 c29; have hX1 := hX.kept hg1 (by simp); have hac1 := grown_tr hac hg1; have zc1 := (show Hid _ from hz1.trans zc.out); clear hX hB hac zc hg1 hz1; have hX := hX1; have hB := hB1; have hac := hac1; have zc := zc1; clear hX1 hB1 hac1 zc1; obtain ⟨c0, c1, c2, c3, c4, c5, c6, c7, c8, c9, c10, c11, c12, c13, c14, c15, c16, c17, c18, c19, c20, c21, c22, c23, c24, c25, c26, c27, c28, c29⟩ := hX.cells))
  clear c0 c1 c2 c3 c4 c5 c6 c7 c8 c9 c10 c11 c12 c13 c14 c15 c16 c17 c18 c19 c20 c21 c22 c23 c24 c25 c26 c27 c28 c29
  have kbc := kb.grown hac kb.size (fun g e => by cases e; omega)
  have hR := hR.kept hac (by simp)
  have og := og.grown hac (by omega)
  have oo := oo.grown hac (by omega)
  replace hB : TB _ (w.heap.size + 2) [.int .i64 t.gc, .slice xga xgn xgp, .int .i64 t.oc, .slice xoa xon xop, .int .i64 t.row, .int .i64 t.col, .int .i64 0, .int .i64 0, .bool false, .bool false, .bool false, .int .i64 0, .int .i64 0, .bool false, .bool false, .bool false, .bool false, .int .i64 0, .int .i64 0, .int .i64 0, .int .i64 0, .bool false, .bool false, .bool false, .slice none 0 0, .int .i64 0, .slice none 0 0, .int .i64 0, .slice none 0 0, .string ⟨#[]⟩] := hB
  clear hac hBl
  refine (cS _).mono ?_
  rintro e w5 ⟨rfl, hb⟩
  replace hB := hB.below hb
  replace hX := hX.below hb
  replace hR := hR.below hb
  replace kb := kbc.trans (hb.mono kbc.size)
  have s45 : w4.heap.size ≤ w5.heap.size := by have := hb.size; rw [zc.out, ← hz4.out] at this; exact this
  replace og := og.below hb
  replace oo := oo.below hb
  clear kbc hb
  clear zc
  have hBl := hB
  have hac := World.grownBy.refl w5 (some (w.heap.size + 2))
  obtain ⟨z5, hz5⟩ : ∃ z, Hid (w5.heap.size = z) := ⟨_, rfl⟩
  have zc := hz5
  obtain ⟨c0, c1, c2, c3, c4, c5, c6, c7, c8, c9, c10, c11, c12, c13, c14, c15, c16, c17, c18, c19, c20, c21, c22, c23, c24, c25, c26, c27, c28, c29⟩ := hX.cells
  go_wp2_with (first | (refine store_at (by rfl) 39 _ _ (by rfl) inf_s hB (by rfl) (by rfl) (by rfl) (by rfl) (by rfl) ?_; intro W hg1 hB1 hz1; clear c0 c1 c2 c3 c4 c5 c6 c7 c8 c9 c10 c11 c12 c13 c14 c15 c16 c17 c18 c19 c20 c21 c22 c23 c24 c25 c26 c27 c28 c29; have hX1 := hX.kept hg1 (by simp); have hac1 := grown_tr hac hg1; have zc1 := (show Hid _ from hz1.trans zc.out); clear hX hB hac zc hg1 hz1; have hX := hX1; have hB := hB1; have hac := hac1; have zc := zc1; clear hX1 hB1 hac1 zc1; obtain ⟨c0, c1, c2, c3, c4, c5, c6, c7, c8, c9, c10, c11, c12, c13, c14, c15, c16, c17, c18, c19, c20, c21, c22, c23, c24, c25, c26, c27, c28, c29⟩ := hX.cells) | (refine store_at (by rfl) 2 _ _ (by rfl) inf_i hB (by rfl) (by rfl) (by rfl) (by rfl) (by rfl) ?_; intro W hg1 hB1 hz1; clear c0 c1 c2 c3 c4 c5 c6 c7 c8 c9 c10 c11 c12 c13 c14 c15 c16 c17 c18 c19 c20 c21 c22 c23 c24 c25 c26 c27 c28 c29; have hX1 := hX.kept hg1 (by simp); have hac1 := grown_tr hac hg1; have zc1 := (show Hid _ from hz1.trans zc.out); clear hX hB hac zc hg1 hz1; have hX := hX1; have hB := hB1; have hac := hac1; have zc := zc1; clear hX1 hB1 hac1 zc1; obtain ⟨c0, c1, c2, c3, c4, c5, c6, c7, c8, c9, c10, c11, c12, c13, c14, c15, c16, c17, c18, c19, c20, c21, c22, c23, c24, c25, c26, c27, c28, c29⟩ := hX.cells) | (refine store_at (by rfl) 4 _ _ (by rfl) inf_b hB (by rfl) (by rfl) (by rfl) (by rfl) (by rfl) ?_; intro W hg1 hB1 hz1; clear c0 c1 c2 c3 c4 c5 c6 c7 c8 c9 c10 c11 c12 c13 c14 c15 c16 c17 c18 c19 c20 c21 c22 c23 c24 c25 c26 c27 c28 c29; have hX1 := hX.kept hg1 (by simp); have hac1 := grown_tr hac hg1; have zc1 := (show Hid _ from hz1.trans zc.out); clear hX hB hac zc hg1 hz1; have hX := hX1; have hB := hB1; have hac := hac1; have zc := zc1; clear hX1 hB1 hac1 zc1; obtain ⟨c0, c1, c2, c3, c4, c5, c6, c7, c8, c9, c10, c11, c12, c13, c14, c15, c16, c17, c18, c19, c20, c21, c22, c23, c24, c25, c26, c27, c28, c29⟩ := hX.cells))
  clear c0 c1 c2 c3 c4 c5 c6 c7 c8 c9 c10 c11 c12 c13 c14 c15 c16 c17 c18 c19 c20 c21 c22 c23 c24 c25 c26 c27 c28 c29
  have kbc := kb.grown hac kb.size (fun g e => by cases e; omega)
  have hR := hR.kept hac (by simp)
  have og := og.grown hac (by omega)
  have oo := oo.grown hac (by omega)
  replace hB : TB _ (w.heap.size + 2) [.int .i64 t.gc, .slice xga xgn xgp, .int .i64 t.oc, .slice xoa xon xop, .int .i64 t.row, .int .i64 t.col, .int .i64 t.st.fore, .int .i64 t.st.back, .bool t.st.bold, .bool t.st.under, .bool t.st.turned, .int .i64 t.top, .int .i64 t.bot, .bool t.full, .bool t.wrap, .bool t.away, .bool t.hid, .int .i64 t.sr, .int .i64 t.sc, .int .i64 0, .int .i64 0, .bool false, .bool false, .bool false, .slice none 0 0, .int .i64 0, .slice none 0 0, .int .i64 0, .slice none 0 0, .string ⟨#[]⟩] := hB
  clear hac hBl
  refine (cSs _).mono ?_
  rintro e w6 ⟨rfl, hb⟩
  replace hB := hB.below hb
  replace hX := hX.below hb
  replace hR := hR.below hb
  replace kb := kbc.trans (hb.mono kbc.size)
  have s56 : w5.heap.size ≤ w6.heap.size := by have := hb.size; rw [zc.out, ← hz5.out] at this; exact this
  replace og := og.below hb
  replace oo := oo.below hb
  clear kbc hb
  clear zc
  have hBl := hB
  have hac := World.grownBy.refl w6 (some (w.heap.size + 2))
  obtain ⟨z6, hz6⟩ : ∃ z, Hid (w6.heap.size = z) := ⟨_, rfl⟩
  have zc := hz6
  obtain ⟨c0, c1, c2, c3, c4, c5, c6, c7, c8, c9, c10, c11, c12, c13, c14, c15, c16, c17, c18, c19, c20, c21, c22, c23, c24, c25, c26, c27, c28, c29⟩ := hX.cells
  go_wp2_with (first | (refine store_at (by rfl) 39 _ _ (by rfl) inf_s hB (by rfl) (by rfl) (by rfl) (by rfl) (by rfl) ?_; intro W hg1 hB1 hz1; clear c0 c1 c2 c3 c4 c5 c6 c7 c8 c9 c10 c11 c12 c13 c14 c15 c16 c17 c18 c19 c20 c21 c22 c23 c24 c25 c26 c27 c28 c29; have hX1 := hX.kept hg1 (by simp); have hac1 := grown_tr hac hg1; have zc1 := (show Hid _ from hz1.trans zc.out); clear hX hB hac zc hg1 hz1; have hX := hX1; have hB := hB1; have hac := hac1; have zc := zc1; clear hX1 hB1 hac1 zc1; obtain ⟨c0, c1, c2, c3, c4, c5, c6, c7, c8, c9, c10, c11, c12, c13, c14, c15, c16, c17, c18, c19, c20, c21, c22, c23, c24, c25, c26, c27, c28, c29⟩ := hX.cells))
  clear c0 c1 c2 c3 c4 c5 c6 c7 c8 c9 c10 c11 c12 c13 c14 c15 c16 c17 c18 c19 c20 c21 c22 c23 c24 c25 c26 c27 c28 c29
  have kbc := kb.grown hac kb.size (fun g e => by cases e; omega)
  have hR := hR.kept hac (by simp)
  have og := og.grown hac (by omega)
  have oo := oo.grown hac (by omega)
  replace hB : TB _ (w.heap.size + 2) [.int .i64 t.gc, .slice xga xgn xgp, .int .i64 t.oc, .slice xoa xon xop, .int .i64 t.row, .int .i64 t.col, .int .i64 t.st.fore, .int .i64 t.st.back, .bool t.st.bold, .bool t.st.under, .bool t.st.turned, .int .i64 t.top, .int .i64 t.bot, .bool t.full, .bool t.wrap, .bool t.away, .bool t.hid, .int .i64 t.sr, .int .i64 t.sc, .int .i64 t.ss.fore, .int .i64 t.ss.back, .bool t.ss.bold, .bool t.ss.under, .bool t.ss.turned, .slice none 0 0, .int .i64 0, .slice none 0 0, .int .i64 0, .slice none 0 0, .string ⟨#[]⟩] := hB
  clear hac hBl
  refine (cT _ (hti.below kbc).l.sl).mono ?_
  rintro e w7 ⟨xt, rfl, hnt, hb⟩
  replace hB := hB.below hb
  replace hX := hX.below hb
  replace hR := hR.below hb
  replace kb := kbc.trans (hb.mono kbc.size)
  have s67 : w6.heap.size ≤ w7.heap.size := by have := hb.size; rw [zc.out, ← hz6.out] at this; exact this
  replace og := og.below hb
  replace oo := oo.below hb
  clear kbc hb
  rw [zc.out, ← hz6.out] at hnt
  obtain ⟨xta, xtn, xtp, hxt⟩ := OwnI.shape hnt
  subst hxt
  have ol : LiOk w7 w6.heap.size [((.slice xta xtn xtp : Value), t.ti)] := ⟨fun p hp => by rw [List.mem_singleton] at hp; subst hp; exact hnt, List.pairwise_singleton _ _⟩
  clear hnt
  clear zc
  have olt : ∀ p ∈ [((.slice xta xtn xtp : Value), t.ti)], ∀ g, p.1.ownBlock = some g → g < w7.heap.size := fun p hp g e => ((ol.1 p hp).lt g e).2
  have hBl := hB
  have hac := World.grownBy.refl w7 (some (w.heap.size + 2))
  obtain ⟨z7, hz7⟩ : ∃ z, Hid (w7.heap.size = z) := ⟨_, rfl⟩
  have zc := hz7
  obtain ⟨c0, c1, c2, c3, c4, c5, c6, c7, c8, c9, c10, c11, c12, c13, c14, c15, c16, c17, c18, c19, c20, c21, c22, c23, c24, c25, c26, c27, c28, c29⟩ := hX.cells
  go_wp2_with (first | (refine store_at (by rfl) 27 _ _ (by rfl) inf_l hB (by rfl) (by rfl) (by rfl) (by rfl) (by rfl) ?_; intro W hg1 hB1 hz1; clear c0 c1 c2 c3 c4 c5 c6 c7 c8 c9 c10 c11 c12 c13 c14 c15 c16 c17 c18 c19 c20 c21 c22 c23 c24 c25 c26 c27 c28 c29; have hX1 := hX.kept hg1 (by simp); have hac1 := grown_tr hac hg1; have zc1 := (show Hid _ from hz1.trans zc.out); clear hX hB hac zc hg1 hz1; have hX := hX1; have hB := hB1; have hac := hac1; have zc := zc1; clear hX1 hB1 hac1 zc1; obtain ⟨c0, c1, c2, c3, c4, c5, c6, c7, c8, c9, c10, c11, c12, c13, c14, c15, c16, c17, c18, c19, c20, c21, c22, c23, c24, c25, c26, c27, c28, c29⟩ := hX.cells))
  clear c0 c1 c2 c3 c4 c5 c6 c7 c8 c9 c10 c11 c12 c13 c14 c15 c16 c17 c18 c19 c20 c21 c22 c23 c24 c25 c26 c27 c28 c29
  have kbc := kb.grown hac kb.size (fun g e => by cases e; omega)
  have hR := hR.kept hac (by simp)
  have og := og.grown hac (by omega)
  have oo := oo.grown hac (by omega)
  have ol := ol.kept hac (fun p hp => .inr ((ol.1 p hp).not_block hBl (by decide)))
  replace hB : TB _ (w.heap.size + 2) [.int .i64 t.gc, .slice xga xgn xgp, .int .i64 t.oc, .slice xoa xon xop, .int .i64 t.row, .int .i64 t.col, .int .i64 t.st.fore, .int .i64 t.st.back, .bool t.st.bold, .bool t.st.under, .bool t.st.turned, .int .i64 t.top, .int .i64 t.bot, .bool t.full, .bool t.wrap, .bool t.away, .bool t.hid, .int .i64 t.sr, .int .i64 t.sc, .int .i64 t.ss.fore, .int .i64 t.ss.back, .bool t.ss.bold, .bool t.ss.under, .bool t.ss.turned, .slice xta xtn xtp, .int .i64 0, .slice none 0 0, .int .i64 0, .slice none 0 0, .string ⟨#[]⟩] := hB
  clear hac hBl
  refine (cP _ (hpp.below kbc).l.sl (hpt.below kbc).l.sl).mono ?_
  rintro e w8 ⟨xp, xq, rfl, hnp, hb⟩
  replace hB := hB.below hb
  replace hX := hX.below hb
  replace hR := hR.below hb
  replace kb := kbc.trans (hb.mono kbc.size)
  have s78 : w7.heap.size ≤ w8.heap.size := by have := hb.size; rw [zc.out, ← hz7.out] at this; exact this
  replace og := og.below hb
  replace oo := oo.below hb
  replace ol := ol.below hb
  clear kbc hb
  rw [zc.out, ← hz7.out] at hnp
  obtain ⟨xpa, xpn, xpp, hxp⟩ := hnp.head.shape
  obtain ⟨xqa, xqn, xqp, hxq⟩ := hnp.tail.head.shape
  simp only at hxp hxq
  subst hxp; subst hxq
  have ol8 : LiOk w8 w6.heap.size ([((.slice xta xtn xtp : Value), t.ti)] ++ [(.slice xpa xpn xpp, t.pa.params), (.slice xqa xqn xqp, t.pa.text)]) := ol.join olt hnp s67
  clear ol hnp olt
  have ol := ol8
  clear ol8
  clear zc
  have hBl := hB
  have hac := World.grownBy.refl w8 (some (w.heap.size + 2))
  obtain ⟨z8, hz8⟩ : ∃ z, Hid (w8.heap.size = z) := ⟨_, rfl⟩
  have zc := hz8
  obtain ⟨c0, c1, c2, c3, c4, c5, c6, c7, c8, c9, c10, c11, c12, c13, c14, c15, c16, c17, c18, c19, c20, c21, c22, c23, c24, c25, c26, c27, c28, c29⟩ := hX.cells
  go_wp2_with (first | (refine store_at (by rfl) 40 _ _ (by rfl) inf_p hB (by rfl) (by rfl) (by rfl) (by rfl) (by rfl) ?_; intro W hg1 hB1 hz1; clear c0 c1 c2 c3 c4 c5 c6 c7 c8 c9 c10 c11 c12 c13 c14 c15 c16 c17 c18 c19 c20 c21 c22 c23 c24 c25 c26 c27 c28 c29; have hX1 := hX.kept hg1 (by simp); have hac1 := grown_tr hac hg1; have zc1 := (show Hid _ from hz1.trans zc.out); clear hX hB hac zc hg1 hz1; have hX := hX1; have hB := hB1; have hac := hac1; have zc := zc1; clear hX1 hB1 hac1 zc1; obtain ⟨c0, c1, c2, c3, c4, c5, c6, c7, c8, c9, c10, c11, c12, c13, c14, c15, c16, c17, c18, c19, c20, c21, c22, c23, c24, c25, c26, c27, c28, c29⟩ := hX.cells))
  clear c0 c1 c2 c3 c4 c5 c6 c7 c8 c9 c10 c11 c12 c13 c14 c15 c16 c17 c18 c19 c20 c21 c22 c23 c24 c25 c26 c27 c28 c29
  have kbc := kb.grown hac kb.size (fun g e => by cases e; omega)
  have hR := hR.kept hac (by simp)
  have og := og.grown hac (by omega)
  have oo := oo.grown hac (by omega)
  have ol := ol.kept hac (fun p hp => .inr ((ol.1 p hp).not_block hBl (by decide)))
  replace hB : TB _ (w.heap.size + 2) [.int .i64 t.gc, .slice xga xgn xgp, .int .i64 t.oc, .slice xoa xon xop, .int .i64 t.row, .int .i64 t.col, .int .i64 t.st.fore, .int .i64 t.st.back, .bool t.st.bold, .bool t.st.under, .bool t.st.turned, .int .i64 t.top, .int .i64 t.bot, .bool t.full, .bool t.wrap, .bool t.away, .bool t.hid, .int .i64 t.sr, .int .i64 t.sc, .int .i64 t.ss.fore, .int .i64 t.ss.back, .bool t.ss.bold, .bool t.ss.under, .bool t.ss.turned, .slice xta xtn xtp, .int .i64 t.pa.state, .slice xpa xpn xpp, .int .i64 t.pa.mark, .slice xqa xqn xqp, .string ⟨#[]⟩] := hB
  clear hac hBl
  refine (cF _).mono ?_
  rintro e w9 ⟨rfl, hb⟩
  replace hB := hB.below hb
  replace hX := hX.below hb
  replace hR := hR.below hb
  replace kb := kbc.trans (hb.mono kbc.size)
  have s89 : w8.heap.size ≤ w9.heap.size := by have := hb.size; rw [zc.out, ← hz8.out] at this; exact this
  replace og := og.below hb
  replace oo := oo.below hb
  replace ol := ol.below hb
  clear kbc hb
  clear zc
  have hBl := hB
  have hac := World.grownBy.refl w9 (some (w.heap.size + 2))
  obtain ⟨z9, hz9⟩ : ∃ z, Hid (w9.heap.size = z) := ⟨_, rfl⟩
  have zc := hz9
  obtain ⟨c0, c1, c2, c3, c4, c5, c6, c7, c8, c9, c10, c11, c12, c13, c14, c15, c16, c17, c18, c19, c20, c21, c22, c23, c24, c25, c26, c27, c28, c29⟩ := hX.cells
  go_wp2_with (first | (refine load_T (cs := #[.int .i64 t.gc, .slice xga xgn xgp, .int .i64 t.oc, .slice xoa xon xop, .int .i64 t.row, .int .i64 t.col, .int .i64 t.st.fore, .int .i64 t.st.back, .bool t.st.bold, .bool t.st.under, .bool t.st.turned, .int .i64 t.top, .int .i64 t.bot, .bool t.full, .bool t.wrap, .bool t.away, .bool t.hid, .int .i64 t.sr, .int .i64 t.sc, .int .i64 t.ss.fore, .int .i64 t.ss.back, .bool t.ss.bold, .bool t.ss.under, .bool t.ss.turned, .slice xta xtn xtp, .int .i64 t.pa.state, .slice xpa xpn xpp, .int .i64 t.pa.mark, .slice xqa xqn xqp, .string t.fe]) (by rfl) 43 _ (by rfl) Tryd.underlying43 rfl info_te hB (by rfl) ?_) | (refine store_T (cs := #[.int .i64 t.gc, .slice xga xgn xgp, .int .i64 t.oc, .slice xoa xon xop, .int .i64 t.row, .int .i64 t.col, .int .i64 t.st.fore, .int .i64 t.st.back, .bool t.st.bold, .bool t.st.under, .bool t.st.turned, .int .i64 t.top, .int .i64 t.bot, .bool t.full, .bool t.wrap, .bool t.away, .bool t.hid, .int .i64 t.sr, .int .i64 t.sc, .int .i64 t.ss.fore, .int .i64 t.ss.back, .bool t.ss.bold, .bool t.ss.under, .bool t.ss.turned, .slice xta xtn xtp, .int .i64 t.pa.state, .slice xpa xpn xpp, .int .i64 t.pa.mark, .slice xqa xqn xqp, .string t.fe]) (by rfl) 43 _ _ (by rfl) info_te (by rfl) (by rfl) (hR.kept hac (by simp)) (by rfl) (by rfl) ?_; intro w10 hg10 hR10 zz10) | (refine store_at (by rfl) 41 _ _ (by rfl) inf_f hB (by rfl) (by rfl) (by rfl) (by rfl) (by rfl) ?_; intro W hg1 hB1 hz1; clear c0 c1 c2 c3 c4 c5 c6 c7 c8 c9 c10 c11 c12 c13 c14 c15 c16 c17 c18 c19 c20 c21 c22 c23 c24 c25 c26 c27 c28 c29; have hX1 := hX.kept hg1 (by simp); have hac1 := grown_tr hac hg1; have zc1 := (show Hid _ from hz1.trans zc.out); clear hX hB hac zc hg1 hz1; have hX := hX1; have hB := hB1; have hac := hac1; have zc := zc1; clear hX1 hB1 hac1 zc1; obtain ⟨c0, c1, c2, c3, c4, c5, c6, c7, c8, c9, c10, c11, c12, c13, c14, c15, c16, c17, c18, c19, c20, c21, c22, c23, c24, c25, c26, c27, c28, c29⟩ := hX.cells))
  have kbc := kb.grown hac kb.size (fun g e => by cases e; omega)
  have hRR := hR.kept hac (by simp)
  have hfin : OwnT w10 w.heap.size t ⟨.slice xga xgn xgp, .slice xoa xon xop, .slice xta xtn xtp, .slice xpa xpn xpp, .slice xqa xqn xqp⟩ :=
    ⟨w3.heap.size, w4.heap.size, w6.heap.size, OwnR.low ((og.grown hac (by omega)).grown hg10 (by omega)) (by omega), (oo.grown hac (by omega)).grown hg10 (by omega), (ol.kept hac (fun p hp => .inr ((ol.1 p hp).not_block hBl (by decide)))).kept hg10 (fun p hp => .inr (((ol.kept hac (fun p hp => .inr ((ol.1 p hp).not_block hBl (by decide)))).1 p hp).not_block hRR (by decide))), by omega, by omega, by omega, by rw [zz10, zc.out, ← hz9.out]; omega⟩
  exact bodyPost_ret (v := .agg #[.int .i64 t.gc, .slice xga xgn xgp, .int .i64 t.oc, .slice xoa xon xop, .int .i64 t.row, .int .i64 t.col, .int .i64 t.st.fore, .int .i64 t.st.back, .bool t.st.bold, .bool t.st.under, .bool t.st.turned, .int .i64 t.top, .int .i64 t.bot, .bool t.full, .bool t.wrap, .bool t.away, .bool t.hid, .int .i64 t.sr, .int .i64 t.sc, .int .i64 t.ss.fore, .int .i64 t.ss.back, .bool t.ss.bold, .bool t.ss.under, .bool t.ss.turned, .slice xta xtn xtp, .int .i64 t.pa.state, .slice xpa xpn xpp, .int .i64 t.pa.mark, .slice xqa xqn xqp, .string t.fe]) (results_cell_row Tryd.results6 _ _ _ _ _ _ _ rfl hR10 Tryd.underlying43 rfl info_te) rfl ⟨_, rfl, hfin, kbc.grown hg10 kbc.size (fun g e => by cases e; omega)⟩
end Go.Proofs.YtpmaibkakkfaeaaDoor
namespace Go.Proofs.YtpmaibkakkfaeaaDoor
open Go.ChangeShapes Go.WideShapes Go.ChangeAt Go.RowKit
set_option maxHeartbeats 4000000 in
theorem eqCSS_same (va vb : Value) (rows : List (List Ce)) (w : World) (ha : SlG w va rows) (hb : SlG w vb rows) (hl : rows.length ≤ 1073741824) (hx : ∀ i, i < rows.length → (rowX rows i).length ≤ 1073741824) :
    Calls Tryd.prog 49 #[va, vb] w fun e w' => e = .returned (.bool true) ∧ Below w.heap.size w w' := by
  obtain ⟨a, c, vs, rfl, _, _, hr, hs⟩ := id ha
  obtain ⟨a2, c2, vs2, rfl, _, _, hr2, hs2⟩ := id hb
  clear ha hb
  go_enter Tryd.func49, Tryd.ntmps49
  go_wp2
  go_loopw [5] (fun i wr => ∃ j : Nat, i = .int .i64 j ∧ j ≤ rows.length ∧ Below w.heap.size w wr) (fun i _ => rows.length - (intOf i).toNat)
  case atStart => exact ⟨0, rfl, Nat.zero_le _, Below.refl _ _⟩
  case round =>
    obtain ⟨j, rfl, hj, kb⟩ := hrel
    by_cases hlt : j < rows.length
    · have hji : (j : Int) < (rows.length : Int) := by omega
      have hj0 : (0 : Int) ≤ (j : Int) := by omega
      rcases hr with h | ⟨b, off, rfl, hbb, hrc⟩
      · rw [h] at hlt; simp at hlt
      rcases hr2 with h | ⟨b2, off2, rfl, hbb2, hrc2⟩
      · rw [h] at hlt; simp at hlt
      have hsj := (hs j hlt).below kb
      have hsj2 := (hs2 j hlt).below kb
      have hcj := (kb.cell (p := ⟨b, off + j, none⟩) hbb).trans (hrc j hlt)
      have hcj2 := (kb.cell (p := ⟨b2, off2 + j, none⟩) hbb2).trans (hrc2 j hlt)
      obtain ⟨aj, cj, ev, _⟩ := id hsj
      obtain ⟨aj2, cj2, ev2, _⟩ := id hsj2
      rw [ev] at hcj hsj
      rw [ev2] at hcj2 hsj2
      have heq := fun W (hW : Below wr.heap.size wr W) => eqC_same _ _ _ W (hsj.below hW) (hsj2.below hW) (hx j hlt)
      clear hs hs2 hrc hrc2 ev ev2 hsj hsj2
      go_wp2
      go_region_with (go_at_call 58; refine (heq _ (bdr _)).mono ?_; rintro e w2 ⟨rfl, hb2⟩)
      all_goals
        have kb2 := (kb.trans ((bdr wr).mono kb.size)).trans (hb2.mono kb.size)
        clear kb hb2 heq
        go_wp2
        go_roundw
        case rel => exact ⟨j + 1, by go_num, by omega, by first | exact kb2 | exact kb2.drew⟩
        case measure => simp [intOf]; omega
    · have hjn : j = rows.length := by omega
      have hji : ¬ (j : Int) < (rows.length : Int) := by omega
      subst hjn
      clear hs hs2 hr hr2
      go_wp2
      go_ret
      exact ⟨rfl, kb⟩
set_option maxHeartbeats 2000000 in
theorem eqGrid_same (cols : Int) (va vb : Value) (rows : List (List Ce)) (w : World) (ha : SlG w va rows) (hb : SlG w vb rows) (hl : rows.length ≤ 1073741824) (hx : ∀ i, i < rows.length → (rowX rows i).length ≤ 1073741824) :
    Calls Tryd.prog 32 #[gridV cols va, gridV cols vb] w fun e w' => e = .returned (.bool true) ∧ Below w.heap.size w w' := by
  have hb0 := bal' w (Obj.cells #[.int .i64 cols, va] 38)
  have hb1 := bal' (w.alloc (Obj.cells #[.int .i64 cols, va] 38)) (Obj.cells #[.int .i64 cols, vb] 38)
  have hG0 := (GrN.new w cols va 38).below hb1
  have hG1 := GrN.new (w.alloc (Obj.cells #[.int .i64 cols, va] 38)) cols vb 38
  have e0 : (w.alloc (Obj.cells #[.int .i64 cols, va] 38)).heap.size = w.heap.size + 1 := by simp
  rw [e0] at hG1
  have heq := fun W h1 h2 => eqCSS_same va vb rows W h1 h2 hl hx
  have hbb := hb0.trans (hb1.mono hb0.size)
  have ha1 := ha.below hbb
  have hb2 := hb.below hbb
  obtain ⟨a, c, vs, rfl, _⟩ := id ha
  obtain ⟨a2, c2, vs2, rfl, _⟩ := id hb
  unfold gridV
  obtain ⟨_, g0, g1⟩ := id hG0
  obtain ⟨_, f0, f1⟩ := id hG1
  go_enter Tryd.func32, Tryd.ntmps32
  go_wp2_with fail
  refine (heq _ ha1 hb2).mono ?_
  rintro e w2 ⟨rfl, hw⟩
  go_wp2
  go_ret
  exact ⟨rfl, hbb.trans (hw.mono hbb.size)⟩
end Go.Proofs.YtpmaibkakkfaeaaDoor
namespace Go.Proofs.YtpmaibkakkfaeaaDoor
open Go.ChangeShapes Go.WideShapes Go.ChangeAt Go.RowKit
theorem eqFeeder_same (h : ByteArray) (w : World) :
    Calls Tryd.prog 36 #[.agg #[.string h], .agg #[.string h]] w fun e w' => e = .returned (.bool true) ∧ Below w.heap.size w w' := by
  go_enter Tryd.func36, Tryd.ntmps36
  go_wp2
  go_ret
  exact ⟨rfl, ((Below.refl _ _).alloc (Nat.le_refl _) _).alloc (by simp) _⟩

end Go.Proofs.YtpmaibkakkfaeaaDoor
namespace Go.Proofs.YtpmaibkakkfaeaaDoor
open Go.ChangeShapes Go.WideShapes Go.ChangeAt Go.RowKit
set_option maxHeartbeats 8000000 in
set_option maxRecDepth 20000 in
theorem eqTerm_same (t : Te) (v v2 : Tv) (w : World) (h : SlT w t v) (h2 : SlT w t v2) (hz : SzT 1048576 t) :
    Calls Tryd.prog 8 #[teV t v, teV t v2] w fun e w' => e = .returned (.bool true) ∧ Below w.heap.size w w' := by
  obtain ⟨vg, vo, vti, vpp, vpt⟩ := v
  obtain ⟨hg, ho, hti, hpp, hpt⟩ := h
  obtain ⟨vg2, vo2, vti2, vpp2, vpt2⟩ := v2
  obtain ⟨hg2, ho2, hti2, hpp2, hpt2⟩ := h2
  simp only at hg ho hti hpp hpt hg2 ho2 hti2 hpp2 hpt2
  obtain ⟨z1, z2, z3, z4, z5, z6, z7⟩ := hz
  have cG := fun W h1 h2 => eqGrid_same t.gc vg vg2 t.g W h1 h2 (by omega) (fun i hi => by have := z2 i hi; omega)
  have cO := fun W h1 h2 => eqGrid_same t.oc vo vo2 t.o W h1 h2 (by omega) (fun i hi => by have := z4 i hi; omega)
  have cS := fun W => eqStyle_same t.st W
  have cSs := fun W => eqStyle_same t.ss W
  have cT := fun W h1 h2 => eqI_same vti vti2 t.ti W h1 h2 (by omega)
  have cP := fun W h1 h2 h3 h4 => eqParser_same t.pa vpp vpt vpp2 vpt2 W h1 h2 h3 h4 (by omega) (by omega)
  have cF := fun W => eqFeeder_same t.fe W
  obtain ⟨ga, gp, hq1⟩ := slG_shp hg
  obtain ⟨oa, op, hq2⟩ := slG_shp ho
  obtain ⟨tia, tip, hq3⟩ := hti.shp
  obtain ⟨ppa, ppp, hq4⟩ := hpp.shp
  obtain ⟨pta, ptp, hq5⟩ := hpt.shp
  obtain ⟨ga2, gp2, hq6⟩ := slG_shp hg2
  obtain ⟨oa2, op2, hq7⟩ := slG_shp ho2
  obtain ⟨tia2, tip2, hq8⟩ := hti2.shp
  obtain ⟨ppa2, ppp2, hq9⟩ := hpp2.shp
  obtain ⟨pta2, ptp2, hq10⟩ := hpt2.shp
  subst hq1; subst hq2; subst hq3; subst hq4; subst hq5; subst hq6; subst hq7; subst hq8; subst hq9; subst hq10
  have hb1 := bal' w (Obj.cells (teCs t ⟨.slice ga t.g.length gp, .slice oa t.o.length op, .slice tia t.ti.length tip, .slice ppa t.pa.params.length ppp, .slice pta t.pa.text.length ptp⟩) 43)
  have hb2 := bal' (w.alloc (Obj.cells (teCs t ⟨.slice ga t.g.length gp, .slice oa t.o.length op, .slice tia t.ti.length tip, .slice ppa t.pa.params.length ppp, .slice pta t.pa.text.length ptp⟩) 43)) (Obj.cells (teCs t ⟨.slice ga2 t.g.length gp2, .slice oa2 t.o.length op2, .slice tia2 t.ti.length tip2, .slice ppa2 t.pa.params.length ppp2, .slice pta2 t.pa.text.length ptp2⟩) 43)
  have hX0 := (TeB.new w 43 t ⟨.slice ga t.g.length gp, .slice oa t.o.length op, .slice tia t.ti.length tip, .slice ppa t.pa.params.length ppp, .slice pta t.pa.text.length ptp⟩).below hb2
  have hY0 := TeB.new (w.alloc (Obj.cells (teCs t ⟨.slice ga t.g.length gp, .slice oa t.o.length op, .slice tia t.ti.length tip, .slice ppa t.pa.params.length ppp, .slice pta t.pa.text.length ptp⟩) 43)) 43 t ⟨.slice ga2 t.g.length gp2, .slice oa2 t.o.length op2, .slice tia2 t.ti.length tip2, .slice ppa2 t.pa.params.length ppp2, .slice pta2 t.pa.text.length ptp2⟩
  have kb := hb1.trans (hb2.mono hb1.size)
  rw [show (w.alloc (Obj.cells (teCs t ⟨.slice ga t.g.length gp, .slice oa t.o.length op, .slice tia t.ti.length tip, .slice ppa t.pa.params.length ppp, .slice pta t.pa.text.length ptp⟩) 43)).heap.size = w.heap.size + 1 by simp] at hY0
  obtain ⟨w2, hw2⟩ : ∃ w2, w2 = (w.alloc (Obj.cells (teCs t ⟨.slice ga t.g.length gp, .slice oa t.o.length op, .slice tia t.ti.length tip, .slice ppa t.pa.params.length ppp, .slice pta t.pa.text.length ptp⟩) 43)).alloc (Obj.cells (teCs t ⟨.slice ga2 t.g.length gp2, .slice oa2 t.o.length op2, .slice tia2 t.ti.length tip2, .slice ppa2 t.pa.params.length ppp2, .slice pta2 t.pa.text.length ptp2⟩) 43) := ⟨_, rfl⟩
  rw [← hw2] at hX0 hY0 kb
  replace hw2 := (show Hid _ from hw2)
  have hX := hX0
  have hY := hY0
  clear z1 z2 z3 z4 z5 z6 z7 hb1 hb2 hX0 hY0
  unfold teV gridV stV paV at *
  go_enter Tryd.func8, Tryd.ntmps8
  refine wp_seq_k (fun K hK => ?_)
  have hH := (show Hid _ from hK)
  clear hK
  go_wp2
  refine hH.out _ _ ?_
  rw [← hw2.out]
  clear hH hw2
  obtain ⟨c0, c1, c2, c3, c4, c5, c6, c7, c8, c9, c10, c11, c12, c13, c14, c15, c16, c17, c18, c19, c20, c21, c22, c23, c24, c25, c26, c27, c28, c29⟩ := hX.cells
  obtain ⟨d0, d1, d2, d3, d4, d5, d6, d7, d8, d9, d10, d11, d12, d13, d14, d15, d16, d17, d18, d19, d20, d21, d22, d23, d24, d25, d26, d27, d28, d29⟩ := hY.cells
  go_wp2_with fail
  refine (cG _ (hg.below kb) (hg2.below kb)).mono ?_
  rintro e w3 ⟨rfl, hb⟩
  replace kb := kb.trans (hb.mono kb.size)
  replace hX := hX.below hb
  replace hY := hY.below hb
  clear c0 c1 c2 c3 c4 c5 c6 c7 c8 c9 c10 c11 c12 c13 c14 c15 c16 c17 c18 c19 c20 c21 c22 c23 c24 c25 c26 c27 c28 c29
  clear d0 d1 d2 d3 d4 d5 d6 d7 d8 d9 d10 d11 d12 d13 d14 d15 d16 d17 d18 d19 d20 d21 d22 d23 d24 d25 d26 d27 d28 d29
  clear hb
  obtain ⟨c0, c1, c2, c3, c4, c5, c6, c7, c8, c9, c10, c11, c12, c13, c14, c15, c16, c17, c18, c19, c20, c21, c22, c23, c24, c25, c26, c27, c28, c29⟩ := hX.cells
  obtain ⟨d0, d1, d2, d3, d4, d5, d6, d7, d8, d9, d10, d11, d12, d13, d14, d15, d16, d17, d18, d19, d20, d21, d22, d23, d24, d25, d26, d27, d28, d29⟩ := hY.cells
  go_wp2_with fail
  refine (cO _ (ho.below kb) (ho2.below kb)).mono ?_
  rintro e w4 ⟨rfl, hb⟩
  replace kb := kb.trans (hb.mono kb.size)
  replace hX := hX.below hb
  replace hY := hY.below hb
  clear c0 c1 c2 c3 c4 c5 c6 c7 c8 c9 c10 c11 c12 c13 c14 c15 c16 c17 c18 c19 c20 c21 c22 c23 c24 c25 c26 c27 c28 c29
  clear d0 d1 d2 d3 d4 d5 d6 d7 d8 d9 d10 d11 d12 d13 d14 d15 d16 d17 d18 d19 d20 d21 d22 d23 d24 d25 d26 d27 d28 d29
  clear hb
  obtain ⟨c0, c1, c2, c3, c4, c5, c6, c7, c8, c9, c10, c11, c12, c13, c14, c15, c16, c17, c18, c19, c20, c21, c22, c23, c24, c25, c26, c27, c28, c29⟩ := hX.cells
  obtain ⟨d0, d1, d2, d3, d4, d5, d6, d7, d8, d9, d10, d11, d12, d13, d14, d15, d16, d17, d18, d19, d20, d21, d22, d23, d24, d25, d26, d27, d28, d29⟩ := hY.cells
  go_wp2_with fail
  refine (cS _).mono ?_
  rintro e w5 ⟨rfl, hb⟩
  replace kb := kb.trans (hb.mono kb.size)
  replace hX := hX.below hb
  replace hY := hY.below hb
  clear c0 c1 c2 c3 c4 c5 c6 c7 c8 c9 c10 c11 c12 c13 c14 c15 c16 c17 c18 c19 c20 c21 c22 c23 c24 c25 c26 c27 c28 c29
  clear d0 d1 d2 d3 d4 d5 d6 d7 d8 d9 d10 d11 d12 d13 d14 d15 d16 d17 d18 d19 d20 d21 d22 d23 d24 d25 d26 d27 d28 d29
  clear hb
  obtain ⟨c0, c1, c2, c3, c4, c5, c6, c7, c8, c9, c10, c11, c12, c13, c14, c15, c16, c17, c18, c19, c20, c21, c22, c23, c24, c25, c26, c27, c28, c29⟩ := hX.cells
  obtain ⟨d0, d1, d2, d3, d4, d5, d6, d7, d8, d9, d10, d11, d12, d13, d14, d15, d16, d17, d18, d19, d20, d21, d22, d23, d24, d25, d26, d27, d28, d29⟩ := hY.cells
  go_wp2_with fail
  refine (cSs _).mono ?_
  rintro e w6 ⟨rfl, hb⟩
  replace kb := kb.trans (hb.mono kb.size)
  replace hX := hX.below hb
  replace hY := hY.below hb
  clear c0 c1 c2 c3 c4 c5 c6 c7 c8 c9 c10 c11 c12 c13 c14 c15 c16 c17 c18 c19 c20 c21 c22 c23 c24 c25 c26 c27 c28 c29
  clear d0 d1 d2 d3 d4 d5 d6 d7 d8 d9 d10 d11 d12 d13 d14 d15 d16 d17 d18 d19 d20 d21 d22 d23 d24 d25 d26 d27 d28 d29
  clear hb
  obtain ⟨c0, c1, c2, c3, c4, c5, c6, c7, c8, c9, c10, c11, c12, c13, c14, c15, c16, c17, c18, c19, c20, c21, c22, c23, c24, c25, c26, c27, c28, c29⟩ := hX.cells
  obtain ⟨d0, d1, d2, d3, d4, d5, d6, d7, d8, d9, d10, d11, d12, d13, d14, d15, d16, d17, d18, d19, d20, d21, d22, d23, d24, d25, d26, d27, d28, d29⟩ := hY.cells
  go_wp2_with fail
  refine (cT _ (hti.below kb).l.sl (hti2.below kb).l.sl).mono ?_
  rintro e w7 ⟨rfl, nd, hwd⟩
  have hb : Below _ _ w7 := hwd ▸ drewN_bel _ nd
  clear hwd
  replace kb := kb.trans (hb.mono kb.size)
  replace hX := hX.below hb
  replace hY := hY.below hb
  clear c0 c1 c2 c3 c4 c5 c6 c7 c8 c9 c10 c11 c12 c13 c14 c15 c16 c17 c18 c19 c20 c21 c22 c23 c24 c25 c26 c27 c28 c29
  clear d0 d1 d2 d3 d4 d5 d6 d7 d8 d9 d10 d11 d12 d13 d14 d15 d16 d17 d18 d19 d20 d21 d22 d23 d24 d25 d26 d27 d28 d29
  clear hb
  obtain ⟨c0, c1, c2, c3, c4, c5, c6, c7, c8, c9, c10, c11, c12, c13, c14, c15, c16, c17, c18, c19, c20, c21, c22, c23, c24, c25, c26, c27, c28, c29⟩ := hX.cells
  obtain ⟨d0, d1, d2, d3, d4, d5, d6, d7, d8, d9, d10, d11, d12, d13, d14, d15, d16, d17, d18, d19, d20, d21, d22, d23, d24, d25, d26, d27, d28, d29⟩ := hY.cells
  go_wp2_with fail
  refine (cP _ (hpp.below kb).l.sl (hpt.below kb).l.sl (hpp2.below kb).l.sl (hpt2.below kb).l.sl).mono ?_
  rintro e w8 ⟨rfl, hb⟩
  replace kb := kb.trans (hb.mono kb.size)
  replace hX := hX.below hb
  replace hY := hY.below hb
  clear c0 c1 c2 c3 c4 c5 c6 c7 c8 c9 c10 c11 c12 c13 c14 c15 c16 c17 c18 c19 c20 c21 c22 c23 c24 c25 c26 c27 c28 c29
  clear d0 d1 d2 d3 d4 d5 d6 d7 d8 d9 d10 d11 d12 d13 d14 d15 d16 d17 d18 d19 d20 d21 d22 d23 d24 d25 d26 d27 d28 d29
  clear hb
  obtain ⟨c0, c1, c2, c3, c4, c5, c6, c7, c8, c9, c10, c11, c12, c13, c14, c15, c16, c17, c18, c19, c20, c21, c22, c23, c24, c25, c26, c27, c28, c29⟩ := hX.cells
  obtain ⟨d0, d1, d2, d3, d4, d5, d6, d7, d8, d9, d10, d11, d12, d13, d14, d15, d16, d17, d18, d19, d20, d21, d22, d23, d24, d25, d26, d27, d28, d29⟩ := hY.cells
  go_wp2_with fail
  refine (cF _).mono ?_
  rintro e w9 ⟨rfl, hb⟩
  replace kb := kb.trans (hb.mono kb.size)
  clear c0 c1 c2 c3 c4 c5 c6 c7 c8 c9 c10 c11 c12 c13 c14 c15 c16 c17 c18 c19 c20 c21 c22 c23 c24 c25 c26 c27 c28 c29
  clear d0 d1 d2 d3 d4 d5 d6 d7 d8 d9 d10 d11 d12 d13 d14 d15 d16 d17 d18 d19 d20 d21 d22 d23 d24 d25 d26 d27 d28 d29
  clear hb
  go_wp2
  go_ret
  exact ⟨rfl, kb⟩
end Go.Proofs.YtpmaibkakkfaeaaDoor
namespace Go.Proofs.YtpmaibkakkfaeaaDoor
open Go.ChangeShapes Go.WideShapes Go.ChangeAt Go.RowKit
theorem info_tl : (Tryd.prog.info? 33).map (·.size) = some 30 := by kernel_rfl
theorem load_tl {w : World} {ops : Array Oper} {rest : List Oper} {o : Oper} {a : Act} {Q : Exit → Act → World → Prop} {B : Nat} {t : Te} {v : Tv} (hb : TeB w B 33 t v) (hgd : Region.wanted o (yielded ops a.tmps) = true) (x : Operand)
    (ho : o.op = .load 33 x) (hx : a.eval x = .pointer (some ⟨B, 0, none⟩))
    (h : wpList Tryd.prog ops Q rest (a.put o.dst (.agg (teCs t v))) w) : wpList Tryd.prog ops Q (o :: rest) a w :=
  load_T (cs := teCs t v) hgd 33 x ho Tryd.underlying33 rfl info_tl hb hx h
theorem run_load_te {W : World} {B : Nat} {t : Te} {v : Tv} (hb : TeB W B 43 t v) (a : Act) (o : Oper) (x : Operand) (ho : o.op = .load 43 x) (hx : a.eval x = .pointer (some ⟨B, 0, none⟩)) :
    (execOp a.eval o).run Tryd.prog W = .ok (.value (.agg (teCs t v))) W := by
  unfold execOp
  simp only [ho, hx, Instr.loadAt, Instr.sureAddr, Sem.run_bind, Sem.run_pure, Result.andThen_ok, run_loadVar_row W B 43 43 (teCs t v) (0, 0) _ hb Tryd.underlying43 rfl info_te]
theorem run_load_tl {W : World} {B : Nat} {t : Te} {v : Tv} (hb : TeB W B 33 t v) (a : Act) (o : Oper) (x : Operand) (ho : o.op = .load 33 x) (hx : a.eval x = .pointer (some ⟨B, 0, none⟩)) :
    (execOp a.eval o).run Tryd.prog W = .ok (.value (.agg (teCs t v))) W := by
  unfold execOp
  simp only [ho, hx, Instr.loadAt, Instr.sureAddr, Sem.run_bind, Sem.run_pure, Result.andThen_ok, run_loadVar_row W B 33 33 (teCs t v) (0, 0) _ hb Tryd.underlying33 rfl info_tl]
theorem one_te (t : Te) (v : Tv) (hg : ∃ a n c, v.g = .slice a n c) (ho : ∃ a n c, v.o = .slice a n c) (hti : ∃ a n c, v.ti = .slice a n c) (hpp : ∃ a n c, v.pp = .slice a n c) (hpt : ∃ a n c, v.pt = .slice a n c) : (teCs t v).toList.all (·.oneCell') = true := by
  obtain ⟨vg, vo, vti, vpp, vpt⟩ := v
  obtain ⟨_, _, _, h1⟩ := hg
  obtain ⟨_, _, _, h2⟩ := ho
  obtain ⟨_, _, _, h3⟩ := hti
  obtain ⟨_, _, _, h4⟩ := hpp
  obtain ⟨_, _, _, h5⟩ := hpt
  simp only at h1 h2 h3 h4 h5
  subst h1; subst h2; subst h3; subst h4; subst h5
  rfl
theorem SlT.one {w : World} {t : Te} {v : Tv} (h : SlT w t v) : (teCs t v).toList.all (·.oneCell') = true := by
  obtain ⟨h1, h2, h3, h4, h5⟩ := h
  obtain ⟨_, _, e1⟩ := slG_shp h1
  obtain ⟨_, _, e2⟩ := slG_shp h2
  obtain ⟨_, _, e3⟩ := h3.shp
  obtain ⟨_, _, e4⟩ := h4.shp
  obtain ⟨_, _, e5⟩ := h5.shp
  exact one_te t v ⟨_, _, _, e1⟩ ⟨_, _, _, e2⟩ ⟨_, _, _, e3⟩ ⟨_, _, _, e4⟩ ⟨_, _, _, e5⟩
set_option maxHeartbeats 8000000 in
set_option maxRecDepth 20000 in
theorem walk_FnExactTermOk (w : World) (hS : SpansAt w) (t : Te) (v : Tv) (h : SlT w t v) (hm : SzT maxLen t) (hf : t.fe.size ≤ maxLen) :
    Calls Tryd.prog 3 #[teV t v] w fun e w' => e = .returned (.bool true) ∧ Below w.heap.size w w' := by
  have hzz := fun W h => szTerm_any t v W h hm hf
  have hb0 := bal' w (Obj.cells (teCs t v) 33)
  have hX := TeB.new w 33 t v
  obtain ⟨w1, hw1⟩ : ∃ w1, w1 = w.alloc (Obj.cells (teCs t v) 33) := ⟨_, rfl⟩
  rw [← hw1] at hb0 hX
  have zs1 : w.heap.size < w1.heap.size := hX.lt
  replace hw1 := (show Hid _ from hw1)
  have hto := fun W h hz => toTerm_copy t v W h hz
  have hsp := fun u W h hz => specTermOk_any t u W h hz
  have him := fun u W hS h hz => implTermOk_any t u W h hS hz
  have heq := fun u u2 W h h2 hz => eqTerm_same t u u2 W h h2 hz
  obtain ⟨ok, hok⟩ : ∃ ok, Hid (termOkB t = ok) := ⟨_, rfl⟩
  simp only [hok.out] at hsp him
  have hne : (ok != ok) = false := by simp
  clear hm hf hok
  unfold teV at *
  go_enter Tryd.func3, Tryd.ntmps3
  refine wp_seq_k (fun K hK => ?_)
  have hH := (show Hid _ from hK)
  clear hK
  go_wp2
  refine hH.out _ _ ?_
  rw [← hw1.out]
  clear hH hw1
  go_wp2_with (refine load_tl hX (by rfl) _ (by rfl) (by rfl) ?_)
  refine (hzz _ (h.below hb0)).mono ?_
  rintro e w2 ⟨z, rfl, hz, hb⟩
  have kb := hb0.trans (hb.mono hb0.size)
  replace hX := hX.below hb
  clear hb hb0 hzz
  by_cases hzn : z < 0
  case pos =>
    go_wp2
    go_ret
    exact ⟨rfl, kb⟩
  obtain ⟨hsz, _⟩ := hz.resolve_left hzn
  clear hz
  replace hsz := (show Hid _ from hsz)
  go_wp2_with (refine load_tl hX (by rfl) _ (by rfl) (by rfl) ?_)
  refine (hto _ (h.below kb) hsz.out).mono ?_
  rintro e w3 ⟨v3, rfl, ho, hb⟩
  replace kb := kb.trans (hb.mono kb.size)
  replace hX := hX.below hb
  clear hb
  go_wp2_with fail
  refine (hsp v3 _ ho.sl hsz.out).mono ?_
  rintro e w4 ⟨rfl, hb⟩
  replace kb := kb.trans (hb.mono kb.size)
  replace hX := hX.below hb
  clear hb ho
  go_wp2_with (refine load_tl hX (by rfl) _ (by rfl) (by rfl) ?_)
  refine (hto _ (h.below kb) hsz.out).mono ?_
  rintro e w5 ⟨v5, rfl, ho, hb⟩
  replace kb := kb.trans (hb.mono kb.size)
  replace hX := hX.below hb
  clear hb
  -- the argument's copy is laid into a block of its own
  have hon := ho.sl.one
  have hal := bal' w5 (Obj.cells #[.int .i64 0, .slice none 0 0, .int .i64 0, .slice none 0 0, .int .i64 0, .int .i64 0, .int .i64 0, .int .i64 0, .bool false, .bool false, .bool false, .int .i64 0, .int .i64 0, .bool false, .bool false, .bool false, .bool false, .int .i64 0, .int .i64 0, .int .i64 0, .int .i64 0, .bool false, .bool false, .bool false, .slice none 0 0, .int .i64 0, .slice none 0 0, .int .i64 0, .slice none 0 0, .string ⟨#[]⟩] 43)
  have hZ := TB.new w5 [.int .i64 0, .slice none 0 0, .int .i64 0, .slice none 0 0, .int .i64 0, .int .i64 0, .int .i64 0, .int .i64 0, .bool false, .bool false, .bool false, .int .i64 0, .int .i64 0, .bool false, .bool false, .bool false, .bool false, .int .i64 0, .int .i64 0, .int .i64 0, .int .i64 0, .bool false, .bool false, .bool false, .slice none 0 0, .int .i64 0, .slice none 0 0, .int .i64 0, .slice none 0 0, .string ⟨#[]⟩]
  have hs5 := ho.sl
  clear ho
  go_wp2_with (first
    | (refine store_T (cs := teCs t v5) (by rfl) 43 _ _ (by rfl) info_te (by rfl) hon hZ (by rfl) (by rfl) ?_; intro W hg hA hzs; have hbW : Below w5.heap.size w5 W := hal.grown hg hal.size (fun k e => by cases e; exact Nat.le_refl _); have hA1 : TeB W w5.heap.size 43 t v5 := hA; have hX1 := hX.below hbW; have kb1 := kb.trans (hbW.mono kb.size); have hs1 := hs5.below hbW; clear hA hX kb hg hzs hal hZ hs5 hbW)
    | (refine load_te hA1 (by rfl) _ (by rfl) (by rfl) ?_))
  refine (him v5 _ (hS.below kb1 hS.lt) hs1 hsz.out).mono ?_
  rintro e w7 ⟨rfl, hb⟩
  have kb := kb1.trans (hb.mono kb1.size)
  have hX := hX1.below hb
  have hA := hA1.below hb
  have hs := hs1.below hb
  clear hb kb1 hX1 hA1 hs1
  have hAd := hA.below (bdr w7)
  have hXd := hX.below (bdr w7)
  go_wp2
  refine wp_region_noPanic ?_
  refine wp_region_held_drew (S := (fun W => TeB W w5.heap.size 43 t v5 ∧ TeB W w.heap.size 33 t v ∧ Below w7.heap.size w7 W)) (by kernel_rfl) ⟨hAd, hXd, bdr w7⟩ (fun hHeld => ?_)
  refine' wpAnyH_take (i := 0) (v := .agg (teCs t v5)) rfl (by kernel_rfl) (by kernel_rfl) (by kernel_rfl) (fun _ _ _ h => h) (Or.inl ⟨by rfl, ?hy1⟩) hHeld ?hr1
  case hy1 => (intro W hSw; exact run_load_te hSw.1 _ _ _ rfl rfl)
  simp only [Act.put, List.setIfInBounds_toArray, List.set_cons_zero, List.set_cons_succ, List.getElem_toArray, List.getElem_cons_zero]
  refine' wpAnyH_take (i := 1) (v := .agg (teCs t v)) rfl (by kernel_rfl) (by kernel_rfl) (by kernel_rfl) (fun _ _ _ h => h) (Or.inl ⟨by rfl, ?hy2⟩) hHeld ?hr2
  case hy2 => (intro W hSw; exact run_load_tl hSw.2.1 _ _ _ rfl rfl)
  simp only [Act.put, List.setIfInBounds_toArray, List.set_cons_zero, List.set_cons_succ, List.getElem_toArray, List.getElem_cons_zero, List.getElem_cons_succ]
  refine wpAnyH_ready (rs := [2]) (by kernel_rfl) (by simp) (AllReadyH.cons rfl (fun K hK => ?_) AllReadyH.nil)
  go_simp
  refine (hto _ (h.below (kb.trans ((bdr w7).mono kb.size))) hsz.out).mono ?_
  rintro e wa ⟨va, rfl, hoa, hba⟩
  have hba2 := (bdr w7).trans hba
  have hAa := hAd.below hba
  have hXa := hXd.below hba
  go_wp2_with fail
  refine hK.out _ _ ⟨hAa, hXa, hba2⟩ (fun hHeld => ?_)
  clear hK K
  (try simp only [Act.put, List.setIfInBounds_toArray, List.set_cons_zero, List.set_cons_succ])
  refine wpAnyH_ready (rs := [3]) (by kernel_rfl) (by simp) (AllReadyH.cons rfl (fun K hK => ?_) AllReadyH.nil)
  go_simp
  refine (heq v5 va _ (hs.below hba2) hoa.sl hsz.out).mono ?_
  rintro e wb ⟨rfl, hbb⟩
  have hkb := hba2.trans (hbb.mono hba2.size)
  have hAb := hAa.below hbb
  have hXb := hXa.below hbb
  go_wp2_with fail
  refine hK.out _ _ ⟨hAb, hXb, hkb⟩ (fun hHeld => ?_)
  clear hK K
  (try simp only [Act.put, List.setIfInBounds_toArray, List.set_cons_zero, List.set_cons_succ])
  refine' wpAnyH_take (i := 4) (v := _) rfl (by kernel_rfl) (by kernel_rfl) (by kernel_rfl) (fun _ _ _ h => h) (Or.inl ⟨by rfl, ?hy5⟩) hHeld ?hr5
  case hy5 => (intro w hSw; (try dsimp only at hSw); go_simp; (try with_reducible rfl))
  simp only [Act.put, List.setIfInBounds_toArray, List.set_cons_zero, List.set_cons_succ, List.getElem_toArray, List.getElem_cons_zero, List.getElem_cons_succ]
  refine wpAnyH_done (by kernel_rfl) ?_ _
  refine NoPanic.normal ?_
  clear hAa hXa hAb hXb hAd hXd hA hX
  go_wp2
  go_ret
  exact ⟨rfl, kb.trans (hkb.mono kb.size)⟩
end Go.Proofs.YtpmaibkakkfaeaaDoor
