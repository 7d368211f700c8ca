/- The laws' own helpers on screens: likeness. The walk of the exact law of TermOk. Contracts of Looks, of both sides. The laws' own helpers on screens: marked, whatever the lists' places. The walk of the exact law of Looks. -/
import Derived.Test.YtlmnhlfklbgjdaaDoorP5
import Derived.Deep.RegionHeld3
namespace Go.Proofs.YtlmnhlfklbgjdaaDoor
open Go.ChangeShapes Go.WideShapes Go.ChangeAt Go.RowKit
set_option maxHeartbeats 8000000 in
set_option maxRecDepth 20000 in
theorem eqTerm_same (t : Te) (v v2 : Tv) (w : World) (h : SlT w t v) (h2 : SlT w t v2) (hz : SzT 1048576 t) :
    Calls Tryd.prog 10 #[teV t v, teV t v2] w fun e w' => e = .returned (.bool true) ∧ Below w.heap.size w w' := by
  obtain ⟨vg, vo, vti, vpp, vpt⟩ := v
  obtain ⟨hg, ho, hti, hpp, hpt⟩ := h
  obtain ⟨vg2, vo2, vti2, vpp2, vpt2⟩ := v2
  obtain ⟨hg2, ho2, hti2, hpp2, hpt2⟩ := h2
  simp only at hg ho hti hpp hpt hg2 ho2 hti2 hpp2 hpt2
  obtain ⟨z1, z2, z3, z4, z5, z6, z7⟩ := hz
  have cG := fun W h1 h2 => eqGrid_same t.gc vg vg2 t.g W h1 h2 (by omega) (fun i hi => by have := z2 i hi; omega)
  have cO := fun W h1 h2 => eqGrid_same t.oc vo vo2 t.o W h1 h2 (by omega) (fun i hi => by have := z4 i hi; omega)
  have cS := fun W => eqStyle_same t.st W
  have cSs := fun W => eqStyle_same t.ss W
  have cT := fun W h1 h2 => eqI_same vti vti2 t.ti W h1 h2 (by omega)
  have cP := fun W h1 h2 h3 h4 => eqParser_same t.pa vpp vpt vpp2 vpt2 W h1 h2 h3 h4 (by omega) (by omega)
  have cF := fun W => eqFeeder_same t.fe W
  obtain ⟨ga, gp, hq1⟩ := slG_shp hg
  obtain ⟨oa, op, hq2⟩ := slG_shp ho
  obtain ⟨tia, tip, hq3⟩ := hti.shp
  obtain ⟨ppa, ppp, hq4⟩ := hpp.shp
  obtain ⟨pta, ptp, hq5⟩ := hpt.shp
  obtain ⟨ga2, gp2, hq6⟩ := slG_shp hg2
  obtain ⟨oa2, op2, hq7⟩ := slG_shp ho2
  obtain ⟨tia2, tip2, hq8⟩ := hti2.shp
  obtain ⟨ppa2, ppp2, hq9⟩ := hpp2.shp
  obtain ⟨pta2, ptp2, hq10⟩ := hpt2.shp
  subst hq1; subst hq2; subst hq3; subst hq4; subst hq5; subst hq6; subst hq7; subst hq8; subst hq9; subst hq10
  have hb1 := bal' w (Obj.cells (teCs t ⟨.slice ga t.g.length gp, .slice oa t.o.length op, .slice tia t.ti.length tip, .slice ppa t.pa.params.length ppp, .slice pta t.pa.text.length ptp⟩) 43)
  have hb2 := bal' (w.alloc (Obj.cells (teCs t ⟨.slice ga t.g.length gp, .slice oa t.o.length op, .slice tia t.ti.length tip, .slice ppa t.pa.params.length ppp, .slice pta t.pa.text.length ptp⟩) 43)) (Obj.cells (teCs t ⟨.slice ga2 t.g.length gp2, .slice oa2 t.o.length op2, .slice tia2 t.ti.length tip2, .slice ppa2 t.pa.params.length ppp2, .slice pta2 t.pa.text.length ptp2⟩) 43)
  have hX0 := (TeB.new w 43 t ⟨.slice ga t.g.length gp, .slice oa t.o.length op, .slice tia t.ti.length tip, .slice ppa t.pa.params.length ppp, .slice pta t.pa.text.length ptp⟩).below hb2
  have hY0 := TeB.new (w.alloc (Obj.cells (teCs t ⟨.slice ga t.g.length gp, .slice oa t.o.length op, .slice tia t.ti.length tip, .slice ppa t.pa.params.length ppp, .slice pta t.pa.text.length ptp⟩) 43)) 43 t ⟨.slice ga2 t.g.length gp2, .slice oa2 t.o.length op2, .slice tia2 t.ti.length tip2, .slice ppa2 t.pa.params.length ppp2, .slice pta2 t.pa.text.length ptp2⟩
  have kb := hb1.trans (hb2.mono hb1.size)
  rw [show (w.alloc (Obj.cells (teCs t ⟨.slice ga t.g.length gp, .slice oa t.o.length op, .slice tia t.ti.length tip, .slice ppa t.pa.params.length ppp, .slice pta t.pa.text.length ptp⟩) 43)).heap.size = w.heap.size + 1 by simp] at hY0
  obtain ⟨w2, hw2⟩ : ∃ w2, w2 = (w.alloc (Obj.cells (teCs t ⟨.slice ga t.g.length gp, .slice oa t.o.length op, .slice tia t.ti.length tip, .slice ppa t.pa.params.length ppp, .slice pta t.pa.text.length ptp⟩) 43)).alloc (Obj.cells (teCs t ⟨.slice ga2 t.g.length gp2, .slice oa2 t.o.length op2, .slice tia2 t.ti.length tip2, .slice ppa2 t.pa.params.length ppp2, .slice pta2 t.pa.text.length ptp2⟩) 43) := ⟨_, rfl⟩
  rw [← hw2] at hX0 hY0 kb
  replace hw2 := (show Hid _ from hw2)
  have hX := hX0
  have hY := hY0
  clear z1 z2 z3 z4 z5 z6 z7 hb1 hb2 hX0 hY0
  unfold teV gridV stV paV at *
  go_enter Tryd.func10, Tryd.ntmps10
  refine wp_seq_k (fun K hK => ?_)
  have hH := (show Hid _ from hK)
  clear hK
  go_wp2
  refine hH.out _ _ ?_
  rw [← hw2.out]
  clear hH hw2
  obtain ⟨c0, c1, c2, c3, c4, c5, c6, c7, c8, c9, c10, c11, c12, c13, c14, c15, c16, c17, c18, c19, c20, c21, c22, c23, c24, c25, c26, c27, c28, c29⟩ := hX.cells
  obtain ⟨d0, d1, d2, d3, d4, d5, d6, d7, d8, d9, d10, d11, d12, d13, d14, d15, d16, d17, d18, d19, d20, d21, d22, d23, d24, d25, d26, d27, d28, d29⟩ := hY.cells
  go_wp2_with fail
  refine (cG _ (hg.below kb) (hg2.below kb)).mono ?_
  rintro e w3 ⟨rfl, hb⟩
  replace kb := kb.trans (hb.mono kb.size)
  replace hX := hX.below hb
  replace hY := hY.below hb
  clear c0 c1 c2 c3 c4 c5 c6 c7 c8 c9 c10 c11 c12 c13 c14 c15 c16 c17 c18 c19 c20 c21 c22 c23 c24 c25 c26 c27 c28 c29
  clear d0 d1 d2 d3 d4 d5 d6 d7 d8 d9 d10 d11 d12 d13 d14 d15 d16 d17 d18 d19 d20 d21 d22 d23 d24 d25 d26 d27 d28 d29
  clear hb
  obtain ⟨c0, c1, c2, c3, c4, c5, c6, c7, c8, c9, c10, c11, c12, c13, c14, c15, c16, c17, c18, c19, c20, c21, c22, c23, c24, c25, c26, c27, c28, c29⟩ := hX.cells
  obtain ⟨d0, d1, d2, d3, d4, d5, d6, d7, d8, d9, d10, d11, d12, d13, d14, d15, d16, d17, d18, d19, d20, d21, d22, d23, d24, d25, d26, d27, d28, d29⟩ := hY.cells
  go_wp2_with fail
  refine (cO _ (ho.below kb) (ho2.below kb)).mono ?_
  rintro e w4 ⟨rfl, hb⟩
  replace kb := kb.trans (hb.mono kb.size)
  replace hX := hX.below hb
  replace hY := hY.below hb
  clear c0 c1 c2 c3 c4 c5 c6 c7 c8 c9 c10 c11 c12 c13 c14 c15 c16 c17 c18 c19 c20 c21 c22 c23 c24 c25 c26 c27 c28 c29
  clear d0 d1 d2 d3 d4 d5 d6 d7 d8 d9 d10 d11 d12 d13 d14 d15 d16 d17 d18 d19 d20 d21 d22 d23 d24 d25 d26 d27 d28 d29
  clear hb
  obtain ⟨c0, c1, c2, c3, c4, c5, c6, c7, c8, c9, c10, c11, c12, c13, c14, c15, c16, c17, c18, c19, c20, c21, c22, c23, c24, c25, c26, c27, c28, c29⟩ := hX.cells
  obtain ⟨d0, d1, d2, d3, d4, d5, d6, d7, d8, d9, d10, d11, d12, d13, d14, d15, d16, d17, d18, d19, d20, d21, d22, d23, d24, d25, d26, d27, d28, d29⟩ := hY.cells
  go_wp2_with fail
  refine (cS _).mono ?_
  rintro e w5 ⟨rfl, hb⟩
  replace kb := kb.trans (hb.mono kb.size)
  replace hX := hX.below hb
  replace hY := hY.below hb
  clear c0 c1 c2 c3 c4 c5 c6 c7 c8 c9 c10 c11 c12 c13 c14 c15 c16 c17 c18 c19 c20 c21 c22 c23 c24 c25 c26 c27 c28 c29
  clear d0 d1 d2 d3 d4 d5 d6 d7 d8 d9 d10 d11 d12 d13 d14 d15 d16 d17 d18 d19 d20 d21 d22 d23 d24 d25 d26 d27 d28 d29
  clear hb
  obtain ⟨c0, c1, c2, c3, c4, c5, c6, c7, c8, c9, c10, c11, c12, c13, c14, c15, c16, c17, c18, c19, c20, c21, c22, c23, c24, c25, c26, c27, c28, c29⟩ := hX.cells
  obtain ⟨d0, d1, d2, d3, d4, d5, d6, d7, d8, d9, d10, d11, d12, d13, d14, d15, d16, d17, d18, d19, d20, d21, d22, d23, d24, d25, d26, d27, d28, d29⟩ := hY.cells
  go_wp2_with fail
  refine (cSs _).mono ?_
  rintro e w6 ⟨rfl, hb⟩
  replace kb := kb.trans (hb.mono kb.size)
  replace hX := hX.below hb
  replace hY := hY.below hb
  clear c0 c1 c2 c3 c4 c5 c6 c7 c8 c9 c10 c11 c12 c13 c14 c15 c16 c17 c18 c19 c20 c21 c22 c23 c24 c25 c26 c27 c28 c29
  clear d0 d1 d2 d3 d4 d5 d6 d7 d8 d9 d10 d11 d12 d13 d14 d15 d16 d17 d18 d19 d20 d21 d22 d23 d24 d25 d26 d27 d28 d29
  clear hb
  obtain ⟨c0, c1, c2, c3, c4, c5, c6, c7, c8, c9, c10, c11, c12, c13, c14, c15, c16, c17, c18, c19, c20, c21, c22, c23, c24, c25, c26, c27, c28, c29⟩ := hX.cells
  obtain ⟨d0, d1, d2, d3, d4, d5, d6, d7, d8, d9, d10, d11, d12, d13, d14, d15, d16, d17, d18, d19, d20, d21, d22, d23, d24, d25, d26, d27, d28, d29⟩ := hY.cells
  go_wp2_with fail
  refine (cT _ (hti.below kb).l.sl (hti2.below kb).l.sl).mono ?_
  rintro e w7 ⟨rfl, nd, hwd⟩
  have hb : Below _ _ w7 := hwd ▸ drewN_bel _ nd
  clear hwd
  replace kb := kb.trans (hb.mono kb.size)
  replace hX := hX.below hb
  replace hY := hY.below hb
  clear c0 c1 c2 c3 c4 c5 c6 c7 c8 c9 c10 c11 c12 c13 c14 c15 c16 c17 c18 c19 c20 c21 c22 c23 c24 c25 c26 c27 c28 c29
  clear d0 d1 d2 d3 d4 d5 d6 d7 d8 d9 d10 d11 d12 d13 d14 d15 d16 d17 d18 d19 d20 d21 d22 d23 d24 d25 d26 d27 d28 d29
  clear hb
  obtain ⟨c0, c1, c2, c3, c4, c5, c6, c7, c8, c9, c10, c11, c12, c13, c14, c15, c16, c17, c18, c19, c20, c21, c22, c23, c24, c25, c26, c27, c28, c29⟩ := hX.cells
  obtain ⟨d0, d1, d2, d3, d4, d5, d6, d7, d8, d9, d10, d11, d12, d13, d14, d15, d16, d17, d18, d19, d20, d21, d22, d23, d24, d25, d26, d27, d28, d29⟩ := hY.cells
  go_wp2_with fail
  refine (cP _ (hpp.below kb).l.sl (hpt.below kb).l.sl (hpp2.below kb).l.sl (hpt2.below kb).l.sl).mono ?_
  rintro e w8 ⟨rfl, hb⟩
  replace kb := kb.trans (hb.mono kb.size)
  replace hX := hX.below hb
  replace hY := hY.below hb
  clear c0 c1 c2 c3 c4 c5 c6 c7 c8 c9 c10 c11 c12 c13 c14 c15 c16 c17 c18 c19 c20 c21 c22 c23 c24 c25 c26 c27 c28 c29
  clear d0 d1 d2 d3 d4 d5 d6 d7 d8 d9 d10 d11 d12 d13 d14 d15 d16 d17 d18 d19 d20 d21 d22 d23 d24 d25 d26 d27 d28 d29
  clear hb
  obtain ⟨c0, c1, c2, c3, c4, c5, c6, c7, c8, c9, c10, c11, c12, c13, c14, c15, c16, c17, c18, c19, c20, c21, c22, c23, c24, c25, c26, c27, c28, c29⟩ := hX.cells
  obtain ⟨d0, d1, d2, d3, d4, d5, d6, d7, d8, d9, d10, d11, d12, d13, d14, d15, d16, d17, d18, d19, d20, d21, d22, d23, d24, d25, d26, d27, d28, d29⟩ := hY.cells
  go_wp2_with fail
  refine (cF _).mono ?_
  rintro e w9 ⟨rfl, hb⟩
  replace kb := kb.trans (hb.mono kb.size)
  clear c0 c1 c2 c3 c4 c5 c6 c7 c8 c9 c10 c11 c12 c13 c14 c15 c16 c17 c18 c19 c20 c21 c22 c23 c24 c25 c26 c27 c28 c29
  clear d0 d1 d2 d3 d4 d5 d6 d7 d8 d9 d10 d11 d12 d13 d14 d15 d16 d17 d18 d19 d20 d21 d22 d23 d24 d25 d26 d27 d28 d29
  clear hb
  go_wp2
  go_ret
  exact ⟨rfl, kb⟩
end Go.Proofs.YtlmnhlfklbgjdaaDoor
namespace Go.Proofs.YtlmnhlfklbgjdaaDoor
open Go.ChangeShapes Go.WideShapes Go.ChangeAt Go.RowKit
theorem info_tl : (Tryd.prog.info? 33).map (·.size) = some 30 := by kernel_rfl
theorem load_tl {w : World} {ops : Array Oper} {rest : List Oper} {o : Oper} {a : Act} {Q : Exit → Act → World → Prop} {B : Nat} {t : Te} {v : Tv} (hb : TeB w B 33 t v) (hgd : Region.wanted o (yielded ops a.tmps) = true) (x : Operand)
    (ho : o.op = .load 33 x) (hx : a.eval x = .pointer (some ⟨B, 0, none⟩))
    (h : wpList Tryd.prog ops Q rest (a.put o.dst (.agg (teCs t v))) w) : wpList Tryd.prog ops Q (o :: rest) a w :=
  load_T (cs := teCs t v) hgd 33 x ho Tryd.underlying33 rfl info_tl hb hx h
theorem run_load_te {W : World} {B : Nat} {t : Te} {v : Tv} (hb : TeB W B 43 t v) (a : Act) (o : Oper) (x : Operand) (ho : o.op = .load 43 x) (hx : a.eval x = .pointer (some ⟨B, 0, none⟩)) :
    (execOp a.eval o).run Tryd.prog W = .ok (.value (.agg (teCs t v))) W := by
  unfold execOp
  simp only [ho, hx, Instr.loadAt, Instr.sureAddr, Sem.run_bind, Sem.run_pure, Result.andThen_ok, run_loadVar_row W B 43 43 (teCs t v) (0, 0) _ hb Tryd.underlying43 rfl info_te]
theorem run_load_tl {W : World} {B : Nat} {t : Te} {v : Tv} (hb : TeB W B 33 t v) (a : Act) (o : Oper) (x : Operand) (ho : o.op = .load 33 x) (hx : a.eval x = .pointer (some ⟨B, 0, none⟩)) :
    (execOp a.eval o).run Tryd.prog W = .ok (.value (.agg (teCs t v))) W := by
  unfold execOp
  simp only [ho, hx, Instr.loadAt, Instr.sureAddr, Sem.run_bind, Sem.run_pure, Result.andThen_ok, run_loadVar_row W B 33 33 (teCs t v) (0, 0) _ hb Tryd.underlying33 rfl info_tl]
end Go.Proofs.YtlmnhlfklbgjdaaDoor
namespace Go.Proofs.YtlmnhlfklbgjdaaDoor
open Go.ChangeShapes Go.WideShapes Go.ChangeAt Go.RowKit
def looksC (t : Te) : Int := if termOkB t then t.gc else 0
def looksG (t : Te) : List (List Ce) := if termOkB t then t.g else []
theorem looks_sz (t : Te) : (looksG t).length ≤ 30 ∧ ∀ i, i < (looksG t).length → (rowX (looksG t) i).length ≤ 60 := by
  unfold looksG
  by_cases h : termOkB t = true
  · rw [if_pos h]
    unfold termOkB at h
    have a1 := (gridOk_iff t.gc t.g).1 ((Bool.and_eq_true _ _ ▸ (Bool.and_eq_true _ _ ▸ h).1).1)
    refine ⟨a1.2.1.2, fun i hi => ?_⟩
    have b1 := a1.2.2 i hi
    unfold fitB at b1
    rw [Bool.and_eq_true, decide_eq_true_eq] at b1
    have := a1.1.2
    have e := b1.1
    show (t.g.getD i []).length ≤ 60
    omega
  · rw [if_neg h]; exact ⟨Nat.zero_le _, fun i hi => absurd hi (Nat.not_lt_zero i)⟩
theorem looks_rows {t : Te} (h : termOkB t = true) : 1 ≤ t.g.length ∧ t.g.length ≤ 30 ∧ (∀ i, i < t.g.length → (rowX t.g i).length ≤ 60) ∧ ∀ i, i < t.g.length → rowX t.g i ≠ [] := by
  unfold termOkB at h
  have a1 := (gridOk_iff t.gc t.g).1 ((Bool.and_eq_true _ _ ▸ (Bool.and_eq_true _ _ ▸ h).1).1)
  have hl : ∀ i, i < t.g.length → ((rowX t.g i).length : Int) = t.gc := fun i hi => by
    have b1 := a1.2.2 i hi
    unfold fitB at b1
    rw [Bool.and_eq_true, decide_eq_true_eq] at b1
    exact b1.1
  exact ⟨a1.2.1.1, a1.2.1.2, fun i hi => by have := hl i hi; have := a1.1.2; omega, fun i hi e => by have h1 := hl i hi; rw [e] at h1; have := a1.1.1; simp at h1; omega⟩
set_option maxHeartbeats 8000000 in
set_option maxRecDepth 20000 in
theorem specLooks_any (t : Te) (v : Tv) (w : World) (h : SlT w t v) (hz : SzT 1048576 t) :
    Calls Tryd.prog 6 #[.agg (teCs t v)] w fun e w' => ∃ u, e = .returned (gridV (looksC t) u) ∧ OwnG w' w.heap.size w'.heap.size u (looksG t) ∧ Below w.heap.size w w' := by
  have hb0 := bal' w (Obj.cells (teCs t v) 43)
  have hB := TeB.new w 43 t v
  have zs : (w.alloc (Obj.cells (teCs t v) 43)).heap.size = w.heap.size + 1 := by simp
  obtain ⟨w1, hw1⟩ : ∃ w1, w1 = w.alloc (Obj.cells (teCs t v) 43) := ⟨_, rfl⟩
  rw [← hw1] at hB hb0 zs
  have hN := heap_alloc_new w1 (Obj.cells #[.int .i64 0, .slice none 0 0] 37)
  rw [zs] at hN
  replace zs := (show Hid _ from zs)
  replace hw1 := (show Hid _ from hw1)
  obtain ⟨bT, eT⟩ : ∃ b, Hid (termOkB t = b) := ⟨_, rfl⟩
  have dT := fun W h => specTermOk_any t v W h hz
  rw [eT.out] at dT
  unfold teV at dT
  have hbA := bal' w1 (Obj.cells #[.int .i64 0, .slice none 0 0] 37)
  clear hz
  go_enter Tryd.func6, Tryd.ntmps6
  refine wp_seq_k (fun K hK => ?_)
  have hH := (show Hid _ from hK)
  clear hK
  go_wp2
  refine hH.out _ _ ?_
  rw [← hw1.out]
  clear hH hw1
  replace hB := hB.below hbA
  replace hb0 := hb0.trans (hbA.mono hb0.size)
  generalize w1.alloc (Obj.cells #[.int .i64 0, .slice none 0 0] 37) = w2 at *
  go_wp2_with (refine load_te hB (by rfl) _ (by rfl) (by rfl) ?_)
  refine (dT _ (h.below hb0)).mono ?_
  rintro e w3 ⟨rfl, hb⟩
  replace hb0 := hb0.trans (hb.mono hb0.size)
  replace hB := hB.below hb
  have hN3 : w3.heap[w.heap.size + 1]? = some (.cells #[.int .i64 0, .slice none 0 0] 37 (0, 0)) := by rw [hb.block _ (Array.getElem?_eq_some_iff.1 hN).1]; exact hN
  clear hb hN
  cases bT
  case false =>
    have hC : Hid (looksC t = 0) := by show _ = _; unfold looksC; rw [eT.out]; rfl
    have hG : Hid (looksG t = []) := by show _ = _; unfold looksG; rw [eT.out]; rfl
    go_wp2_with (refine store_T (cs := #[.int .i64 0, .slice none 0 0]) (by rfl) 37 _ _ (by rfl) (by kernel_rfl) (by rfl) (by rfl) hN3 (by rfl) (by rfl) ?_; intro W hg hA hzs)
    exact bodyPost_ret (results_cell_row Tryd.results6 _ _ _ _ _ _ _ rfl hA Tryd.underlying37 rfl (by kernel_rfl)) rfl ⟨_, by rw [hC.out]; rfl, by rw [hG.out]; exact ownG_none _ _ _, hb0.grown hg hb0.size (fun k e => by cases e; omega)⟩
  obtain ⟨hn1, hn2, hx, hne⟩ := looks_rows eT.out
  have hC : Hid (looksC t = t.gc) := by show _ = _; unfold looksC; rw [eT.out]; rfl
  have hG : Hid (looksG t = t.g) := by show _ = _; unfold looksG; rw [eT.out]; rfl
  have dC := l5Copy_any t.gc v.g t.g w3 (h.below hb0).1 (by omega) hn1 (fun i hi => by have := hx i hi; omega) hne
  unfold gridV at dC
  obtain ⟨c0, c1, c2, c3, c4, c5, c6, c7, c8, c9, c10, c11, c12, c13, c14, c15, c16, c17, c18, c19, c20, c21, c22, c23, c24, c25, c26, c27, c28, c29⟩ := hB.cells
  clear hB hn1 hn2 hx hne
  go_wp2_with fail
  refine dC.mono ?_
  rintro e w4 ⟨u, rfl, ho, hb⟩
  have hN4 : w4.heap[w.heap.size + 1]? = some (.cells #[.int .i64 0, .slice none 0 0] 37 (0, 0)) := by rw [hb.block _ (Array.getElem?_eq_some_iff.1 hN3).1]; exact hN3
  have zlt := (Array.getElem?_eq_some_iff.1 hN3).1
  replace hb0 := hb0.trans (hb.mono hb0.size)
  obtain ⟨ua, un, uc, rfl⟩ := slShp (SlG.of_own ho)
  clear hb dC hN3 c0 c1 c2 c3 c4 c5 c6 c7 c8 c9 c10 c11 c12 c13 c14 c15 c16 c17 c18 c19 c20 c21 c22 c23 c24 c25 c26 c27 c28 c29
  go_wp2_with (refine store_T (cs := #[.int .i64 t.gc, .slice ua un uc]) (by rfl) 37 _ _ (by rfl) (by kernel_rfl) (by rfl) (by rfl) hN4 (by rfl) (by rfl) ?_; intro W hg hA hzs)
  have hoF := (own_put ho hg (by omega)).1.1
  exact bodyPost_ret (results_cell_row Tryd.results6 _ _ _ _ _ _ _ rfl hA Tryd.underlying37 rfl (by kernel_rfl)) rfl ⟨_, by rw [hC.out]; rfl, by rw [hG.out]; exact (hoF.low (by omega)).now, hb0.grown hg hb0.size (fun k e => by cases e; omega)⟩
set_option maxHeartbeats 8000000 in
set_option maxRecDepth 20000 in
theorem implLooks_any (t : Te) (v : Tv) (w : World) (h : SlT w t v) (hS : SpansAt w) (hz : SzT 1048576 t) :
    Calls Tryd.prog 8 #[.agg (teCs t v)] w fun e w' => ∃ u, e = .returned (gridV (looksC t) u) ∧ OwnG w' w.heap.size w'.heap.size u (looksG t) ∧ Below w.heap.size w w' := by
  have hb0 := bal' w (Obj.cells (teCs t v) 43)
  have hB := TeB.new w 43 t v
  have zs : (w.alloc (Obj.cells (teCs t v) 43)).heap.size = w.heap.size + 1 := by simp
  obtain ⟨w1, hw1⟩ : ∃ w1, w1 = w.alloc (Obj.cells (teCs t v) 43) := ⟨_, rfl⟩
  rw [← hw1] at hB hb0 zs
  have hN := heap_alloc_new w1 (Obj.cells #[.int .i64 0, .slice none 0 0] 37)
  rw [zs] at hN
  replace zs := (show Hid _ from zs)
  replace hw1 := (show Hid _ from hw1)
  obtain ⟨bT, eT⟩ : ∃ b, Hid (termOkB t = b) := ⟨_, rfl⟩
  have dT := fun W hS h => implTermOk_any t v W h hS hz
  rw [eT.out] at dT
  unfold teV at dT
  have hbA := bal' w1 (Obj.cells #[.int .i64 0, .slice none 0 0] 37)
  clear hz
  go_enter Tryd.func8, Tryd.ntmps8
  refine wp_seq_k (fun K hK => ?_)
  have hH := (show Hid _ from hK)
  clear hK
  go_wp2
  refine hH.out _ _ ?_
  rw [← hw1.out]
  clear hH hw1
  replace hB := hB.below hbA
  replace hb0 := hb0.trans (hbA.mono hb0.size)
  generalize w1.alloc (Obj.cells #[.int .i64 0, .slice none 0 0] 37) = w2 at *
  go_wp2_with (refine load_te hB (by rfl) _ (by rfl) (by rfl) ?_)
  refine (dT _ (hS.below hb0 hS.lt) (h.below hb0)).mono ?_
  rintro e w3 ⟨rfl, hb⟩
  replace hb0 := hb0.trans (hb.mono hb0.size)
  replace hB := hB.below hb
  have hN3 : w3.heap[w.heap.size + 1]? = some (.cells #[.int .i64 0, .slice none 0 0] 37 (0, 0)) := by rw [hb.block _ (Array.getElem?_eq_some_iff.1 hN).1]; exact hN
  clear hb hN
  cases bT
  case false =>
    have hC : Hid (looksC t = 0) := by show _ = _; unfold looksC; rw [eT.out]; rfl
    have hG : Hid (looksG t = []) := by show _ = _; unfold looksG; rw [eT.out]; rfl
    go_wp2_with (refine store_T (cs := #[.int .i64 0, .slice none 0 0]) (by rfl) 37 _ _ (by rfl) (by kernel_rfl) (by rfl) (by rfl) hN3 (by rfl) (by rfl) ?_; intro W hg hA hzs)
    exact bodyPost_ret (results_cell_row Tryd.results8 _ _ _ _ _ _ _ rfl hA Tryd.underlying37 rfl (by kernel_rfl)) rfl ⟨_, by rw [hC.out]; rfl, by rw [hG.out]; exact ownG_none _ _ _, hb0.grown hg hb0.size (fun k e => by cases e; omega)⟩
  obtain ⟨hn1, hn2, hx, hne⟩ := looks_rows eT.out
  have hC : Hid (looksC t = t.gc) := by show _ = _; unfold looksC; rw [eT.out]; rfl
  have hG : Hid (looksG t = t.g) := by show _ = _; unfold looksG; rw [eT.out]; rfl
  have dC := fun W (h : SlT W t v) => copiedG_any v.g t.g W h.1 (by omega) (fun i hi => by have := hx i hi; omega)
  clear hn1 hn2 hx hne
  have hBd := hB.below (bdr w3)
  have hNd : w3.drew.heap[w.heap.size + 1]? = some (.cells #[.int .i64 0, .slice none 0 0] 37 (0, 0)) := hN3
  have kb := hb0.trans ((bdr w3).mono hb0.size)
  go_wp2
  refine wp_region_noPanic ?_
  refine wp_region_held_drew (S := (fun W => TeB W w.heap.size 43 t v)) (by kernel_rfl) (hBd) (fun hHeld => ?_)
  refine' wpAnyH_take (i := 0) (v := _) rfl (by kernel_rfl) (by kernel_rfl) (by kernel_rfl) (fun _ _ _ h => h) (Or.inl ⟨by rfl, ?hy1⟩) hHeld ?hr1
  case hy1 => (intro w hSw; (try dsimp only at hSw); go_simp; (try with_reducible rfl))
  simp only [Act.put, List.setIfInBounds_toArray, List.set_cons_zero, List.set_cons_succ, List.getElem_toArray, List.getElem_cons_zero]
  refine' wpAnyH_take (i := 1) (v := _) rfl (by kernel_rfl) (by kernel_rfl) (by kernel_rfl) (fun _ _ _ h => h) (Or.inl ⟨by rfl, ?hy2⟩) hHeld ?hr2
  case hy2 => (intro w hSw; (try dsimp only at hSw); go_simp; (try with_reducible rfl))
  simp only [Act.put, List.setIfInBounds_toArray, List.set_cons_zero, List.set_cons_succ, List.getElem_toArray, List.getElem_cons_zero, List.getElem_cons_succ]
  refine' wpAnyH_take (i := 2) (v := .int .i64 t.gc) rfl (by kernel_rfl) (by kernel_rfl) (by kernel_rfl) (fun _ _ _ h => h) (Or.inl ⟨by rfl, ?hl1⟩) hHeld ?hq1
  case hl1 => (intro W hSw; obtain ⟨e0, e1, e2, e3, e4, e5, e6, e7, e8, e9, e10, e11, e12, e13, e14, e15, e16, e17, e18, e19, e20, e21, e22, e23, e24, e25, e26, e27, e28, e29⟩ := hSw.cells; clear hSw; go_simp)
  (try simp only [Act.put, List.setIfInBounds_toArray, List.set_cons_zero, List.set_cons_succ, List.getElem_toArray, List.getElem_cons_zero, List.getElem_cons_succ])
  refine' wpAnyH_take (i := 3) (v := _) rfl (by kernel_rfl) (by kernel_rfl) (by kernel_rfl) (fun _ _ _ h => h) (Or.inl ⟨by rfl, ?hy3⟩) hHeld ?hr3
  case hy3 => (intro w hSw; (try dsimp only at hSw); go_simp; (try with_reducible rfl))
  simp only [Act.put, List.setIfInBounds_toArray, List.set_cons_zero, List.set_cons_succ, List.getElem_toArray, List.getElem_cons_zero, List.getElem_cons_succ]
  refine' wpAnyH_take (i := 4) (v := _) rfl (by kernel_rfl) (by kernel_rfl) (by kernel_rfl) (fun _ _ _ h => h) (Or.inl ⟨by rfl, ?hy4⟩) hHeld ?hr4
  case hy4 => (intro w hSw; (try dsimp only at hSw); go_simp; (try with_reducible rfl))
  simp only [Act.put, List.setIfInBounds_toArray, List.set_cons_zero, List.set_cons_succ, List.getElem_toArray, List.getElem_cons_zero, List.getElem_cons_succ]
  refine' wpAnyH_take (i := 5) (v := v.g) rfl (by kernel_rfl) (by kernel_rfl) (by kernel_rfl) (fun _ _ _ h => h) (Or.inl ⟨by rfl, ?hl2⟩) hHeld ?hq2
  case hl2 => (intro W hSw; obtain ⟨e0, e1, e2, e3, e4, e5, e6, e7, e8, e9, e10, e11, e12, e13, e14, e15, e16, e17, e18, e19, e20, e21, e22, e23, e24, e25, e26, e27, e28, e29⟩ := hSw.cells; clear hSw; go_simp)
  (try simp only [Act.put, List.setIfInBounds_toArray, List.set_cons_zero, List.set_cons_succ, List.getElem_toArray, List.getElem_cons_zero, List.getElem_cons_succ])
  refine wpAnyH_ready (rs := [6]) (by kernel_rfl) (by simp) (AllReadyH.cons rfl (fun K hK => ?_) AllReadyH.nil)
  go_simp
  refine (dC _ (h.below kb)).mono ?_
  rintro e w4 ⟨vs, rfl, ho, hb⟩
  have hN4 : w4.heap[w.heap.size + 1]? = some (.cells #[.int .i64 0, .slice none 0 0] 37 (0, 0)) := by rw [hb.block _ (Array.getElem?_eq_some_iff.1 hNd).1]; exact hNd
  have zlt := (Array.getElem?_eq_some_iff.1 hNd).1
  have hc0 : w4.cell? ⟨w.heap.size + 1, 0, none⟩ = some (.int .i64 0) := cell_of_row _ _ _ _ _ _ hN4
  have hc1 : w4.cell? ⟨w.heap.size + 1, 1, none⟩ = some (.slice none 0 0) := cell_of_row _ _ _ _ _ _ hN4
  have hf0 := frozen_of_row w4 (w.heap.size + 1) 0 _ _ hN4
  have hf1 := frozen_of_row w4 (w.heap.size + 1) 1 _ _ hN4
  replace hBd := hBd.below hb
  replace kb := kb.trans (hb.mono kb.size)
  go_wp2_with fail
  refine hK.out _ _ hBd (fun hHeld => ?_)
  clear hK K
  (try simp only [Act.put, List.setIfInBounds_toArray, List.set_cons_zero, List.set_cons_succ, List.getElem_toArray, List.getElem_cons_zero, List.getElem_cons_succ])
  refine' wpAnyH_take (i := 7) (v := _) rfl (by kernel_rfl) (by kernel_rfl) (by kernel_rfl) (fun _ _ _ h => h) (Or.inl ⟨by rfl, ?hy5⟩) hHeld ?hr5
  case hy5 => (intro w hSw; (try dsimp only at hSw); go_simp; (try with_reducible rfl))
  simp only [Act.put, List.setIfInBounds_toArray, List.set_cons_zero, List.set_cons_succ, List.getElem_toArray, List.getElem_cons_zero, List.getElem_cons_succ]
  refine wpAnyH_ready (rs := [8]) (by kernel_rfl) (by simp) (AllReadyH.cons rfl (fun K hK => ?_) AllReadyH.nil)
  have hg1 := setCells_gr (w.heap.size + 1) [.int .i64 t.gc, .slice (some ⟨w3.drew.heap.size, 0, none⟩) t.g.length t.g.length] 0 w4
  have hA1 := setCells_heap (w.heap.size + 1) 37 [.int .i64 t.gc, .slice (some ⟨w3.drew.heap.size, 0, none⟩) t.g.length t.g.length] 0 w4 [.int .i64 0, .slice none 0 0] hN4
  simp only [World.setCells] at hg1 hA1
  have hzs := hg1.size
  have hoF := (own_put ho.g hg1 (by omega)).1.1
  have hbF := kb.grown hg1 kb.size (fun k e => by cases e; omega)
  have hBs : ∀ W, w4.grownBy W (some (w.heap.size + 1)) → TeB W w.heap.size 43 t v := fun W hg => by unfold TeB; rw [hg.block _ hBd.lt (by intro e; simp at e)]; exact hBd
  replace hBs := hBs _ hg1
  clear hBd ho hb dC hN3 hNd hN4
  go_simp
  refine hK.out _ _ hBs (fun hHeld => ?_)
  clear hK K
  (try simp only [Act.put, List.setIfInBounds_toArray, List.set_cons_zero, List.set_cons_succ, List.getElem_toArray, List.getElem_cons_zero, List.getElem_cons_succ])
  refine wpAnyH_done (by kernel_rfl) ?_ _
  refine NoPanic.normal ?_
  go_wp2
  exact bodyPost_ret (results_cell_row Tryd.results8 _ _ _ _ _ _ _ rfl hA1 Tryd.underlying37 rfl (by kernel_rfl)) rfl ⟨_, by rw [hC.out]; rfl, by rw [hG.out]; exact (hoF.low (by omega)).now, hbF⟩
end Go.Proofs.YtlmnhlfklbgjdaaDoor
namespace Go.Proofs.YtlmnhlfklbgjdaaDoor
open Go.ChangeShapes Go.WideShapes Go.ChangeAt Go.RowKit
set_option maxHeartbeats 2000000 in
theorem markCSS_p (lo hi : Nat) (v : Value) (vs : List Value) (k : Nat) (rows : List (List Ce)) (w : World) (h : OwnV w lo hi v vs rows) (hk : k ≤ 134217728) (hl : sumG rows rows.length ≤ 1048576) (hn : rows.length ≤ 1048576) :
    Calls Tryd.prog 36 #[v, .int .i64 k] w fun e w' => e = .returned (.int .i64 ((k + 7 * sumG rows rows.length : Nat) : Int)) ∧ OwnV w' lo hi v vs (marksG k rows) ∧ GrP (RwS vs) w w' := by
  rcases h.shape with ⟨rfl, rfl⟩ | ⟨g, cap, rfl, hbg, hlg, hcap⟩
  · go_enter Tryd.func36, Tryd.ntmps36
    go_wp2
    refine wp_loop_rounds 1 ?_
    rw [rounds_succ]
    go_wp2
    go_ret
    exact ⟨by simp [sumG], by simpa [marksG, markUpG, genR] using h, GrP.refl _ _⟩
  · generalize hN : rows.length = n at *
    go_enter Tryd.func36, Tryd.ntmps36
    go_wp2
    go_loopw [1, 5] (fun q i wr => ∃ (j : Nat), j ≤ n ∧ i = .int .i64 j ∧ q = .int .i64 ((k + 7 * sumG rows j : Nat) : Int) ∧ OwnV wr lo hi (.slice (some ⟨g, 0, none⟩) n cap) vs (markUpG k rows j) ∧ GrP (RwS vs) w wr) (fun _ i _ => n - (intOf i).toNat)
    case atStart => exact ⟨0, Nat.zero_le _, rfl, rfl, by rw [markUpG_zero]; exact h, GrP.refl _ _⟩
    case round =>
      clear h
      obtain ⟨j, hj, rfl, rfl, ho, hgr⟩ := hrel
      have hlen : (markUpG k rows j).length = n := by rw [markUpG_len]; exact hN
      by_cases hlt : j < n
      · have hji : (j : Int) < (n : Int) := by omega
        have hj0 : (0 : Int) ≤ (j : Int) := by omega
        have hcj := ho.cell hlen j hlt
        have hx := markUpG_at k rows j j (by omega)
        rw [if_neg (Nat.lt_irrefl j)] at hx
        have hrow := ho.2.2.1 j (by omega)
        rw [hx] at hrow
        have hs1 := sumG_mono rows (show j ≤ n by omega)
        have hs2 := sumG_row rows hlt
        have hm := markC_own lo (rowV vs j) (k + 7 * sumG rows j) (rowX rows j) wr hrow (by omega) (by omega)
        have hst : Hid (markUpG k rows (j + 1) = (markUpG k rows j).set j (marksC (k + 7 * sumG rows j) (rowX rows j).length)) := markUpG_step k rows j (by omega)
        have hsum : Hid ((k + 7 * sumG rows j) + 7 * (rowX rows j).length = k + 7 * sumG rows (j + 1)) := by show _ = _; rw [sumG]; omega
        have hB : ∀ g', (rowV vs j).ownBlock = some g' → RwS vs g' := fun g' e => ⟨j, by rw [ho.1]; omega, e⟩
        rw [hsum.out] at hm
        have hfin := fun W' (h1 : OwnC W' lo (rowV vs j) (marksC (k + 7 * sumG rows j) (rowX rows j).length)) (h2 : wr.grownBy W' (rowV vs j).ownBlock) => (show OwnV W' lo hi (.slice (some ⟨g, 0, none⟩) n cap) vs (markUpG k rows (j + 1)) from by rw [hst.out]; exact ho.rowset (by omega) _ h1 h2)
        have hsh : ∃ a n c, rowV vs j = Value.slice a n c := by rcases hrow.shape with ⟨h, _⟩ | ⟨_, _, h, _⟩ <;> exact ⟨_, _, _, h⟩
        clear hst hsum hrow hx ho hs1 hs2
        generalize rowV vs j = r at *
        obtain ⟨ra, rn, rc, rfl⟩ := hsh
        go_wp2_with fail
        refine hm.mono ?_
        rintro e w2 ⟨rfl, ho2, hg2⟩
        have kk := hfin w2 ho2 hg2
        have gg := hgr.trans (GrP.of_grown hg2 hB)
        clear hfin ho2 hg2 hB hm hgr
        go_wp2
        go_roundw
        case rel => exact ⟨j + 1, by omega, by go_num, rfl, kk, gg⟩
        case measure => simp [intOf]; omega
      · have hjn : j = n := by omega
        have hji : ¬ (j : Int) < (n : Int) := by omega
        subst hjn
        go_wp2
        go_ret
        exact ⟨rfl, by unfold marksG; rw [hN]; exact ho, hgr⟩
theorem markGrid_p (lo hi : Nat) (cols : Int) (v : Value) (vs : List Value) (k : Nat) (rows : List (List Ce)) (w : World) (h : OwnV w lo hi v vs rows) (hk : k ≤ 134217728) (hl : sumG rows rows.length ≤ 1048576) (hn : rows.length ≤ 1048576) :
    Calls Tryd.prog 12 #[gridV cols v, .int .i64 k] w fun e w' => e = .returned (.int .i64 ((k + 7 * sumG rows rows.length : Nat) : Int)) ∧ OwnV w' lo hi v vs (marksG k rows) ∧ GrP (RwS vs) w w' := by
  have hb0 := bal' w (Obj.cells #[.int .i64 cols, v] 37)
  have hv1 : OwnV (w.alloc (Obj.cells #[.int .i64 cols, v] 37)) lo hi v vs rows := h.below hb0
  have hm := markCSS_p lo hi v vs k rows _ hv1 hk hl hn
  have hG0 := GrN.new w cols v 37
  obtain ⟨a, n, c, rfl⟩ : ∃ a n c, v = Value.slice a n c := by rcases h.shape with ⟨h, _⟩ | ⟨_, _, h, _⟩ <;> exact ⟨_, _, _, h⟩
  unfold gridV
  obtain ⟨_, g0, g1⟩ := id hG0
  clear h hv1
  generalize k + 7 * sumG rows rows.length = q at *
  go_enter Tryd.func12, Tryd.ntmps12
  go_wp2_with fail
  refine hm.mono ?_
  rintro e w2 ⟨rfl, ho2, hg2⟩
  go_wp2
  go_ret
  exact ⟨rfl, ho2, (GrP.of_below hb0).trans hg2⟩
set_option maxRecDepth 20000 in
set_option maxHeartbeats 4000000 in
/-- A parser's lists are marked, others of this call's are as they were. -/
theorem markParser_big (p : Pa) (pv tv : Value) (k : Nat) (base : Nat) (R : List (Value × List Int)) (w : World) (h : LiOk w base ((pv, p.params) :: (tv, p.text) :: R)) (_hb : base ≤ w.heap.size) (hk : k ≤ 134217728) (hpl : p.params.length ≤ 1048576) (htl : p.text.length ≤ 1048576) :
    Calls Tryd.prog 35 #[paV p pv tv, .int .i64 k] w fun e w' => e = .returned (.int .i64 ((k + p.params.length + p.text.length : Nat) : Int)) ∧ LiOk w' base ((pv, marksI k p.params.length) :: (tv, marksI ((k + p.params.length : Nat) : Int) p.text.length) :: R) ∧ GrV pv tv w w' := by
  obtain ⟨s, ps, m, ts⟩ := p
  have hb0 := bal' w (Obj.cells #[.int .i64 s, pv, .int .i64 m, tv] 40)
  have hP := PbB.new w s m pv tv
  have h0 := h.below hb0
  have m1 := markI_own base pv k ps.length (ps.map (Value.int .i64)) _ h0.head ⟨by omega, by omega⟩ (by simp only at hpl; omega)
  have m2 := fun W (hW : OwnI W base tv ts) => markI_own base tv ((k + ps.length : Nat) : Int) ts.length (ts.map (Value.int .i64)) W hW ⟨by omega, by simp only at hpl; omega⟩ (by simp only at htl; omega)
  have n1 : Hid ((k : Int) + (ps.length : Int) = ((k + ps.length : Nat) : Int)) := by show _ = _; omega
  have n2 : Hid (((k + ps.length : Nat) : Int) + (ts.length : Int) = ((k + ps.length + ts.length : Nat) : Int)) := by show _ = _; omega
  rw [n1.out] at m1
  unfold paV at *
  simp only at *
  obtain ⟨pa, pn, pc, hpv⟩ := h.head.shape
  obtain ⟨ta, tn, tc, htv⟩ := h.tail.head.shape
  simp only at hpv htv
  subst hpv; subst htv
  have hGr : GrV (.slice pa pn pc) (.slice ta tn tc) w (w.alloc (Obj.cells #[.int .i64 s, .slice pa pn pc, .int .i64 m, .slice ta tn tc] 40)) := GrV.of_below hb0
  obtain ⟨c0, c1, c2, c3⟩ := hP.cells
  have hs : ∀ W, (w.alloc (Obj.cells #[.int .i64 s, .slice pa pn pc, .int .i64 m, .slice ta tn tc] 40)).grownBy W (Value.slice pa pn pc).ownBlock → PbB W w.heap.size s (.slice pa pn pc) m (.slice ta tn tc) := fun W hg => hP.kept hg (h0.head.not_block hP (by decide))
  clear h
  go_enter Tryd.func35, Tryd.ntmps35
  go_wp2_with fail
  refine m1.mono ?_
  rintro e w3 ⟨rfl, ho3, hg3⟩
  have hP3 := hs w3 hg3
  have hL3 : LiOk w3 base ((.slice pa pn pc, marksI k ps.length) :: (.slice ta tn tc, ts) :: R) := h0.grow hg3 (by unfold OwnI; rw [marksI_len]; exact ho3) (fun g e => .inl e)
  have hG3 := hGr.grown hg3 (fun g e => .inl e)
  have m3 := m2 w3 hL3.tail.head
  rw [n2.out] at m3
  clear m1 m2 hs hGr hP h0 hg3 ho3 c0 c1 c2 c3
  obtain ⟨c0, c1, c2, c3⟩ := hP3.cells
  go_wp2_with fail
  refine m3.mono ?_
  rintro e w4 ⟨rfl, ho4, hg4⟩
  have hL4 : LiOk w4 base ((.slice pa pn pc, marksI k ps.length) :: (.slice ta tn tc, marksI ((k + ps.length : Nat) : Int) ts.length) :: R) :=
    ((hL3.perm (List.Perm.swap _ _ _)).grow hg4 (show OwnI w4 base _ _ from by unfold OwnI; rw [marksI_len]; exact ho4) (fun g e => .inl e)).perm (List.Perm.swap _ _ _)
  have hG4 := hG3.grown hg4 (fun g e => .inr (.inl e))
  clear m3 hP3 hL3 hG3 hg4 ho4 c0 c1 c2 c3
  go_wp2
  go_ret
  exact ⟨rfl, hL4, hG4⟩
/-- Blocks of no list stay. -/
def StT (vg vo : List Value) (v : Tv) (k : Nat) : Prop := RwS vg k ∨ RwS vo k ∨ v.ti.ownBlock = some k ∨ v.pp.ownBlock = some k ∨ v.pt.ownBlock = some k
theorem GrP.of_grv {u v : Value} {w w' : World} (h : GrV u v w w') : GrP (fun k => u.ownBlock = some k ∨ v.ownBlock = some k) w w' :=
  ⟨h.1, h.2.1, h.2.2.1, h.2.2.2.1, fun k hk ho => h.2.2.2.2 k hk (fun e => ho (.inl e)) (fun e => ho (.inr e))⟩
set_option maxHeartbeats 8000000 in
set_option maxRecDepth 20000 in
theorem markTerm_s (t : Te) (v : Tv) (vg vo : List Value) (base : Nat) (w : World) (h : OwnS w base t v vg vo) (hbase : base ≤ w.heap.size) (hs1 : sumG t.g t.g.length ≤ 1048576) (hs2 : sumG t.o t.o.length ≤ 1048576) (hl1 : t.g.length ≤ 1048576) (hl2 : t.o.length ≤ 1048576) (hti : t.ti.length ≤ 1048576) (hpp : t.pa.params.length ≤ 1048576) (hpt : t.pa.text.length ≤ 1048576) :
    Calls Tryd.prog 11 #[teV t v, .int .i64 1] w fun e w' => e = .returned (.int .i64 ((1 + mkN t : Nat) : Int)) ∧ OwnS w' base (mkT t) v vg vo ∧ GrP (StT vg vo v) w w' := by
  obtain ⟨xg, xo, vti, vpp, vpt⟩ := v
  obtain ⟨hg, ho, hap, hL⟩ := h
  simp only at hg ho hL hap
  have cG := fun B W (hW : OwnV W base B xg vg t.g) => markGrid_p base B t.gc xg vg 1 t.g W hW (by decide) (by omega) (by omega)
  have cO := fun B W (hW : OwnV W base B xo vo t.o) => markGrid_p base B t.oc xo vo (1 + 7 * sumG t.g t.g.length) t.o W hW (by omega) (by omega) (by omega)
  have cT := fun W (hW : OwnI W base vti t.ti) => markI_own base vti ((1 + 7 * sumG t.g t.g.length + 7 * sumG t.o t.o.length : Nat) : Int) t.ti.length _ W hW ⟨by omega, by omega⟩ (by omega)
  have cP := fun W xs hW => markParser_big t.pa vpp vpt (1 + 7 * sumG t.g t.g.length + 7 * sumG t.o t.o.length + t.ti.length) base [(vti, xs)] W hW
  obtain ⟨ga, gn, gp, hq1⟩ := slShp (SlG.of_own hg.g)
  obtain ⟨oa, on, op, hq2⟩ := slShp (SlG.of_own ho.g)
  obtain ⟨ta, tn, tp, hq3⟩ := hL.head.shape
  obtain ⟨pa, pn, pp, hq4⟩ := hL.tail.head.shape
  obtain ⟨qa, qn, qp, hq5⟩ := hL.tail.tail.head.shape
  simp only at hq1 hq2 hq3 hq4 hq5
  subst hq1; subst hq2; subst hq3; subst hq4; subst hq5
  have hb0 := bal' w (Obj.cells (teCs t ⟨.slice ga gn gp, .slice oa on op, .slice ta tn tp, .slice pa pn pp, .slice qa qn qp⟩) 43)
  have hX := TeB.new w 43 t ⟨.slice ga gn gp, .slice oa on op, .slice ta tn tp, .slice pa pn pp, .slice qa qn qp⟩
  have hne := fun (B : Nat) (W : World) (hW : TeB W B 43 t ⟨.slice ga gn gp, .slice oa on op, .slice ta tn tp, .slice pa pn pp, .slice qa qn qp⟩) => hW
  obtain ⟨w1, hw1⟩ : ∃ w1, w1 = w.alloc (Obj.cells (teCs t ⟨.slice ga gn gp, .slice oa on op, .slice ta tn tp, .slice pa pn pp, .slice qa qn qp⟩) 43) := ⟨_, rfl⟩
  rw [← hw1] at hb0 hX
  replace hw1 := (show Hid _ from hw1)
  unfold teV gridV paV at *
  have e1 : Hid (1 + 7 * sumG t.g t.g.length + 7 * sumG t.o t.o.length + t.ti.length + t.pa.params.length + t.pa.text.length = 1 + mkN t) := by show _ = _; unfold mkN; omega
  have e2 : Hid (((1 + 7 * sumG t.g t.g.length + 7 * sumG t.o t.o.length : Nat) : Int) + (t.ti.length : Int) = ((1 + 7 * sumG t.g t.g.length + 7 * sumG t.o t.o.length + t.ti.length : Nat) : Int)) := by show _ = _; omega
  simp only [e2.out] at cT
  replace hg := hg.below hb0
  replace ho := ho.below hb0
  replace hL := hL.below hb0
  have kb : GrP (StT vg vo ⟨.slice ga gn gp, .slice oa on op, .slice ta tn tp, .slice pa pn pp, .slice qa qn qp⟩) w w1 := GrP.of_below hb0
  clear hne
  go_enter Tryd.func11, Tryd.ntmps11
  refine wp_seq_k (fun K hK => ?_)
  have hH := (show Hid _ from hK)
  clear hK
  go_wp2
  refine hH.out _ _ ?_
  rw [← hw1.out]
  clear hH hw1
  obtain ⟨c0, c1, c2, c3, c4, c5, c6, c7, c8, c9, c10, c11, c12, c13, c14, c15, c16, c17, c18, c19, c20, c21, c22, c23, c24, c25, c26, c27, c28, c29⟩ := hX.cells
  go_wp2_with fail
  refine (cG _ _ hg).mono ?_
  rintro e w2 ⟨rfl, hg2, hgr⟩
  have nX : ¬ RwS vg w.heap.size := fun c => grS_not hg hX (by decide) (by decide) (.inr c)
  replace ho := ho.grp hgr (fun k hk c => hap k (.inr c) hk)
  replace hL := hL.grp hgr (fun p hp k e c => li_not_grS hg (hL.1 p hp) k e (.inr c))
  replace hX : TeB w2 _ _ t _ := BlkC.grp hX hgr nX
  replace kb := kb.trans (hgr.mono (fun k _ c => .inl c))
  clear c0 c1 c2 c3 c4 c5 c6 c7 c8 c9 c10 c11 c12 c13 c14 c15 c16 c17 c18 c19 c20 c21 c22 c23 c24 c25 c26 c27 c28 c29
  clear hgr cG hg nX
  obtain ⟨c0, c1, c2, c3, c4, c5, c6, c7, c8, c9, c10, c11, c12, c13, c14, c15, c16, c17, c18, c19, c20, c21, c22, c23, c24, c25, c26, c27, c28, c29⟩ := hX.cells
  go_wp2_with fail
  refine (cO _ _ ho).mono ?_
  rintro e w3 ⟨rfl, ho2, hgr⟩
  have nX : ¬ RwS vo w.heap.size := fun c => grS_not ho hX (by decide) (by decide) (.inr c)
  replace hg2 := hg2.grp hgr (fun k hk c => hap k hk (.inr c))
  replace hL := hL.grp hgr (fun p hp k e c => li_not_grS ho (hL.1 p hp) k e (.inr c))
  replace hX : TeB w3 _ _ t _ := BlkC.grp hX hgr nX
  replace kb := kb.trans (hgr.mono (fun k _ c => .inr (.inl c)))
  clear c0 c1 c2 c3 c4 c5 c6 c7 c8 c9 c10 c11 c12 c13 c14 c15 c16 c17 c18 c19 c20 c21 c22 c23 c24 c25 c26 c27 c28 c29
  clear hgr cO ho nX
  obtain ⟨c0, c1, c2, c3, c4, c5, c6, c7, c8, c9, c10, c11, c12, c13, c14, c15, c16, c17, c18, c19, c20, c21, c22, c23, c24, c25, c26, c27, c28, c29⟩ := hX.cells
  go_wp2_with fail
  refine (cT _ hL.head).mono ?_
  rintro e w4 ⟨rfl, hti4, hgr⟩
  have hL4 : LiOk w4 base _ := hL.grow hgr (show OwnI w4 base (.slice ta tn tp) (marksI ((1 + 7 * sumG t.g t.g.length + 7 * sumG t.o t.o.length : Nat) : Int) t.ti.length) from by unfold OwnI; rw [marksI_len]; exact hti4) (fun g e => .inl e)
  have hgp : GrP (fun k => Value.ownBlock (.slice ta tn tp) = some k) w3 w4 := GrP.of_grown hgr (fun g e => e)
  replace hX : TeB w4 _ _ t _ := hX.kept hgr (hL.head.not_block hX (by decide))
  replace kb := kb.trans (hgp.mono (fun k _ c => .inr (.inr (.inl c))))
  replace hg2 := hg2.grp hgp (fun k hk c => li_not_grS hg2 hL.head k c hk)
  replace ho2 := ho2.grp hgp (fun k hk c => li_not_grS ho2 hL.head k c hk)
  clear c0 c1 c2 c3 c4 c5 c6 c7 c8 c9 c10 c11 c12 c13 c14 c15 c16 c17 c18 c19 c20 c21 c22 c23 c24 c25 c26 c27 c28 c29
  clear hgr hgp cT hL hti4
  obtain ⟨c0, c1, c2, c3, c4, c5, c6, c7, c8, c9, c10, c11, c12, c13, c14, c15, c16, c17, c18, c19, c20, c21, c22, c23, c24, c25, c26, c27, c28, c29⟩ := hX.cells
  have hP := cP w4 _ (hL4.perm (by exact (List.perm_append_comm (l₁ := [_]) (l₂ := [_, _])))) (by have := kb.size; omega) (by omega) (by omega) (by omega)
  rw [e1.out] at hP
  go_wp2_with fail
  refine hP.mono ?_
  rintro e w5 ⟨rfl, hL5, hgv⟩
  have hgp := GrP.of_grv hgv
  replace hg2 := hg2.grp hgp (fun k hk c => c.elim (fun c => li_not_grS hg2 hL4.tail.head k c hk) (fun c => li_not_grS hg2 hL4.tail.tail.head k c hk))
  replace ho2 := ho2.grp hgp (fun k hk c => c.elim (fun c => li_not_grS ho2 hL4.tail.head k c hk) (fun c => li_not_grS ho2 hL4.tail.tail.head k c hk))
  have ks := kb.size
  have ks5 := hgp.size
  replace kb := kb.trans (hgp.mono (fun k _ c => c.elim (fun c => .inr (.inr (.inr (.inl c)))) (fun c => .inr (.inr (.inr (.inr c))))))
  have hfin : OwnS w5 base (mkT t) ⟨.slice ga gn gp, .slice oa on op, .slice ta tn tp, .slice pa pn pp, .slice qa qn qp⟩ vg vo := ⟨hg2.up (by have := hb0.size; omega), ho2.up (by have := hb0.size; omega), hap, hL5.perm (by exact (List.perm_append_comm (l₁ := [_, _]) (l₂ := [_])))⟩
  clear c0 c1 c2 c3 c4 c5 c6 c7 c8 c9 c10 c11 c12 c13 c14 c15 c16 c17 c18 c19 c20 c21 c22 c23 c24 c25 c26 c27 c28 c29
  clear hgv hgp hL4 hL5 hP hg2 ho2 hX ks ks5
  go_wp2
  go_ret
  exact ⟨rfl, hfin, kb⟩
theorem StT.not {w : World} {base : Nat} {t : Te} {v : Tv} {vg vo : List Value} (h : OwnS w base t v vg vo) {B : Nat} {cs : Array Value} {T : TypeId} (hB : w.heap[B]? = some (.cells cs T (0, 0))) (h1 : T ≠ 65) (h2 : T ≠ 2) : ¬ StT vg vo v B := fun c => by
  rcases c with c | c | c | c | c
  · obtain ⟨cs', hc⟩ := c.blk h.1; exact blk_ne hB hc h1
  · obtain ⟨cs', hc⟩ := c.blk h.2.1; exact blk_ne hB hc h1
  · exact (h.2.2.2.head.not_block hB h2) c
  · exact (h.2.2.2.tail.head.not_block hB h2) c
  · exact (h.2.2.2.tail.tail.head.not_block hB h2) c
theorem StT.bd {w : World} {base : Nat} {t : Te} {v : Tv} {vg vo : List Value} (h : OwnS w base t v vg vo) {k : Nat} (c : StT vg vo v k) : base ≤ k ∧ k < w.heap.size := by
  rcases c with c | c | c | c | c
  · exact c.bd h.1
  · exact c.bd h.2.1
  · exact h.2.2.2.head.lt k c
  · exact h.2.2.2.tail.head.lt k c
  · exact h.2.2.2.tail.tail.head.lt k c
/-- A screen's lists stay where only older blocks change. -/
theorem OwnS.grp {S : Nat → Prop} {w w' : World} {base : Nat} {t : Te} {v : Tv} {vg vo : List Value} (h : OwnS w base t v vg vo) (hg : GrP S w w') (hS : ∀ k, S k → k < base) : OwnS w' base t v vg vo :=
  ⟨(h.1.grp hg (fun k hk c => by have := GrS.bd h.1 hk; have := hS k c; omega)).up hg.size, (h.2.1.grp hg (fun k hk c => by have := GrS.bd h.2.1 hk; have := hS k c; omega)).up hg.size, h.2.2.1,
    h.2.2.2.grp hg (fun p hp g e c => by have := (h.2.2.2.1 p hp).lt g e; have := hS g c; omega)⟩
end Go.Proofs.YtlmnhlfklbgjdaaDoor
namespace Go.Proofs.YtlmnhlfklbgjdaaDoor
open Go.ChangeShapes Go.WideShapes Go.ChangeAt Go.RowKit
theorem info_gr : (Tryd.prog.info? 37).map (·.size) = some 2 := by kernel_rfl
def GrC (w : World) (B : Nat) (cols : Int) (v : Value) : Prop := w.heap[B]? = some (.cells #[.int .i64 cols, v] 37 (0, 0))
theorem GrC.lt {w : World} {B : Nat} {cols : Int} {v : Value} (h : GrC w B cols v) : B < w.heap.size := (Array.getElem?_eq_some_iff.1 h).1
theorem GrC.below {w w' : World} {B : Nat} {cols : Int} {v : Value} (h : GrC w B cols v) (hb : Below w.heap.size w w') : GrC w' B cols v := by
  unfold GrC; rw [hb.block _ h.lt]; exact h
theorem GrC.gr {w w' : World} {B lo hi : Nat} {cols : Int} {v : Value} (h : GrC w B cols v) (hg : GrB lo hi w w') (hne : B < lo ∨ hi ≤ B) : GrC w' B cols v := by
  unfold GrC; rw [hg.2.2.2.2 _ h.lt hne]; exact h
theorem GrP.to_gr {S : Nat → Prop} {lo hi : Nat} {w w' : World} (h : GrP S w w') (hS : ∀ k, S k → lo ≤ k ∧ k < hi) : GrB lo hi w w' :=
  ⟨h.1, h.2.1, h.2.2.1, h.2.2.2.1, fun k hk hr => h.2.2.2.2 k hk (fun c => by have := hS k c; omega)⟩
theorem load_gc {w : World} {ops : Array Oper} {rest : List Oper} {o : Oper} {a : Act} {Q : Exit → Act → World → Prop} {B : Nat} {cols : Int} {v : Value} (hb : GrC w B cols v) (hgd : Region.wanted o (yielded ops a.tmps) = true) (x : Operand)
    (ho : o.op = .load 37 x) (hx : a.eval x = .pointer (some ⟨B, 0, none⟩))
    (h : wpList Tryd.prog ops Q rest (a.put o.dst (.agg #[.int .i64 cols, v])) w) : wpList Tryd.prog ops Q (o :: rest) a w :=
  load_T (cs := #[.int .i64 cols, v]) hgd 37 x ho Tryd.underlying37 rfl info_gr hb hx h
set_option maxHeartbeats 16000000 in
set_option maxRecDepth 20000 in
theorem walk_FnExactLooks (w : World) (hS : SpansAt w) (t : Te) (v : Tv) (h : SlT w t v) (hm : SzT maxLen t) (hf : t.fe.size ≤ maxLen) :
    Calls Tryd.prog 3 #[teV t v] w fun e w' => e = .returned (.bool true) ∧ Below w.heap.size w w' := by
  have hsp := fun u W h hz => specLooks_any t u W h hz
  have him := fun u W hS h hz => implLooks_any t u W h hS hz
  obtain ⟨hYn, hYx⟩ := looks_sz t
  generalize looksC t = C at *
  generalize looksG t = Y at *
  have hsY : sumG Y Y.length ≤ 1048576 := by have := sumG_bd Y 60 hYx Y.length (Nat.le_refl _); have := Nat.mul_le_mul_right 60 hYn; omega
  have hzz := fun W h => szTerm_any t v W h hm hf
  have hb0 := bal' w (Obj.cells (teCs t v) 33)
  have hX := TeB.new w 33 t v
  obtain ⟨w1, hw1⟩ : ∃ w1, w1 = w.alloc (Obj.cells (teCs t v) 33) := ⟨_, rfl⟩
  rw [← hw1] at hb0 hX
  replace hw1 := (show Hid _ from hw1)
  have hto := fun W h hz => toTerm_copy t v W h hz
  have heq0 := fun u u2 W h h2 hz => eqTerm_same t u u2 W h h2 hz
  have heqR := fun va vb W h1 h2 => eqGrid_same C va vb Y W h1 h2 (by omega) (fun i hi => by have := hYx i hi; omega)
  have hmkR := fun lo hi v W h => markGrid_own lo hi C v 1 Y W h (by decide) hsY (by omega)
  have hhdR := fun v W h => heldGrid_marks C v 1 Y W h (by decide) hsY (by omega)
  have hn : ¬ (((1 + 7 * sumG Y Y.length : Nat) : Int) < 0) := by omega
  generalize ((1 + 7 * sumG Y Y.length : Nat) : Int) = mR at *
  clear hm hf hYn hYx hsY
  unfold gridV at hsp him heqR hmkR hhdR
  unfold teV at *
  go_enter Tryd.func3, Tryd.ntmps3
  refine wp_seq_k (fun K hK => ?_)
  have hH := (show Hid _ from hK)
  clear hK
  go_wp2
  refine hH.out _ _ ?_
  rw [← hw1.out]
  clear hH hw1
  go_wp2_with (refine load_tl hX (by rfl) _ (by rfl) (by rfl) ?_)
  refine (hzz _ (h.below hb0)).mono ?_
  rintro e w2 ⟨z, rfl, hz, hb⟩
  have kb := hb0.trans (hb.mono hb0.size)
  replace hX := hX.below hb
  clear hb hb0 hzz
  by_cases hzn : z < 0
  case pos =>
    go_wp2
    go_ret
    exact ⟨rfl, kb⟩
  obtain ⟨hsz, hsum⟩ := hz.resolve_left hzn
  have hmkX := fun u vg vo base W h hb => markTerm_s t u vg vo base W h hb (by omega) (by omega) hsz.1 hsz.2.2.1 (by omega) (by omega) (by omega)
  have hnX : ¬ (((1 + mkN t : Nat) : Int) < 0) := by omega
  generalize ((1 + mkN t : Nat) : Int) = mX at *
  have hnX2 : decide (mX < 0) = false := decide_eq_false hnX
  clear hz hsum
  replace hsz := (show Hid _ from hsz)
  -- the specification's answer
  go_wp2_with (refine load_tl hX (by rfl) _ (by rfl) (by rfl) ?_)
  refine (hto _ (h.below kb) hsz.out).mono ?_
  rintro e w3 ⟨v3, rfl, ho, hb⟩
  replace kb := kb.trans (hb.mono kb.size)
  replace hX := hX.below hb
  clear hb
  go_wp2_with fail
  refine (hsp v3 _ (ho.sl) hsz.out).mono ?_
  rintro e w4 ⟨u4, rfl, s0, hb⟩
  replace kb := kb.trans (hb.mono kb.size)
  replace hX := hX.below hb
  clear hb ho hsp
  replace s0 := SlG.of_own s0
  obtain ⟨a4, n4, c4, rfl⟩ := slShp s0
  have hal := bal' w4 (Obj.cells #[.int .i64 0, .slice none 0 0] 37)
  have hZ := heap_alloc_new w4 (Obj.cells #[.int .i64 0, .slice none 0 0] 37)
  go_wp2_with (first
    | (refine store_T (cs := #[.int .i64 C, .slice a4 n4 c4]) (by rfl) 37 _ _ (by rfl) info_gr (by rfl) (by rfl) hZ (by rfl) (by rfl) ?_; intro W4 hg hA hzs; have hbW : Below w4.heap.size w4 W4 := hal.grown hg hal.size (fun k e => by cases e; exact Nat.le_refl _); have A0 : GrC W4 w4.heap.size C (.slice a4 n4 c4) := hA; clear hA hg hzs hal hZ)
    | (refine load_tl (hX.below hbW) (by rfl) _ (by rfl) (by rfl) ?_))
  replace kb := kb.trans (hbW.mono kb.size)
  replace hX := hX.below hbW
  replace s0 := s0.below hbW
  have hX0 := hX.lt
  have hk0 := kb.size
  clear hbW
  -- the argument's copy
  refine (hto _ (h.below kb) hsz.out).mono ?_
  rintro e w5 ⟨v5, rfl, ho, hb⟩
  obtain ⟨b1, b2, b3, hrg⟩ := ho
  obtain ⟨vg5, vo5, o1⟩ := RgT.own (show RgT w5 W4.heap.size b1 b2 b3 t v5 from hrg)
  replace kb := kb.trans (hb.mono kb.size)
  replace hX := hX.below hb
  have K0 : Below W4.heap.size W4 w5 := hb
  have hon := o1.sl.one
  clear hb hrg
  have hal := bal' w5 (Obj.cells #[.int .i64 0, .slice none 0 0, .int .i64 0, .slice none 0 0, .int .i64 0, .int .i64 0, .int .i64 0, .int .i64 0, .bool false, .bool false, .bool false, .int .i64 0, .int .i64 0, .bool false, .bool false, .bool false, .bool false, .int .i64 0, .int .i64 0, .int .i64 0, .int .i64 0, .bool false, .bool false, .bool false, .slice none 0 0, .int .i64 0, .slice none 0 0, .int .i64 0, .slice none 0 0, .string ⟨#[]⟩] 43)
  have hZ := TB.new w5 [.int .i64 0, .slice none 0 0, .int .i64 0, .slice none 0 0, .int .i64 0, .int .i64 0, .int .i64 0, .int .i64 0, .bool false, .bool false, .bool false, .int .i64 0, .int .i64 0, .bool false, .bool false, .bool false, .bool false, .int .i64 0, .int .i64 0, .int .i64 0, .int .i64 0, .bool false, .bool false, .bool false, .slice none 0 0, .int .i64 0, .slice none 0 0, .int .i64 0, .slice none 0 0, .string ⟨#[]⟩]
  go_wp2_with (first
    | (refine store_T (cs := teCs t v5) (by rfl) 43 _ _ (by rfl) info_te (by rfl) hon hZ (by rfl) (by rfl) ?_; intro W5 hg hA hzs; have hbW : Below w5.heap.size w5 W5 := hal.grown hg hal.size (fun k e => by cases e; exact Nat.le_refl _); have A1 : TeB W5 w5.heap.size 43 t v5 := hA; clear hA hg hzs hal hZ hon)
    | (refine load_te A1 (by rfl) _ (by rfl) (by rfl) ?_))
  replace kb := kb.trans (hbW.mono kb.size)
  replace hX := hX.below hbW
  replace K0 := K0.trans (hbW.mono K0.size)
  replace o1 := o1.below hbW
  have hW45 : W4.heap.size ≤ W5.heap.size := K0.size
  have hbd1 : ∀ k, StT vg5 vo5 v5 k → W4.heap.size ≤ k ∧ k < W5.heap.size := fun k c => StT.bd o1 c
  clear hbW
  -- the program's answer
  refine (him v5 _ (hS.below kb hS.lt) o1.sl hsz.out).mono ?_
  rintro e w6 ⟨u6, rfl, og, hb⟩
  replace kb := kb.trans (hb.mono kb.size)
  replace hX := hX.below hb
  replace K0 := K0.trans (hb.mono K0.size)
  replace o1 := o1.below hb
  replace A1 := A1.below hb
  have z5 := hb.size
  obtain ⟨a6, n6, c6, rfl⟩ := slShp (SlG.of_own og)
  have o2 := OwnR.of og
  clear hb og
  have hal := bal' w6 (Obj.cells #[.int .i64 0, .slice none 0 0] 37)
  have hZ := heap_alloc_new w6 (Obj.cells #[.int .i64 0, .slice none 0 0] 37)
  go_wp2_with (first
    | (refine store_T (cs := #[.int .i64 C, .slice a6 n6 c6]) (by rfl) 37 _ _ (by rfl) info_gr (by rfl) (by rfl) hZ (by rfl) (by rfl) ?_; intro W6 hg hA hzs; have hbW : Below w6.heap.size w6 W6 := hal.grown hg hal.size (fun k e => by cases e; exact Nat.le_refl _); have A2 : GrC W6 w6.heap.size C (.slice a6 n6 c6) := hA; clear hA hg hzs hal hZ)
    | (refine load_gc (A0.below (K0.trans (hbW.mono K0.size))) (by rfl) _ (by rfl) (by rfl) ?_)
    | (refine load_gc A2 (by rfl) _ (by rfl) (by rfl) ?_))
  replace kb := kb.trans (hbW.mono kb.size)
  replace hX := hX.below hbW
  replace K0 := K0.trans (hbW.mono K0.size)
  replace o1 := o1.below hbW
  replace A1 := A1.below hbW
  replace o2 := o2.below hbW
  have z6 := hbW.size
  clear hbW
  refine (heqR _ _ _ o2.sl (s0.below K0)).mono ?_
  rintro e w7 ⟨rfl, hb⟩
  replace kb := kb.trans (hb.mono kb.size)
  replace hX := hX.below hb
  replace K0 := K0.trans (hb.mono K0.size)
  replace o1 := o1.below hb
  replace A1 := A1.below hb
  replace o2 := o2.below hb
  replace A2 := A2.below hb
  have z7 := hb.size
  clear hb
  -- the argument stays
  have hAd := A1.below (bdr w7)
  have hXd := hX.below (bdr w7)
  go_wp2
  rename_i K9 hK9
  replace hK9 := (show Hid _ from hK9)
  refine wp_region_noPanic ?_
  refine wp_region_held_drew (S := (fun W => TeB W w5.heap.size 43 t v5 ∧ TeB W w.heap.size 33 t v ∧ Below w7.heap.size w7 W)) (by kernel_rfl) ⟨hAd, hXd, bdr w7⟩ (fun hHeld => ?_)
  refine' wpAnyH_take (i := 0) (v := .agg (teCs t v5)) rfl (by kernel_rfl) (by kernel_rfl) (by kernel_rfl) (fun _ _ _ h => h) (Or.inl ⟨by rfl, ?hy1⟩) hHeld ?hr1
  case hy1 => (intro W hSw; exact run_load_te hSw.1 _ _ _ rfl rfl)
  (try simp only [Act.put, List.setIfInBounds_toArray, List.set_cons_zero, List.set_cons_succ, List.getElem_toArray, List.getElem_cons_zero])
  refine' wpAnyH_take (i := 1) (v := .agg (teCs t v)) rfl (by kernel_rfl) (by kernel_rfl) (by kernel_rfl) (fun _ _ _ h => h) (Or.inl ⟨by rfl, ?hy2⟩) hHeld ?hr2
  case hy2 => (intro W hSw; exact run_load_tl hSw.2.1 _ _ _ rfl rfl)
  (try simp only [Act.put, List.setIfInBounds_toArray, List.set_cons_zero, List.set_cons_succ, List.getElem_toArray, List.getElem_cons_zero, List.getElem_cons_succ])
  refine wpAnyH_ready (rs := [2]) (by kernel_rfl) (by simp) (AllReadyH.cons rfl (fun K hK => ?_) AllReadyH.nil)
  go_simp
  refine (hto _ (h.below (kb.trans ((bdr w7).mono kb.size))) hsz.out).mono ?_
  rintro e wa ⟨va, rfl, hoa, hba⟩
  have hba2 := (bdr w7).trans hba
  have hAa := hAd.below hba
  have hXa := hXd.below hba
  go_wp2_with fail
  refine hK.out _ _ ⟨hAa, hXa, hba2⟩ (fun hHeld => ?_)
  clear hK K
  (try simp only [Act.put, List.setIfInBounds_toArray, List.set_cons_zero, List.set_cons_succ])
  refine wpAnyH_ready (rs := [3]) (by kernel_rfl) (by simp) (AllReadyH.cons rfl (fun K hK => ?_) AllReadyH.nil)
  go_simp
  refine (heq0 v5 va _ (o1.sl.below hba2) hoa.sl hsz.out).mono ?_
  rintro e wb ⟨rfl, hbb⟩
  have hkb := hba2.trans (hbb.mono hba2.size)
  have hAb := hAa.below hbb
  have hXb := hXa.below hbb
  go_wp2_with fail
  refine hK.out _ _ ⟨hAb, hXb, hkb⟩ (fun hHeld => ?_)
  clear hK K
  (try simp only [Act.put, List.setIfInBounds_toArray, List.set_cons_zero, List.set_cons_succ])
  refine' wpAnyH_take (i := 4) (v := _) rfl (by kernel_rfl) (by kernel_rfl) (by kernel_rfl) (fun _ _ _ h => h) (Or.inl ⟨by rfl, ?hy5⟩) hHeld ?hr5
  case hy5 => (intro w hSw; (try dsimp only at hSw); go_simp; (try with_reducible rfl))
  simp only [Act.put, List.setIfInBounds_toArray, List.set_cons_zero, List.set_cons_succ, List.getElem_toArray, List.getElem_cons_zero, List.getElem_cons_succ]
  refine wpAnyH_done (by kernel_rfl) ?_ _
  refine NoPanic.normal ?_
  refine hK9.out _ _ ?_
  replace kb := kb.trans (hkb.mono kb.size)
  replace hX := hXb
  replace K0 := K0.trans (hkb.mono K0.size)
  replace o1 := o1.below hkb
  replace A1 := hAb
  replace o2 := o2.below hkb
  replace A2 := A2.below hkb
  have zb := hkb.size
  clear hK9 hAa hXa hAb hXb hAd hXd hkb hbb hba hba2 hoa hHeld heq0
  -- the argument is marked
  go_wp2_with (refine load_te A1 (by rfl) _ (by rfl) (by rfl) ?_)
  refine (hmkX _ _ _ _ _ o1 (by have := K0.size; omega)).mono ?_
  rintro e w8 ⟨rfl, _, hgp⟩
  have hgr := hgp.to_gr hbd1
  have hbm := hgr.to_below (Nat.le_refl _) K0.size
  replace A2 := A2.gr hgr (.inr (by omega))
  replace o2 := o2.gr hgr (.inr (Nat.le_refl _))
  have hwW : w.heap.size ≤ W4.heap.size := hk0
  replace kb := kb.trans (hbm.mono hwW)
  replace hX : TeB w8 w.heap.size 33 t v := by
    have hlt := hX0
    unfold TeB
    rw [hbm.block _ (by omega)]
    exact hX
  replace K0 := K0.trans hbm
  have z8 := hgp.size
  clear hgp hgr hbm hmkX o1 A1 hbd1
  -- the answer stays
  go_wp2_with (first
    | (refine load_gc A2 (by rfl) _ (by rfl) (by rfl) ?_)
    | (refine load_gc (A0.below K0) (by rfl) _ (by rfl) (by rfl) ?_))
  refine (heqR _ _ _ o2.sl (s0.below K0)).mono ?_
  rintro e w9 ⟨rfl, hb⟩
  replace kb := kb.trans (hb.mono kb.size)
  replace hX := hX.below hb
  replace K0 := K0.trans (hb.mono K0.size)
  replace o2 := o2.below hb
  replace A2 := A2.below hb
  clear hb
  -- the answer is marked
  go_wp2_with (refine load_gc A2 (by rfl) _ (by rfl) (by rfl) ?_)
  refine (hmkR _ _ _ _ o2).mono ?_
  rintro e w10 ⟨rfl, o3, hgp⟩
  have hbm := hgp.to_below (B := W4.heap.size) hW45 K0.size
  replace A2 := A2.gr hgp (.inr (Nat.le_refl _))
  replace kb := kb.trans (hbm.mono hwW)
  replace hX : TeB w10 w.heap.size 33 t v := by
    have hlt := hX0
    unfold TeB
    rw [hbm.block _ (by omega)]
    exact hX
  replace K0 := K0.trans hbm
  have sm := o3.sl
  clear hgp hbm hmkR o2 o3
  go_wp2_with (refine load_gc A2 (by rfl) _ (by rfl) (by rfl) ?_)
  refine (hhdR _ _ sm).mono ?_
  rintro e w11 ⟨rfl, hb⟩
  replace kb := kb.trans (hb.mono kb.size)
  replace hX := hX.below hb
  replace K0 := K0.trans (hb.mono K0.size)
  replace A2 := A2.below hb
  replace sm := sm.below hb
  clear hb
  -- the function is called anew
  go_wp2_with (refine load_tl hX (by rfl) _ (by rfl) (by rfl) ?_)
  refine (hto _ (h.below kb) hsz.out).mono ?_
  rintro e w12 ⟨v12, rfl, ho, hb⟩
  replace kb := kb.trans (hb.mono kb.size)
  replace K0 := K0.trans (hb.mono K0.size)
  replace A2 := A2.below hb
  replace sm := sm.below hb
  clear hb hX
  go_wp2_with fail
  refine (him v12 _ (hS.below kb hS.lt) ho.sl hsz.out).mono ?_
  rintro e w13 ⟨u13, rfl, og, hb⟩
  replace kb := kb.trans (hb.mono kb.size)
  replace K0 := K0.trans (hb.mono K0.size)
  replace A2 := A2.below hb
  replace sm := sm.below hb
  have o5 := SlG.of_own og
  obtain ⟨a13, n13, c13, rfl⟩ := slShp o5
  clear hb ho og
  have hal := bal' w13 (Obj.cells #[.int .i64 0, .slice none 0 0] 37)
  have hZ := heap_alloc_new w13 (Obj.cells #[.int .i64 0, .slice none 0 0] 37)
  go_wp2_with (first
    | (refine store_T (cs := #[.int .i64 C, .slice a13 n13 c13]) (by rfl) 37 _ _ (by rfl) info_gr (by rfl) (by rfl) hZ (by rfl) (by rfl) ?_; intro W13 hg hA hzs; have hbW : Below w13.heap.size w13 W13 := hal.grown hg hal.size (fun k e => by cases e; exact Nat.le_refl _); have A6 : GrC W13 w13.heap.size C (.slice a13 n13 c13) := hA; clear hA hg hzs hal hZ)
    | (refine load_gc (A0.below (K0.trans (hbW.mono K0.size))) (by rfl) _ (by rfl) (by rfl) ?_)
    | (refine load_gc A6 (by rfl) _ (by rfl) (by rfl) ?_))
  replace kb := kb.trans (hbW.mono kb.size)
  replace K0 := K0.trans (hbW.mono K0.size)
  replace A2 := A2.below hbW
  replace sm := sm.below hbW
  refine (heqR _ _ _ (o5.below hbW) (s0.below K0)).mono ?_
  rintro e w14 ⟨rfl, hb⟩
  replace kb := kb.trans (hb.mono kb.size)
  replace A2 := A2.below hb
  replace sm := sm.below hb
  clear hb hbW
  go_wp2_with (refine load_gc A2 (by rfl) _ (by rfl) (by rfl) ?_)
  refine (hhdR _ _ sm).mono ?_
  rintro e w15 ⟨rfl, hb⟩
  replace kb := kb.trans (hb.mono kb.size)
  clear hb
  go_wp2
  go_ret
  exact ⟨rfl, kb⟩
end Go.Proofs.YtlmnhlfklbgjdaaDoor
