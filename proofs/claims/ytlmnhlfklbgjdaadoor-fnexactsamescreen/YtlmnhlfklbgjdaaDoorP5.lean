/- Contract of the specification's TermOk. The walk of the exact law of ParserOk. The laws' own helpers on screens: size. The laws' own helpers on grids: likeness. The walk of the law of Feed. The laws' own helpers on screens: likeness. The walk of the exact law of TermOk. Where a screen stands: contracts of the program's poseOf, and two of them compared. Contracts of SameScreen, of both sides. The laws' own helpers on screens: size, from what is left. The walk of the exact law of SameScreen. -/
import Derived.Test.YtlmnhlfklbgjdaaDoorP4
import Derived.Deep.RegionHeld3
namespace Go.Proofs.YtlmnhlfklbgjdaaDoor
open Go.ChangeShapes Go.WideShapes Go.ChangeAt Go.RowKit
theorem l7Cell_any (gc r c : Int) (a : Option Addr) (n cp : Nat) (w : World) (h1 : 1 ≤ gc) (h2 : gc ≤ 60) (hn1 : 1 ≤ n) (hn : n ≤ 30) :
    Calls Tryd.prog 43 #[.agg #[.int .i64 gc, .slice a n cp], .int .i64 r, .int .i64 c] w fun e w' => e = .returned (.bool (cellB gc n r c)) ∧ Below w.heap.size w w' := by
  have hb0 := bal' w (Obj.cells #[.int .i64 gc, .slice a n cp] 37)
  have hi := fun x lo hi W => l1In_any x lo hi W
  obtain ⟨b1, e1⟩ : ∃ b, Hid (decide (0 ≤ r ∧ r ≤ (n : Int) - 1) = b) := ⟨_, rfl⟩
  obtain ⟨b2, e2⟩ : ∃ b, Hid (decide (0 ≤ c ∧ c ≤ gc - 1) = b) := ⟨_, rfl⟩
  have i1 := fun W => hi r 0 ((n : Int) - 1) W
  have i2 := fun W => hi c 0 (gc - 1) W
  rw [e1.out] at i1
  rw [e2.out] at i2
  have hv : Hid (cellB gc n r c = (b1 && b2)) := by show _ = _; unfold cellB; rw [e1.out, e2.out]
  rw [hv.out]
  have hn1i : (1 : Int) ≤ (n : Int) := by omega
  have hni : (n : Int) ≤ 30 := by omega
  clear hi e1 e2 hv hn1 hn
  cases b1
  · go_enter Tryd.func43, Tryd.ntmps43
    go_wp2_with fail
    refine (i1 _).mono ?_
    rintro e w1 ⟨rfl, hw⟩
    subst hw
    go_wp2
    go_ret
    exact ⟨rfl, hb0⟩
  · go_enter Tryd.func43, Tryd.ntmps43
    go_wp2_with fail
    refine (i1 _).mono ?_
    rintro e w1 ⟨rfl, hw⟩
    subst hw
    go_wp2_with fail
    refine (i2 _).mono ?_
    rintro e w2 ⟨rfl, hw⟩
    subst hw
    go_wp2
    go_ret
    exact ⟨rfl, hb0⟩
set_option maxHeartbeats 8000000 in
set_option maxRecDepth 20000 in
theorem specTermOk_any (t : Te) (v : Tv) (w : World) (h : SlT w t v) (hz : SzT 1048576 t) :
    Calls Tryd.prog 20 #[teV t v] w fun e w' => e = .returned (.bool (termOkB t)) ∧ Below w.heap.size w w' := by
  obtain ⟨vg, vo, vti, vpp, vpt⟩ := v
  obtain ⟨hg, ho, hti, hpp, hpt⟩ := h
  simp only at hg ho hti hpp hpt
  obtain ⟨z1, z2, z3, z4, z5, z6, z7⟩ := hz
  obtain ⟨rv, hrv⟩ : ∃ rv, Hid (rv = termOkB t) := ⟨_, rfl⟩
  rw [← hrv.out]
  have hb0 := bal' w (Obj.cells (teCs t ⟨vg, vo, vti, vpp, vpt⟩) 43)
  have hB := TeB.new w 43 t ⟨vg, vo, vti, vpp, vpt⟩
  have cG := fun W hW => specGridOk_any t.gc vg t.g W hW z1 z2
  have cO := fun W hW => specGridOk_any t.oc vo t.o W hW z3 z4
  have cS := fun W => specStyleOk_any t.st W
  have cSs := fun W => specStyleOk_any t.ss W
  have cT := fun W hW => specRunes6_any vti t.ti 40 W hW (by omega) (by decide)
  have cP := fun W h1 h2 => specParserOk_any t.pa vpp vpt W h1 h2 (by omega) (by omega)
  have cF := fun W => specFeederOk_any t.fe W
  obtain ⟨bG, eG⟩ : ∃ b, Hid (gridOkB t.gc t.g = b) := ⟨_, rfl⟩
  obtain ⟨bO, eO⟩ : ∃ b, Hid (gridOkB t.oc t.o = b) := ⟨_, rfl⟩
  obtain ⟨bS, eS⟩ : ∃ b, Hid (t.st.ok = b) := ⟨_, rfl⟩
  obtain ⟨bSs, eSs⟩ : ∃ b, Hid (t.ss.ok = b) := ⟨_, rfl⟩
  obtain ⟨bT, eT⟩ : ∃ b, Hid ((decide (t.ti.length ≤ 40) && runesB t.ti) = b) := ⟨_, rfl⟩
  obtain ⟨bP, eP⟩ : ∃ b, Hid (okV t.pa = b) := ⟨_, rfl⟩
  obtain ⟨bF, eF⟩ : ∃ b, Hid (feedOk t.fe = b) := ⟨_, rfl⟩
  rw [eG.out] at cG
  rw [eO.out] at cO
  rw [eS.out] at cS
  rw [eSs.out] at cSs
  rw [eT.out] at cT
  rw [eP.out] at cP
  rw [eF.out] at cF
  obtain ⟨ga, gp, hq1⟩ := slG_shp hg
  obtain ⟨oa, op, hq2⟩ := slG_shp ho
  obtain ⟨tia, tip, hq3⟩ := hti.shp
  obtain ⟨ppa, ppp, hq4⟩ := hpp.shp
  obtain ⟨pta, ptp, hq5⟩ := hpt.shp
  subst hq1; subst hq2; subst hq3; subst hq4; subst hq5
  unfold teV gridV stV paV at *
  obtain ⟨w1, hw1⟩ : ∃ w1, w1 = w.alloc (Obj.cells (teCs t ⟨.slice ga t.g.length gp, .slice oa t.o.length op, .slice tia t.ti.length tip, .slice ppa t.pa.params.length ppp, .slice pta t.pa.text.length ptp⟩) 43) := ⟨_, rfl⟩
  rw [← hw1] at hB hb0
  replace hw1 := (show Hid _ from hw1)
  clear z1 z2 z3 z4 z5 z6 z7
  go_enter Tryd.func20, Tryd.ntmps20
  refine wp_seq_k (fun K hK => ?_)
  have hH := (show Hid _ from hK)
  clear hK
  go_wp2
  refine hH.out _ _ ?_
  rw [← hw1.out]
  clear hH hw1
  obtain ⟨c0, c1, c2, c3, c4, c5, c6, c7, c8, c9, c10, c11, c12, c13, c14, c15, c16, c17, c18, c19, c20, c21, c22, c23, c24, c25, c26, c27, c28, c29⟩ := hB.cells
  go_wp2_with fail
  refine (cG _ (hg.below hb0)).mono ?_
  rintro e w1 ⟨rfl, hb⟩
  have hb1 := hb0.trans (hb.mono hb0.size)
  replace hB := hB.below hb
  clear c0 c1 c2 c3 c4 c5 c6 c7 c8 c9 c10 c11 c12 c13 c14 c15 c16 c17 c18 c19 c20 c21 c22 c23 c24 c25 c26 c27 c28 c29
  clear hb hb0
  obtain ⟨c0, c1, c2, c3, c4, c5, c6, c7, c8, c9, c10, c11, c12, c13, c14, c15, c16, c17, c18, c19, c20, c21, c22, c23, c24, c25, c26, c27, c28, c29⟩ := hB.cells
  cases bG
  case false =>
    have hv : Hid (rv = false) := by show _ = _; rw [hrv.out]; unfold termOkB; simp [eG.out]
    go_wp2
    go_ret
    exact ⟨by rw [hv.out]; rfl, hb1⟩
  go_wp2_with fail
  refine (cO _ (ho.below hb1)).mono ?_
  rintro e w2 ⟨rfl, hb⟩
  have hb2 := hb1.trans (hb.mono hb1.size)
  replace hB := hB.below hb
  clear c0 c1 c2 c3 c4 c5 c6 c7 c8 c9 c10 c11 c12 c13 c14 c15 c16 c17 c18 c19 c20 c21 c22 c23 c24 c25 c26 c27 c28 c29
  clear hb hb1
  obtain ⟨c0, c1, c2, c3, c4, c5, c6, c7, c8, c9, c10, c11, c12, c13, c14, c15, c16, c17, c18, c19, c20, c21, c22, c23, c24, c25, c26, c27, c28, c29⟩ := hB.cells
  cases bO
  case false =>
    have hv : Hid (rv = false) := by show _ = _; rw [hrv.out]; unfold termOkB; simp [eG.out, eO.out]
    go_wp2
    go_ret
    exact ⟨by rw [hv.out]; rfl, hb2⟩
  obtain ⟨⟨hc1, hc2⟩, ⟨hn1, hn2⟩, _⟩ := (gridOk_iff t.gc t.g).1 eG.out
  have hn1i : (1 : Int) ≤ (t.g.length : Int) := by omega
  have hn2i : (t.g.length : Int) ≤ 30 := by omega
  by_cases q3 : t.gc = t.oc
  case neg =>
    have hv : Hid (rv = false) := by show _ = _; rw [hrv.out]; unfold termOkB; simp [q3]
    have q3b : (t.gc != t.oc) = true := by simp [q3]
    go_wp2
    go_ret
    exact ⟨by rw [hv.out]; rfl, hb2⟩
  have q3b : (t.gc != t.oc) = false := by simp [q3]
  have q3h := (show Hid _ from q3)
  clear q3
  by_cases q4 : t.g.length = t.o.length
  case neg =>
    have hv : Hid (rv = false) := by show _ = _; rw [hrv.out]; unfold termOkB; simp [q4]
    have q4b : ((t.g.length : Int) != (t.o.length : Int)) = true := by simp; omega
    clear q4
    go_wp2
    go_ret
    exact ⟨by rw [hv.out]; rfl, hb2⟩
  have q4b : ((t.g.length : Int) != (t.o.length : Int)) = false := by simp; omega
  have q4h := (show Hid _ from q4)
  clear q4
  have cC := fun W => l7Cell_any t.gc t.row t.col ga t.g.length gp W hc1 hc2 hn1 hn2
  have cD := fun W => l7Cell_any t.gc t.sr t.sc ga t.g.length gp W hc1 hc2 hn1 hn2
  have cI := fun W => l1In_any t.top 0 t.bot W
  obtain ⟨bC, eC⟩ : ∃ b, Hid (cellB t.gc t.g.length t.row t.col = b) := ⟨_, rfl⟩
  obtain ⟨bD, eD⟩ : ∃ b, Hid (cellB t.gc t.g.length t.sr t.sc = b) := ⟨_, rfl⟩
  obtain ⟨bI, eI⟩ : ∃ b, Hid (decide (0 ≤ t.top ∧ t.top ≤ t.bot) = b) := ⟨_, rfl⟩
  rw [eC.out] at cC
  rw [eD.out] at cD
  rw [eI.out] at cI
  go_wp2_with fail
  refine (cC _).mono ?_
  rintro e w3 ⟨rfl, hb⟩
  have hb3 := hb2.trans (hb.mono hb2.size)
  replace hB := hB.below hb
  clear c0 c1 c2 c3 c4 c5 c6 c7 c8 c9 c10 c11 c12 c13 c14 c15 c16 c17 c18 c19 c20 c21 c22 c23 c24 c25 c26 c27 c28 c29
  clear hb hb2
  obtain ⟨c0, c1, c2, c3, c4, c5, c6, c7, c8, c9, c10, c11, c12, c13, c14, c15, c16, c17, c18, c19, c20, c21, c22, c23, c24, c25, c26, c27, c28, c29⟩ := hB.cells
  cases bC
  case false =>
    have hv : Hid (rv = false) := by show _ = _; rw [hrv.out]; unfold termOkB; simp [eC.out]
    go_wp2
    go_ret
    exact ⟨by rw [hv.out]; rfl, hb3⟩
  go_wp2_with fail
  refine (cD _).mono ?_
  rintro e w4 ⟨rfl, hb⟩
  have hb4 := hb3.trans (hb.mono hb3.size)
  replace hB := hB.below hb
  clear c0 c1 c2 c3 c4 c5 c6 c7 c8 c9 c10 c11 c12 c13 c14 c15 c16 c17 c18 c19 c20 c21 c22 c23 c24 c25 c26 c27 c28 c29
  clear hb hb3
  obtain ⟨c0, c1, c2, c3, c4, c5, c6, c7, c8, c9, c10, c11, c12, c13, c14, c15, c16, c17, c18, c19, c20, c21, c22, c23, c24, c25, c26, c27, c28, c29⟩ := hB.cells
  cases bD
  case false =>
    have hv : Hid (rv = false) := by show _ = _; rw [hrv.out]; unfold termOkB; simp [eD.out]
    go_wp2
    go_ret
    exact ⟨by rw [hv.out]; rfl, hb4⟩
  go_wp2_with fail
  refine (cI _).mono ?_
  rintro e w5 ⟨rfl, hw⟩
  subst hw
  cases bI
  case false =>
    have hv : Hid (rv = false) := by
      have := of_decide_eq_false eI.out
      show _ = _; rw [hrv.out]; unfold termOkB
      rw [decide_eq_false (p := 0 ≤ t.top ∧ _) (by omega)]; simp
    go_wp2
    go_ret
    exact ⟨by rw [hv.out]; rfl, hb4⟩
  have q5 := of_decide_eq_true eI.out
  by_cases q6 : (t.g.length : Int) - 1 < t.bot
  case pos =>
    have hv : Hid (rv = false) := by
      show _ = _; rw [hrv.out]; unfold termOkB
      rw [decide_eq_false (p := 0 ≤ t.top ∧ _) (by omega)]; simp
    go_wp2
    go_ret
    exact ⟨by rw [hv.out]; rfl, hb4⟩
  by_cases q7 : t.top = t.bot
  case pos =>
    have q7b : (t.top == t.bot) = true := by simp [q7]
    by_cases q8 : 0 < (t.g.length : Int) - 1
    case pos =>
      have hv : Hid (rv = false) := by
        show _ = _; rw [hrv.out]; unfold termOkB
        rw [decide_eq_false (p := 0 ≤ t.top ∧ _) (by omega)]; simp
      clear q7
      go_wp2
      go_ret
      exact ⟨by rw [hv.out]; rfl, hb4⟩
    have q9 : Hid (0 ≤ t.top ∧ t.top ≤ t.bot ∧ t.bot ≤ (t.g.length : Int) - 1 ∧ ¬ (t.top = t.bot ∧ 0 < (t.g.length : Int) - 1)) := by show _ ∧ _; omega
    clear q7
    by_cases q10 : t.full = true ∧ t.col ≠ t.gc - 1
    case pos =>
      obtain ⟨qa, qb⟩ := q10
      have hv : Hid (rv = false) := by
        show _ = _; rw [hrv.out]; unfold termOkB
        rw [decide_eq_false (p := t.full = true → _) (fun h => qb (h qa))]; simp
      have qbb : (t.col != t.gc - 1) = true := by simp [qb]
      rw [qa] at c13
      clear qb qa
      go_wp2
      go_ret
      exact ⟨by rw [hv.out]; rfl, hb4⟩
    have q11 : Hid (t.full = true → t.col = t.gc - 1) := fun h => by
      by_cases hq : t.col = t.gc - 1
      · exact hq
      · exact absurd ⟨h, hq⟩ q10
    clear q10
    obtain ⟨fu, hfu⟩ : ∃ fu, Hid (t.full = fu) := ⟨_, rfl⟩
    rw [hfu.out] at c13
    cases fu
    case false =>
      go_wp2_with fail
      refine (cS _).mono ?_
      rintro e w6 ⟨rfl, hb⟩
      have hb6 := hb4.trans (hb.mono hb4.size)
      replace hB := hB.below hb
      clear c0 c1 c2 c3 c4 c5 c6 c7 c8 c9 c10 c11 c12 c13 c14 c15 c16 c17 c18 c19 c20 c21 c22 c23 c24 c25 c26 c27 c28 c29
      clear hb hb4
      obtain ⟨c0, c1, c2, c3, c4, c5, c6, c7, c8, c9, c10, c11, c12, c13, c14, c15, c16, c17, c18, c19, c20, c21, c22, c23, c24, c25, c26, c27, c28, c29⟩ := hB.cells
      cases bS
      case false =>
        have hv : Hid (rv = false) := by show _ = _; rw [hrv.out]; unfold termOkB; simp [eS.out]
        go_wp2
        go_ret
        exact ⟨by rw [hv.out]; rfl, hb6⟩
      go_wp2_with fail
      refine (cSs _).mono ?_
      rintro e w7 ⟨rfl, hb⟩
      have hb7 := hb6.trans (hb.mono hb6.size)
      replace hB := hB.below hb
      clear c0 c1 c2 c3 c4 c5 c6 c7 c8 c9 c10 c11 c12 c13 c14 c15 c16 c17 c18 c19 c20 c21 c22 c23 c24 c25 c26 c27 c28 c29
      clear hb hb6
      obtain ⟨c0, c1, c2, c3, c4, c5, c6, c7, c8, c9, c10, c11, c12, c13, c14, c15, c16, c17, c18, c19, c20, c21, c22, c23, c24, c25, c26, c27, c28, c29⟩ := hB.cells
      cases bSs
      case false =>
        have hv : Hid (rv = false) := by show _ = _; rw [hrv.out]; unfold termOkB; simp [eSs.out]
        go_wp2
        go_ret
        exact ⟨by rw [hv.out]; rfl, hb7⟩
      go_wp2_with fail
      refine (cT _ (hti.below hb7).l.sl).mono ?_
      rintro e w8 ⟨rfl, hw⟩
      subst hw
      cases bT
      case false =>
        have hv : Hid (rv = false) := by show _ = _; rw [hrv.out]; unfold termOkB; rw [eT.out]; simp
        go_wp2
        go_ret
        exact ⟨by rw [hv.out]; rfl, hb7⟩
      go_wp2_with fail
      refine (cP _ (hpp.below hb7).l.sl (hpt.below hb7).l.sl).mono ?_
      rintro e w9 ⟨rfl, hb⟩
      have hb9 := hb7.trans (hb.mono hb7.size)
      replace hB := hB.below hb
      clear c0 c1 c2 c3 c4 c5 c6 c7 c8 c9 c10 c11 c12 c13 c14 c15 c16 c17 c18 c19 c20 c21 c22 c23 c24 c25 c26 c27 c28 c29
      clear hb hb7
      obtain ⟨c0, c1, c2, c3, c4, c5, c6, c7, c8, c9, c10, c11, c12, c13, c14, c15, c16, c17, c18, c19, c20, c21, c22, c23, c24, c25, c26, c27, c28, c29⟩ := hB.cells
      cases bP
      case false =>
        have hv : Hid (rv = false) := by show _ = _; rw [hrv.out]; unfold termOkB; simp [eP.out]
        go_wp2
        go_ret
        exact ⟨by rw [hv.out]; rfl, hb9⟩
      go_wp2_with fail
      refine (cF _).mono ?_
      rintro e w10 ⟨rfl, hb⟩
      have hb10 := hb9.trans (hb.mono hb9.size)
      have hv : Hid (rv = bF) := by show _ = _; rw [hrv.out]; unfold termOkB; rw [eG.out, eO.out, decide_eq_true q3h.out, decide_eq_true q4h.out, eC.out, eD.out, decide_eq_true q9.out, decide_eq_true q11.out, eS.out, eSs.out, eT.out, eP.out, eF.out]; simp
      go_wp2
      go_ret
      exact ⟨by rw [hv.out]; rfl, hb10⟩
    case true =>
      have qbb : (t.col != t.gc - 1) = false := by simp [q11.out hfu.out]
      go_wp2_with fail
      refine (cS _).mono ?_
      rintro e w6 ⟨rfl, hb⟩
      have hb6 := hb4.trans (hb.mono hb4.size)
      replace hB := hB.below hb
      clear c0 c1 c2 c3 c4 c5 c6 c7 c8 c9 c10 c11 c12 c13 c14 c15 c16 c17 c18 c19 c20 c21 c22 c23 c24 c25 c26 c27 c28 c29
      clear hb hb4
      obtain ⟨c0, c1, c2, c3, c4, c5, c6, c7, c8, c9, c10, c11, c12, c13, c14, c15, c16, c17, c18, c19, c20, c21, c22, c23, c24, c25, c26, c27, c28, c29⟩ := hB.cells
      cases bS
      case false =>
        have hv : Hid (rv = false) := by show _ = _; rw [hrv.out]; unfold termOkB; simp [eS.out]
        go_wp2
        go_ret
        exact ⟨by rw [hv.out]; rfl, hb6⟩
      go_wp2_with fail
      refine (cSs _).mono ?_
      rintro e w7 ⟨rfl, hb⟩
      have hb7 := hb6.trans (hb.mono hb6.size)
      replace hB := hB.below hb
      clear c0 c1 c2 c3 c4 c5 c6 c7 c8 c9 c10 c11 c12 c13 c14 c15 c16 c17 c18 c19 c20 c21 c22 c23 c24 c25 c26 c27 c28 c29
      clear hb hb6
      obtain ⟨c0, c1, c2, c3, c4, c5, c6, c7, c8, c9, c10, c11, c12, c13, c14, c15, c16, c17, c18, c19, c20, c21, c22, c23, c24, c25, c26, c27, c28, c29⟩ := hB.cells
      cases bSs
      case false =>
        have hv : Hid (rv = false) := by show _ = _; rw [hrv.out]; unfold termOkB; simp [eSs.out]
        go_wp2
        go_ret
        exact ⟨by rw [hv.out]; rfl, hb7⟩
      go_wp2_with fail
      refine (cT _ (hti.below hb7).l.sl).mono ?_
      rintro e w8 ⟨rfl, hw⟩
      subst hw
      cases bT
      case false =>
        have hv : Hid (rv = false) := by show _ = _; rw [hrv.out]; unfold termOkB; rw [eT.out]; simp
        go_wp2
        go_ret
        exact ⟨by rw [hv.out]; rfl, hb7⟩
      go_wp2_with fail
      refine (cP _ (hpp.below hb7).l.sl (hpt.below hb7).l.sl).mono ?_
      rintro e w9 ⟨rfl, hb⟩
      have hb9 := hb7.trans (hb.mono hb7.size)
      replace hB := hB.below hb
      clear c0 c1 c2 c3 c4 c5 c6 c7 c8 c9 c10 c11 c12 c13 c14 c15 c16 c17 c18 c19 c20 c21 c22 c23 c24 c25 c26 c27 c28 c29
      clear hb hb7
      obtain ⟨c0, c1, c2, c3, c4, c5, c6, c7, c8, c9, c10, c11, c12, c13, c14, c15, c16, c17, c18, c19, c20, c21, c22, c23, c24, c25, c26, c27, c28, c29⟩ := hB.cells
      cases bP
      case false =>
        have hv : Hid (rv = false) := by show _ = _; rw [hrv.out]; unfold termOkB; simp [eP.out]
        go_wp2
        go_ret
        exact ⟨by rw [hv.out]; rfl, hb9⟩
      go_wp2_with fail
      refine (cF _).mono ?_
      rintro e w10 ⟨rfl, hb⟩
      have hb10 := hb9.trans (hb.mono hb9.size)
      have hv : Hid (rv = bF) := by show _ = _; rw [hrv.out]; unfold termOkB; rw [eG.out, eO.out, decide_eq_true q3h.out, decide_eq_true q4h.out, eC.out, eD.out, decide_eq_true q9.out, decide_eq_true q11.out, eS.out, eSs.out, eT.out, eP.out, eF.out]; simp
      go_wp2
      go_ret
      exact ⟨by rw [hv.out]; rfl, hb10⟩
  have q7b : (t.top == t.bot) = false := by simp [q7]
  have q9 : Hid (0 ≤ t.top ∧ t.top ≤ t.bot ∧ t.bot ≤ (t.g.length : Int) - 1 ∧ ¬ (t.top = t.bot ∧ 0 < (t.g.length : Int) - 1)) := by show _ ∧ _; omega
  by_cases q10 : t.full = true ∧ t.col ≠ t.gc - 1
  case pos =>
    obtain ⟨qa, qb⟩ := q10
    have hv : Hid (rv = false) := by
      show _ = _; rw [hrv.out]; unfold termOkB
      rw [decide_eq_false (p := t.full = true → _) (fun h => qb (h qa))]; simp
    have qbb : (t.col != t.gc - 1) = true := by simp [qb]
    rw [qa] at c13
    clear qb qa
    go_wp2
    go_ret
    exact ⟨by rw [hv.out]; rfl, hb4⟩
  have q11 : Hid (t.full = true → t.col = t.gc - 1) := fun h => by
    by_cases hq : t.col = t.gc - 1
    · exact hq
    · exact absurd ⟨h, hq⟩ q10
  clear q10
  obtain ⟨fu, hfu⟩ : ∃ fu, Hid (t.full = fu) := ⟨_, rfl⟩
  rw [hfu.out] at c13
  cases fu
  case false =>
    go_wp2_with fail
    refine (cS _).mono ?_
    rintro e w6 ⟨rfl, hb⟩
    have hb6 := hb4.trans (hb.mono hb4.size)
    replace hB := hB.below hb
    clear c0 c1 c2 c3 c4 c5 c6 c7 c8 c9 c10 c11 c12 c13 c14 c15 c16 c17 c18 c19 c20 c21 c22 c23 c24 c25 c26 c27 c28 c29
    clear hb hb4
    obtain ⟨c0, c1, c2, c3, c4, c5, c6, c7, c8, c9, c10, c11, c12, c13, c14, c15, c16, c17, c18, c19, c20, c21, c22, c23, c24, c25, c26, c27, c28, c29⟩ := hB.cells
    cases bS
    case false =>
      have hv : Hid (rv = false) := by show _ = _; rw [hrv.out]; unfold termOkB; simp [eS.out]
      go_wp2
      go_ret
      exact ⟨by rw [hv.out]; rfl, hb6⟩
    go_wp2_with fail
    refine (cSs _).mono ?_
    rintro e w7 ⟨rfl, hb⟩
    have hb7 := hb6.trans (hb.mono hb6.size)
    replace hB := hB.below hb
    clear c0 c1 c2 c3 c4 c5 c6 c7 c8 c9 c10 c11 c12 c13 c14 c15 c16 c17 c18 c19 c20 c21 c22 c23 c24 c25 c26 c27 c28 c29
    clear hb hb6
    obtain ⟨c0, c1, c2, c3, c4, c5, c6, c7, c8, c9, c10, c11, c12, c13, c14, c15, c16, c17, c18, c19, c20, c21, c22, c23, c24, c25, c26, c27, c28, c29⟩ := hB.cells
    cases bSs
    case false =>
      have hv : Hid (rv = false) := by show _ = _; rw [hrv.out]; unfold termOkB; simp [eSs.out]
      go_wp2
      go_ret
      exact ⟨by rw [hv.out]; rfl, hb7⟩
    go_wp2_with fail
    refine (cT _ (hti.below hb7).l.sl).mono ?_
    rintro e w8 ⟨rfl, hw⟩
    subst hw
    cases bT
    case false =>
      have hv : Hid (rv = false) := by show _ = _; rw [hrv.out]; unfold termOkB; rw [eT.out]; simp
      go_wp2
      go_ret
      exact ⟨by rw [hv.out]; rfl, hb7⟩
    go_wp2_with fail
    refine (cP _ (hpp.below hb7).l.sl (hpt.below hb7).l.sl).mono ?_
    rintro e w9 ⟨rfl, hb⟩
    have hb9 := hb7.trans (hb.mono hb7.size)
    replace hB := hB.below hb
    clear c0 c1 c2 c3 c4 c5 c6 c7 c8 c9 c10 c11 c12 c13 c14 c15 c16 c17 c18 c19 c20 c21 c22 c23 c24 c25 c26 c27 c28 c29
    clear hb hb7
    obtain ⟨c0, c1, c2, c3, c4, c5, c6, c7, c8, c9, c10, c11, c12, c13, c14, c15, c16, c17, c18, c19, c20, c21, c22, c23, c24, c25, c26, c27, c28, c29⟩ := hB.cells
    cases bP
    case false =>
      have hv : Hid (rv = false) := by show _ = _; rw [hrv.out]; unfold termOkB; simp [eP.out]
      go_wp2
      go_ret
      exact ⟨by rw [hv.out]; rfl, hb9⟩
    go_wp2_with fail
    refine (cF _).mono ?_
    rintro e w10 ⟨rfl, hb⟩
    have hb10 := hb9.trans (hb.mono hb9.size)
    have hv : Hid (rv = bF) := by show _ = _; rw [hrv.out]; unfold termOkB; rw [eG.out, eO.out, decide_eq_true q3h.out, decide_eq_true q4h.out, eC.out, eD.out, decide_eq_true q9.out, decide_eq_true q11.out, eS.out, eSs.out, eT.out, eP.out, eF.out]; simp
    go_wp2
    go_ret
    exact ⟨by rw [hv.out]; rfl, hb10⟩
  case true =>
    have qbb : (t.col != t.gc - 1) = false := by simp [q11.out hfu.out]
    go_wp2_with fail
    refine (cS _).mono ?_
    rintro e w6 ⟨rfl, hb⟩
    have hb6 := hb4.trans (hb.mono hb4.size)
    replace hB := hB.below hb
    clear c0 c1 c2 c3 c4 c5 c6 c7 c8 c9 c10 c11 c12 c13 c14 c15 c16 c17 c18 c19 c20 c21 c22 c23 c24 c25 c26 c27 c28 c29
    clear hb hb4
    obtain ⟨c0, c1, c2, c3, c4, c5, c6, c7, c8, c9, c10, c11, c12, c13, c14, c15, c16, c17, c18, c19, c20, c21, c22, c23, c24, c25, c26, c27, c28, c29⟩ := hB.cells
    cases bS
    case false =>
      have hv : Hid (rv = false) := by show _ = _; rw [hrv.out]; unfold termOkB; simp [eS.out]
      go_wp2
      go_ret
      exact ⟨by rw [hv.out]; rfl, hb6⟩
    go_wp2_with fail
    refine (cSs _).mono ?_
    rintro e w7 ⟨rfl, hb⟩
    have hb7 := hb6.trans (hb.mono hb6.size)
    replace hB := hB.below hb
    clear c0 c1 c2 c3 c4 c5 c6 c7 c8 c9 c10 c11 c12 c13 c14 c15 c16 c17 c18 c19 c20 c21 c22 c23 c24 c25 c26 c27 c28 c29
    clear hb hb6
    obtain ⟨c0, c1, c2, c3, c4, c5, c6, c7, c8, c9, c10, c11, c12, c13, c14, c15, c16, c17, c18, c19, c20, c21, c22, c23, c24, c25, c26, c27, c28, c29⟩ := hB.cells
    cases bSs
    case false =>
      have hv : Hid (rv = false) := by show _ = _; rw [hrv.out]; unfold termOkB; simp [eSs.out]
      go_wp2
      go_ret
      exact ⟨by rw [hv.out]; rfl, hb7⟩
    go_wp2_with fail
    refine (cT _ (hti.below hb7).l.sl).mono ?_
    rintro e w8 ⟨rfl, hw⟩
    subst hw
    cases bT
    case false =>
      have hv : Hid (rv = false) := by show _ = _; rw [hrv.out]; unfold termOkB; rw [eT.out]; simp
      go_wp2
      go_ret
      exact ⟨by rw [hv.out]; rfl, hb7⟩
    go_wp2_with fail
    refine (cP _ (hpp.below hb7).l.sl (hpt.below hb7).l.sl).mono ?_
    rintro e w9 ⟨rfl, hb⟩
    have hb9 := hb7.trans (hb.mono hb7.size)
    replace hB := hB.below hb
    clear c0 c1 c2 c3 c4 c5 c6 c7 c8 c9 c10 c11 c12 c13 c14 c15 c16 c17 c18 c19 c20 c21 c22 c23 c24 c25 c26 c27 c28 c29
    clear hb hb7
    obtain ⟨c0, c1, c2, c3, c4, c5, c6, c7, c8, c9, c10, c11, c12, c13, c14, c15, c16, c17, c18, c19, c20, c21, c22, c23, c24, c25, c26, c27, c28, c29⟩ := hB.cells
    cases bP
    case false =>
      have hv : Hid (rv = false) := by show _ = _; rw [hrv.out]; unfold termOkB; simp [eP.out]
      go_wp2
      go_ret
      exact ⟨by rw [hv.out]; rfl, hb9⟩
    go_wp2_with fail
    refine (cF _).mono ?_
    rintro e w10 ⟨rfl, hb⟩
    have hb10 := hb9.trans (hb.mono hb9.size)
    have hv : Hid (rv = bF) := by show _ = _; rw [hrv.out]; unfold termOkB; rw [eG.out, eO.out, decide_eq_true q3h.out, decide_eq_true q4h.out, eC.out, eD.out, decide_eq_true q9.out, decide_eq_true q11.out, eS.out, eSs.out, eT.out, eP.out, eF.out]; simp
    go_wp2
    go_ret
    exact ⟨by rw [hv.out]; rfl, hb10⟩
end Go.Proofs.YtlmnhlfklbgjdaaDoor
namespace Go.Proofs.YtlmnhlfklbgjdaaDoor
open Go.ChangeShapes Go.WideShapes Go.ChangeAt Go.RowKit
theorem szP_neg {n m left : Nat} (h : szP n m left < 0) : szP n m left = -1 := by
  unfold szP at *
  by_cases h1 : left < n
  · rw [if_pos h1]
  · rw [if_neg h1] at h ⊢
    by_cases h2 : left - n < m
    · rw [if_pos h2]
    · rw [if_neg h2] at h; omega
end Go.Proofs.YtlmnhlfklbgjdaaDoor
namespace Go.Proofs.YtlmnhlfklbgjdaaDoor
open Go.ChangeShapes Go.WideShapes Go.ChangeAt Go.RowKit
theorem szP_some {n m left : Nat} (h : ¬ szP n m left < 0) : ∃ k : Nat, szP n m left = (k : Int) ∧ k + n + m = left := by
  unfold szP at *
  split at h
  · exact absurd (by decide) h
  · rw [if_neg (by assumption)]
    split at h
    · exact absurd (by decide) h
    · rw [if_neg (by assumption)]
      exact ⟨left - n - m, rfl, by omega⟩
set_option maxHeartbeats 8000000 in
set_option maxRecDepth 20000 in
theorem szTerm_any (t : Te) (v : Tv) (w : World) (h : SlT w t v) (hm : SzT maxLen t) (hf : t.fe.size ≤ maxLen) :
    Calls Tryd.prog 5 #[teV t v, .int .i64 1048576] w fun e w' => ∃ z, e = .returned (.int .i64 z) ∧ (z < 0 ∨ (SzT 1048576 t ∧ sumG t.g t.g.length + sumG t.o t.o.length + t.ti.length + t.pa.params.length + t.pa.text.length ≤ 1048576)) ∧ Below w.heap.size w w' := by
  obtain ⟨vg, vo, vti, vpp, vpt⟩ := v
  obtain ⟨hg, ho, hti, hpp, hpt⟩ := h
  simp only at hg ho hti hpp hpt
  obtain ⟨m1, m2, m3, m4, m5, m6, m7⟩ := hm
  have hb0 := bal' w (Obj.cells (teCs t ⟨vg, vo, vti, vpp, vpt⟩) 33)
  have hB := TeB.new w 33 t ⟨vg, vo, vti, vpp, vpt⟩
  have cG := fun W hW => szGrid_any t.gc vg t.g 1048576 W hW m1 m2 (by decide)
  have cO := fun l W hW (hl : l ≤ 1048576) => szGrid_any t.oc vo t.o l W hW m3 m4 (by omega)
  have cT := fun l W hW (hl : l ≤ 1048576) => szI_any vti t.ti l W hW m5 (by omega)
  have cP := fun l W h1 h2 (hl : l ≤ 1048576) => szParser_any t.pa vpp vpt l W h1 h2 m6 m7 (by omega)
  have cF := fun (l : Nat) W (hl : l ≤ 1048576) => szFeeder_any t.fe (l : Int) W hf (by omega)
  obtain ⟨ga, gp, hq1⟩ := slG_shp hg
  obtain ⟨oa, op, hq2⟩ := slG_shp ho
  obtain ⟨tia, tip, hq3⟩ := hti.shp
  obtain ⟨ppa, ppp, hq4⟩ := hpp.shp
  obtain ⟨pta, ptp, hq5⟩ := hpt.shp
  subst hq1; subst hq2; subst hq3; subst hq4; subst hq5
  unfold teV gridV paV at *
  obtain ⟨w1, hw1⟩ : ∃ w1, w1 = w.alloc (Obj.cells (teCs t ⟨.slice ga t.g.length gp, .slice oa t.o.length op, .slice tia t.ti.length tip, .slice ppa t.pa.params.length ppp, .slice pta t.pa.text.length ptp⟩) 33) := ⟨_, rfl⟩
  rw [← hw1] at hB hb0
  replace hw1 := (show Hid _ from hw1)
  clear m1 m2 m3 m4 m5 m6 m7 hf
  go_enter Tryd.func5, Tryd.ntmps5
  refine wp_seq_k (fun K hK => ?_)
  have hH := (show Hid _ from hK)
  clear hK
  go_wp2
  refine hH.out _ _ ?_
  rw [← hw1.out]
  clear hH hw1
  obtain ⟨c0, c1, c2, c3, c4, c5, c6, c7, c8, c9, c10, c11, c12, c13, c14, c15, c16, c17, c18, c19, c20, c21, c22, c23, c24, c25, c26, c27, c28, c29⟩ := hB.cells
  cases hq1 : leftG t.g 1048576 t.g.length with
  | none =>
    have e1 : szG t.g 1048576 = -1 := by unfold szG; rw [hq1]
    simp only [e1] at cG
    clear e1 hq1
    go_wp2_with fail
    refine (cG _ (hg.below hb0)).mono ?_
    rintro e w2 ⟨rfl, hb⟩
    have hb1 := hb0.trans (hb.mono hb0.size)
    replace hB := hB.below hb
    clear c0 c1 c2 c3 c4 c5 c6 c7 c8 c9 c10 c11 c12 c13 c14 c15 c16 c17 c18 c19 c20 c21 c22 c23 c24 c25 c26 c27 c28 c29
    clear hb hb0
    obtain ⟨c0, c1, c2, c3, c4, c5, c6, c7, c8, c9, c10, c11, c12, c13, c14, c15, c16, c17, c18, c19, c20, c21, c22, c23, c24, c25, c26, c27, c28, c29⟩ := hB.cells
    go_wp2
    go_ret
    exact ⟨_, rfl, .inl (by decide), hb1⟩
  | some r1 =>
    have e1 : szG t.g 1048576 = (r1 : Int) := by unfold szG; rw [hq1]
    simp only [e1] at cG
    have l1 := leftG_le hq1
    have s1 := leftG_sum hq1
    have n1 : ¬ ((r1 : Int) < 0) := by omega
    clear e1 hq1
    go_wp2_with fail
    refine (cG _ (hg.below hb0)).mono ?_
    rintro e w2 ⟨rfl, hb⟩
    have hb1 := hb0.trans (hb.mono hb0.size)
    replace hB := hB.below hb
    clear c0 c1 c2 c3 c4 c5 c6 c7 c8 c9 c10 c11 c12 c13 c14 c15 c16 c17 c18 c19 c20 c21 c22 c23 c24 c25 c26 c27 c28 c29
    clear hb hb0
    obtain ⟨c0, c1, c2, c3, c4, c5, c6, c7, c8, c9, c10, c11, c12, c13, c14, c15, c16, c17, c18, c19, c20, c21, c22, c23, c24, c25, c26, c27, c28, c29⟩ := hB.cells
    cases hq2 : leftG t.o r1 t.o.length with
    | none =>
      have e2 : szG t.o r1 = -1 := by unfold szG; rw [hq2]
      have cO2 := fun W hW => cO r1 W hW l1.1
      simp only [e2] at cO2
      clear e2 hq2
      go_wp2_with fail
      refine (cO2 _ (ho.below hb1)).mono ?_
      rintro e w3 ⟨rfl, hb⟩
      have hb2 := hb1.trans (hb.mono hb1.size)
      replace hB := hB.below hb
      clear c0 c1 c2 c3 c4 c5 c6 c7 c8 c9 c10 c11 c12 c13 c14 c15 c16 c17 c18 c19 c20 c21 c22 c23 c24 c25 c26 c27 c28 c29
      clear hb hb1
      obtain ⟨c0, c1, c2, c3, c4, c5, c6, c7, c8, c9, c10, c11, c12, c13, c14, c15, c16, c17, c18, c19, c20, c21, c22, c23, c24, c25, c26, c27, c28, c29⟩ := hB.cells
      go_wp2
      go_ret
      exact ⟨_, rfl, .inl (by decide), hb2⟩
    | some r2 =>
      have e2 : szG t.o r1 = (r2 : Int) := by unfold szG; rw [hq2]
      have cO2 := fun W hW => cO r1 W hW l1.1
      simp only [e2] at cO2
      have l2 := leftG_le hq2
      have s2 := leftG_sum hq2
      have n2 : ¬ ((r2 : Int) < 0) := by omega
      have u2 : r2 ≤ 1048576 := by omega
      clear e2 hq2 n1 cO
      go_wp2_with fail
      refine (cO2 _ (ho.below hb1)).mono ?_
      rintro e w3 ⟨rfl, hb⟩
      have hb2 := hb1.trans (hb.mono hb1.size)
      replace hB := hB.below hb
      clear c0 c1 c2 c3 c4 c5 c6 c7 c8 c9 c10 c11 c12 c13 c14 c15 c16 c17 c18 c19 c20 c21 c22 c23 c24 c25 c26 c27 c28 c29
      clear hb hb1
      obtain ⟨c0, c1, c2, c3, c4, c5, c6, c7, c8, c9, c10, c11, c12, c13, c14, c15, c16, c17, c18, c19, c20, c21, c22, c23, c24, c25, c26, c27, c28, c29⟩ := hB.cells
      have cT2 := fun W hW => cT r2 W hW u2
      by_cases q3 : r2 < t.ti.length
      case pos =>
        rw [if_pos q3] at cT2
        go_wp2_with fail
        refine (cT2 _ (hti.below hb2).l.sl).mono ?_
        rintro e w4 ⟨rfl, hw⟩
        subst hw
        go_wp2
        go_ret
        exact ⟨_, rfl, .inl (by decide), hb2⟩
      rw [if_neg q3] at cT2
      obtain ⟨r3, hr3⟩ : ∃ r3, Hid (r2 - t.ti.length = r3) := ⟨_, rfl⟩
      rw [hr3.out] at cT2
      have n3 : ¬ ((r3 : Int) < 0) := by omega
      have v3 : Hid (r3 + t.ti.length = r2) := by show _ = _; have := hr3.out; omega
      have u3 : r3 ≤ 1048576 := by have := v3.out; omega
      clear hr3 n2 cT q3
      go_wp2_with fail
      refine (cT2 _ (hti.below hb2).l.sl).mono ?_
      rintro e w4 ⟨rfl, hw⟩
      subst hw
      have cP2 := fun W h1 h2 => cP r3 W h1 h2 u3
      by_cases q4 : szP t.pa.params.length t.pa.text.length r3 < 0
      case pos =>
        have e4 := szP_neg q4
        simp only [e4] at cP2
        clear e4 q4
        go_wp2_with fail
        refine (cP2 _ (hpp.below hb2).l.sl (hpt.below hb2).l.sl).mono ?_
        rintro e w5 ⟨rfl, hb⟩
        have hb3 := hb2.trans (hb.mono hb2.size)
        replace hB := hB.below hb
        clear c0 c1 c2 c3 c4 c5 c6 c7 c8 c9 c10 c11 c12 c13 c14 c15 c16 c17 c18 c19 c20 c21 c22 c23 c24 c25 c26 c27 c28 c29
        clear hb hb2
        obtain ⟨c0, c1, c2, c3, c4, c5, c6, c7, c8, c9, c10, c11, c12, c13, c14, c15, c16, c17, c18, c19, c20, c21, c22, c23, c24, c25, c26, c27, c28, c29⟩ := hB.cells
        go_wp2
        go_ret
        exact ⟨_, rfl, .inl (by decide), hb3⟩
      obtain ⟨r4, e4, s4⟩ := szP_some q4
      simp only [e4] at cP2
      have n4 : ¬ ((r4 : Int) < 0) := by omega
      have u4 : r4 ≤ 1048576 := by omega
      clear e4 q4 n3 cP
      go_wp2_with fail
      refine (cP2 _ (hpp.below hb2).l.sl (hpt.below hb2).l.sl).mono ?_
      rintro e w5 ⟨rfl, hb⟩
      have hb3 := hb2.trans (hb.mono hb2.size)
      replace hB := hB.below hb
      clear c0 c1 c2 c3 c4 c5 c6 c7 c8 c9 c10 c11 c12 c13 c14 c15 c16 c17 c18 c19 c20 c21 c22 c23 c24 c25 c26 c27 c28 c29
      clear hb hb2
      obtain ⟨c0, c1, c2, c3, c4, c5, c6, c7, c8, c9, c10, c11, c12, c13, c14, c15, c16, c17, c18, c19, c20, c21, c22, c23, c24, c25, c26, c27, c28, c29⟩ := hB.cells
      have cF2 := fun W => cF r4 W u4
      have hfin : Hid (SzT 1048576 t ∧ sumG t.g t.g.length + sumG t.o t.o.length + t.ti.length + t.pa.params.length + t.pa.text.length ≤ 1048576) := by
        show _ ∧ _
        have := v3.out
        refine ⟨⟨l1.2.1, l1.2.2, by omega, fun i hi => by have := l2.2.2 i hi; omega, by omega, by omega, by omega⟩, by omega⟩
      obtain ⟨z, hz⟩ : ∃ z, Hid ((if (r4 : Int) - (t.fe.size : Int) < 0 then -1 else (r4 : Int) - (t.fe.size : Int)) = z) := ⟨_, rfl⟩
      simp only [hz.out] at cF2
      clear hz cF n4 l1 l2 s1 s2 s4
      go_wp2_with fail
      refine (cF2 _).mono ?_
      rintro e w6 ⟨rfl, hb⟩
      have hb4 := hb3.trans (hb.mono hb3.size)
      replace hB := hB.below hb
      clear c0 c1 c2 c3 c4 c5 c6 c7 c8 c9 c10 c11 c12 c13 c14 c15 c16 c17 c18 c19 c20 c21 c22 c23 c24 c25 c26 c27 c28 c29
      clear hb hb3
      obtain ⟨c0, c1, c2, c3, c4, c5, c6, c7, c8, c9, c10, c11, c12, c13, c14, c15, c16, c17, c18, c19, c20, c21, c22, c23, c24, c25, c26, c27, c28, c29⟩ := hB.cells
      by_cases q5 : z < 0
      case pos =>
        go_wp2
        go_ret
        exact ⟨_, rfl, .inl (by decide), hb4⟩
      go_wp2
      go_ret
      exact ⟨_, rfl, .inr hfin.out, hb4⟩
end Go.Proofs.YtlmnhlfklbgjdaaDoor
namespace Go.Proofs.YtlmnhlfklbgjdaaDoor
open Go.ChangeShapes Go.WideShapes Go.ChangeAt Go.RowKit
set_option maxHeartbeats 4000000 in
theorem eqCSS_same (va vb : Value) (rows : List (List Ce)) (w : World) (ha : SlG w va rows) (hb : SlG w vb rows) (hl : rows.length ≤ 1073741824) (hx : ∀ i, i < rows.length → (rowX rows i).length ≤ 1073741824) :
    Calls Tryd.prog 29 #[va, vb] w fun e w' => e = .returned (.bool true) ∧ Below w.heap.size w w' := by
  obtain ⟨a, c, vs, rfl, _, _, hr, hs⟩ := id ha
  obtain ⟨a2, c2, vs2, rfl, _, _, hr2, hs2⟩ := id hb
  clear ha hb
  go_enter Tryd.func29, Tryd.ntmps29
  go_wp2
  go_loopw [5] (fun i wr => ∃ j : Nat, i = .int .i64 j ∧ j ≤ rows.length ∧ Below w.heap.size w wr) (fun i _ => rows.length - (intOf i).toNat)
  case atStart => exact ⟨0, rfl, Nat.zero_le _, Below.refl _ _⟩
  case round =>
    obtain ⟨j, rfl, hj, kb⟩ := hrel
    by_cases hlt : j < rows.length
    · have hji : (j : Int) < (rows.length : Int) := by omega
      have hj0 : (0 : Int) ≤ (j : Int) := by omega
      rcases hr with h | ⟨b, off, rfl, hbb, hrc⟩
      · rw [h] at hlt; simp at hlt
      rcases hr2 with h | ⟨b2, off2, rfl, hbb2, hrc2⟩
      · rw [h] at hlt; simp at hlt
      have hsj := (hs j hlt).below kb
      have hsj2 := (hs2 j hlt).below kb
      have hcj := (kb.cell (p := ⟨b, off + j, none⟩) hbb).trans (hrc j hlt)
      have hcj2 := (kb.cell (p := ⟨b2, off2 + j, none⟩) hbb2).trans (hrc2 j hlt)
      obtain ⟨aj, cj, ev, _⟩ := id hsj
      obtain ⟨aj2, cj2, ev2, _⟩ := id hsj2
      rw [ev] at hcj hsj
      rw [ev2] at hcj2 hsj2
      have heq := fun W (hW : Below wr.heap.size wr W) => eqC_same _ _ _ W (hsj.below hW) (hsj2.below hW) (hx j hlt)
      clear hs hs2 hrc hrc2 ev ev2 hsj hsj2
      go_wp2
      go_region_with (go_at_call 57; refine (heq _ (bdr _)).mono ?_; rintro e w2 ⟨rfl, hb2⟩)
      all_goals
        have kb2 := (kb.trans ((bdr wr).mono kb.size)).trans (hb2.mono kb.size)
        clear kb hb2 heq
        go_wp2
        go_roundw
        case rel => exact ⟨j + 1, by go_num, by omega, by first | exact kb2 | exact kb2.drew⟩
        case measure => simp [intOf]; omega
    · have hjn : j = rows.length := by omega
      have hji : ¬ (j : Int) < (rows.length : Int) := by omega
      subst hjn
      clear hs hs2 hr hr2
      go_wp2
      go_ret
      exact ⟨rfl, kb⟩
set_option maxHeartbeats 2000000 in
theorem eqGrid_same (cols : Int) (va vb : Value) (rows : List (List Ce)) (w : World) (ha : SlG w va rows) (hb : SlG w vb rows) (hl : rows.length ≤ 1073741824) (hx : ∀ i, i < rows.length → (rowX rows i).length ≤ 1073741824) :
    Calls Tryd.prog 9 #[gridV cols va, gridV cols vb] w fun e w' => e = .returned (.bool true) ∧ Below w.heap.size w w' := by
  have hb0 := bal' w (Obj.cells #[.int .i64 cols, va] 37)
  have hb1 := bal' (w.alloc (Obj.cells #[.int .i64 cols, va] 37)) (Obj.cells #[.int .i64 cols, vb] 37)
  have hG0 := (GrN.new w cols va 37).below hb1
  have hG1 := GrN.new (w.alloc (Obj.cells #[.int .i64 cols, va] 37)) cols vb 37
  have e0 : (w.alloc (Obj.cells #[.int .i64 cols, va] 37)).heap.size = w.heap.size + 1 := by simp
  rw [e0] at hG1
  have heq := fun W h1 h2 => eqCSS_same va vb rows W h1 h2 hl hx
  have hbb := hb0.trans (hb1.mono hb0.size)
  have ha1 := ha.below hbb
  have hb2 := hb.below hbb
  obtain ⟨a, c, vs, rfl, _⟩ := id ha
  obtain ⟨a2, c2, vs2, rfl, _⟩ := id hb
  unfold gridV
  obtain ⟨_, g0, g1⟩ := id hG0
  obtain ⟨_, f0, f1⟩ := id hG1
  go_enter Tryd.func9, Tryd.ntmps9
  go_wp2_with fail
  refine (heq _ ha1 hb2).mono ?_
  rintro e w2 ⟨rfl, hw⟩
  go_wp2
  go_ret
  exact ⟨rfl, hbb.trans (hw.mono hbb.size)⟩
end Go.Proofs.YtlmnhlfklbgjdaaDoor
namespace Go.Proofs.YtlmnhlfklbgjdaaDoor
open Go.ChangeShapes Go.WideShapes Go.ChangeAt Go.RowKit
theorem eqFeeder_same (h : ByteArray) (w : World) :
    Calls Tryd.prog 33 #[.agg #[.string h], .agg #[.string h]] w fun e w' => e = .returned (.bool true) ∧ Below w.heap.size w w' := by
  go_enter Tryd.func33, Tryd.ntmps33
  go_wp2
  go_ret
  exact ⟨rfl, ((Below.refl _ _).alloc (Nat.le_refl _) _).alloc (by simp) _⟩

end Go.Proofs.YtlmnhlfklbgjdaaDoor
namespace Go.Proofs.YtlmnhlfklbgjdaaDoor
open Go.ChangeShapes Go.WideShapes Go.ChangeAt Go.RowKit
set_option maxHeartbeats 8000000 in
set_option maxRecDepth 20000 in
theorem eqTerm_same (t : Te) (v v2 : Tv) (w : World) (h : SlT w t v) (h2 : SlT w t v2) (hz : SzT 1048576 t) :
    Calls Tryd.prog 10 #[teV t v, teV t v2] w fun e w' => e = .returned (.bool true) ∧ Below w.heap.size w w' := by
  obtain ⟨vg, vo, vti, vpp, vpt⟩ := v
  obtain ⟨hg, ho, hti, hpp, hpt⟩ := h
  obtain ⟨vg2, vo2, vti2, vpp2, vpt2⟩ := v2
  obtain ⟨hg2, ho2, hti2, hpp2, hpt2⟩ := h2
  simp only at hg ho hti hpp hpt hg2 ho2 hti2 hpp2 hpt2
  obtain ⟨z1, z2, z3, z4, z5, z6, z7⟩ := hz
  have cG := fun W h1 h2 => eqGrid_same t.gc vg vg2 t.g W h1 h2 (by omega) (fun i hi => by have := z2 i hi; omega)
  have cO := fun W h1 h2 => eqGrid_same t.oc vo vo2 t.o W h1 h2 (by omega) (fun i hi => by have := z4 i hi; omega)
  have cS := fun W => eqStyle_same t.st W
  have cSs := fun W => eqStyle_same t.ss W
  have cT := fun W h1 h2 => eqI_same vti vti2 t.ti W h1 h2 (by omega)
  have cP := fun W h1 h2 h3 h4 => eqParser_same t.pa vpp vpt vpp2 vpt2 W h1 h2 h3 h4 (by omega) (by omega)
  have cF := fun W => eqFeeder_same t.fe W
  obtain ⟨ga, gp, hq1⟩ := slG_shp hg
  obtain ⟨oa, op, hq2⟩ := slG_shp ho
  obtain ⟨tia, tip, hq3⟩ := hti.shp
  obtain ⟨ppa, ppp, hq4⟩ := hpp.shp
  obtain ⟨pta, ptp, hq5⟩ := hpt.shp
  obtain ⟨ga2, gp2, hq6⟩ := slG_shp hg2
  obtain ⟨oa2, op2, hq7⟩ := slG_shp ho2
  obtain ⟨tia2, tip2, hq8⟩ := hti2.shp
  obtain ⟨ppa2, ppp2, hq9⟩ := hpp2.shp
  obtain ⟨pta2, ptp2, hq10⟩ := hpt2.shp
  subst hq1; subst hq2; subst hq3; subst hq4; subst hq5; subst hq6; subst hq7; subst hq8; subst hq9; subst hq10
  have hb1 := bal' w (Obj.cells (teCs t ⟨.slice ga t.g.length gp, .slice oa t.o.length op, .slice tia t.ti.length tip, .slice ppa t.pa.params.length ppp, .slice pta t.pa.text.length ptp⟩) 43)
  have hb2 := bal' (w.alloc (Obj.cells (teCs t ⟨.slice ga t.g.length gp, .slice oa t.o.length op, .slice tia t.ti.length tip, .slice ppa t.pa.params.length ppp, .slice pta t.pa.text.length ptp⟩) 43)) (Obj.cells (teCs t ⟨.slice ga2 t.g.length gp2, .slice oa2 t.o.length op2, .slice tia2 t.ti.length tip2, .slice ppa2 t.pa.params.length ppp2, .slice pta2 t.pa.text.length ptp2⟩) 43)
  have hX0 := (TeB.new w 43 t ⟨.slice ga t.g.length gp, .slice oa t.o.length op, .slice tia t.ti.length tip, .slice ppa t.pa.params.length ppp, .slice pta t.pa.text.length ptp⟩).below hb2
  have hY0 := TeB.new (w.alloc (Obj.cells (teCs t ⟨.slice ga t.g.length gp, .slice oa t.o.length op, .slice tia t.ti.length tip, .slice ppa t.pa.params.length ppp, .slice pta t.pa.text.length ptp⟩) 43)) 43 t ⟨.slice ga2 t.g.length gp2, .slice oa2 t.o.length op2, .slice tia2 t.ti.length tip2, .slice ppa2 t.pa.params.length ppp2, .slice pta2 t.pa.text.length ptp2⟩
  have kb := hb1.trans (hb2.mono hb1.size)
  rw [show (w.alloc (Obj.cells (teCs t ⟨.slice ga t.g.length gp, .slice oa t.o.length op, .slice tia t.ti.length tip, .slice ppa t.pa.params.length ppp, .slice pta t.pa.text.length ptp⟩) 43)).heap.size = w.heap.size + 1 by simp] at hY0
  obtain ⟨w2, hw2⟩ : ∃ w2, w2 = (w.alloc (Obj.cells (teCs t ⟨.slice ga t.g.length gp, .slice oa t.o.length op, .slice tia t.ti.length tip, .slice ppa t.pa.params.length ppp, .slice pta t.pa.text.length ptp⟩) 43)).alloc (Obj.cells (teCs t ⟨.slice ga2 t.g.length gp2, .slice oa2 t.o.length op2, .slice tia2 t.ti.length tip2, .slice ppa2 t.pa.params.length ppp2, .slice pta2 t.pa.text.length ptp2⟩) 43) := ⟨_, rfl⟩
  rw [← hw2] at hX0 hY0 kb
  replace hw2 := (show Hid _ from hw2)
  have hX := hX0
  have hY := hY0
  clear z1 z2 z3 z4 z5 z6 z7 hb1 hb2 hX0 hY0
  unfold teV gridV stV paV at *
  go_enter Tryd.func10, Tryd.ntmps10
  refine wp_seq_k (fun K hK => ?_)
  have hH := (show Hid _ from hK)
  clear hK
  go_wp2
  refine hH.out _ _ ?_
  rw [← hw2.out]
  clear hH hw2
  obtain ⟨c0, c1, c2, c3, c4, c5, c6, c7, c8, c9, c10, c11, c12, c13, c14, c15, c16, c17, c18, c19, c20, c21, c22, c23, c24, c25, c26, c27, c28, c29⟩ := hX.cells
  obtain ⟨d0, d1, d2, d3, d4, d5, d6, d7, d8, d9, d10, d11, d12, d13, d14, d15, d16, d17, d18, d19, d20, d21, d22, d23, d24, d25, d26, d27, d28, d29⟩ := hY.cells
  go_wp2_with fail
  refine (cG _ (hg.below kb) (hg2.below kb)).mono ?_
  rintro e w3 ⟨rfl, hb⟩
  replace kb := kb.trans (hb.mono kb.size)
  replace hX := hX.below hb
  replace hY := hY.below hb
  clear c0 c1 c2 c3 c4 c5 c6 c7 c8 c9 c10 c11 c12 c13 c14 c15 c16 c17 c18 c19 c20 c21 c22 c23 c24 c25 c26 c27 c28 c29
  clear d0 d1 d2 d3 d4 d5 d6 d7 d8 d9 d10 d11 d12 d13 d14 d15 d16 d17 d18 d19 d20 d21 d22 d23 d24 d25 d26 d27 d28 d29
  clear hb
  obtain ⟨c0, c1, c2, c3, c4, c5, c6, c7, c8, c9, c10, c11, c12, c13, c14, c15, c16, c17, c18, c19, c20, c21, c22, c23, c24, c25, c26, c27, c28, c29⟩ := hX.cells
  obtain ⟨d0, d1, d2, d3, d4, d5, d6, d7, d8, d9, d10, d11, d12, d13, d14, d15, d16, d17, d18, d19, d20, d21, d22, d23, d24, d25, d26, d27, d28, d29⟩ := hY.cells
  go_wp2_with fail
  refine (cO _ (ho.below kb) (ho2.below kb)).mono ?_
  rintro e w4 ⟨rfl, hb⟩
  replace kb := kb.trans (hb.mono kb.size)
  replace hX := hX.below hb
  replace hY := hY.below hb
  clear c0 c1 c2 c3 c4 c5 c6 c7 c8 c9 c10 c11 c12 c13 c14 c15 c16 c17 c18 c19 c20 c21 c22 c23 c24 c25 c26 c27 c28 c29
  clear d0 d1 d2 d3 d4 d5 d6 d7 d8 d9 d10 d11 d12 d13 d14 d15 d16 d17 d18 d19 d20 d21 d22 d23 d24 d25 d26 d27 d28 d29
  clear hb
  obtain ⟨c0, c1, c2, c3, c4, c5, c6, c7, c8, c9, c10, c11, c12, c13, c14, c15, c16, c17, c18, c19, c20, c21, c22, c23, c24, c25, c26, c27, c28, c29⟩ := hX.cells
  obtain ⟨d0, d1, d2, d3, d4, d5, d6, d7, d8, d9, d10, d11, d12, d13, d14, d15, d16, d17, d18, d19, d20, d21, d22, d23, d24, d25, d26, d27, d28, d29⟩ := hY.cells
  go_wp2_with fail
  refine (cS _).mono ?_
  rintro e w5 ⟨rfl, hb⟩
  replace kb := kb.trans (hb.mono kb.size)
  replace hX := hX.below hb
  replace hY := hY.below hb
  clear c0 c1 c2 c3 c4 c5 c6 c7 c8 c9 c10 c11 c12 c13 c14 c15 c16 c17 c18 c19 c20 c21 c22 c23 c24 c25 c26 c27 c28 c29
  clear d0 d1 d2 d3 d4 d5 d6 d7 d8 d9 d10 d11 d12 d13 d14 d15 d16 d17 d18 d19 d20 d21 d22 d23 d24 d25 d26 d27 d28 d29
  clear hb
  obtain ⟨c0, c1, c2, c3, c4, c5, c6, c7, c8, c9, c10, c11, c12, c13, c14, c15, c16, c17, c18, c19, c20, c21, c22, c23, c24, c25, c26, c27, c28, c29⟩ := hX.cells
  obtain ⟨d0, d1, d2, d3, d4, d5, d6, d7, d8, d9, d10, d11, d12, d13, d14, d15, d16, d17, d18, d19, d20, d21, d22, d23, d24, d25, d26, d27, d28, d29⟩ := hY.cells
  go_wp2_with fail
  refine (cSs _).mono ?_
  rintro e w6 ⟨rfl, hb⟩
  replace kb := kb.trans (hb.mono kb.size)
  replace hX := hX.below hb
  replace hY := hY.below hb
  clear c0 c1 c2 c3 c4 c5 c6 c7 c8 c9 c10 c11 c12 c13 c14 c15 c16 c17 c18 c19 c20 c21 c22 c23 c24 c25 c26 c27 c28 c29
  clear d0 d1 d2 d3 d4 d5 d6 d7 d8 d9 d10 d11 d12 d13 d14 d15 d16 d17 d18 d19 d20 d21 d22 d23 d24 d25 d26 d27 d28 d29
  clear hb
  obtain ⟨c0, c1, c2, c3, c4, c5, c6, c7, c8, c9, c10, c11, c12, c13, c14, c15, c16, c17, c18, c19, c20, c21, c22, c23, c24, c25, c26, c27, c28, c29⟩ := hX.cells
  obtain ⟨d0, d1, d2, d3, d4, d5, d6, d7, d8, d9, d10, d11, d12, d13, d14, d15, d16, d17, d18, d19, d20, d21, d22, d23, d24, d25, d26, d27, d28, d29⟩ := hY.cells
  go_wp2_with fail
  refine (cT _ (hti.below kb).l.sl (hti2.below kb).l.sl).mono ?_
  rintro e w7 ⟨rfl, nd, hwd⟩
  have hb : Below _ _ w7 := hwd ▸ drewN_bel _ nd
  clear hwd
  replace kb := kb.trans (hb.mono kb.size)
  replace hX := hX.below hb
  replace hY := hY.below hb
  clear c0 c1 c2 c3 c4 c5 c6 c7 c8 c9 c10 c11 c12 c13 c14 c15 c16 c17 c18 c19 c20 c21 c22 c23 c24 c25 c26 c27 c28 c29
  clear d0 d1 d2 d3 d4 d5 d6 d7 d8 d9 d10 d11 d12 d13 d14 d15 d16 d17 d18 d19 d20 d21 d22 d23 d24 d25 d26 d27 d28 d29
  clear hb
  obtain ⟨c0, c1, c2, c3, c4, c5, c6, c7, c8, c9, c10, c11, c12, c13, c14, c15, c16, c17, c18, c19, c20, c21, c22, c23, c24, c25, c26, c27, c28, c29⟩ := hX.cells
  obtain ⟨d0, d1, d2, d3, d4, d5, d6, d7, d8, d9, d10, d11, d12, d13, d14, d15, d16, d17, d18, d19, d20, d21, d22, d23, d24, d25, d26, d27, d28, d29⟩ := hY.cells
  go_wp2_with fail
  refine (cP _ (hpp.below kb).l.sl (hpt.below kb).l.sl (hpp2.below kb).l.sl (hpt2.below kb).l.sl).mono ?_
  rintro e w8 ⟨rfl, hb⟩
  replace kb := kb.trans (hb.mono kb.size)
  replace hX := hX.below hb
  replace hY := hY.below hb
  clear c0 c1 c2 c3 c4 c5 c6 c7 c8 c9 c10 c11 c12 c13 c14 c15 c16 c17 c18 c19 c20 c21 c22 c23 c24 c25 c26 c27 c28 c29
  clear d0 d1 d2 d3 d4 d5 d6 d7 d8 d9 d10 d11 d12 d13 d14 d15 d16 d17 d18 d19 d20 d21 d22 d23 d24 d25 d26 d27 d28 d29
  clear hb
  obtain ⟨c0, c1, c2, c3, c4, c5, c6, c7, c8, c9, c10, c11, c12, c13, c14, c15, c16, c17, c18, c19, c20, c21, c22, c23, c24, c25, c26, c27, c28, c29⟩ := hX.cells
  obtain ⟨d0, d1, d2, d3, d4, d5, d6, d7, d8, d9, d10, d11, d12, d13, d14, d15, d16, d17, d18, d19, d20, d21, d22, d23, d24, d25, d26, d27, d28, d29⟩ := hY.cells
  go_wp2_with fail
  refine (cF _).mono ?_
  rintro e w9 ⟨rfl, hb⟩
  replace kb := kb.trans (hb.mono kb.size)
  clear c0 c1 c2 c3 c4 c5 c6 c7 c8 c9 c10 c11 c12 c13 c14 c15 c16 c17 c18 c19 c20 c21 c22 c23 c24 c25 c26 c27 c28 c29
  clear d0 d1 d2 d3 d4 d5 d6 d7 d8 d9 d10 d11 d12 d13 d14 d15 d16 d17 d18 d19 d20 d21 d22 d23 d24 d25 d26 d27 d28 d29
  clear hb
  go_wp2
  go_ret
  exact ⟨rfl, kb⟩
end Go.Proofs.YtlmnhlfklbgjdaaDoor
namespace Go.Proofs.YtlmnhlfklbgjdaaDoor
open Go.ChangeShapes Go.WideShapes Go.ChangeAt Go.RowKit
theorem info_tl : (Tryd.prog.info? 33).map (·.size) = some 30 := by kernel_rfl
theorem load_tl {w : World} {ops : Array Oper} {rest : List Oper} {o : Oper} {a : Act} {Q : Exit → Act → World → Prop} {B : Nat} {t : Te} {v : Tv} (hb : TeB w B 33 t v) (hgd : Region.wanted o (yielded ops a.tmps) = true) (x : Operand)
    (ho : o.op = .load 33 x) (hx : a.eval x = .pointer (some ⟨B, 0, none⟩))
    (h : wpList Tryd.prog ops Q rest (a.put o.dst (.agg (teCs t v))) w) : wpList Tryd.prog ops Q (o :: rest) a w :=
  load_T (cs := teCs t v) hgd 33 x ho Tryd.underlying33 rfl info_tl hb hx h
theorem run_load_te {W : World} {B : Nat} {t : Te} {v : Tv} (hb : TeB W B 43 t v) (a : Act) (o : Oper) (x : Operand) (ho : o.op = .load 43 x) (hx : a.eval x = .pointer (some ⟨B, 0, none⟩)) :
    (execOp a.eval o).run Tryd.prog W = .ok (.value (.agg (teCs t v))) W := by
  unfold execOp
  simp only [ho, hx, Instr.loadAt, Instr.sureAddr, Sem.run_bind, Sem.run_pure, Result.andThen_ok, run_loadVar_row W B 43 43 (teCs t v) (0, 0) _ hb Tryd.underlying43 rfl info_te]
theorem run_load_tl {W : World} {B : Nat} {t : Te} {v : Tv} (hb : TeB W B 33 t v) (a : Act) (o : Oper) (x : Operand) (ho : o.op = .load 33 x) (hx : a.eval x = .pointer (some ⟨B, 0, none⟩)) :
    (execOp a.eval o).run Tryd.prog W = .ok (.value (.agg (teCs t v))) W := by
  unfold execOp
  simp only [ho, hx, Instr.loadAt, Instr.sureAddr, Sem.run_bind, Sem.run_pure, Result.andThen_ok, run_loadVar_row W B 33 33 (teCs t v) (0, 0) _ hb Tryd.underlying33 rfl info_tl]
end Go.Proofs.YtlmnhlfklbgjdaaDoor
namespace Go.Proofs.YtlmnhlfklbgjdaaDoor
open Go.ChangeShapes Go.WideShapes Go.ChangeAt Go.RowKit
theorem buildL_T {w : World} {ops : Array Oper} {rest : List Oper} {o : Oper} {a : Act} {Q : Exit → Act → World → Prop} (hgd : Region.wanted o (yielded ops a.tmps) = true) (t : TypeId) (xs : Array (Nat × Operand)) (ho : o.op = .build t xs) (ps : List (Nat × Value)) (cs : Array Value)
    (he : (xs.map fun (i, x) => (i, a.eval x)).toList = ps) (hf : Tryd.prog.built t ps = some cs)
    (h : wpList Tryd.prog ops Q rest (a.put o.dst (.agg cs)) w) : wpList Tryd.prog ops Q (o :: rest) a w := by
  refine wpList_step fun K hK => ?_
  rw [if_pos hgd]
  exact wp_build t _ ho (by rw [he, hf]; rfl) (by rw [he, hf]; exact hK _ _ h)
theorem built_pose (t : Te) : Tryd.prog.built 74 [(0, .int .i64 t.row), (1, .int .i64 t.col), (2, .agg #[.int .i64 t.st.fore, .int .i64 t.st.back, .bool t.st.bold, .bool t.st.under, .bool t.st.turned]), (3, .int .i64 t.top), (4, .int .i64 t.bot), (5, .bool t.wrap), (6, .bool t.hid)] = some #[.int .i64 t.row, .int .i64 t.col, .int .i64 t.st.fore, .int .i64 t.st.back, .bool t.st.bold, .bool t.st.under, .bool t.st.turned, .int .i64 t.top, .int .i64 t.bot, .bool t.wrap, .bool t.hid] := by kernel_rfl
set_option maxHeartbeats 4000000 in
set_option maxRecDepth 20000 in
theorem poseOf_any (t : Te) (v : Tv) (w : World) :
    Calls Tryd.prog 40 #[.agg (teCs t v)] w fun e w' => e = .returned (.agg #[.int .i64 t.row, .int .i64 t.col, .int .i64 t.st.fore, .int .i64 t.st.back, .bool t.st.bold, .bool t.st.under, .bool t.st.turned, .int .i64 t.top, .int .i64 t.bot, .bool t.wrap, .bool t.hid]) ∧ Below w.heap.size w w' := by
  have hb0 := bal' w (Obj.cells (teCs t v) 43)
  have hB := TeB.new w 43 t v
  obtain ⟨w1, hw1⟩ : ∃ w1, w1 = w.alloc (Obj.cells (teCs t v) 43) := ⟨_, rfl⟩
  rw [← hw1] at hB hb0
  replace hw1 := (show Hid _ from hw1)
  have hb1 := hb0.trans ((bal' w1 (Obj.cells #[.int .i64 0, .int .i64 0, .int .i64 0, .int .i64 0, .bool false, .bool false, .bool false, .int .i64 0, .int .i64 0, .bool false, .bool false] 74)).mono hb0.size)
  have zs : w1.heap.size = w.heap.size + 1 := by rw [hw1.out]; simp
  have hN := heap_alloc_new w1 (Obj.cells #[.int .i64 0, .int .i64 0, .int .i64 0, .int .i64 0, .bool false, .bool false, .bool false, .int .i64 0, .int .i64 0, .bool false, .bool false] 74)
  rw [zs] at hN
  replace zs := (show Hid _ from zs)
  go_enter Tryd.func40, Tryd.ntmps40
  refine wp_seq_k (fun K hK => ?_)
  have hH := (show Hid _ from hK)
  clear hK
  go_wp2
  refine hH.out _ _ ?_
  rw [← hw1.out]
  clear hH hw1
  replace hB := hB.below (bal' w1 (Obj.cells #[.int .i64 0, .int .i64 0, .int .i64 0, .int .i64 0, .bool false, .bool false, .bool false, .int .i64 0, .int .i64 0, .bool false, .bool false] 74))
  obtain ⟨c0, c1, c2, c3, c4, c5, c6, c7, c8, c9, c10, c11, c12, c13, c14, c15, c16, c17, c18, c19, c20, c21, c22, c23, c24, c25, c26, c27, c28, c29⟩ := hB.cells
  clear hB
  go_wp2_with (first
    | (refine buildL_T (by rfl) 74 _ (by rfl) _ _ (by rfl) (built_pose t) ?_)
    | (refine store_T (cs := #[.int .i64 t.row, .int .i64 t.col, .int .i64 t.st.fore, .int .i64 t.st.back, .bool t.st.bold, .bool t.st.under, .bool t.st.turned, .int .i64 t.top, .int .i64 t.bot, .bool t.wrap, .bool t.hid]) (by rfl) 74 _ _ (by rfl) (by kernel_rfl) (by rfl) (by rfl) hN (by rfl) (by rfl) ?_; intro W hg hA hzs))
  exact bodyPost_ret (results_cell_row Tryd.results40 _ _ _ _ _ _ _ rfl hA Tryd.underlying74 rfl (by kernel_rfl)) rfl ⟨rfl, hb1.grown hg hb1.size (fun k e => by cases e; omega)⟩
end Go.Proofs.YtlmnhlfklbgjdaaDoor
namespace Go.Proofs.YtlmnhlfklbgjdaaDoor
open Go.ChangeShapes Go.WideShapes Go.ChangeAt Go.RowKit
def sameP (t u : Te) : Bool := decide (t.row = u.row) && (decide (t.col = u.col) && (decide (t.st = u.st) && (decide (t.top = u.top) && (decide (t.bot = u.bot) && (decide (t.wrap = u.wrap) && decide (t.hid = u.hid))))))
def sameB (t u : Te) : Bool := termOkB t && (termOkB u && (decide (t.gc = u.gc ∧ t.g = u.g) && sameP t u))
set_option maxHeartbeats 4000000 in
theorem eq_pose (t u : Te) (W : World) : (Op.equalIn 10000 74 (.agg #[.int .i64 t.row, .int .i64 t.col, .int .i64 t.st.fore, .int .i64 t.st.back, .bool t.st.bold, .bool t.st.under, .bool t.st.turned, .int .i64 t.top, .int .i64 t.bot, .bool t.wrap, .bool t.hid]) (.agg #[.int .i64 u.row, .int .i64 u.col, .int .i64 u.st.fore, .int .i64 u.st.back, .bool u.st.bold, .bool u.st.under, .bool u.st.turned, .int .i64 u.top, .int .i64 u.bot, .bool u.wrap, .bool u.hid])).run Tryd.prog W = .ok (sameP t u) W := by
  have hu := Tryd.underlying74
  have hs := Tryd.underlying39
  have hi := Tryd.underlying2
  have hb := Tryd.underlying4
  rw [run_equalIn_struct W 9999 _ _ _ (by simp [Program.fieldsOf, hu]) (by kernel_rfl)]
  unfold sameP
  obtain ⟨_, _, _, _, a1, a2, ⟨a3, a4, a5, a6, a7⟩, a8, a9, _, a10, _, a11, _⟩ := t
  obtain ⟨_, _, _, _, b1, b2, ⟨b3, b4, b5, b6, b7⟩, b8, b9, _, b10, _, b11, _⟩ := u
  simp only [st_iff]
  by_cases h1 : a1 = b1
  case neg => simp [Program.fieldsOf, hu, hi, Op.eqFields, go_sem, h1, Result.andThen]
  subst h1
  by_cases h2 : a2 = b2
  case neg => simp [Program.fieldsOf, hu, hi, Op.eqFields, go_sem, h2, Result.andThen]
  subst h2
  by_cases h3 : a3 = b3
  case neg => simp [Program.fieldsOf, hu, hi, hs, Op.eqFields, go_sem, h3, Result.andThen]
  subst h3
  by_cases h4 : a4 = b4
  case neg => simp [Program.fieldsOf, hu, hi, hs, Op.eqFields, go_sem, h4, Result.andThen]
  subst h4
  by_cases h5 : a5 = b5
  case neg => simp [Program.fieldsOf, hu, hi, hb, hs, Op.eqFields, go_sem, h5, Result.andThen]
  subst h5
  by_cases h6 : a6 = b6
  case neg => simp [Program.fieldsOf, hu, hi, hb, hs, Op.eqFields, go_sem, h6, Result.andThen]
  subst h6
  by_cases h7 : a7 = b7
  case neg => simp [Program.fieldsOf, hu, hi, hb, hs, Op.eqFields, go_sem, h7, Result.andThen]
  subst h7
  by_cases h8 : a8 = b8
  case neg => simp [Program.fieldsOf, hu, hi, hb, hs, Op.eqFields, go_sem, h8, Result.andThen]
  subst h8
  by_cases h9 : a9 = b9
  case neg => simp [Program.fieldsOf, hu, hi, hb, hs, Op.eqFields, go_sem, h9, Result.andThen]
  subst h9
  by_cases h10 : a10 = b10
  case neg => simp [Program.fieldsOf, hu, hi, hb, hs, Op.eqFields, go_sem, h10, Result.andThen]
  subst h10
  by_cases h11 : a11 = b11
  case neg => simp [Program.fieldsOf, hu, hi, hb, hs, Op.eqFields, go_sem, h11, Result.andThen]
  subst h11
  simp [Program.fieldsOf, hu, hi, hb, hs, Op.eqFields, go_sem, Result.andThen]
theorem same_gc {t u : Te} (h1 : termOkB t = true) (h2 : termOkB u = true) (hg : t.g = u.g) : t.gc = u.gc := by
  unfold termOkB at h1 h2
  have a1 := (gridOk_iff t.gc t.g).1 ((Bool.and_eq_true _ _ ▸ (Bool.and_eq_true _ _ ▸ h1).1).1)
  have a2 := (gridOk_iff u.gc u.g).1 ((Bool.and_eq_true _ _ ▸ (Bool.and_eq_true _ _ ▸ h2).1).1)
  have b1 := a1.2.2 0 (by have := a1.2.1; omega)
  have b2 := a2.2.2 0 (by have := a2.2.1; omega)
  unfold fitB at b1 b2
  rw [Bool.and_eq_true, decide_eq_true_eq] at b1 b2
  rw [hg] at b1
  exact b1.1.symm.trans b2.1
set_option maxHeartbeats 16000000 in
set_option maxRecDepth 20000 in
theorem specSameScreen_any (t u : Te) (v x : Tv) (w : World) (h : SlT w t v) (h2 : SlT w u x) (hz : SzT 1048576 t) (hz2 : SzT 1048576 u) :
    Calls Tryd.prog 14 #[.agg (teCs t v), .agg (teCs u x)] w fun e w' => e = .returned (.bool (sameB t u)) ∧ Below w.heap.size w w' := by
  obtain ⟨rv, hrv⟩ : ∃ rv, Hid (rv = sameB t u) := ⟨_, rfl⟩
  rw [← hrv.out]
  have hb0 := bal' w (Obj.cells (teCs t v) 43)
  have hB := (TeB.new w 43 t v).below (bal' _ (Obj.cells (teCs u x) 43))
  have hC := TeB.new (w.alloc (Obj.cells (teCs t v) 43)) 43 u x
  rw [show (w.alloc (Obj.cells (teCs t v) 43)).heap.size = w.heap.size + 1 from by simp] at hC
  replace hb0 := hb0.trans ((bal' _ (Obj.cells (teCs u x) 43)).mono hb0.size)
  obtain ⟨w1, hw1⟩ : ∃ w1, w1 = (w.alloc (Obj.cells (teCs t v) 43)).alloc (Obj.cells (teCs u x) 43) := ⟨_, rfl⟩
  rw [← hw1] at hB hC hb0
  replace hw1 := (show Hid _ from hw1)
  obtain ⟨bT, eT⟩ : ∃ b, Hid (termOkB t = b) := ⟨_, rfl⟩
  obtain ⟨bU, eU⟩ : ∃ b, Hid (termOkB u = b) := ⟨_, rfl⟩
  have dT := fun W h => specTermOk_any t v W h hz
  have dU := fun W h => specTermOk_any u x W h hz2
  have dS := fun W (h1 : SlT W t v) (h2 : SlT W u x) => specSame_a t.gc u.gc v.g x.g t.g u.g W h1.1 h2.1 (by have := hz.1; omega) (fun i hi => by have := hz.2.1 i hi; omega)
  rw [eT.out] at dT
  rw [eU.out] at dU
  obtain ⟨bS, eS⟩ : ∃ b, Hid (decide (t.gc = u.gc ∧ t.g = u.g) = b) := ⟨_, rfl⟩
  rw [eS.out] at dS
  unfold gridV at dS
  unfold teV at dT dU
  clear hz hz2
  go_enter Tryd.func14, Tryd.ntmps14
  refine wp_seq_k (fun K hK => ?_)
  have hH := (show Hid _ from hK)
  clear hK
  go_wp2
  refine hH.out _ _ ?_
  rw [← hw1.out]
  clear hH hw1
  go_wp2_with (refine load_te hB (by rfl) _ (by rfl) (by rfl) ?_)
  refine (dT _ (h.below hb0)).mono ?_
  rintro e w2 ⟨rfl, hb⟩
  replace hb0 := hb0.trans (hb.mono hb0.size)
  replace hB := hB.below hb
  replace hC := hC.below hb
  clear hb
  cases bT
  case false =>
    have hv : Hid (rv = false) := by show _ = _; rw [hrv.out]; unfold sameB; rw [eT.out]; simp
    go_wp2
    go_ret
    exact ⟨by rw [hv.out]; rfl, hb0⟩
  go_wp2_with (refine load_te hC (by rfl) _ (by rfl) (by rfl) ?_)
  refine (dU _ (h2.below hb0)).mono ?_
  rintro e w3 ⟨rfl, hb⟩
  replace hb0 := hb0.trans (hb.mono hb0.size)
  replace hB := hB.below hb
  replace hC := hC.below hb
  clear hb
  cases bU
  case false =>
    have hv : Hid (rv = false) := by show _ = _; rw [hrv.out]; unfold sameB; rw [eU.out]; simp
    go_wp2
    go_ret
    exact ⟨by rw [hv.out]; rfl, hb0⟩
  obtain ⟨c0, c1, c2, c3, c4, c5, c6, c7, c8, c9, c10, c11, c12, c13, c14, c15, c16, c17, c18, c19, c20, c21, c22, c23, c24, c25, c26, c27, c28, c29⟩ := hB.cells
  obtain ⟨d0, d1, d2, d3, d4, d5, d6, d7, d8, d9, d10, d11, d12, d13, d14, d15, d16, d17, d18, d19, d20, d21, d22, d23, d24, d25, d26, d27, d28, d29⟩ := hC.cells
  go_wp2_with fail
  refine (dS _ (h.below hb0) (h2.below hb0)).mono ?_
  rintro e w4 ⟨rfl, hb⟩
  replace hb0 := hb0.trans (hb.mono hb0.size)
  replace hB := hB.below hb
  replace hC := hC.below hb
  clear hb
  clear c0 c1 c2 c3 c4 c5 c6 c7 c8 c9 c10 c11 c12 c13 c14 c15 c16 c17 c18 c19 c20 c21 c22 c23 c24 c25 c26 c27 c28 c29
  clear d0 d1 d2 d3 d4 d5 d6 d7 d8 d9 d10 d11 d12 d13 d14 d15 d16 d17 d18 d19 d20 d21 d22 d23 d24 d25 d26 d27 d28 d29
  obtain ⟨c0, c1, c2, c3, c4, c5, c6, c7, c8, c9, c10, c11, c12, c13, c14, c15, c16, c17, c18, c19, c20, c21, c22, c23, c24, c25, c26, c27, c28, c29⟩ := hB.cells
  obtain ⟨d0, d1, d2, d3, d4, d5, d6, d7, d8, d9, d10, d11, d12, d13, d14, d15, d16, d17, d18, d19, d20, d21, d22, d23, d24, d25, d26, d27, d28, d29⟩ := hC.cells
  cases bS
  case false =>
    have hv : Hid (rv = false) := by show _ = _; rw [hrv.out]; unfold sameB; rw [eS.out]; simp
    go_wp2
    go_ret
    exact ⟨by rw [hv.out]; rfl, hb0⟩
  replace hrv : Hid (rv = sameP t u) := by show _ = _; rw [hrv.out]; unfold sameB; rw [eT.out, eU.out, eS.out]; rfl
  have heq := fun W => eq_st t.st u.st W
  by_cases q_row : t.row = u.row
  case neg =>
    have hv : Hid (rv = false) := by show _ = _; rw [hrv.out]; unfold sameP; simp [q_row]
    have qb : (t.row == u.row) = false := by simp [q_row]
    clear q_row
    go_wp2
    go_ret
    exact ⟨by rw [hv.out]; rfl, hb0⟩
  have qb_row : (t.row == u.row) = true := by simp [q_row]
  replace q_row := (show Hid _ from q_row)
  by_cases q_col : t.col = u.col
  case neg =>
    have hv : Hid (rv = false) := by show _ = _; rw [hrv.out]; unfold sameP; simp [q_col]
    have qb : (t.col == u.col) = false := by simp [q_col]
    clear q_col
    go_wp2
    go_ret
    exact ⟨by rw [hv.out]; rfl, hb0⟩
  have qb_col : (t.col == u.col) = true := by simp [q_col]
  replace q_col := (show Hid _ from q_col)
  by_cases q_st : t.st = u.st
  case neg =>
    have hv : Hid (rv = false) := by show _ = _; rw [hrv.out]; unfold sameP; simp [q_st]
    have qd : decide (t.st = u.st) = false := decide_eq_false q_st
    simp only [qd] at heq
    clear q_st qd
    go_wp2
    go_ret
    exact ⟨by rw [hv.out]; rfl, hb0⟩
  have qd : decide (t.st = u.st) = true := decide_eq_true q_st
  simp only [qd] at heq
  replace q_st := (show Hid _ from q_st)
  clear qd
  by_cases q_top : t.top = u.top
  case neg =>
    have hv : Hid (rv = false) := by show _ = _; rw [hrv.out]; unfold sameP; simp [q_top]
    have qb : (t.top == u.top) = false := by simp [q_top]
    clear q_top
    go_wp2
    go_ret
    exact ⟨by rw [hv.out]; rfl, hb0⟩
  have qb_top : (t.top == u.top) = true := by simp [q_top]
  replace q_top := (show Hid _ from q_top)
  by_cases q_bot : t.bot = u.bot
  case neg =>
    have hv : Hid (rv = false) := by show _ = _; rw [hrv.out]; unfold sameP; simp [q_bot]
    have qb : (t.bot == u.bot) = false := by simp [q_bot]
    clear q_bot
    go_wp2
    go_ret
    exact ⟨by rw [hv.out]; rfl, hb0⟩
  have qb_bot : (t.bot == u.bot) = true := by simp [q_bot]
  replace q_bot := (show Hid _ from q_bot)
  by_cases q_wrap : t.wrap = u.wrap
  case neg =>
    have hv : Hid (rv = false) := by show _ = _; rw [hrv.out]; unfold sameP; simp [q_wrap]
    have qb : (t.wrap == u.wrap) = false := by simp [q_wrap]
    clear q_wrap
    go_wp2
    go_ret
    exact ⟨by rw [hv.out]; rfl, hb0⟩
  have qb_wrap : (t.wrap == u.wrap) = true := by simp [q_wrap]
  replace q_wrap := (show Hid _ from q_wrap)
  by_cases q_hid : t.hid = u.hid
  case neg =>
    have hv : Hid (rv = false) := by show _ = _; rw [hrv.out]; unfold sameP; simp [q_hid]
    have qb : (t.hid == u.hid) = false := by simp [q_hid]
    clear q_hid
    go_wp2
    go_ret
    exact ⟨by rw [hv.out]; rfl, hb0⟩
  have qb_hid : (t.hid == u.hid) = true := by simp [q_hid]
  replace q_hid := (show Hid _ from q_hid)
  have hv : Hid (rv = true) := by show _ = _; rw [hrv.out]; unfold sameP; simp [q_row.out, q_col.out, q_st.out, q_top.out, q_bot.out, q_wrap.out, q_hid.out]
  go_wp2
  go_ret
  exact ⟨by rw [hv.out]; rfl, hb0⟩
set_option maxHeartbeats 16000000 in
set_option maxRecDepth 20000 in
theorem implSameScreen_any (t u : Te) (v x : Tv) (w : World) (h : SlT w t v) (h2 : SlT w u x) (hS : SpansAt w) (hz : SzT 1048576 t) (hz2 : SzT 1048576 u) :
    Calls Tryd.prog 15 #[.agg (teCs t v), .agg (teCs u x)] w fun e w' => e = .returned (.bool (sameB t u)) ∧ Below w.heap.size w w' := by
  obtain ⟨rv, hrv⟩ : ∃ rv, Hid (rv = sameB t u) := ⟨_, rfl⟩
  rw [← hrv.out]
  have hb0 := bal' w (Obj.cells (teCs t v) 43)
  have hB := (TeB.new w 43 t v).below (bal' _ (Obj.cells (teCs u x) 43))
  have hC := TeB.new (w.alloc (Obj.cells (teCs t v) 43)) 43 u x
  rw [show (w.alloc (Obj.cells (teCs t v) 43)).heap.size = w.heap.size + 1 from by simp] at hC
  replace hb0 := hb0.trans ((bal' _ (Obj.cells (teCs u x) 43)).mono hb0.size)
  obtain ⟨w1, hw1⟩ : ∃ w1, w1 = (w.alloc (Obj.cells (teCs t v) 43)).alloc (Obj.cells (teCs u x) 43) := ⟨_, rfl⟩
  rw [← hw1] at hB hC hb0
  replace hw1 := (show Hid _ from hw1)
  obtain ⟨bT, eT⟩ : ∃ b, Hid (termOkB t = b) := ⟨_, rfl⟩
  obtain ⟨bU, eU⟩ : ∃ b, Hid (termOkB u = b) := ⟨_, rfl⟩
  have dT := fun W hS h => implTermOk_any t v W h hS hz
  have dU := fun W hS h => implTermOk_any u x W h hS hz2
  have dS := fun W (h1 : SlT W t v) (h2 : SlT W u x) => sameRows_a t.gc u.gc v.g x.g t.g u.g W h1.1 h2.1 (by have := hz.1; omega) (fun i hi => by have := hz.2.1 i hi; omega)
  have dP := fun W => poseOf_any t v W
  have dQ := fun W => poseOf_any u x W
  have heq := fun W => eq_pose t u W
  rw [eT.out] at dT
  rw [eU.out] at dU
  obtain ⟨bS, eS⟩ : ∃ b, Hid (decide (t.g = u.g) = b) := ⟨_, rfl⟩
  rw [eS.out] at dS
  obtain ⟨bP, eP⟩ : ∃ b, Hid (sameP t u = b) := ⟨_, rfl⟩
  simp only [eP.out] at heq
  unfold gridV at dS
  unfold teV at dT dU
  clear hz hz2
  go_enter Tryd.func15, Tryd.ntmps15
  refine wp_seq_k (fun K hK => ?_)
  have hH := (show Hid _ from hK)
  clear hK
  go_wp2
  refine hH.out _ _ ?_
  rw [← hw1.out]
  clear hH hw1
  have hBd := hB.below (bdr w1)
  have hCd := hC.below (bdr w1)
  have kb := hb0.trans ((bdr w1).mono hb0.size)
  go_wp2
  refine wp_region_noPanic ?_
  refine wp_region_held_drew (S := (fun W => TeB W w.heap.size 43 t v ∧ TeB W (w.heap.size + 1) 43 u x ∧ Below w1.heap.size w1 W)) (by kernel_rfl) ⟨hBd, hCd, bdr w1⟩ (fun hHeld => ?_)
  have hk := bdr w1
  refine' wpAnyH_take (i := 0) (v := .agg (teCs t v)) rfl (by kernel_rfl) (by kernel_rfl) (by kernel_rfl) (fun _ _ _ h => h) (Or.inl ⟨by rfl, ?hl1⟩) hHeld ?hq1
  case hl1 => (intro W hSw; exact run_load_te hSw.1 _ _ _ rfl rfl)
  (try simp only [Act.put, List.setIfInBounds_toArray, List.set_cons_zero, List.set_cons_succ, List.getElem_toArray, List.getElem_cons_zero])
  refine wpAnyH_ready (rs := [1]) (by kernel_rfl) (by simp) (AllReadyH.cons rfl (fun K hK => ?_) AllReadyH.nil)
  go_simp
  refine (dT _ (hS.below kb hS.lt) (h.below kb)).mono ?_
  rintro e w2 ⟨rfl, hb⟩
  replace kb := kb.trans (hb.mono kb.size)
  replace hBd := hBd.below hb
  replace hCd := hCd.below hb
  replace hk := hk.trans (hb.mono hk.size)
  clear hb
  go_wp2_with fail
  refine hK.out _ _ ⟨hBd, hCd, hk⟩ (fun hHeld => ?_)
  clear hK K
  (try simp only [Act.put, List.setIfInBounds_toArray, List.set_cons_zero, List.set_cons_succ])
  cases bT
  case false =>
    have hv : Hid (rv = false) := by show _ = _; rw [hrv.out]; unfold sameB; rw [eT.out]; simp
    refine' wpAnyH_take (i := 2) (v := _) rfl (by kernel_rfl) (by kernel_rfl) (by kernel_rfl) (fun _ _ _ h => h) (Or.inl ⟨by rfl, ?hy1⟩) hHeld ?hr1
    case hy1 => (intro w hSw; (try dsimp only at hSw); go_simp; (try with_reducible rfl))
    (try simp only [Act.put, List.setIfInBounds_toArray, List.set_cons_zero, List.set_cons_succ, List.getElem_toArray, List.getElem_cons_zero, List.getElem_cons_succ])
    refine wpAnyH_take (i := 3) (v := undef) rfl (by kernel_rfl) (by kernel_rfl) (by kernel_rfl) (fun _ _ _ h => h) (Or.inr ⟨by rfl, rfl⟩) hHeld ?_
    simp only [Act.put, List.setIfInBounds_toArray, List.set_cons_zero, List.set_cons_succ, List.getElem_toArray, List.getElem_cons_zero, List.getElem_cons_succ]
    refine wpAnyH_take (i := 4) (v := undef) rfl (by kernel_rfl) (by kernel_rfl) (by kernel_rfl) (fun _ _ _ h => h) (Or.inr ⟨by rfl, rfl⟩) hHeld ?_
    simp only [Act.put, List.setIfInBounds_toArray, List.set_cons_zero, List.set_cons_succ, List.getElem_toArray, List.getElem_cons_zero, List.getElem_cons_succ]
    refine' wpAnyH_take (i := 5) (v := _) rfl (by kernel_rfl) (by kernel_rfl) (by kernel_rfl) (fun _ _ _ h => h) (Or.inl ⟨by rfl, ?hy2⟩) hHeld ?hr2
    case hy2 => (intro w hSw; (try dsimp only at hSw); go_simp; (try with_reducible rfl))
    (try simp only [Act.put, List.setIfInBounds_toArray, List.set_cons_zero, List.set_cons_succ, List.getElem_toArray, List.getElem_cons_zero, List.getElem_cons_succ])
    refine' wpAnyH_take (i := 6) (v := _) rfl (by kernel_rfl) (by kernel_rfl) (by kernel_rfl) (fun _ _ _ h => h) (Or.inl ⟨by rfl, ?hy3⟩) hHeld ?hr3
    case hy3 => (intro w hSw; (try dsimp only at hSw); go_simp; (try with_reducible rfl))
    (try simp only [Act.put, List.setIfInBounds_toArray, List.set_cons_zero, List.set_cons_succ, List.getElem_toArray, List.getElem_cons_zero, List.getElem_cons_succ])
    refine wpAnyH_take (i := 7) (v := undef) rfl (by kernel_rfl) (by kernel_rfl) (by kernel_rfl) (fun _ _ _ h => h) (Or.inr ⟨by rfl, rfl⟩) hHeld ?_
    simp only [Act.put, List.setIfInBounds_toArray, List.set_cons_zero, List.set_cons_succ, List.getElem_toArray, List.getElem_cons_zero, List.getElem_cons_succ]
    refine wpAnyH_take (i := 8) (v := undef) rfl (by kernel_rfl) (by kernel_rfl) (by kernel_rfl) (fun _ _ _ h => h) (Or.inr ⟨by rfl, rfl⟩) hHeld ?_
    simp only [Act.put, List.setIfInBounds_toArray, List.set_cons_zero, List.set_cons_succ, List.getElem_toArray, List.getElem_cons_zero, List.getElem_cons_succ]
    refine wpAnyH_take (i := 9) (v := undef) rfl (by kernel_rfl) (by kernel_rfl) (by kernel_rfl) (fun _ _ _ h => h) (Or.inr ⟨by rfl, rfl⟩) hHeld ?_
    simp only [Act.put, List.setIfInBounds_toArray, List.set_cons_zero, List.set_cons_succ, List.getElem_toArray, List.getElem_cons_zero, List.getElem_cons_succ]
    refine wpAnyH_take (i := 10) (v := undef) rfl (by kernel_rfl) (by kernel_rfl) (by kernel_rfl) (fun _ _ _ h => h) (Or.inr ⟨by rfl, rfl⟩) hHeld ?_
    simp only [Act.put, List.setIfInBounds_toArray, List.set_cons_zero, List.set_cons_succ, List.getElem_toArray, List.getElem_cons_zero, List.getElem_cons_succ]
    refine wpAnyH_take (i := 11) (v := undef) rfl (by kernel_rfl) (by kernel_rfl) (by kernel_rfl) (fun _ _ _ h => h) (Or.inr ⟨by rfl, rfl⟩) hHeld ?_
    simp only [Act.put, List.setIfInBounds_toArray, List.set_cons_zero, List.set_cons_succ, List.getElem_toArray, List.getElem_cons_zero, List.getElem_cons_succ]
    refine' wpAnyH_take (i := 12) (v := _) rfl (by kernel_rfl) (by kernel_rfl) (by kernel_rfl) (fun _ _ _ h => h) (Or.inl ⟨by rfl, ?hy4⟩) hHeld ?hr4
    case hy4 => (intro w hSw; (try dsimp only at hSw); go_simp; (try with_reducible rfl))
    (try simp only [Act.put, List.setIfInBounds_toArray, List.set_cons_zero, List.set_cons_succ, List.getElem_toArray, List.getElem_cons_zero, List.getElem_cons_succ])
    refine' wpAnyH_take (i := 13) (v := _) rfl (by kernel_rfl) (by kernel_rfl) (by kernel_rfl) (fun _ _ _ h => h) (Or.inl ⟨by rfl, ?hy5⟩) hHeld ?hr5
    case hy5 => (intro w hSw; (try dsimp only at hSw); go_simp; (try with_reducible rfl))
    (try simp only [Act.put, List.setIfInBounds_toArray, List.set_cons_zero, List.set_cons_succ, List.getElem_toArray, List.getElem_cons_zero, List.getElem_cons_succ])
    refine wpAnyH_take (i := 14) (v := undef) rfl (by kernel_rfl) (by kernel_rfl) (by kernel_rfl) (fun _ _ _ h => h) (Or.inr ⟨by rfl, rfl⟩) hHeld ?_
    simp only [Act.put, List.setIfInBounds_toArray, List.set_cons_zero, List.set_cons_succ, List.getElem_toArray, List.getElem_cons_zero, List.getElem_cons_succ]
    refine wpAnyH_take (i := 15) (v := undef) rfl (by kernel_rfl) (by kernel_rfl) (by kernel_rfl) (fun _ _ _ h => h) (Or.inr ⟨by rfl, rfl⟩) hHeld ?_
    simp only [Act.put, List.setIfInBounds_toArray, List.set_cons_zero, List.set_cons_succ, List.getElem_toArray, List.getElem_cons_zero, List.getElem_cons_succ]
    refine wpAnyH_take (i := 16) (v := undef) rfl (by kernel_rfl) (by kernel_rfl) (by kernel_rfl) (fun _ _ _ h => h) (Or.inr ⟨by rfl, rfl⟩) hHeld ?_
    simp only [Act.put, List.setIfInBounds_toArray, List.set_cons_zero, List.set_cons_succ, List.getElem_toArray, List.getElem_cons_zero, List.getElem_cons_succ]
    refine wpAnyH_take (i := 17) (v := undef) rfl (by kernel_rfl) (by kernel_rfl) (by kernel_rfl) (fun _ _ _ h => h) (Or.inr ⟨by rfl, rfl⟩) hHeld ?_
    simp only [Act.put, List.setIfInBounds_toArray, List.set_cons_zero, List.set_cons_succ, List.getElem_toArray, List.getElem_cons_zero, List.getElem_cons_succ]
    refine wpAnyH_take (i := 18) (v := undef) rfl (by kernel_rfl) (by kernel_rfl) (by kernel_rfl) (fun _ _ _ h => h) (Or.inr ⟨by rfl, rfl⟩) hHeld ?_
    simp only [Act.put, List.setIfInBounds_toArray, List.set_cons_zero, List.set_cons_succ, List.getElem_toArray, List.getElem_cons_zero, List.getElem_cons_succ]
    refine' wpAnyH_take (i := 19) (v := _) rfl (by kernel_rfl) (by kernel_rfl) (by kernel_rfl) (fun _ _ _ h => h) (Or.inl ⟨by rfl, ?hy6⟩) hHeld ?hr6
    case hy6 => (intro w hSw; (try dsimp only at hSw); go_simp; (try with_reducible rfl))
    (try simp only [Act.put, List.setIfInBounds_toArray, List.set_cons_zero, List.set_cons_succ, List.getElem_toArray, List.getElem_cons_zero, List.getElem_cons_succ])
    refine' wpAnyH_take (i := 20) (v := _) rfl (by kernel_rfl) (by kernel_rfl) (by kernel_rfl) (fun _ _ _ h => h) (Or.inl ⟨by rfl, ?hy7⟩) hHeld ?hr7
    case hy7 => (intro w hSw; (try dsimp only at hSw); go_simp; (try with_reducible rfl))
    (try simp only [Act.put, List.setIfInBounds_toArray, List.set_cons_zero, List.set_cons_succ, List.getElem_toArray, List.getElem_cons_zero, List.getElem_cons_succ])
    refine wpAnyH_done (by kernel_rfl) ?_ _
    refine NoPanic.normal ?_
    clear hBd hCd hB hC hk
    go_wp2
    go_ret
    exact ⟨by rw [hv.out]; rfl, kb⟩
  refine' wpAnyH_take (i := 2) (v := _) rfl (by kernel_rfl) (by kernel_rfl) (by kernel_rfl) (fun _ _ _ h => h) (Or.inl ⟨by rfl, ?hy8⟩) hHeld ?hr8
  case hy8 => (intro w hSw; (try dsimp only at hSw); go_simp; (try with_reducible rfl))
  (try simp only [Act.put, List.setIfInBounds_toArray, List.set_cons_zero, List.set_cons_succ, List.getElem_toArray, List.getElem_cons_zero, List.getElem_cons_succ])
  refine' wpAnyH_take (i := 3) (v := .agg (teCs u x)) rfl (by kernel_rfl) (by kernel_rfl) (by kernel_rfl) (fun _ _ _ h => h) (Or.inl ⟨by rfl, ?hl2⟩) hHeld ?hq2
  case hl2 => (intro W hSw; exact run_load_te hSw.2.1 _ _ _ rfl rfl)
  (try simp only [Act.put, List.setIfInBounds_toArray, List.set_cons_zero, List.set_cons_succ, List.getElem_toArray, List.getElem_cons_zero, List.getElem_cons_succ])
  refine wpAnyH_ready (rs := [4]) (by kernel_rfl) (by simp) (AllReadyH.cons rfl (fun K hK => ?_) AllReadyH.nil)
  go_simp
  refine (dU _ (hS.below kb hS.lt) (h2.below kb)).mono ?_
  rintro e w3 ⟨rfl, hb⟩
  replace kb := kb.trans (hb.mono kb.size)
  replace hBd := hBd.below hb
  replace hCd := hCd.below hb
  replace hk := hk.trans (hb.mono hk.size)
  clear hb
  go_wp2_with fail
  refine hK.out _ _ ⟨hBd, hCd, hk⟩ (fun hHeld => ?_)
  clear hK K
  (try simp only [Act.put, List.setIfInBounds_toArray, List.set_cons_zero, List.set_cons_succ])
  cases bU
  case false =>
    have hv : Hid (rv = false) := by show _ = _; rw [hrv.out]; unfold sameB; rw [eU.out]; simp
    refine' wpAnyH_take (i := 5) (v := _) rfl (by kernel_rfl) (by kernel_rfl) (by kernel_rfl) (fun _ _ _ h => h) (Or.inl ⟨by rfl, ?hy9⟩) hHeld ?hr9
    case hy9 => (intro w hSw; (try dsimp only at hSw); go_simp; (try with_reducible rfl))
    (try simp only [Act.put, List.setIfInBounds_toArray, List.set_cons_zero, List.set_cons_succ, List.getElem_toArray, List.getElem_cons_zero, List.getElem_cons_succ])
    refine' wpAnyH_take (i := 6) (v := _) rfl (by kernel_rfl) (by kernel_rfl) (by kernel_rfl) (fun _ _ _ h => h) (Or.inl ⟨by rfl, ?hy10⟩) hHeld ?hr10
    case hy10 => (intro w hSw; (try dsimp only at hSw); go_simp; (try with_reducible rfl))
    (try simp only [Act.put, List.setIfInBounds_toArray, List.set_cons_zero, List.set_cons_succ, List.getElem_toArray, List.getElem_cons_zero, List.getElem_cons_succ])
    refine wpAnyH_take (i := 7) (v := undef) rfl (by kernel_rfl) (by kernel_rfl) (by kernel_rfl) (fun _ _ _ h => h) (Or.inr ⟨by rfl, rfl⟩) hHeld ?_
    simp only [Act.put, List.setIfInBounds_toArray, List.set_cons_zero, List.set_cons_succ, List.getElem_toArray, List.getElem_cons_zero, List.getElem_cons_succ]
    refine wpAnyH_take (i := 8) (v := undef) rfl (by kernel_rfl) (by kernel_rfl) (by kernel_rfl) (fun _ _ _ h => h) (Or.inr ⟨by rfl, rfl⟩) hHeld ?_
    simp only [Act.put, List.setIfInBounds_toArray, List.set_cons_zero, List.set_cons_succ, List.getElem_toArray, List.getElem_cons_zero, List.getElem_cons_succ]
    refine wpAnyH_take (i := 9) (v := undef) rfl (by kernel_rfl) (by kernel_rfl) (by kernel_rfl) (fun _ _ _ h => h) (Or.inr ⟨by rfl, rfl⟩) hHeld ?_
    simp only [Act.put, List.setIfInBounds_toArray, List.set_cons_zero, List.set_cons_succ, List.getElem_toArray, List.getElem_cons_zero, List.getElem_cons_succ]
    refine wpAnyH_take (i := 10) (v := undef) rfl (by kernel_rfl) (by kernel_rfl) (by kernel_rfl) (fun _ _ _ h => h) (Or.inr ⟨by rfl, rfl⟩) hHeld ?_
    simp only [Act.put, List.setIfInBounds_toArray, List.set_cons_zero, List.set_cons_succ, List.getElem_toArray, List.getElem_cons_zero, List.getElem_cons_succ]
    refine wpAnyH_take (i := 11) (v := undef) rfl (by kernel_rfl) (by kernel_rfl) (by kernel_rfl) (fun _ _ _ h => h) (Or.inr ⟨by rfl, rfl⟩) hHeld ?_
    simp only [Act.put, List.setIfInBounds_toArray, List.set_cons_zero, List.set_cons_succ, List.getElem_toArray, List.getElem_cons_zero, List.getElem_cons_succ]
    refine' wpAnyH_take (i := 12) (v := _) rfl (by kernel_rfl) (by kernel_rfl) (by kernel_rfl) (fun _ _ _ h => h) (Or.inl ⟨by rfl, ?hy11⟩) hHeld ?hr11
    case hy11 => (intro w hSw; (try dsimp only at hSw); go_simp; (try with_reducible rfl))
    (try simp only [Act.put, List.setIfInBounds_toArray, List.set_cons_zero, List.set_cons_succ, List.getElem_toArray, List.getElem_cons_zero, List.getElem_cons_succ])
    refine' wpAnyH_take (i := 13) (v := _) rfl (by kernel_rfl) (by kernel_rfl) (by kernel_rfl) (fun _ _ _ h => h) (Or.inl ⟨by rfl, ?hy12⟩) hHeld ?hr12
    case hy12 => (intro w hSw; (try dsimp only at hSw); go_simp; (try with_reducible rfl))
    (try simp only [Act.put, List.setIfInBounds_toArray, List.set_cons_zero, List.set_cons_succ, List.getElem_toArray, List.getElem_cons_zero, List.getElem_cons_succ])
    refine wpAnyH_take (i := 14) (v := undef) rfl (by kernel_rfl) (by kernel_rfl) (by kernel_rfl) (fun _ _ _ h => h) (Or.inr ⟨by rfl, rfl⟩) hHeld ?_
    simp only [Act.put, List.setIfInBounds_toArray, List.set_cons_zero, List.set_cons_succ, List.getElem_toArray, List.getElem_cons_zero, List.getElem_cons_succ]
    refine wpAnyH_take (i := 15) (v := undef) rfl (by kernel_rfl) (by kernel_rfl) (by kernel_rfl) (fun _ _ _ h => h) (Or.inr ⟨by rfl, rfl⟩) hHeld ?_
    simp only [Act.put, List.setIfInBounds_toArray, List.set_cons_zero, List.set_cons_succ, List.getElem_toArray, List.getElem_cons_zero, List.getElem_cons_succ]
    refine wpAnyH_take (i := 16) (v := undef) rfl (by kernel_rfl) (by kernel_rfl) (by kernel_rfl) (fun _ _ _ h => h) (Or.inr ⟨by rfl, rfl⟩) hHeld ?_
    simp only [Act.put, List.setIfInBounds_toArray, List.set_cons_zero, List.set_cons_succ, List.getElem_toArray, List.getElem_cons_zero, List.getElem_cons_succ]
    refine wpAnyH_take (i := 17) (v := undef) rfl (by kernel_rfl) (by kernel_rfl) (by kernel_rfl) (fun _ _ _ h => h) (Or.inr ⟨by rfl, rfl⟩) hHeld ?_
    simp only [Act.put, List.setIfInBounds_toArray, List.set_cons_zero, List.set_cons_succ, List.getElem_toArray, List.getElem_cons_zero, List.getElem_cons_succ]
    refine wpAnyH_take (i := 18) (v := undef) rfl (by kernel_rfl) (by kernel_rfl) (by kernel_rfl) (fun _ _ _ h => h) (Or.inr ⟨by rfl, rfl⟩) hHeld ?_
    simp only [Act.put, List.setIfInBounds_toArray, List.set_cons_zero, List.set_cons_succ, List.getElem_toArray, List.getElem_cons_zero, List.getElem_cons_succ]
    refine' wpAnyH_take (i := 19) (v := _) rfl (by kernel_rfl) (by kernel_rfl) (by kernel_rfl) (fun _ _ _ h => h) (Or.inl ⟨by rfl, ?hy13⟩) hHeld ?hr13
    case hy13 => (intro w hSw; (try dsimp only at hSw); go_simp; (try with_reducible rfl))
    (try simp only [Act.put, List.setIfInBounds_toArray, List.set_cons_zero, List.set_cons_succ, List.getElem_toArray, List.getElem_cons_zero, List.getElem_cons_succ])
    refine' wpAnyH_take (i := 20) (v := _) rfl (by kernel_rfl) (by kernel_rfl) (by kernel_rfl) (fun _ _ _ h => h) (Or.inl ⟨by rfl, ?hy14⟩) hHeld ?hr14
    case hy14 => (intro w hSw; (try dsimp only at hSw); go_simp; (try with_reducible rfl))
    (try simp only [Act.put, List.setIfInBounds_toArray, List.set_cons_zero, List.set_cons_succ, List.getElem_toArray, List.getElem_cons_zero, List.getElem_cons_succ])
    refine wpAnyH_done (by kernel_rfl) ?_ _
    refine NoPanic.normal ?_
    clear hBd hCd hB hC hk
    go_wp2
    go_ret
    exact ⟨by rw [hv.out]; rfl, kb⟩
  refine' wpAnyH_take (i := 5) (v := _) rfl (by kernel_rfl) (by kernel_rfl) (by kernel_rfl) (fun _ _ _ h => h) (Or.inl ⟨by rfl, ?hy15⟩) hHeld ?hr15
  case hy15 => (intro w hSw; (try dsimp only at hSw); go_simp; (try with_reducible rfl))
  (try simp only [Act.put, List.setIfInBounds_toArray, List.set_cons_zero, List.set_cons_succ, List.getElem_toArray, List.getElem_cons_zero, List.getElem_cons_succ])
  refine' wpAnyH_take (i := 6) (v := _) rfl (by kernel_rfl) (by kernel_rfl) (by kernel_rfl) (fun _ _ _ h => h) (Or.inl ⟨by rfl, ?hy16⟩) hHeld ?hr16
  case hy16 => (intro w hSw; (try dsimp only at hSw); go_simp; (try with_reducible rfl))
  (try simp only [Act.put, List.setIfInBounds_toArray, List.set_cons_zero, List.set_cons_succ, List.getElem_toArray, List.getElem_cons_zero, List.getElem_cons_succ])
  refine' wpAnyH_take (i := 7) (v := _) rfl (by kernel_rfl) (by kernel_rfl) (by kernel_rfl) (fun _ _ _ h => h) (Or.inl ⟨by rfl, ?hy17⟩) hHeld ?hr17
  case hy17 => (intro w hSw; (try dsimp only at hSw); go_simp; (try with_reducible rfl))
  (try simp only [Act.put, List.setIfInBounds_toArray, List.set_cons_zero, List.set_cons_succ, List.getElem_toArray, List.getElem_cons_zero, List.getElem_cons_succ])
  refine' wpAnyH_take (i := 8) (v := .agg #[.int .i64 t.gc, v.g]) rfl (by kernel_rfl) (by kernel_rfl) (by kernel_rfl) (fun _ _ _ h => h) (Or.inl ⟨by rfl, ?hl3⟩) hHeld ?hq3
  case hl3 => (intro W hSw; obtain ⟨e0, e1, _⟩ := hSw.1.cells; clear hSw; go_simp)
  (try simp only [Act.put, List.setIfInBounds_toArray, List.set_cons_zero, List.set_cons_succ, List.getElem_toArray, List.getElem_cons_zero, List.getElem_cons_succ])
  refine' wpAnyH_take (i := 9) (v := _) rfl (by kernel_rfl) (by kernel_rfl) (by kernel_rfl) (fun _ _ _ h => h) (Or.inl ⟨by rfl, ?hy18⟩) hHeld ?hr18
  case hy18 => (intro w hSw; (try dsimp only at hSw); go_simp; (try with_reducible rfl))
  (try simp only [Act.put, List.setIfInBounds_toArray, List.set_cons_zero, List.set_cons_succ, List.getElem_toArray, List.getElem_cons_zero, List.getElem_cons_succ])
  refine' wpAnyH_take (i := 10) (v := .agg #[.int .i64 u.gc, x.g]) rfl (by kernel_rfl) (by kernel_rfl) (by kernel_rfl) (fun _ _ _ h => h) (Or.inl ⟨by rfl, ?hl4⟩) hHeld ?hq4
  case hl4 => (intro W hSw; obtain ⟨e0, e1, _⟩ := hSw.2.1.cells; clear hSw; go_simp)
  (try simp only [Act.put, List.setIfInBounds_toArray, List.set_cons_zero, List.set_cons_succ, List.getElem_toArray, List.getElem_cons_zero, List.getElem_cons_succ])
  refine wpAnyH_ready (rs := [11]) (by kernel_rfl) (by simp) (AllReadyH.cons rfl (fun K hK => ?_) AllReadyH.nil)
  go_simp
  refine (dS _ (h.below kb) (h2.below kb)).mono ?_
  rintro e w4 ⟨rfl, hb⟩
  replace kb := kb.trans (hb.mono kb.size)
  replace hBd := hBd.below hb
  replace hCd := hCd.below hb
  replace hk := hk.trans (hb.mono hk.size)
  clear hb
  go_wp2_with fail
  refine hK.out _ _ ⟨hBd, hCd, hk⟩ (fun hHeld => ?_)
  clear hK K
  (try simp only [Act.put, List.setIfInBounds_toArray, List.set_cons_zero, List.set_cons_succ])
  cases bS
  case false =>
    have hv : Hid (rv = false) := by show _ = _; rw [hrv.out]; unfold sameB; rw [decide_eq_false (fun e => of_decide_eq_false eS.out e.2)]; simp
    refine' wpAnyH_take (i := 12) (v := _) rfl (by kernel_rfl) (by kernel_rfl) (by kernel_rfl) (fun _ _ _ h => h) (Or.inl ⟨by rfl, ?hy19⟩) hHeld ?hr19
    case hy19 => (intro w hSw; (try dsimp only at hSw); go_simp; (try with_reducible rfl))
    (try simp only [Act.put, List.setIfInBounds_toArray, List.set_cons_zero, List.set_cons_succ, List.getElem_toArray, List.getElem_cons_zero, List.getElem_cons_succ])
    refine' wpAnyH_take (i := 13) (v := _) rfl (by kernel_rfl) (by kernel_rfl) (by kernel_rfl) (fun _ _ _ h => h) (Or.inl ⟨by rfl, ?hy20⟩) hHeld ?hr20
    case hy20 => (intro w hSw; (try dsimp only at hSw); go_simp; (try with_reducible rfl))
    (try simp only [Act.put, List.setIfInBounds_toArray, List.set_cons_zero, List.set_cons_succ, List.getElem_toArray, List.getElem_cons_zero, List.getElem_cons_succ])
    refine wpAnyH_take (i := 14) (v := undef) rfl (by kernel_rfl) (by kernel_rfl) (by kernel_rfl) (fun _ _ _ h => h) (Or.inr ⟨by rfl, rfl⟩) hHeld ?_
    simp only [Act.put, List.setIfInBounds_toArray, List.set_cons_zero, List.set_cons_succ, List.getElem_toArray, List.getElem_cons_zero, List.getElem_cons_succ]
    refine wpAnyH_take (i := 15) (v := undef) rfl (by kernel_rfl) (by kernel_rfl) (by kernel_rfl) (fun _ _ _ h => h) (Or.inr ⟨by rfl, rfl⟩) hHeld ?_
    simp only [Act.put, List.setIfInBounds_toArray, List.set_cons_zero, List.set_cons_succ, List.getElem_toArray, List.getElem_cons_zero, List.getElem_cons_succ]
    refine wpAnyH_take (i := 16) (v := undef) rfl (by kernel_rfl) (by kernel_rfl) (by kernel_rfl) (fun _ _ _ h => h) (Or.inr ⟨by rfl, rfl⟩) hHeld ?_
    simp only [Act.put, List.setIfInBounds_toArray, List.set_cons_zero, List.set_cons_succ, List.getElem_toArray, List.getElem_cons_zero, List.getElem_cons_succ]
    refine wpAnyH_take (i := 17) (v := undef) rfl (by kernel_rfl) (by kernel_rfl) (by kernel_rfl) (fun _ _ _ h => h) (Or.inr ⟨by rfl, rfl⟩) hHeld ?_
    simp only [Act.put, List.setIfInBounds_toArray, List.set_cons_zero, List.set_cons_succ, List.getElem_toArray, List.getElem_cons_zero, List.getElem_cons_succ]
    refine wpAnyH_take (i := 18) (v := undef) rfl (by kernel_rfl) (by kernel_rfl) (by kernel_rfl) (fun _ _ _ h => h) (Or.inr ⟨by rfl, rfl⟩) hHeld ?_
    simp only [Act.put, List.setIfInBounds_toArray, List.set_cons_zero, List.set_cons_succ, List.getElem_toArray, List.getElem_cons_zero, List.getElem_cons_succ]
    refine' wpAnyH_take (i := 19) (v := _) rfl (by kernel_rfl) (by kernel_rfl) (by kernel_rfl) (fun _ _ _ h => h) (Or.inl ⟨by rfl, ?hy21⟩) hHeld ?hr21
    case hy21 => (intro w hSw; (try dsimp only at hSw); go_simp; (try with_reducible rfl))
    (try simp only [Act.put, List.setIfInBounds_toArray, List.set_cons_zero, List.set_cons_succ, List.getElem_toArray, List.getElem_cons_zero, List.getElem_cons_succ])
    refine' wpAnyH_take (i := 20) (v := _) rfl (by kernel_rfl) (by kernel_rfl) (by kernel_rfl) (fun _ _ _ h => h) (Or.inl ⟨by rfl, ?hy22⟩) hHeld ?hr22
    case hy22 => (intro w hSw; (try dsimp only at hSw); go_simp; (try with_reducible rfl))
    (try simp only [Act.put, List.setIfInBounds_toArray, List.set_cons_zero, List.set_cons_succ, List.getElem_toArray, List.getElem_cons_zero, List.getElem_cons_succ])
    refine wpAnyH_done (by kernel_rfl) ?_ _
    refine NoPanic.normal ?_
    clear hBd hCd hB hC hk
    go_wp2
    go_ret
    exact ⟨by rw [hv.out]; rfl, kb⟩
  have hv : Hid (rv = bP) := by
    show _ = _
    rw [hrv.out]
    unfold sameB
    have hg : t.g = u.g := of_decide_eq_true eS.out
    rw [decide_eq_true (show t.gc = u.gc ∧ t.g = u.g from ⟨same_gc eT.out eU.out hg, hg⟩), eT.out, eU.out, eP.out]
    rfl
  refine' wpAnyH_take (i := 12) (v := _) rfl (by kernel_rfl) (by kernel_rfl) (by kernel_rfl) (fun _ _ _ h => h) (Or.inl ⟨by rfl, ?hy23⟩) hHeld ?hr23
  case hy23 => (intro w hSw; (try dsimp only at hSw); go_simp; (try with_reducible rfl))
  (try simp only [Act.put, List.setIfInBounds_toArray, List.set_cons_zero, List.set_cons_succ, List.getElem_toArray, List.getElem_cons_zero, List.getElem_cons_succ])
  refine' wpAnyH_take (i := 13) (v := _) rfl (by kernel_rfl) (by kernel_rfl) (by kernel_rfl) (fun _ _ _ h => h) (Or.inl ⟨by rfl, ?hy24⟩) hHeld ?hr24
  case hy24 => (intro w hSw; (try dsimp only at hSw); go_simp; (try with_reducible rfl))
  (try simp only [Act.put, List.setIfInBounds_toArray, List.set_cons_zero, List.set_cons_succ, List.getElem_toArray, List.getElem_cons_zero, List.getElem_cons_succ])
  refine' wpAnyH_take (i := 14) (v := .agg (teCs t v)) rfl (by kernel_rfl) (by kernel_rfl) (by kernel_rfl) (fun _ _ _ h => h) (Or.inl ⟨by rfl, ?hl5⟩) hHeld ?hq5
  case hl5 => (intro W hSw; exact run_load_te hSw.1 _ _ _ rfl rfl)
  (try simp only [Act.put, List.setIfInBounds_toArray, List.set_cons_zero, List.set_cons_succ, List.getElem_toArray, List.getElem_cons_zero, List.getElem_cons_succ])
  refine' wpAnyH_take (i := 16) (v := .agg (teCs u x)) rfl (by kernel_rfl) (by kernel_rfl) (by kernel_rfl) (fun _ _ _ h => h) (Or.inl ⟨by rfl, ?hl6⟩) hHeld ?hq6
  case hl6 => (intro W hSw; exact run_load_te hSw.2.1 _ _ _ rfl rfl)
  (try simp only [Act.put, List.setIfInBounds_toArray, List.set_cons_zero, List.set_cons_succ, List.getElem_toArray, List.getElem_cons_zero, List.getElem_cons_succ])
  refine wpAnyH_ready (rs := [15]) (by kernel_rfl) (by simp) (AllReadyH.cons rfl (fun K hK => ?_) AllReadyH.nil)
  go_simp
  refine (dP _).mono ?_
  rintro e w5 ⟨rfl, hb⟩
  replace kb := kb.trans (hb.mono kb.size)
  replace hBd := hBd.below hb
  replace hCd := hCd.below hb
  replace hk := hk.trans (hb.mono hk.size)
  clear hb
  go_wp2_with fail
  refine hK.out _ _ ⟨hBd, hCd, hk⟩ (fun hHeld => ?_)
  clear hK K
  (try simp only [Act.put, List.setIfInBounds_toArray, List.set_cons_zero, List.set_cons_succ])
  refine wpAnyH_ready (rs := [17]) (by kernel_rfl) (by simp) (AllReadyH.cons rfl (fun K hK => ?_) AllReadyH.nil)
  go_simp
  refine (dQ _).mono ?_
  rintro e w6 ⟨rfl, hb⟩
  replace kb := kb.trans (hb.mono kb.size)
  replace hBd := hBd.below hb
  replace hCd := hCd.below hb
  replace hk := hk.trans (hb.mono hk.size)
  clear hb
  go_wp2_with fail
  refine hK.out _ _ ⟨hBd, hCd, hk⟩ (fun hHeld => ?_)
  clear hK K
  (try simp only [Act.put, List.setIfInBounds_toArray, List.set_cons_zero, List.set_cons_succ])
  refine' wpAnyH_take (i := 18) (v := _) rfl (by kernel_rfl) (by kernel_rfl) (by kernel_rfl) (fun _ _ _ h => h) (Or.inl ⟨by rfl, ?hy25⟩) hHeld ?hr25
  case hy25 => (intro w hSw; (try dsimp only at hSw); go_simp; (try with_reducible rfl))
  (try simp only [Act.put, List.setIfInBounds_toArray, List.set_cons_zero, List.set_cons_succ, List.getElem_toArray, List.getElem_cons_zero, List.getElem_cons_succ])
  refine' wpAnyH_take (i := 19) (v := _) rfl (by kernel_rfl) (by kernel_rfl) (by kernel_rfl) (fun _ _ _ h => h) (Or.inl ⟨by rfl, ?hy26⟩) hHeld ?hr26
  case hy26 => (intro w hSw; (try dsimp only at hSw); go_simp; (try with_reducible rfl))
  (try simp only [Act.put, List.setIfInBounds_toArray, List.set_cons_zero, List.set_cons_succ, List.getElem_toArray, List.getElem_cons_zero, List.getElem_cons_succ])
  refine' wpAnyH_take (i := 20) (v := _) rfl (by kernel_rfl) (by kernel_rfl) (by kernel_rfl) (fun _ _ _ h => h) (Or.inl ⟨by rfl, ?hy27⟩) hHeld ?hr27
  case hy27 => (intro w hSw; (try dsimp only at hSw); go_simp; (try with_reducible rfl))
  (try simp only [Act.put, List.setIfInBounds_toArray, List.set_cons_zero, List.set_cons_succ, List.getElem_toArray, List.getElem_cons_zero, List.getElem_cons_succ])
  refine wpAnyH_done (by kernel_rfl) ?_ _
  refine NoPanic.normal ?_
  clear hBd hCd hB hC hk
  go_wp2
  go_ret
  exact ⟨by rw [hv.out]; rfl, kb⟩
end Go.Proofs.YtlmnhlfklbgjdaaDoor
namespace Go.Proofs.YtlmnhlfklbgjdaaDoor
open Go.ChangeShapes Go.WideShapes Go.ChangeAt Go.RowKit
set_option maxHeartbeats 8000000 in
set_option maxRecDepth 20000 in
theorem szTerm_l (L0 : Nat) (hL0 : L0 ≤ 1048576) (t : Te) (v : Tv) (w : World) (h : SlT w t v) (hm : SzT maxLen t) (hf : t.fe.size ≤ maxLen) :
    Calls Tryd.prog 5 #[teV t v, .int .i64 (L0 : Int)] w fun e w' => ∃ z, e = .returned (.int .i64 z) ∧ (z < 0 ∨ (SzT 1048576 t ∧ sumG t.g t.g.length + sumG t.o t.o.length + t.ti.length + t.pa.params.length + t.pa.text.length ≤ 1048576 ∧ ∃ m : Nat, z = (m : Int) ∧ m ≤ 1048576)) ∧ Below w.heap.size w w' := by
  obtain ⟨vg, vo, vti, vpp, vpt⟩ := v
  obtain ⟨hg, ho, hti, hpp, hpt⟩ := h
  simp only at hg ho hti hpp hpt
  obtain ⟨m1, m2, m3, m4, m5, m6, m7⟩ := hm
  have hb0 := bal' w (Obj.cells (teCs t ⟨vg, vo, vti, vpp, vpt⟩) 33)
  have hB := TeB.new w 33 t ⟨vg, vo, vti, vpp, vpt⟩
  have cG := fun W hW => szGrid_any t.gc vg t.g L0 W hW m1 m2 (by omega)
  have cO := fun l W hW (hl : l ≤ 1048576) => szGrid_any t.oc vo t.o l W hW m3 m4 (by omega)
  have cT := fun l W hW (hl : l ≤ 1048576) => szI_any vti t.ti l W hW m5 (by omega)
  have cP := fun l W h1 h2 (hl : l ≤ 1048576) => szParser_any t.pa vpp vpt l W h1 h2 m6 m7 (by omega)
  have cF := fun (l : Nat) W (hl : l ≤ 1048576) => szFeeder_any t.fe (l : Int) W hf (by omega)
  obtain ⟨ga, gp, hq1⟩ := slG_shp hg
  obtain ⟨oa, op, hq2⟩ := slG_shp ho
  obtain ⟨tia, tip, hq3⟩ := hti.shp
  obtain ⟨ppa, ppp, hq4⟩ := hpp.shp
  obtain ⟨pta, ptp, hq5⟩ := hpt.shp
  subst hq1; subst hq2; subst hq3; subst hq4; subst hq5
  unfold teV gridV paV at *
  obtain ⟨w1, hw1⟩ : ∃ w1, w1 = w.alloc (Obj.cells (teCs t ⟨.slice ga t.g.length gp, .slice oa t.o.length op, .slice tia t.ti.length tip, .slice ppa t.pa.params.length ppp, .slice pta t.pa.text.length ptp⟩) 33) := ⟨_, rfl⟩
  rw [← hw1] at hB hb0
  replace hw1 := (show Hid _ from hw1)
  clear m1 m2 m3 m4 m5 m6 m7 hf
  go_enter Tryd.func5, Tryd.ntmps5
  refine wp_seq_k (fun K hK => ?_)
  have hH := (show Hid _ from hK)
  clear hK
  go_wp2
  refine hH.out _ _ ?_
  rw [← hw1.out]
  clear hH hw1
  obtain ⟨c0, c1, c2, c3, c4, c5, c6, c7, c8, c9, c10, c11, c12, c13, c14, c15, c16, c17, c18, c19, c20, c21, c22, c23, c24, c25, c26, c27, c28, c29⟩ := hB.cells
  cases hq1 : leftG t.g L0 t.g.length with
  | none =>
    have e1 : szG t.g L0 = -1 := by unfold szG; rw [hq1]
    simp only [e1] at cG
    clear e1 hq1
    go_wp2_with fail
    refine (cG _ (hg.below hb0)).mono ?_
    rintro e w2 ⟨rfl, hb⟩
    have hb1 := hb0.trans (hb.mono hb0.size)
    replace hB := hB.below hb
    clear c0 c1 c2 c3 c4 c5 c6 c7 c8 c9 c10 c11 c12 c13 c14 c15 c16 c17 c18 c19 c20 c21 c22 c23 c24 c25 c26 c27 c28 c29
    clear hb hb0
    obtain ⟨c0, c1, c2, c3, c4, c5, c6, c7, c8, c9, c10, c11, c12, c13, c14, c15, c16, c17, c18, c19, c20, c21, c22, c23, c24, c25, c26, c27, c28, c29⟩ := hB.cells
    go_wp2
    go_ret
    exact ⟨_, rfl, .inl (by decide), hb1⟩
  | some r1 =>
    have e1 : szG t.g L0 = (r1 : Int) := by unfold szG; rw [hq1]
    simp only [e1] at cG
    have l1 := leftG_le hq1
    have s1 := leftG_sum hq1
    have n1 : ¬ ((r1 : Int) < 0) := by omega
    clear e1 hq1
    go_wp2_with fail
    refine (cG _ (hg.below hb0)).mono ?_
    rintro e w2 ⟨rfl, hb⟩
    have hb1 := hb0.trans (hb.mono hb0.size)
    replace hB := hB.below hb
    clear c0 c1 c2 c3 c4 c5 c6 c7 c8 c9 c10 c11 c12 c13 c14 c15 c16 c17 c18 c19 c20 c21 c22 c23 c24 c25 c26 c27 c28 c29
    clear hb hb0
    obtain ⟨c0, c1, c2, c3, c4, c5, c6, c7, c8, c9, c10, c11, c12, c13, c14, c15, c16, c17, c18, c19, c20, c21, c22, c23, c24, c25, c26, c27, c28, c29⟩ := hB.cells
    cases hq2 : leftG t.o r1 t.o.length with
    | none =>
      have e2 : szG t.o r1 = -1 := by unfold szG; rw [hq2]
      have cO2 := fun W hW => cO r1 W hW (Nat.le_trans l1.1 hL0)
      simp only [e2] at cO2
      clear e2 hq2
      go_wp2_with fail
      refine (cO2 _ (ho.below hb1)).mono ?_
      rintro e w3 ⟨rfl, hb⟩
      have hb2 := hb1.trans (hb.mono hb1.size)
      replace hB := hB.below hb
      clear c0 c1 c2 c3 c4 c5 c6 c7 c8 c9 c10 c11 c12 c13 c14 c15 c16 c17 c18 c19 c20 c21 c22 c23 c24 c25 c26 c27 c28 c29
      clear hb hb1
      obtain ⟨c0, c1, c2, c3, c4, c5, c6, c7, c8, c9, c10, c11, c12, c13, c14, c15, c16, c17, c18, c19, c20, c21, c22, c23, c24, c25, c26, c27, c28, c29⟩ := hB.cells
      go_wp2
      go_ret
      exact ⟨_, rfl, .inl (by decide), hb2⟩
    | some r2 =>
      have e2 : szG t.o r1 = (r2 : Int) := by unfold szG; rw [hq2]
      have cO2 := fun W hW => cO r1 W hW (Nat.le_trans l1.1 hL0)
      simp only [e2] at cO2
      have l2 := leftG_le hq2
      have s2 := leftG_sum hq2
      have n2 : ¬ ((r2 : Int) < 0) := by omega
      have u2 : r2 ≤ 1048576 := by omega
      clear e2 hq2 n1 cO
      go_wp2_with fail
      refine (cO2 _ (ho.below hb1)).mono ?_
      rintro e w3 ⟨rfl, hb⟩
      have hb2 := hb1.trans (hb.mono hb1.size)
      replace hB := hB.below hb
      clear c0 c1 c2 c3 c4 c5 c6 c7 c8 c9 c10 c11 c12 c13 c14 c15 c16 c17 c18 c19 c20 c21 c22 c23 c24 c25 c26 c27 c28 c29
      clear hb hb1
      obtain ⟨c0, c1, c2, c3, c4, c5, c6, c7, c8, c9, c10, c11, c12, c13, c14, c15, c16, c17, c18, c19, c20, c21, c22, c23, c24, c25, c26, c27, c28, c29⟩ := hB.cells
      have cT2 := fun W hW => cT r2 W hW u2
      by_cases q3 : r2 < t.ti.length
      case pos =>
        rw [if_pos q3] at cT2
        go_wp2_with fail
        refine (cT2 _ (hti.below hb2).l.sl).mono ?_
        rintro e w4 ⟨rfl, hw⟩
        subst hw
        go_wp2
        go_ret
        exact ⟨_, rfl, .inl (by decide), hb2⟩
      rw [if_neg q3] at cT2
      obtain ⟨r3, hr3⟩ : ∃ r3, Hid (r2 - t.ti.length = r3) := ⟨_, rfl⟩
      rw [hr3.out] at cT2
      have n3 : ¬ ((r3 : Int) < 0) := by omega
      have v3 : Hid (r3 + t.ti.length = r2) := by show _ = _; have := hr3.out; omega
      have u3 : r3 ≤ 1048576 := by have := v3.out; omega
      clear hr3 n2 cT q3
      go_wp2_with fail
      refine (cT2 _ (hti.below hb2).l.sl).mono ?_
      rintro e w4 ⟨rfl, hw⟩
      subst hw
      have cP2 := fun W h1 h2 => cP r3 W h1 h2 u3
      by_cases q4 : szP t.pa.params.length t.pa.text.length r3 < 0
      case pos =>
        have e4 := szP_neg q4
        simp only [e4] at cP2
        clear e4 q4
        go_wp2_with fail
        refine (cP2 _ (hpp.below hb2).l.sl (hpt.below hb2).l.sl).mono ?_
        rintro e w5 ⟨rfl, hb⟩
        have hb3 := hb2.trans (hb.mono hb2.size)
        replace hB := hB.below hb
        clear c0 c1 c2 c3 c4 c5 c6 c7 c8 c9 c10 c11 c12 c13 c14 c15 c16 c17 c18 c19 c20 c21 c22 c23 c24 c25 c26 c27 c28 c29
        clear hb hb2
        obtain ⟨c0, c1, c2, c3, c4, c5, c6, c7, c8, c9, c10, c11, c12, c13, c14, c15, c16, c17, c18, c19, c20, c21, c22, c23, c24, c25, c26, c27, c28, c29⟩ := hB.cells
        go_wp2
        go_ret
        exact ⟨_, rfl, .inl (by decide), hb3⟩
      obtain ⟨r4, e4, s4⟩ := szP_some q4
      simp only [e4] at cP2
      have n4 : ¬ ((r4 : Int) < 0) := by omega
      have u4 : r4 ≤ 1048576 := by omega
      clear e4 q4 n3 cP
      go_wp2_with fail
      refine (cP2 _ (hpp.below hb2).l.sl (hpt.below hb2).l.sl).mono ?_
      rintro e w5 ⟨rfl, hb⟩
      have hb3 := hb2.trans (hb.mono hb2.size)
      replace hB := hB.below hb
      clear c0 c1 c2 c3 c4 c5 c6 c7 c8 c9 c10 c11 c12 c13 c14 c15 c16 c17 c18 c19 c20 c21 c22 c23 c24 c25 c26 c27 c28 c29
      clear hb hb2
      obtain ⟨c0, c1, c2, c3, c4, c5, c6, c7, c8, c9, c10, c11, c12, c13, c14, c15, c16, c17, c18, c19, c20, c21, c22, c23, c24, c25, c26, c27, c28, c29⟩ := hB.cells
      have cF2 := fun W => cF r4 W u4
      have hfin : Hid (SzT 1048576 t ∧ sumG t.g t.g.length + sumG t.o t.o.length + t.ti.length + t.pa.params.length + t.pa.text.length ≤ 1048576) := by
        show _ ∧ _
        have := v3.out
        have := l1.1
        refine ⟨⟨by have := l1.2.1; omega, fun i hi => by have := l1.2.2 i hi; omega, by have := l2.2.1; omega, fun i hi => by have := l2.2.2 i hi; omega, by omega, by omega, by omega⟩, by omega⟩
      obtain ⟨z, hz⟩ : ∃ z, Hid ((if (r4 : Int) - (t.fe.size : Int) < 0 then -1 else (r4 : Int) - (t.fe.size : Int)) = z) := ⟨_, rfl⟩
      have hzm : Hid (z < 0 ∨ ∃ m : Nat, z = (m : Int) ∧ m ≤ 1048576) := by
        show _ ∨ _
        have hz := hz.out
        split at hz
        · left; omega
        · right; exact ⟨z.toNat, by omega, by omega⟩
      simp only [hz.out] at cF2
      clear hz cF n4 l1 l2 s1 s2 s4
      go_wp2_with fail
      refine (cF2 _).mono ?_
      rintro e w6 ⟨rfl, hb⟩
      have hb4 := hb3.trans (hb.mono hb3.size)
      replace hB := hB.below hb
      clear c0 c1 c2 c3 c4 c5 c6 c7 c8 c9 c10 c11 c12 c13 c14 c15 c16 c17 c18 c19 c20 c21 c22 c23 c24 c25 c26 c27 c28 c29
      clear hb hb3
      obtain ⟨c0, c1, c2, c3, c4, c5, c6, c7, c8, c9, c10, c11, c12, c13, c14, c15, c16, c17, c18, c19, c20, c21, c22, c23, c24, c25, c26, c27, c28, c29⟩ := hB.cells
      by_cases q5 : z < 0
      case pos =>
        go_wp2
        go_ret
        exact ⟨_, rfl, .inl (by decide), hb4⟩
      go_wp2
      go_ret
      exact ⟨_, rfl, .inr ⟨hfin.out.1, hfin.out.2, hzm.out.resolve_left (by omega)⟩, hb4⟩
end Go.Proofs.YtlmnhlfklbgjdaaDoor
namespace Go.Proofs.YtlmnhlfklbgjdaaDoor
open Go.ChangeShapes Go.WideShapes Go.ChangeAt Go.RowKit
set_option maxHeartbeats 16000000 in
set_option maxRecDepth 20000 in
theorem walk_FnExactSameScreen (w : World) (hS : SpansAt w) (t : Te) (v : Tv) (h : SlT w t v) (hm : SzT maxLen t) (hf : t.fe.size ≤ maxLen) (u : Te) (x : Tv) (h2 : SlT w u x) (hm2 : SzT maxLen u) (hf2 : u.fe.size ≤ maxLen) :
    Calls Tryd.prog 4 #[teV t v, teV u x] w fun e w' => e = .returned (.bool true) ∧ Below w.heap.size w w' := by
  have hzz := fun W h => szTerm_any t v W h hm hf
  have hzz2 := fun L hL W h => szTerm_l L hL u x W h hm2 hf2
  have hzy := fun W h => szTerm_l 1048576 (Nat.le_refl _) t v W h hm hf
  have hb0 := bal' w (Obj.cells (teCs t v) 33)
  have hX := (TeB.new w 33 t v).below (bal' _ (Obj.cells (teCs u x) 33))
  have hY := TeB.new (w.alloc (Obj.cells (teCs t v) 33)) 33 u x
  rw [show (w.alloc (Obj.cells (teCs t v) 33)).heap.size = w.heap.size + 1 from by simp] at hY
  replace hb0 := hb0.trans ((bal' _ (Obj.cells (teCs u x) 33)).mono hb0.size)
  obtain ⟨w1, hw1⟩ : ∃ w1, w1 = (w.alloc (Obj.cells (teCs t v) 33)).alloc (Obj.cells (teCs u x) 33) := ⟨_, rfl⟩
  rw [← hw1] at hb0 hX hY
  replace hw1 := (show Hid _ from hw1)
  have hto := fun W h hz => toTerm_copy t v W h hz
  have hto2 := fun W h hz => toTerm_copy u x W h hz
  have hsp := fun a b W h h2 hz hz2 => specSameScreen_any t u a b W h h2 hz hz2
  have him := fun a b W hS h h2 hz hz2 => implSameScreen_any t u a b W h h2 hS hz hz2
  have heq := fun a b W h h2 hz => eqTerm_same t a b W h h2 hz
  have heq2 := fun a b W h h2 hz => eqTerm_same u a b W h h2 hz
  obtain ⟨ok, hok⟩ : ∃ ok, Hid (sameB t u = ok) := ⟨_, rfl⟩
  simp only [hok.out] at hsp him
  have hne : (ok != ok) = false := by simp
  clear hm hf hm2 hf2 hok hzz
  unfold teV at *
  go_enter Tryd.func4, Tryd.ntmps4
  refine wp_seq_k (fun K hK => ?_)
  have hH := (show Hid _ from hK)
  clear hK
  go_wp2
  refine hH.out _ _ ?_
  rw [← hw1.out]
  clear hH hw1
  go_wp2_with (refine load_tl hX (by rfl) _ (by rfl) (by rfl) ?_)
  refine (hzy _ (h.below hb0)).mono ?_
  rintro e w2 ⟨z, rfl, hz, hb⟩
  have kb := hb0.trans (hb.mono hb0.size)
  replace hX := hX.below hb
  replace hY := hY.below hb
  clear hb hb0 hzy
  by_cases hzn : z < 0
  case pos =>
    go_wp2
    go_ret
    exact ⟨rfl, kb⟩
  obtain ⟨hsz, _, m, rfl, hml⟩ := hz.resolve_left hzn
  clear hz
  replace hsz := (show Hid _ from hsz)
  go_wp2_with (refine load_tl hY (by rfl) _ (by rfl) (by rfl) ?_)
  refine (hzz2 m hml _ (h2.below kb)).mono ?_
  rintro e w2 ⟨z2, rfl, hz, hb⟩
  replace kb := kb.trans (hb.mono kb.size)
  replace hX := hX.below hb
  replace hY := hY.below hb
  clear hb hzz2 hzn
  by_cases hzn : z2 < 0
  case pos =>
    go_wp2
    go_ret
    exact ⟨rfl, kb⟩
  obtain ⟨hsz2, _, _⟩ := hz.resolve_left hzn
  clear hz hml
  replace hsz2 := (show Hid _ from hsz2)
  -- the specification's answer
  have hXd := hX.below (bdr w2)
  have hYd := hY.below (bdr w2)
  have kd := kb.trans ((bdr w2).mono kb.size)
  have hk := bdr w2
  clear hX hY
  go_wp2
  rename_i K9 hK9
  replace hK9 := (show Hid _ from hK9)
  refine wp_region_noPanic ?_
  refine wp_region_held_drew (S := (fun W => TeB W w.heap.size 33 t v ∧ TeB W (w.heap.size + 1) 33 u x ∧ Below w2.heap.size w2 W)) (by kernel_rfl) ⟨hXd, hYd, hk⟩ (fun hHeld => ?_)
  refine' wpAnyH_take (i := 0) (v := .agg (teCs t v)) rfl (by kernel_rfl) (by kernel_rfl) (by kernel_rfl) (fun _ _ _ h => h) (Or.inl ⟨by rfl, ?hl1⟩) hHeld ?hq1
  case hl1 => (intro W hSw; exact run_load_tl hSw.1 _ _ _ rfl rfl)
  (try simp only [Act.put, List.setIfInBounds_toArray, List.set_cons_zero, List.set_cons_succ, List.getElem_toArray, List.getElem_cons_zero])
  refine' wpAnyH_take (i := 2) (v := .agg (teCs u x)) rfl (by kernel_rfl) (by kernel_rfl) (by kernel_rfl) (fun _ _ _ h => h) (Or.inl ⟨by rfl, ?hl2⟩) hHeld ?hq2
  case hl2 => (intro W hSw; exact run_load_tl hSw.2.1 _ _ _ rfl rfl)
  (try simp only [Act.put, List.setIfInBounds_toArray, List.set_cons_zero, List.set_cons_succ, List.getElem_toArray, List.getElem_cons_zero, List.getElem_cons_succ])
  refine wpAnyH_ready (rs := [1]) (by kernel_rfl) (by simp) (AllReadyH.cons rfl (fun K hK => ?_) AllReadyH.nil)
  go_simp
  refine (hto _ (h.below kd) hsz.out).mono ?_
  rintro e w3v3 ⟨v3, rfl, hov3, hb⟩
  replace kd := kd.trans (hb.mono kd.size)
  replace hXd := hXd.below hb
  replace hYd := hYd.below hb
  replace hk := hk.trans (hb.mono hk.size)
  have hsv3 := hov3.sl
  clear hb
  go_wp2_with fail
  refine hK.out _ _ ⟨hXd, hYd, hk⟩ (fun hHeld => ?_)
  clear hK K
  (try simp only [Act.put, List.setIfInBounds_toArray, List.set_cons_zero, List.set_cons_succ, List.getElem_toArray, List.getElem_cons_zero, List.getElem_cons_succ])
  refine wpAnyH_ready (rs := [3]) (by kernel_rfl) (by simp) (AllReadyH.cons rfl (fun K hK => ?_) AllReadyH.nil)
  go_simp
  refine (hto2 _ (h2.below kd) hsz2.out).mono ?_
  rintro e w3x3 ⟨x3, rfl, hox3, hb⟩
  replace kd := kd.trans (hb.mono kd.size)
  replace hXd := hXd.below hb
  replace hYd := hYd.below hb
  replace hk := hk.trans (hb.mono hk.size)
  have hsx3 := hox3.sl
  replace hsv3 := hsv3.below hb
  clear hb
  go_wp2_with fail
  refine hK.out _ _ ⟨hXd, hYd, hk⟩ (fun hHeld => ?_)
  clear hK K
  (try simp only [Act.put, List.setIfInBounds_toArray, List.set_cons_zero, List.set_cons_succ, List.getElem_toArray, List.getElem_cons_zero, List.getElem_cons_succ])
  refine wpAnyH_ready (rs := [4]) (by kernel_rfl) (by simp) (AllReadyH.cons rfl (fun K hK => ?_) AllReadyH.nil)
  go_simp
  refine (hsp v3 x3 _ hsv3 hsx3 hsz.out hsz2.out).mono ?_
  rintro e w4 ⟨rfl, hb⟩
  replace kd := kd.trans (hb.mono kd.size)
  replace hXd := hXd.below hb
  replace hYd := hYd.below hb
  replace hk := hk.trans (hb.mono hk.size)
  clear hb
  go_wp2_with fail
  refine hK.out _ _ ⟨hXd, hYd, hk⟩ (fun hHeld => ?_)
  clear hK K
  (try simp only [Act.put, List.setIfInBounds_toArray, List.set_cons_zero, List.set_cons_succ, List.getElem_toArray, List.getElem_cons_zero, List.getElem_cons_succ])
  refine' wpAnyH_take (i := 5) (v := _) rfl (by kernel_rfl) (by kernel_rfl) (by kernel_rfl) (fun _ _ _ h => h) (Or.inl ⟨by rfl, ?hl3⟩) hHeld ?hq3
  case hl3 => (intro w hSw; (try dsimp only at hSw); go_simp; (try with_reducible rfl))
  (try simp only [Act.put, List.setIfInBounds_toArray, List.set_cons_zero, List.set_cons_succ, List.getElem_toArray, List.getElem_cons_zero, List.getElem_cons_succ])
  refine wpAnyH_done (by kernel_rfl) ?_ _
  refine NoPanic.normal ?_
  refine hK9.out _ _ ?_
  have hX := hXd
  have hY := hYd
  replace kb := kd
  clear hXd hYd kd hk hsv3 hsx3 hov3 hox3 hK9 hHeld hsp
  go_wp2_with (refine load_tl hX (by rfl) _ (by rfl) (by rfl) ?_)
  refine (hto _ (h.below kb) hsz.out).mono ?_
  rintro e w5 ⟨v5, rfl, ho, hb⟩
  replace kb := kb.trans (hb.mono kb.size)
  replace hX := hX.below hb
  replace hY := hY.below hb
  clear hb
  have hon := ho.sl.one
  have hal := bal' w5 (Obj.cells #[.int .i64 0, .slice none 0 0, .int .i64 0, .slice none 0 0, .int .i64 0, .int .i64 0, .int .i64 0, .int .i64 0, .bool false, .bool false, .bool false, .int .i64 0, .int .i64 0, .bool false, .bool false, .bool false, .bool false, .int .i64 0, .int .i64 0, .int .i64 0, .int .i64 0, .bool false, .bool false, .bool false, .slice none 0 0, .int .i64 0, .slice none 0 0, .int .i64 0, .slice none 0 0, .string ⟨#[]⟩] 43)
  have hZ := TB.new w5 ([.int .i64 0, .slice none 0 0, .int .i64 0, .slice none 0 0, .int .i64 0, .int .i64 0, .int .i64 0, .int .i64 0, .bool false, .bool false, .bool false, .int .i64 0, .int .i64 0, .bool false, .bool false, .bool false, .bool false, .int .i64 0, .int .i64 0, .int .i64 0, .int .i64 0, .bool false, .bool false, .bool false, .slice none 0 0, .int .i64 0, .slice none 0 0, .int .i64 0, .slice none 0 0, .string ⟨#[]⟩])
  have hs5 := ho.sl
  clear ho
  go_wp2_with (first
    | (refine store_T (cs := teCs t v5) (by rfl) 43 _ _ (by rfl) info_te (by rfl) hon hZ (by rfl) (by rfl) ?_; intro W5 hg hA hzs; have hbW : Below w5.heap.size w5 W5 := hal.grown hg hal.size (fun k e => by cases e; exact Nat.le_refl _); have hA1 : TeB W5 w5.heap.size 43 t v5 := hA; have hX1 := hX.below hbW; have hY1 := hY.below hbW; have kb1 := kb.trans (hbW.mono kb.size); have hs1 := hs5.below hbW; clear hA hX hY kb hg hzs hal hZ hs5 hbW)
    | (refine load_tl hY1 (by rfl) _ (by rfl) (by rfl) ?_))
  clear hon
  refine (hto2 _ (h2.below kb1) hsz2.out).mono ?_
  rintro e w6 ⟨v6, rfl, ho, hb⟩
  have kb := kb1.trans (hb.mono kb1.size)
  have hX := hX1.below hb
  have hY := hY1.below hb
  have hA := hA1.below hb
  have hs := hs1.below hb
  clear hb kb1 hX1 hY1 hA1 hs1
  have hon := ho.sl.one
  have hal := bal' w6 (Obj.cells #[.int .i64 0, .slice none 0 0, .int .i64 0, .slice none 0 0, .int .i64 0, .int .i64 0, .int .i64 0, .int .i64 0, .bool false, .bool false, .bool false, .int .i64 0, .int .i64 0, .bool false, .bool false, .bool false, .bool false, .int .i64 0, .int .i64 0, .int .i64 0, .int .i64 0, .bool false, .bool false, .bool false, .slice none 0 0, .int .i64 0, .slice none 0 0, .int .i64 0, .slice none 0 0, .string ⟨#[]⟩] 43)
  have hZ := TB.new w6 ([.int .i64 0, .slice none 0 0, .int .i64 0, .slice none 0 0, .int .i64 0, .int .i64 0, .int .i64 0, .int .i64 0, .bool false, .bool false, .bool false, .int .i64 0, .int .i64 0, .bool false, .bool false, .bool false, .bool false, .int .i64 0, .int .i64 0, .int .i64 0, .int .i64 0, .bool false, .bool false, .bool false, .slice none 0 0, .int .i64 0, .slice none 0 0, .int .i64 0, .slice none 0 0, .string ⟨#[]⟩])
  have hs6 := ho.sl
  clear ho
  go_wp2_with (first
    | (refine store_T (cs := teCs u v6) (by rfl) 43 _ _ (by rfl) info_te (by rfl) hon hZ (by rfl) (by rfl) ?_; intro W6 hg hA6 hzs; have hbW : Below w6.heap.size w6 W6 := hal.grown hg hal.size (fun k e => by cases e; exact Nat.le_refl _); have hB1 : TeB W6 w6.heap.size 43 u v6 := hA6; have hX1 := hX.below hbW; have hY1 := hY.below hbW; have hA1 := hA.below hbW; have kb1 := kb.trans (hbW.mono kb.size); have hs1 := hs.below hbW; have hs2 := hs6.below hbW; clear hA hA6 hX hY kb hg hzs hal hZ hs hs6 hbW)
    | (refine load_te hA1 (by rfl) _ (by rfl) (by rfl) ?_)
    | (refine load_te hB1 (by rfl) _ (by rfl) (by rfl) ?_))
  clear hon
  refine (him v5 v6 _ (hS.below kb1 hS.lt) hs1 hs2 hsz.out hsz2.out).mono ?_
  rintro e w7 ⟨rfl, hb⟩
  have kb := kb1.trans (hb.mono kb1.size)
  have hX := hX1.below hb
  have hY := hY1.below hb
  have hA := hA1.below hb
  have hB := hB1.below hb
  have hs := hs1.below hb
  have hs2b := hs2.below hb
  clear hb kb1 hX1 hY1 hA1 hB1 hs1 hs2
  have hAd := hA.below (bdr w7)
  have hXd := hX.below (bdr w7)
  go_wp2
  rename_i K7 hK7
  replace hK7 := (show Hid _ from hK7)
  refine wp_region_noPanic ?_
  refine wp_region_held_drew (S := (fun W => TeB W w5.heap.size 43 t v5 ∧ TeB W (w.heap.size) 33 t v ∧ Below w7.heap.size w7 W)) (by kernel_rfl) ⟨hAd, hXd, bdr w7⟩ (fun hHeld => ?_)
  refine' wpAnyH_take (i := 0) (v := .agg (teCs t v5)) rfl (by kernel_rfl) (by kernel_rfl) (by kernel_rfl) (fun _ _ _ h => h) (Or.inl ⟨by rfl, ?hl4⟩) hHeld ?hq4
  case hl4 => (intro W hSw; exact run_load_te hSw.1 _ _ _ rfl rfl)
  (try simp only [Act.put, List.setIfInBounds_toArray, List.set_cons_zero, List.set_cons_succ, List.getElem_toArray, List.getElem_cons_zero])
  refine' wpAnyH_take (i := 1) (v := .agg (teCs t v)) rfl (by kernel_rfl) (by kernel_rfl) (by kernel_rfl) (fun _ _ _ h => h) (Or.inl ⟨by rfl, ?hl5⟩) hHeld ?hq5
  case hl5 => (intro W hSw; exact run_load_tl hSw.2.1 _ _ _ rfl rfl)
  (try simp only [Act.put, List.setIfInBounds_toArray, List.set_cons_zero, List.set_cons_succ, List.getElem_toArray, List.getElem_cons_zero, List.getElem_cons_succ])
  refine wpAnyH_ready (rs := [2]) (by kernel_rfl) (by simp) (AllReadyH.cons rfl (fun K hK => ?_) AllReadyH.nil)
  go_simp
  refine (hto _ (h.below (kb.trans ((bdr w7).mono kb.size))) hsz.out).mono ?_
  rintro e wa ⟨va, rfl, hoa, hba⟩
  have hba2 := (bdr w7).trans hba
  have hAa := hAd.below hba
  have hXa := hXd.below hba
  go_wp2_with fail
  refine hK.out _ _ ⟨hAa, hXa, hba2⟩ (fun hHeld => ?_)
  clear hK K
  (try simp only [Act.put, List.setIfInBounds_toArray, List.set_cons_zero, List.set_cons_succ, List.getElem_toArray, List.getElem_cons_zero, List.getElem_cons_succ])
  refine wpAnyH_ready (rs := [3]) (by kernel_rfl) (by simp) (AllReadyH.cons rfl (fun K hK => ?_) AllReadyH.nil)
  go_simp
  refine (heq v5 va _ (hs.below hba2) hoa.sl hsz.out).mono ?_
  rintro e wb ⟨rfl, hbb⟩
  have hkb := hba2.trans (hbb.mono hba2.size)
  have hAb := hAa.below hbb
  have hXb := hXa.below hbb
  go_wp2_with fail
  refine hK.out _ _ ⟨hAb, hXb, hkb⟩ (fun hHeld => ?_)
  clear hK K
  (try simp only [Act.put, List.setIfInBounds_toArray, List.set_cons_zero, List.set_cons_succ, List.getElem_toArray, List.getElem_cons_zero, List.getElem_cons_succ])
  refine' wpAnyH_take (i := 4) (v := _) rfl (by kernel_rfl) (by kernel_rfl) (by kernel_rfl) (fun _ _ _ h => h) (Or.inl ⟨by rfl, ?hl6⟩) hHeld ?hq6
  case hl6 => (intro w hSw; (try dsimp only at hSw); go_simp; (try with_reducible rfl))
  (try simp only [Act.put, List.setIfInBounds_toArray, List.set_cons_zero, List.set_cons_succ, List.getElem_toArray, List.getElem_cons_zero, List.getElem_cons_succ])
  refine wpAnyH_done (by kernel_rfl) ?_ _
  refine NoPanic.normal ?_
  refine hK7.out _ _ ?_
  replace kb := kb.trans (hkb.mono kb.size)
  replace hY := hY.below hkb
  replace hB := hB.below hkb
  replace hs2b := hs2b.below hkb
  clear hAa hXa hAb hXb hAd hXd hA hX hba hba2 hbb hkb hoa hs hHeld hK7
  obtain ⟨w8, hw8⟩ : ∃ w8, w8 = wb := ⟨_, rfl⟩
  subst hw8
  have hAd := hB.below (bdr w8)
  have hXd := hY.below (bdr w8)
  go_wp2
  rename_i K7 hK7
  replace hK7 := (show Hid _ from hK7)
  refine wp_region_noPanic ?_
  refine wp_region_held_drew (S := (fun W => TeB W w6.heap.size 43 u v6 ∧ TeB W (w.heap.size + 1) 33 u x ∧ Below w8.heap.size w8 W)) (by kernel_rfl) ⟨hAd, hXd, bdr w8⟩ (fun hHeld => ?_)
  refine' wpAnyH_take (i := 0) (v := .agg (teCs u v6)) rfl (by kernel_rfl) (by kernel_rfl) (by kernel_rfl) (fun _ _ _ h => h) (Or.inl ⟨by rfl, ?hl7⟩) hHeld ?hq7
  case hl7 => (intro W hSw; exact run_load_te hSw.1 _ _ _ rfl rfl)
  (try simp only [Act.put, List.setIfInBounds_toArray, List.set_cons_zero, List.set_cons_succ, List.getElem_toArray, List.getElem_cons_zero])
  refine' wpAnyH_take (i := 1) (v := .agg (teCs u x)) rfl (by kernel_rfl) (by kernel_rfl) (by kernel_rfl) (fun _ _ _ h => h) (Or.inl ⟨by rfl, ?hl8⟩) hHeld ?hq8
  case hl8 => (intro W hSw; exact run_load_tl hSw.2.1 _ _ _ rfl rfl)
  (try simp only [Act.put, List.setIfInBounds_toArray, List.set_cons_zero, List.set_cons_succ, List.getElem_toArray, List.getElem_cons_zero, List.getElem_cons_succ])
  refine wpAnyH_ready (rs := [2]) (by kernel_rfl) (by simp) (AllReadyH.cons rfl (fun K hK => ?_) AllReadyH.nil)
  go_simp
  refine (hto2 _ (h2.below (kb.trans ((bdr w8).mono kb.size))) hsz2.out).mono ?_
  rintro e wa ⟨va, rfl, hoa, hba⟩
  have hba2 := (bdr w8).trans hba
  have hAa := hAd.below hba
  have hXa := hXd.below hba
  go_wp2_with fail
  refine hK.out _ _ ⟨hAa, hXa, hba2⟩ (fun hHeld => ?_)
  clear hK K
  (try simp only [Act.put, List.setIfInBounds_toArray, List.set_cons_zero, List.set_cons_succ, List.getElem_toArray, List.getElem_cons_zero, List.getElem_cons_succ])
  refine wpAnyH_ready (rs := [3]) (by kernel_rfl) (by simp) (AllReadyH.cons rfl (fun K hK => ?_) AllReadyH.nil)
  go_simp
  refine (heq2 v6 va _ (hs2b.below hba2) hoa.sl hsz2.out).mono ?_
  rintro e wb ⟨rfl, hbb⟩
  have hkb := hba2.trans (hbb.mono hba2.size)
  have hAb := hAa.below hbb
  have hXb := hXa.below hbb
  go_wp2_with fail
  refine hK.out _ _ ⟨hAb, hXb, hkb⟩ (fun hHeld => ?_)
  clear hK K
  (try simp only [Act.put, List.setIfInBounds_toArray, List.set_cons_zero, List.set_cons_succ, List.getElem_toArray, List.getElem_cons_zero, List.getElem_cons_succ])
  refine' wpAnyH_take (i := 4) (v := _) rfl (by kernel_rfl) (by kernel_rfl) (by kernel_rfl) (fun _ _ _ h => h) (Or.inl ⟨by rfl, ?hl9⟩) hHeld ?hq9
  case hl9 => (intro w hSw; (try dsimp only at hSw); go_simp; (try with_reducible rfl))
  (try simp only [Act.put, List.setIfInBounds_toArray, List.set_cons_zero, List.set_cons_succ, List.getElem_toArray, List.getElem_cons_zero, List.getElem_cons_succ])
  refine wpAnyH_done (by kernel_rfl) ?_ _
  refine NoPanic.normal ?_
  refine hK7.out _ _ ?_
  clear hAa hXa hAb hXb hAd hXd hB hY
  go_wp2
  go_ret
  exact ⟨rfl, kb.trans (hkb.mono kb.size)⟩
end Go.Proofs.YtlmnhlfklbgjdaaDoor
