/- The walk of the exact law of Step. -/
import Derived.Test.YtkcekacnebhcgaaDoorP3
import Derived.Deep.RegionHeld3
namespace Go.Proofs.YtkcekacnebhcgaaDoor
open Go.ChangeShapes Go.WideShapes Go.ChangeAt Go.RowKit
set_option maxHeartbeats 8000000 in
set_option maxRecDepth 20000 in
theorem walk_FnExactStep (w : World) (hS : SpansAt w) (p : Pa) (pv tv : Value) (hp : SlN w pv p.params) (ht : SlN w tv p.text) (hpl : p.params.length ≤ maxLen) (htl : p.text.length ≤ maxLen) (r : Int) (_hr : (Lit.int .i64 r).wf = true) :
    Calls Tryd.prog 4 #[paV p pv tv, .int .i64 r] w fun e w' => e = .returned (.bool true) ∧ Below w.heap.size w w' := by
  have hz := fun W h1 h2 => szParser_any p pv tv 1048576 W h1 h2 hpl htl (by decide)
  have hbA := bal' w (Obj.cells #[.int .i64 p.state, pv, .int .i64 p.mark, tv] 40)
  have hGA := PaC.new w p.state p.mark pv tv 40
  have hpA := hp.below hbA
  have htA := ht.below hbA
  obtain ⟨pa, pc, hpv⟩ := hp.shp
  obtain ⟨ta, tc, htv⟩ := ht.shp
  subst hpv; subst htv
  obtain ⟨_, ⟨c0, c1, c2, c3⟩, _⟩ := id hGA
  by_cases hL : szP p.params.length p.text.length 1048576 < 0
  · have hzv : Hid (szP p.params.length p.text.length 1048576 = -1) := szP_neg hL
    have hz2 := hz _ hpA.l.sl htA.l.sl
    unfold paV at *
    clear hz hGA hpA htA hp ht
    generalize szP p.params.length p.text.length 1048576 = z at *
    go_enter Tryd.func4, Tryd.ntmps4
    go_wp2_with fail
    refine hz2.mono ?_
    rintro e w1 ⟨rfl, hb⟩
    go_wp2
    go_ret
    exact ⟨rfl, hbA.trans (hb.mono hbA.size)⟩
  · obtain ⟨hl1, hl2⟩ := szP_fit hL
    have hz2 := hz _ hpA.l.sl htA.l.sl
    have hto := fun W h1 h2 => toParser_copy p (.slice pa p.params.length pc) (.slice ta p.text.length tc) W h1 h2 (by omega) (by omega)
    obtain ⟨T, hT⟩ : ∃ T, Hid (stepA p r = T) := ⟨_, rfl⟩
    have hBd : Bd T := hT.out ▸ stepA_bd p r
    have hsp : ∀ a b W, SlN W a p.params → SlN W b p.text → Calls Tryd.prog 11 #[paV p a b, .int .i64 r] W fun e w' => Ans W w' e T := fun a b W h1 h2 => hT.out ▸ specStep_any p a b r W h1 h2 (by omega) (by omega)
    have him : ∀ a b W, SpansAt W → SlN W a p.params → SlN W b p.text → Calls Tryd.prog 8 #[paV p a b, .int .i64 r] W fun e w' => Ans W w' e T := fun a b W hS h1 h2 => hT.out ▸ implStep_any p a b r W h1 h2 (by omega) (by omega) hS
    have heP := fun a b a2 b2 W h1 h2 h3 h4 => eqParser_same p a b a2 b2 W h1 h2 h3 h4 (by omega) (by omega)
    clear hT
    obtain ⟨⟨s2, P2, m2, t2⟩, A2⟩ := T
    obtain ⟨hB1, hB2, hB3, hB4⟩ := hBd
    unfold Ans at hsp him
    unfold paV at *
    simp only at hB1 hB2 hB3 hB4 hsp him
    have hpl : p.params.length ≤ 1048576 := hl1
    have htl : p.text.length ≤ 1048576 := hl2
    clear hz hl1 hl2
    generalize szP p.params.length p.text.length 1048576 = z at *
    go_enter Tryd.func4, Tryd.ntmps4
    go_wp2_with fail
    refine hz2.mono ?_
    rintro e w1 ⟨rfl, hb⟩
    have hb1 := hbA.trans (hb.mono hbA.size)
    have hG1 := hGA.below hb
    clear hbA hGA hpA htA hb c0 c1 c2 c3 hz2
    obtain ⟨_, ⟨c0, c1, c2, c3⟩, _⟩ := id hG1
    go_wp2_with fail
    refine (hto _ (hp.below hb1).l.sl (ht.below hb1).l.sl).mono ?_
    rintro e w2 ⟨u, v, rfl, ho, hb⟩
    have hb2 := hb1.trans (hb.mono hb1.size)
    have hG2 := hG1.below hb
    obtain ⟨ua, un, uc, hu⟩ := ho.head.shape
    obtain ⟨va, vn, vc, hv⟩ := ho.tail.head.shape
    simp only at hu hv
    subst hu; subst hv
    clear hb1 hG1 hb c0 c1 c2 c3
    go_wp2_with fail
    refine (hsp _ _ _ (SlN.of_own ho.head) (SlN.of_own ho.tail.head)).mono ?_
    rintro e w3 ⟨u6, v6, a6, rfl, ⟨X6, hX6, hO6, hL6⟩, hb⟩
    subst hX6
    have hb3 := hb2.trans (hb.mono hb2.size)
    have hG3 := hG2.below hb
    obtain ⟨u6a, u6n, u6c, hu⟩ := hL6.head.shape
    obtain ⟨v6a, v6n, v6c, hv⟩ := hL6.tail.head.shape
    obtain ⟨a6a, a6c, ha⟩ := hO6.shape
    simp only at hu hv
    subst hu; subst hv; subst ha
    have hal := bal' w3 (Obj.cells #[.int .i64 s2, .slice u6a u6n u6c, .int .i64 m2, .slice v6a v6n v6c] 26)
    have g6 := GOk.new (s := s2) (m := m2) hO6 hL6 hb.size
    have kb5 := hb3.trans (hal.mono hb3.size)
    have hG5 := hG3.below hal
    clear hb2 hG2 hb ho hb3 hG3 hal hO6 hL6 
    obtain ⟨_, ⟨c0, c1, c2, c3⟩, _⟩ := id hG5
    go_wp2_with fail
    refine (hto _ (hp.below kb5).l.sl (ht.below kb5).l.sl).mono ?_
    rintro e w4 ⟨x, y, rfl, ho, hb⟩
    clear c0 c1 c2 c3
    obtain ⟨W5, hW5⟩ : ∃ W5, W5 = w3.alloc (Obj.cells #[.int .i64 s2, .slice u6a u6n u6c, .int .i64 m2, .slice v6a v6n v6c] 26) := ⟨_, rfl⟩
    rw [← hW5] at g6 kb5 hG5 ho hb
    clear hW5
    obtain ⟨xa, xn, xc, hu⟩ := ho.head.shape
    obtain ⟨ya, yn, yc, hv⟩ := ho.tail.head.shape
    simp only at hu hv
    subst hu; subst hv
    have hal := bal' w4 (Obj.cells #[.int .i64 p.state, .slice xa xn xc, .int .i64 p.mark, .slice ya yn yc] 26)
    have g8 := GOk.new0 (s := p.state) (m := p.mark) ho hb.size
    have k6 := hb.trans (hal.mono hb.size)
    clear ho hb hal
    obtain ⟨d0, d1, d2, d3⟩ := g8.1.cells
    have hx8 := fun g h => (g8.head.lt g h).2
    have hy8 := fun g h => (g8.snd.lt g h).2
    go_wp2_with fail
    refine (him _ _ _ (hS.below (kb5.trans (k6.mono kb5.size)) hS.lt) (SlN.of_own g8.head) (SlN.of_own g8.snd)).mono ?_
    rintro e w7 ⟨u9, v9, a9, rfl, ⟨X9, hX9, hO9, hL9⟩, hb⟩
    replace hX9 := (show Hid _ from hX9)
    clear d0 d1 d2 d3
    obtain ⟨W6, hW6⟩ : ∃ W6, W6 = w4.alloc (Obj.cells #[.int .i64 p.state, .slice xa xn xc, .int .i64 p.mark, .slice ya yn yc] 26) := ⟨_, rfl⟩
    rw [← hW6] at g8 k6 hO9 hL9 hb hx8 hy8
    clear hW6
    have hb9 := k6.size
    have hXl : X9.length ≤ 2000 := by have h := congrArg List.length hX9.out; rw [List.length_map, List.length_map] at h; rw [List.length_map] at hB3; omega
    have hXb : ∀ x ∈ X9, x.a.params.length ≤ 16 ∧ x.a.text.length ≤ 40 := fun x hx => hB4 _ (by rw [← hX9.out]; exact List.mem_map_of_mem hx)
    have hsX : sumX X9 ≤ 118000 := by have := sumX_bd X9 hXb; omega
    clear hB3 hB4
    obtain ⟨u9a, u9n, u9c, hu⟩ := hL9.head.shape
    obtain ⟨v9a, v9n, v9c, hv⟩ := hL9.tail.head.shape
    obtain ⟨a9a, a9c, ha⟩ := hO9.shape
    simp only at hu hv
    subst hu; subst hv; subst ha
    have hal := bal' w7 (Obj.cells #[.int .i64 s2, .slice u9a u9n u9c, .int .i64 m2, .slice v9a v9n v9c] 26)
    have g9 := GOk.new (s := s2) (m := m2) hO9 hL9 hb.size
    have hbb := hb.trans (hal.mono hb.size)
    have k7 := k6.trans (hbb.mono k6.size)
    replace g8 := g8.below hbb
    clear hal hb hbb hO9 hL9 k6
    obtain ⟨d0, d1, d2, d3⟩ := g9.1.cells
    obtain ⟨e0, e1, e2, e3⟩ := (g6.below k7).1.cells
    go_wp2_with fail
    refine (GOk.eqP g9 (g6.below k7) (by omega) (by omega)).mono ?_
    rintro e w8 ⟨rfl, hb⟩
    have k8 := k7.trans (hb.mono k7.size)
    replace g8 := g8.below hb
    replace g9 := g9.below hb
    clear hb d0 d1 d2 d3 e0 e1 e2 e3 k7
    go_wp2_with fail
    refine (GOk.eqA g9 (g6.below k8) hX9.out (by omega) hXb).mono ?_
    rintro e w9 ⟨rfl, hb⟩
    have k9 := k8.trans (hb.mono k8.size)
    replace g8 := g8.below hb
    replace g9 := g9.below hb
    clear hb k8
    have hG9 := hG5.below k9
    have hall : ∀ W, Below w9.heap.size w9 W → W.cell? ⟨w.heap.size, 0, none⟩ = some (.int .i64 p.state) ∧ W.cell? ⟨w.heap.size, 1, none⟩ = some (.slice pa p.params.length pc) ∧ W.cell? ⟨w.heap.size, 2, none⟩ = some (.int .i64 p.mark) ∧ W.cell? ⟨w.heap.size, 3, none⟩ = some (.slice ta p.text.length tc) ∧ W.cell? ⟨w4.heap.size, 0, none⟩ = some (.int .i64 p.state) ∧ W.cell? ⟨w4.heap.size, 1, none⟩ = some (.slice xa xn xc) ∧ W.cell? ⟨w4.heap.size, 2, none⟩ = some (.int .i64 p.mark) ∧ W.cell? ⟨w4.heap.size, 3, none⟩ = some (.slice ya yn yc) ∧ Below w9.heap.size w9 W :=
      fun W h => ⟨(hG9.below h).2.1.1, (hG9.below h).2.1.2.1, (hG9.below h).2.1.2.2.1, (hG9.below h).2.1.2.2.2, (g8.below h).1.cells.1, (g8.below h).1.cells.2.1, (g8.below h).1.cells.2.2.1, (g8.below h).1.cells.2.2.2, h⟩
    have hkd := hall _ (bdr w9)
    have kw9 := kb5.trans (k9.mono kb5.size)
    go_wp2
    go_region_held3 (fun W => W.cell? ⟨w.heap.size, 0, none⟩ = some (.int .i64 p.state) ∧ W.cell? ⟨w.heap.size, 1, none⟩ = some (.slice pa p.params.length pc) ∧ W.cell? ⟨w.heap.size, 2, none⟩ = some (.int .i64 p.mark) ∧ W.cell? ⟨w.heap.size, 3, none⟩ = some (.slice ta p.text.length tc) ∧ W.cell? ⟨w4.heap.size, 0, none⟩ = some (.int .i64 p.state) ∧ W.cell? ⟨w4.heap.size, 1, none⟩ = some (.slice xa xn xc) ∧ W.cell? ⟨w4.heap.size, 2, none⟩ = some (.int .i64 p.mark) ∧ W.cell? ⟨w4.heap.size, 3, none⟩ = some (.slice ya yn yc) ∧ Below w9.heap.size w9 W) (first | with_reducible assumption)
      (first
        | (go_at_call 20; refine (hto _ (hp.below (kw9.trans ((bdr w9).mono kw9.size))).l.sl (ht.below (kw9.trans ((bdr w9).mono kw9.size))).l.sl).mono ?_; rintro e wa ⟨m1, m2, rfl, ho, hb⟩; have hka := hall _ ((bdr w9).trans (hb.mono (bdr w9).size)); have ho1 := ho.head.sl; have ho2 := ho.tail.head.sl; obtain ⟨ma, mn, mc, hu⟩ := ho.head.shape; obtain ⟨na, nn, nc, hv⟩ := ho.tail.head.shape; simp only at hu hv ho1 ho2; subst hu; subst hv)
        | (go_at_call 21; refine (heP _ _ _ _ _ (g8.below hka.2.2.2.2.2.2.2.2).head.sl (g8.below hka.2.2.2.2.2.2.2.2).snd.sl ho1 ho2).mono ?_; rintro e wb ⟨rfl, hb'⟩; have hkb := hall _ (hka.2.2.2.2.2.2.2.2.trans (hb'.mono hka.2.2.2.2.2.2.2.2.size))))
    have hbb := hkb.2.2.2.2.2.2.2.2
    have k10 := k9.trans (hbb.mono k9.size)
    replace g8 := g8.below hbb
    replace g9 := g9.below hbb
    clear hkb hka hall hkd kw9 hG9 k9 hb hb' ho ho1 ho2 hbb
    obtain ⟨d0, d1, d2, d3⟩ := g8.1.cells
    have hk := GOk.markP g8 (by omega) (by omega)
    obtain ⟨nk, hnk, hnk2⟩ : ∃ nk : Nat, Hid (1 + p.params.length + p.text.length = nk) ∧ nk ≤ 4194304 := ⟨_, rfl, by omega⟩
    rw [hnk.out] at hk
    go_wp2_with fail
    refine hk.mono ?_
    rintro e w13 ⟨rfl, g8m, hGr⟩
    have k13 := k10.trans (hGr.to_below (B := W5.heap.size) k10.size (fun g h => (g8.head.lt g h).1) (fun g h => (g8.snd.lt g h).1))
    replace g9 := g9.grv hGr hx8 hy8
    have hnk3 : ¬ ((nk : Int) < 0) := by omega
    clear hk g8 g8m hGr d0 d1 d2 d3 hnk k10 hx8 hy8
    obtain ⟨d0, d1, d2, d3⟩ := g9.1.cells
    obtain ⟨e0, e1, e2, e3⟩ := (g6.below k13).1.cells
    go_wp2_with fail
    refine (GOk.eqP g9 (g6.below k13) (by omega) (by omega)).mono ?_
    rintro e w14 ⟨rfl, hb⟩
    have k14 := k13.trans (hb.mono k13.size)
    replace g9 := g9.below hb
    clear hb d0 d1 d2 d3 e0 e1 e2 e3 k13
    go_wp2_with fail
    refine (GOk.eqA g9 (g6.below k14) hX9.out (by omega) hXb).mono ?_
    rintro e w15 ⟨rfl, hb⟩
    have k15 := k14.trans (hb.mono k14.size)
    replace g9 := g9.below hb
    clear hb k14
    obtain ⟨d0, d1, d2, d3⟩ := g9.1.cells
    have hm := GOk.markP g9 (by omega) (by omega)
    obtain ⟨n9, hn9, hn92⟩ : ∃ n9 : Nat, Hid (1 + P2.length + t2.length = n9) ∧ n9 ≤ 100 := ⟨_, rfl, by omega⟩
    rw [hn9.out] at hm
    go_wp2_with fail
    refine hm.mono ?_
    rintro e w17 ⟨rfl, g9m, hGr⟩
    have k17 := k15.trans (hGr.to_below (B := W5.heap.size) k15.size (fun g h => Nat.le_trans hb9 (g9.head.lt g h).1) (fun g h => Nat.le_trans hb9 (g9.snd.lt g h).1))
    clear hm g9 hGr d0 d1 d2 d3 k15 hnk3
    have hm := GOk.markA g9m n9 (by omega) (by omega)
    obtain ⟨n10, hn10, hn102⟩ : ∃ n10 : Nat, Hid (n9 + sumX X9 = n10) ∧ n10 ≤ 200000 := ⟨_, rfl, by omega⟩
    rw [hn10.out] at hm
    go_wp2_with fail
    refine hm.mono ?_
    rintro e w18 ⟨rfl, g9a, hbB⟩
    have k18 := k17.trans (hbB.mono hb9)
    clear hm g9m hbB k17
    have hn93 : ¬ ((n9 : Int) < 0) := by omega
    have hn103 : ¬ ((n10 : Int) < 0) := by omega
    have hh1 : ∀ W, Below w18.heap.size w18 W → Calls Tryd.prog 25 #[.agg #[.int .i64 s2, .slice u9a u9n u9c, .int .i64 m2, .slice v9a v9n v9c], .int .i64 1] W fun e w' => e = .returned (.int .i64 (n9 : Int)) ∧ Below W.heap.size W w' := fun W h => hn9.out ▸ GOk.heldP (g9a.below h) (by omega) (by omega)
    have hh2 : ∀ W, Below w18.heap.size w18 W → Calls Tryd.prog 26 #[.slice a9a X9.length a9c, .int .i64 n9] W fun e w' => e = .returned (.int .i64 (n10 : Int)) ∧ Below W.heap.size W w' := fun W h => hn10.out ▸ GOk.heldA n9 (g9a.below h) (by omega) (by omega)
    clear hn9 hn10
    obtain ⟨d0, d1, d2, d3⟩ := g9a.1.cells
    have k0 := Below.refl w18.heap.size w18
    go_wp2_with fail
    refine (hh1 _ k0).mono ?_
    rintro e w20 ⟨rfl, hb⟩
    have k20 := k0.trans (hb.mono k0.size)
    clear hb d0 d1 d2 d3 k0
    go_wp2_with fail
    refine (hh2 _ k20).mono ?_
    rintro e w23 ⟨rfl, hb⟩
    have k23 := k20.trans (hb.mono k20.size)
    clear hb k20
    have q23 := k18.trans (k23.mono k18.size)
    obtain ⟨_, ⟨c0, c1, c2, c3⟩, _⟩ := hG5.below q23
    have r23 := kb5.trans (q23.mono kb5.size)
    go_wp2_with fail
    refine (hto _ (hp.below r23).l.sl (ht.below r23).l.sl).mono ?_
    rintro e w28 ⟨x, y, rfl, ho, hb⟩
    have k28 := k23.trans (hb.mono k23.size)
    have q28 := q23.trans (hb.mono q23.size)
    have r28 := r23.trans (hb.mono r23.size)
    obtain ⟨x2a, x2n, x2c, hu⟩ := ho.head.shape
    obtain ⟨y2a, y2n, y2c, hv⟩ := ho.tail.head.shape
    simp only at hu hv
    subst hu; subst hv
    clear hb c0 c1 c2 c3 k23 q23 r23
    go_wp2_with fail
    refine (him _ _ _ (hS.below r28 hS.lt) (SlN.of_own ho.head) (SlN.of_own ho.tail.head)).mono ?_
    rintro e w29 ⟨u14, v14, a14, rfl, ⟨X14, hX14, hO14, hL14⟩, hb⟩
    replace hX14 := (show Hid _ from hX14)
    have hYl : X14.length ≤ 2000 := by have h := congrArg List.length hX14.out; rw [List.length_map, List.length_map] at h; have h2 := congrArg List.length hX9.out; rw [List.length_map, List.length_map] at h2; omega
    have hYb : ∀ x ∈ X14, x.a.params.length ≤ 16 ∧ x.a.text.length ≤ 40 := fun x hx => by
      have h1 : x.a ∈ X9.map (·.a) := by rw [hX9.out, ← hX14.out]; exact List.mem_map_of_mem hx
      obtain ⟨z, hz, hzx⟩ := List.mem_map.1 h1
      rw [← hzx]; exact hXb z hz
    obtain ⟨u14a, u14n, u14c, hu⟩ := hL14.head.shape
    obtain ⟨v14a, v14n, v14c, hv⟩ := hL14.tail.head.shape
    obtain ⟨a14a, a14c, ha⟩ := hO14.shape
    simp only at hu hv
    subst hu; subst hv; subst ha
    have hal := bal' w29 (Obj.cells #[.int .i64 s2, .slice u14a u14n u14c, .int .i64 m2, .slice v14a v14n v14c] 26)
    have g14 := GOk.new (s := s2) (m := m2) hO14 hL14 hb.size
    have hbb := hb.trans (hal.mono hb.size)
    have k29 := k28.trans (hbb.mono k28.size)
    have q29 := q28.trans (hbb.mono q28.size)
    clear hal hb hbb hO14 hL14 k28 q28 r28 ho
    obtain ⟨d0, d1, d2, d3⟩ := g14.1.cells
    obtain ⟨e0, e1, e2, e3⟩ := (g6.below q29).1.cells
    go_wp2_with fail
    refine (GOk.eqP g14 (g6.below q29) (by omega) (by omega)).mono ?_
    rintro e w30 ⟨rfl, hb⟩
    have k30 := k29.trans (hb.mono k29.size)
    have q30 := q29.trans (hb.mono q29.size)
    replace g14 := g14.below hb
    clear hb d0 d1 d2 d3 e0 e1 e2 e3 k29 q29
    go_wp2_with fail
    refine (GOk.eqA g14 (g6.below q30) hX14.out (by omega) hYb).mono ?_
    rintro e w31 ⟨rfl, hb⟩
    have k31 := k30.trans (hb.mono k30.size)
    have q31 := q30.trans (hb.mono q30.size)
    clear hb k30 q30 g14
    obtain ⟨d0, d1, d2, d3⟩ := (g9a.below k31).1.cells
    go_wp2_with fail
    refine (hh1 _ k31).mono ?_
    rintro e w32 ⟨rfl, hb⟩
    have k32 := k31.trans (hb.mono k31.size)
    have q32 := q31.trans (hb.mono q31.size)
    clear hb d0 d1 d2 d3 k31 q31
    go_wp2_with fail
    refine (hh2 _ k32).mono ?_
    rintro e w33 ⟨rfl, hb⟩
    have q33 := q32.trans (hb.mono q32.size)
    clear hb k32 q32
    go_wp2
    go_ret
    exact ⟨rfl, kb5.trans (q33.mono kb5.size)⟩
end Go.Proofs.YtkcekacnebhcgaaDoor
