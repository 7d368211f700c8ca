/- The laws' own helpers on lists of int64: like, marked, held. The laws' own helpers on parsers: size, copy, likeness. The laws' own helpers on a Feeder. The laws' own helpers on screens: copy. Contracts of the specification's parser: states, copies, what an escape does. The laws' own helpers on screens: marked and held. What changes within a set of blocks alone; a screen's lists, all apart. A screen's cells, each one cell. Contracts of the specification's new screens. Contracts of the program's screen at work: begun, seen, its last row and column. -/
import Derived.Test.YtlmnhlfklbgjdaaDoorP3
namespace Go.Proofs.YtlmnhlfklbgjdaaDoor
open Go.ChangeShapes Go.WideShapes Go.ChangeAt Go.RowKit
set_option maxHeartbeats 400000 in
theorem eqI_same (va vb : Value) (xs : List Int) (w : World) (ha : SlI w va xs) (hb : SlI w vb xs) (hl : xs.length ≤ 1073741824) :
    Calls Tryd.prog 31 #[va, vb] w fun e w' => e = .returned (.bool true) ∧ ∃ n, w' = w.drewN n := by
  by_cases h0 : xs = []
  · subst h0
    obtain ⟨a, c, rfl, _⟩ := ha
    obtain ⟨a', c', rfl, _⟩ := hb
    go_enter Tryd.func31, Tryd.ntmps31
    go_wp2
    refine wp_loop_rounds 1 ?_
    rw [rounds_succ]
    go_wp2
    go_ret
    exact ⟨rfl, 0, rfl⟩
  · obtain ⟨_, c, rfl, e | ⟨b, off, rfl, _, hca⟩⟩ := ha
    · exact absurd e h0
    · obtain ⟨_, c', rfl, e | ⟨b', off', rfl, _, hcb⟩⟩ := hb
      · exact absurd e h0
      · generalize hn : xs.length = n at *
        clear h0 hn
        go_enter Tryd.func31, Tryd.ntmps31
        go_wp2
        go_loopw [5] (fun i wr => ∃ k : Nat, k ≤ n ∧ i = .int .i64 k ∧ ∃ m, wr = w.drewN m) (fun i _ => n - (intOf i).toNat)
        case atStart => exact ⟨0, Nat.zero_le _, rfl, 0, rfl⟩
        case round =>
          obtain ⟨k, hk, rfl, m, rfl⟩ := hrel
          by_cases hlt : k < n
          · have h1 : w.cell? ⟨b, off + k, none⟩ = some (.int .i64 (xs.getD k 0)) := hca k hlt
            have h2 : w.cell? ⟨b', off' + k, none⟩ = some (.int .i64 (xs.getD k 0)) := hcb k hlt
            have hi : (k : Int) < (n : Int) := by omega
            generalize xs.getD k 0 = x at *
            clear hca hcb
            go_wp2
            go_quiet (fail)
            go_wp2
            go_roundw
            case rel => exact ⟨k + 1, by omega, by go_num, m + nq, by simp⟩
            case measure => simp [intOf]; omega
          · go_wp2
            go_ret
            exact ⟨rfl, m, rfl⟩

theorem grown_trans {a b c : World} {row : Option Nat} (h : a.grownBy b row) (k : b.grownBy c row) : a.grownBy c row :=
  ⟨k.os.trans h.os, k.tape.trans h.tape, k.output.trans h.output, Nat.le_trans h.size k.size, fun i hi hr => (k.block i (Nat.lt_of_lt_of_le hi h.size) hr).trans (h.block i hi hr)⟩
def marksI (k : Int) (n : Nat) : List Int := (List.range n).map fun (i : Nat) => k + (i : Int)
theorem marksI_len (k : Int) (n : Nat) : (marksI k n).length = n := by simp [marksI]
/-- Two lists' prefixes marked: what stands there while it is marked. -/
theorem marked_all (k : Int) (n : Nat) (ys : List Value) (hl : ys.length = n) (h : ∀ i, i < n → ys[i]? = some (.int .i64 (k + (i : Int)))) : ys = (marksI k n).map (Value.int .i64) := by
  apply List.ext_getElem?
  intro i
  by_cases hi : i < n
  · rw [h i hi]; simp [marksI, hi]
  · rw [List.getElem?_eq_none (by omega), List.getElem?_eq_none (by simp [marksI]; omega)]

set_option maxHeartbeats 400000 in
theorem markI_own (base : Nat) (v : Value) (k : Int) (n : Nat) (xs : List Value) (w : World) (hown : w.ownsRow base 2 1 v n xs) (hk : 0 ≤ k ∧ k ≤ 1073741824) (hl : n ≤ 1073741824) :
    Calls Tryd.prog 34 #[v, .int .i64 k] w fun e w' => e = .returned (.int .i64 (k + n)) ∧ w'.ownsRow base 2 1 v n ((marksI k n).map (Value.int .i64)) ∧ w.grownBy w' v.ownBlock := by
  have hlen := hown.1
  rcases hown.2 with ⟨rfl, rfl⟩ | ⟨g, cap, cur, rfl, hb, hg, _⟩
  · go_enter Tryd.func34, Tryd.ntmps34
    go_wp2
    refine wp_loop_rounds 1 ?_
    rw [rounds_succ]
    go_wp2
    go_ret
    exact ⟨by simp, World.ownsRow_nil _ _ _ _, World.grownBy.refl _ _⟩
  · clear hg
    go_enter Tryd.func34, Tryd.ntmps34
    go_wp2
    go_loopw [1, 5] (fun q i wr => ∃ (j : Nat) (ys : List Value), j ≤ n ∧ i = .int .i64 j ∧ q = .int .i64 (k + (j : Int)) ∧ wr.ownsRow base 2 1 (.slice (some ⟨g, 0, none⟩) n cap) n ys ∧ ys.length = n ∧ (∀ t, t < j → ys[t]? = some (.int .i64 (k + (t : Int)))) ∧ w.grownBy wr (some g)) (fun _ i _ => n - (intOf i).toNat)
    case atStart => exact ⟨0, xs, Nat.zero_le _, rfl, by simp, hown, by simpa using hlen, by simp, World.grownBy.refl _ _⟩
    case round =>
      obtain ⟨j, ys, hj, rfl, rfl, ho, hyl, hys, hgr⟩ := hrel
      by_cases hlt : j < n
      · have h1 : ∃ u, wr.cell? ⟨g, j, none⟩ = some u := by
          rw [ho.cellAt j (by omega)]; exact ⟨_, List.getElem?_eq_getElem (by omega)⟩
        obtain ⟨u, h1⟩ := h1
        have h2 := ho.frozenAt j
        have hst := ho.stored j (.int .i64 (k + (j : Int)))
        obtain ⟨hst1, hst2⟩ := hst
        clear ho
        go_wp2
        go_roundw
        case rel =>
          refine ⟨j + 1, ys.set j (.int .i64 (k + (j : Int))), by omega, by go_num, by go_num, hst1, by simpa using hyl, ?_, grown_trans hgr hst2⟩
          intro t ht
          by_cases e : t = j
          · subst e; simp [hyl, hlt]
          · rw [List.getElem?_set_ne (by omega)]; exact hys t (by omega)
        case measure => simp [intOf]; omega
      · have hjn : j = n := by omega
        subst hjn
        go_wp2
        go_ret
        exact ⟨rfl, by rw [← marked_all k j ys hyl hys]; exact ho, hgr⟩

end Go.Proofs.YtlmnhlfklbgjdaaDoor
namespace Go.Proofs.YtlmnhlfklbgjdaaDoor
open Go.ChangeShapes Go.WideShapes Go.ChangeAt Go.RowKit
set_option maxRecDepth 20000 in
theorem szI_any (v : Value) (xs : List Int) (left : Nat) (w : World) (hv : SlI w v xs) (hl : xs.length ≤ maxLen) (hf : left ≤ 4611686018427387904) :
    Calls Tryd.prog 17 #[v, .int .i64 left] w fun e w' => e = .returned (.int .i64 (if left < xs.length then -1 else ((left - xs.length : Nat) : Int))) ∧ w' = w := by
  unfold maxLen at hl
  obtain ⟨a, c, rfl⟩ := hv.shp
  clear hv
  generalize xs.length = n at *
  by_cases h : left < n
  · have h2 : (left : Int) - (n : Int) < 0 := by omega
    rw [if_pos h]
    go_enter Tryd.func17, Tryd.ntmps17
    go_wp2
    go_ret
    exact ⟨rfl, rfl⟩
  · have h2 : ¬ (left : Int) - (n : Int) < 0 := by omega
    have h3 : Hid (((left - n : Nat) : Int) = (left : Int) - (n : Int)) := by show _ = _; omega
    rw [if_neg h]
    go_enter Tryd.func17, Tryd.ntmps17
    go_wp2
    go_ret
    exact ⟨by rw [h3.out]; rfl, rfl⟩
def szP (n m left : Nat) : Int := if left < n then -1 else if left - n < m then -1 else ((left - n - m : Nat) : Int)
set_option maxRecDepth 20000 in
set_option maxHeartbeats 1000000 in
theorem szParser_any (p : Pa) (pv tv : Value) (left : Nat) (w : World) (hp : SlI w pv p.params) (ht : SlI w tv p.text) (hpl : p.params.length ≤ maxLen) (htl : p.text.length ≤ maxLen) (hf : left ≤ 4611686018427387904) :
    Calls Tryd.prog 18 #[paV p pv tv, .int .i64 left] w fun e w' => e = .returned (.int .i64 (szP p.params.length p.text.length left)) ∧ Below w.heap.size w w' := by
  obtain ⟨s, ps, m, ts⟩ := p
  have hb := bal' w (Obj.cells #[.int .i64 s, pv, .int .i64 m, tv] 29)
  have hP := PaC.new w s m pv tv 29
  have h1 := szI_any pv ps left _ (hp.below hb) hpl hf
  have h2 := fun l h => szI_any tv ts l _ (ht.below hb) htl h
  unfold paV at *
  simp only at *
  obtain ⟨pa, pc, hpv⟩ := hp.shp
  obtain ⟨ta, tc, htv⟩ := ht.shp
  subst hpv; subst htv
  obtain ⟨_, ⟨c0, c1, c2, c3⟩, _⟩ := id hP
  obtain ⟨rv, hrv⟩ : ∃ rv, Hid (rv = szP ps.length ts.length left) := ⟨_, rfl⟩
  rw [← hrv.out]
  by_cases q1 : left < ps.length
  · have hv : Hid (rv = -1) := by show _ = _; rw [hrv.out]; unfold szP; rw [if_pos q1]
    rw [if_pos q1] at h1
    clear h2 hp ht hP hrv
    go_enter Tryd.func18, Tryd.ntmps18
    go_wp2_with (go_at_call 17; refine h1.mono ?_; rintro e w' ⟨rfl, rfl⟩)
    go_ret
    exact ⟨by rw [hv.out]; rfl, hb⟩
  · rw [if_neg q1] at h1
    have h3 := h2 (left - ps.length) (by omega)
    have hn : ¬ (((left - ps.length : Nat) : Int) < 0) := by omega
    obtain ⟨l2, hl2⟩ : ∃ l2, Hid (l2 = left - ps.length) := ⟨_, rfl⟩
    rw [← hl2.out] at h1 h3 hn
    by_cases q2 : l2 < ts.length
    · have hv : Hid (rv = -1) := by show _ = _; rw [hrv.out]; unfold szP; rw [if_neg q1, if_pos (by rw [← hl2.out]; exact q2)]
      rw [if_pos q2] at h3
      clear h2 hp ht hP hrv hl2
      go_enter Tryd.func18, Tryd.ntmps18
      go_wp2_with fail
      refine h1.mono ?_
      rintro e w3 ⟨rfl, hw⟩
      subst hw
      clear h1
      go_wp2_with fail
      refine h3.mono ?_
      rintro e w4 ⟨rfl, hw⟩
      subst hw
      clear h3
      go_wp2
      go_ret
      exact ⟨by rw [hv.out]; rfl, hb⟩
    · obtain ⟨l3, hl3⟩ : ∃ l3, Hid (l3 = l2 - ts.length) := ⟨_, rfl⟩
      have hv : Hid (rv = (l3 : Int)) := by show _ = _; rw [hrv.out, hl3.out, hl2.out]; unfold szP; rw [if_neg q1, if_neg (by rw [← hl2.out]; exact q2)]
      rw [if_neg q2, ← hl3.out] at h3
      have hn3 : ¬ ((l3 : Int) < 0) := by omega
      clear h2 hp ht hP hrv hl2 hl3
      go_enter Tryd.func18, Tryd.ntmps18
      go_wp2_with fail
      refine h1.mono ?_
      rintro e w3 ⟨rfl, hw⟩
      subst hw
      clear h1
      go_wp2_with fail
      refine h3.mono ?_
      rintro e w4 ⟨rfl, hw⟩
      subst hw
      clear h3
      go_wp2
      go_ret
      exact ⟨by rw [hv.out]; rfl, hb⟩
theorem drewN_bel (w : World) (n : Nat) : Below w.heap.size w (w.drewN n) := by
  induction n with
  | zero => exact Below.refl _ _
  | succ n ih => exact ih.trans ((bdr _).mono ih.size)
set_option maxRecDepth 20000 in
set_option maxHeartbeats 2000000 in
theorem eqParser_same (p : Pa) (pv tv pv2 tv2 : Value) (w : World) (hp : SlI w pv p.params) (ht : SlI w tv p.text) (hp2 : SlI w pv2 p.params) (ht2 : SlI w tv2 p.text) (hpl : p.params.length ≤ 1073741824) (htl : p.text.length ≤ 1073741824) :
    Calls Tryd.prog 32 #[paV p pv tv, paV p pv2 tv2] w fun e w' => e = .returned (.bool true) ∧ Below w.heap.size w w' := by
  obtain ⟨s, ps, m, ts⟩ := p
  have hb1 := bal' w (Obj.cells #[.int .i64 s, pv, .int .i64 m, tv] 40)
  have hb2 := bal' (w.alloc (Obj.cells #[.int .i64 s, pv, .int .i64 m, tv] 40)) (Obj.cells #[.int .i64 s, pv2, .int .i64 m, tv2] 40)
  have hbb := hb1.trans (hb2.mono hb1.size)
  have hP := (PaC.new w s m pv tv 40).below hb2
  have hR := PaC.new (w.alloc (Obj.cells #[.int .i64 s, pv, .int .i64 m, tv] 40)) s m pv2 tv2 40
  rw [show (w.alloc (Obj.cells #[.int .i64 s, pv, .int .i64 m, tv] 40)).heap.size = w.heap.size + 1 by simp] at hR
  have e1 := eqI_same pv pv2 ps _ (hp.below hbb) (hp2.below hbb) hpl
  have e2 := fun W h1 h2 => eqI_same tv tv2 ts W h1 h2 htl
  have ht3 := ht.below hbb
  have ht4 := ht2.below hbb
  unfold paV at *
  simp only at *
  obtain ⟨pa, pc, hpv⟩ := hp.shp
  obtain ⟨ta, tc, htv⟩ := ht.shp
  obtain ⟨pa2, pc2, hpv2⟩ := hp2.shp
  obtain ⟨ta2, tc2, htv2⟩ := ht2.shp
  subst hpv; subst htv; subst hpv2; subst htv2
  obtain ⟨_, ⟨c0, c1, c2, c3⟩, _⟩ := id hP
  obtain ⟨_, ⟨d0, d1, d2, d3⟩, _⟩ := id hR
  clear hp ht hp2 ht2 hb1 hb2
  go_enter Tryd.func32, Tryd.ntmps32
  go_wp2_with fail
  refine e1.mono ?_
  rintro e w3 ⟨rfl, n, hw⟩
  have hbn : Below _ _ w3 := hw ▸ drewN_bel _ n
  have hP3 := hP.below hbn
  have hR3 := hR.below hbn
  have e3 := e2 w3 (ht3.below hbn) (ht4.below hbn)
  have hb3 := hbb.trans (hbn.mono hbb.size)
  clear hw hbn hP hR e1 e2 ht3 ht4 hbb c0 c1 c2 c3 d0 d1 d2 d3
  obtain ⟨_, ⟨c0, c1, c2, c3⟩, _⟩ := hP3
  obtain ⟨_, ⟨d0, d1, d2, d3⟩, _⟩ := hR3
  go_wp2_with fail
  refine e3.mono ?_
  rintro e w4 ⟨rfl, n2, hw⟩
  have hbn : Below w3.heap.size w3 w4 := hw ▸ drewN_bel _ n2
  have hb4 := hb3.trans (hbn.mono hb3.size)
  clear hw hbn e3 hb3 c0 c1 c2 c3 d0 d1 d2 d3
  go_wp2
  go_ret
  exact ⟨rfl, hb4⟩
set_option maxHeartbeats 4000000 in
set_option maxRecDepth 20000 in
theorem toParser_copy (p : Pa) (pv tv : Value) (w : World) (hp : SlI w pv p.params) (ht : SlI w tv p.text) (hpl : p.params.length ≤ 1073741824) (htl : p.text.length ≤ 1073741824) :
    Calls Tryd.prog 25 #[paV p pv tv] w fun e w' => ∃ pv' tv', e = .returned (paV p pv' tv') ∧ LiOk w' w.heap.size [(pv', p.params), (tv', p.text)] ∧ Below w.heap.size w w' := by
  obtain ⟨s, ps, m, ts⟩ := p
  have hto1 := fun W h => toI_copy pv ps W h hpl
  have hto2 := fun W h => toI_copy tv ts W h htl
  unfold paV at *
  simp only at *
  obtain ⟨pa, pc, hpv⟩ := hp.shp
  obtain ⟨ta, tc, htv⟩ := ht.shp
  subst hpv; subst htv
  have hb0 := bal' w (Obj.cells #[.int .i64 s, .slice pa ps.length pc, .int .i64 m, .slice ta ts.length tc] 29)
  have hA := PaC.new w s m (.slice pa ps.length pc) (.slice ta ts.length tc) 29
  have z0 : (w.alloc (Obj.cells #[.int .i64 s, .slice pa ps.length pc, .int .i64 m, .slice ta ts.length tc] 29)).heap.size = w.heap.size + 1 := by simp
  have hp1 := hp.below hb0
  have ht1 := ht.below hb0
  generalize hw1 : w.alloc (Obj.cells #[.int .i64 s, .slice pa ps.length pc, .int .i64 m, .slice ta ts.length tc] 29) = w1 at *
  have hb1 := bal' w1 (Obj.cells #[.int .i64 0, .slice none 0 0, .int .i64 0, .slice none 0 0] 40)
  have hb2 := bal' (w1.alloc (Obj.cells #[.int .i64 0, .slice none 0 0, .int .i64 0, .slice none 0 0] 40)) (Obj.cells #[.int .i64 s, .slice none 0 0, .int .i64 0, .slice none 0 0] 40)
  have hbb := hb1.trans (hb2.mono hb1.size)
  have hR := (PbB.new w1 0 0 (.slice none 0 0) (.slice none 0 0)).below hb2
  have hO := PbB.new (w1.alloc (Obj.cells #[.int .i64 0, .slice none 0 0, .int .i64 0, .slice none 0 0] 40)) s 0 (.slice none 0 0) (.slice none 0 0)
  rw [show (w1.alloc (Obj.cells #[.int .i64 0, .slice none 0 0, .int .i64 0, .slice none 0 0] 40)).heap.size = w.heap.size + 2 by simp [z0]] at hO
  rw [z0] at hR
  have hA2 := hA.below hbb
  have hp2 := hp1.below hbb
  have ht2 := ht1.below hbb
  have z3 : ((w1.alloc (Obj.cells #[.int .i64 0, .slice none 0 0, .int .i64 0, .slice none 0 0] 40)).alloc (Obj.cells #[.int .i64 s, .slice none 0 0, .int .i64 0, .slice none 0 0] 40)).heap.size = w.heap.size + 3 := by simp [z0]
  have hbw := hb0.trans (hbb.mono hb0.size)
  obtain ⟨_, ⟨c0, c1, c2, c3⟩, _⟩ := id hA2
  have hT := hto1 _ hp2
  subst hw1
  have htw := ht
  clear hA hp hp1 ht ht1 hb0 hb1 hb2 hto1 hp2
  go_enter Tryd.func25, Tryd.ntmps25
  go_wp2_with fail
  refine hT.mono ?_
  rintro e w4 ⟨u, rfl, hou, hb4⟩
  have hR4 := hR.below hb4
  have hO4 := hO.below hb4
  have hA4 := hA2.below hb4
  have ht4 := ht2.below hb4
  have hou : OwnI w4 (w.heap.size + 3) u ps := by rw [← z3]; exact hou
  obtain ⟨ua, un, uc, hu⟩ := hou.shape
  subst hu
  have hs4 : w.heap.size + 3 ≤ w4.heap.size := by rw [← z3]; exact hb4.size
  have hb4w := hbw.trans (hb4.mono hbw.size)
  -- the first list and the mark are stored
  have g1 := setCell_gr w4 (w.heap.size + 2) 1 (.slice ua un uc)
  have k1 : PbB (w4.setCell ⟨w.heap.size + 2, 1, none⟩ (.slice ua un uc)) (w.heap.size + 2) s (.slice ua un uc) 0 (.slice none 0 0) := hO4.set 1 _
  have g2 := setCell_gr (w4.setCell ⟨w.heap.size + 2, 1, none⟩ (.slice ua un uc)) (w.heap.size + 2) 2 (.int .i64 m)
  have k2 : PbB ((w4.setCell ⟨w.heap.size + 2, 1, none⟩ (.slice ua un uc)).setCell ⟨w.heap.size + 2, 2, none⟩ (.int .i64 m)) (w.heap.size + 2) s (.slice ua un uc) m (.slice none 0 0) := k1.set 2 _
  have gg := grown_tr g1 g2
  have hb5 : Below (w.heap.size + 2) w4 ((w4.setCell ⟨w.heap.size + 2, 1, none⟩ (.slice ua un uc)).setCell ⟨w.heap.size + 2, 2, none⟩ (.int .i64 m)) := (Below.refl _ _).grown gg (by omega) (fun k e => by cases e; exact Nat.le_refl _)
  have hou5 := hou.kept gg (.inr (fun e => by have := (hou.lt _ e).1; omega))
  have hA5 := hA4.grown gg (by simp)
  have hR5 := hR4.kept gg (by simp)
  have ht0 : SlI ((w4.setCell ⟨w.heap.size + 2, 1, none⟩ (.slice ua un uc)).setCell ⟨w.heap.size + 2, 2, none⟩ (.int .i64 m)) (.slice ta ts.length tc) ts := htw.below (hb4w.grown gg (by omega) (fun k e => by cases e; omega))
  have z5 : ((w4.setCell ⟨w.heap.size + 2, 1, none⟩ (.slice ua un uc)).setCell ⟨w.heap.size + 2, 2, none⟩ (.int .i64 m)).heap.size = w4.heap.size := by simp
  have hT2 := hto2 _ ht0
  obtain ⟨_, ⟨e0, e1, e2, e3⟩, _⟩ := id hA4
  obtain ⟨r0, r1, r2, r3⟩ := hO4.cells
  obtain ⟨y0, y1, y2, y3⟩ := hO4.frozen
  have hb5w := hb4w.grown gg (by omega) (fun k e => by cases e; omega)
  clear hT hb4 hR hO hA2 c0 c1 c2 c3 ht2 ht4 hbb hR4 hO4 hA4 hou k1 g1 g2 gg hb5 ht0 htw hto2 hb4w
  obtain ⟨W5, hW5⟩ : ∃ W5, W5 = (w4.setCell ⟨w.heap.size + 2, 1, none⟩ (.slice ua un uc)).setCell ⟨w.heap.size + 2, 2, none⟩ (.int .i64 m) := ⟨_, rfl⟩
  rw [← hW5] at k2 hou5 hA5 hR5 z5 hb5w
  have hW6 := (show Hid _ from hW5)
  clear hW5
  go_wp2_with fail
  refine hT2.mono ?_
  rintro e w6 ⟨t, rfl, hot, hb6⟩
  rw [← hW6.out] at hot hb6
  clear hT2 e0 e1 e2 e3 r0 r1 r2 r3 y0 y1 y2 y3 hW6
  have k6 := k2.below hb6
  have hR6 := hR5.below hb6
  have hou6 := hou5.below hb6
  have hot : OwnI w6 w4.heap.size t ts := by rw [← z5]; exact hot
  obtain ⟨sa, sn, sc, hu⟩ := hot.shape
  subst hu
  have g7 := setCell_gr w6 (w.heap.size + 2) 3 (.slice sa sn sc)
  have k7 : PbB (w6.setCell ⟨w.heap.size + 2, 3, none⟩ (.slice sa sn sc)) (w.heap.size + 2) s (.slice ua un uc) m (.slice sa sn sc) := k6.set 3 _
  have hR7 := hR6.kept g7 (by simp)
  have hL6 : LiOk w6 w.heap.size [(.slice ua un uc, ps), (.slice sa sn sc, ts)] :=
    ((show LiOk W5 w.heap.size [(.slice ua un uc, ps)] from ⟨fun p hp => by rw [List.mem_singleton] at hp; subst hp; exact hou5.low (by omega), List.pairwise_singleton _ _⟩).new hb6 (hot.low (by omega)) (fun g e => by rw [z5]; exact (hot.lt g e).1)).perm (List.Perm.swap _ _ _)
  have hne : ∀ p ∈ [((.slice ua un uc : Value), ps), (.slice sa sn sc, ts)], ∀ k, p.1.ownBlock = some k → w.heap.size + 3 ≤ k := fun p hp k e => by
    simp only [List.mem_cons, List.mem_nil_iff, or_false] at hp
    rcases hp with rfl | rfl
    · exact (hou6.lt k e).1
    · have := (hot.lt k e).1; omega
  have hb6w := hb5w.trans (hb6.mono hb5w.size)
  have hs6 : w4.heap.size ≤ w6.heap.size := by rw [← z5]; exact hb6.size
  have hb7 := hb6w.grown g7 (by omega) (fun k e => by cases e; omega)
  have hL7 := hL6.kept g7 (fun p hp => .inr fun e => by have := hne p hp _ e; omega)
  have g8 := putP_grown (w6.setCell ⟨w.heap.size + 2, 3, none⟩ (.slice sa sn sc)) (w.heap.size + 1) s (.slice ua un uc) m (.slice sa sn sc)
  have hF := (hR7.put s m (.slice ua un uc) (.slice sa sn sc)).cells
  have hL8 := hL7.kept g8 (fun p hp => .inr fun e => by have := hne p hp _ e; omega)
  have hb8 := hb7.grown g8 (by simp; omega) (fun k e => by cases e; omega)
  obtain ⟨e0, e1, e2, e3⟩ := k6.cells
  obtain ⟨y0, y1, y2, y3⟩ := k6.frozen
  obtain ⟨r0, r1, r2, r3⟩ := hR7.cells
  obtain ⟨q0, q1, q2, q3⟩ := hR7.frozen
  obtain ⟨f0, f1, f2, f3⟩ := hF
  obtain ⟨j0, j1, j2, j3⟩ := k7.cells
  simp only [putP] at f0 f1 f2 f3 hL8 hb8
  have hfin := (show Hid _ from And.intro hL8 hb8)
  clear hL8 hb8 hL7 hb7 hL6 hne hb6w hs6 g7 g8 k6 k7 hR6 hR7 hou6 hot hb6 hou5 k2 hA5 hR5 hb5w z5
  go_wp2
  exact bodyPost_ret (v := .agg #[.int .i64 s, .slice ua un uc, .int .i64 m, .slice sa sn sc]) (by simp [results, Tryd.results25, go_sem, f0, f1, f2, f3]) rfl ⟨_, _, rfl, hfin.out⟩
end Go.Proofs.YtlmnhlfklbgjdaaDoor
namespace Go.Proofs.YtlmnhlfklbgjdaaDoor
open Go.ChangeShapes Go.WideShapes Go.ChangeAt Go.RowKit
theorem szFeeder_any (h : ByteArray) (n : Int) (w : World) (hs : h.size ≤ maxLen) (hn : 0 ≤ n ∧ n ≤ 1048576) :
    Calls Tryd.prog 19 #[.agg #[.string h], .int .i64 n] w fun e w' => e = .returned (.int .i64 (if n - (h.size : Int) < 0 then -1 else n - (h.size : Int))) ∧ Below w.heap.size w w' := by
  unfold maxLen at hs
  by_cases hl : n - (h.size : Int) < 0
  · rw [if_pos hl]
    go_enter Tryd.func19, Tryd.ntmps19
    go_wp2
    go_ret
    exact ⟨rfl, (Below.refl _ _).alloc (Nat.le_refl _) _⟩
  · rw [if_neg hl]
    go_enter Tryd.func19, Tryd.ntmps19
    go_wp2
    go_ret
    exact ⟨rfl, (Below.refl _ _).alloc (Nat.le_refl _) _⟩

theorem toFeeder_any (h : ByteArray) (w : World) :
    Calls Tryd.prog 26 #[.agg #[.string h]] w fun e w' => e = .returned (.agg #[.string h]) ∧ Below w.heap.size w w' := by
  go_enter Tryd.func26, Tryd.ntmps26
  go_wp2
  refine bodyPost_ret (v := .agg #[.string h]) (by simp [results, Tryd.results26, go_sem]) rfl ⟨rfl, ?_⟩
  exact (((Below.refl _ _).alloc (Nat.le_refl _) _).alloc (by simp) _).alloc (by simp; omega) _
end Go.Proofs.YtlmnhlfklbgjdaaDoor
namespace Go.Proofs.YtlmnhlfklbgjdaaDoor
open Go.ChangeShapes Go.WideShapes Go.ChangeAt Go.RowKit
/-- A screen's block by its cells. -/
def TB (w : World) (B : Nat) (cs : List Value) : Prop := BlkC w B 43 cs
theorem TB.lt {w : World} {B : Nat} {cs : List Value} (h : TB w B cs) : B < w.heap.size := (Array.getElem?_eq_some_iff.1 h).1
theorem inf_i : (Tryd.prog.info? 2).map (·.size) = some 1 := by kernel_rfl
theorem inf_b : (Tryd.prog.info? 4).map (·.size) = some 1 := by kernel_rfl
theorem inf_g : (Tryd.prog.info? 37).map (·.size) = some 2 := by kernel_rfl
theorem inf_s : (Tryd.prog.info? 39).map (·.size) = some 5 := by kernel_rfl
theorem inf_l : (Tryd.prog.info? 27).map (·.size) = some 1 := by kernel_rfl
theorem inf_p : (Tryd.prog.info? 40).map (·.size) = some 4 := by kernel_rfl
theorem inf_f : (Tryd.prog.info? 41).map (·.size) = some 1 := by kernel_rfl
theorem TB.kept {w w' : World} {B : Nat} {cs : List Value} {row : Option Nat} (h : TB w B cs) (hg : w.grownBy w' row) (hne : row ≠ some B) : TB w' B cs := by
  unfold TB BlkC
  rw [hg.block B h.lt (Ne.symm hne)]
  exact h
theorem TB.below {w w' : World} {B : Nat} {cs : List Value} (h : TB w B cs) (hb : Below w.heap.size w w') : TB w' B cs := h.kept (gbl hb none) (by simp)
theorem TB.new (w : World) (cs : List Value) : TB (w.alloc (.cells cs.toArray 43)) w.heap.size cs := heap_alloc_new w _
theorem LiOk.join {w : World} {b c : Nat} {L M : List (Value × List Int)} (h : LiOk w b L) (hl : ∀ p ∈ L, ∀ g, p.1.ownBlock = some g → g < c) (k : LiOk w c M) (hbc : b ≤ c) : LiOk w b (L ++ M) :=
  ⟨fun p hp => (List.mem_append.1 hp).elim (h.1 p) (fun hm => (k.1 p hm).low hbc), List.pairwise_append.2 ⟨h.2, k.2, fun p hp q hq g e1 e2 => by have := hl p hp g e1; have := ((k.1 q hq).lt g e2).1; omega⟩⟩
theorem OwnR.low {w : World} {lo lo' hi : Nat} {v : Value} {rows : List (List Ce)} (h : OwnR w lo hi v rows) (hb : lo' ≤ lo) : OwnR w lo' hi v rows := ⟨h.1.low hb, h.2.1, h.2.2⟩
/-- A screen's memory, all of one call's own: grids in ranges of their own. -/
def OwnT (w : World) (base : Nat) (t : Te) (v : Tv) : Prop := ∃ b1 b2 b3, OwnR w base b1 v.g t.g ∧ OwnR w b1 b2 v.o t.o ∧ LiOk w b3 [(v.ti, t.ti), (v.pp, t.pa.params), (v.pt, t.pa.text)] ∧ base ≤ b1 ∧ b1 ≤ b2 ∧ b2 ≤ b3 ∧ b3 ≤ w.heap.size
theorem OwnT.below {w w' : World} {base : Nat} {t : Te} {v : Tv} (h : OwnT w base t v) (hb : Below w.heap.size w w') : OwnT w' base t v := by
  obtain ⟨b1, b2, b3, h1, h2, h3, h4, h5, h6, h7⟩ := h
  exact ⟨b1, b2, b3, h1.below hb, h2.below hb, h3.below hb, h4, h5, h6, Nat.le_trans h7 hb.size⟩
theorem OwnT.sl {w : World} {base : Nat} {t : Te} {v : Tv} (h : OwnT w base t v) : SlT w t v := by
  obtain ⟨b1, b2, b3, h1, h2, h3, _⟩ := h
  exact ⟨h1.sl, h2.sl, SlN.of_own h3.head, SlN.of_own h3.tail.head, SlN.of_own h3.tail.tail.head⟩
theorem OwnR.grown {w w' : World} {lo hi B : Nat} {v : Value} {rows : List (List Ce)} (h : OwnR w lo hi v rows) (hg : w.grownBy w' (some B)) (hB : B < lo) : OwnR w' lo hi v rows :=
  ⟨h.1.kept hg (fun g e => by cases e; exact hB), h.2.1, Nat.le_trans h.2.2 hg.size⟩
set_option maxHeartbeats 16000000 in
set_option maxRecDepth 40000 in
theorem toTerm_copy (t : Te) (v : Tv) (w : World) (h : SlT w t v) (hz : SzT 1048576 t) :
    Calls Tryd.prog 7 #[teV t v] w fun e w' => ∃ v', e = .returned (teV t v') ∧ OwnT w' w.heap.size t v' ∧ Below w.heap.size w w' := by
  obtain ⟨vg, vo, vti, vpp, vpt⟩ := v
  obtain ⟨hg, ho, hti, hpp, hpt⟩ := h
  simp only at hg ho hti hpp hpt
  obtain ⟨z1, z2, z3, z4, z5, z6, z7⟩ := hz
  have cG := fun W hW => toGrid_copy t.gc vg t.g W hW (by omega) (fun i hi => by have := z2 i hi; omega)
  have cO := fun W hW => toGrid_copy t.oc vo t.o W hW (by omega) (fun i hi => by have := z4 i hi; omega)
  have cS := fun W => toStyle_any t.st W
  have cSs := fun W => toStyle_any t.ss W
  have cT := fun W hW => toI_copy vti t.ti W hW (by omega)
  have cP := fun W h1 h2 => toParser_copy t.pa vpp vpt W h1 h2 (by omega) (by omega)
  have cF := fun W => toFeeder_any t.fe W
  have hb0 := bal' w (Obj.cells (teCs t ⟨vg, vo, vti, vpp, vpt⟩) 33)
  have hX0 := TeB.new w 33 t ⟨vg, vo, vti, vpp, vpt⟩
  obtain ⟨ga, gp, hq1⟩ := slG_shp hg
  obtain ⟨oa, op, hq2⟩ := slG_shp ho
  obtain ⟨tia, tip, hq3⟩ := hti.shp
  obtain ⟨ppa, ppp, hq4⟩ := hpp.shp
  obtain ⟨pta, ptp, hq5⟩ := hpt.shp
  subst hq1; subst hq2; subst hq3; subst hq4; subst hq5
  obtain ⟨w1, hw1⟩ : ∃ w1, w1 = w.alloc (Obj.cells (teCs t ⟨.slice ga t.g.length gp, .slice oa t.o.length op, .slice tia t.ti.length tip, .slice ppa t.pa.params.length ppp, .slice pta t.pa.text.length ptp⟩) 33) := ⟨_, rfl⟩
  rw [← hw1] at hX0 hb0
  have zs1 : w1.heap.size = w.heap.size + 1 := by rw [hw1]; simp
  obtain ⟨w2, hw2⟩ : ∃ w2, w2 = (w1.alloc (Obj.cells #[.int .i64 0, .slice none 0 0, .int .i64 0, .slice none 0 0, .int .i64 0, .int .i64 0, .int .i64 0, .int .i64 0, .bool false, .bool false, .bool false, .int .i64 0, .int .i64 0, .bool false, .bool false, .bool false, .bool false, .int .i64 0, .int .i64 0, .int .i64 0, .int .i64 0, .bool false, .bool false, .bool false, .slice none 0 0, .int .i64 0, .slice none 0 0, .int .i64 0, .slice none 0 0, .string ⟨#[]⟩] 43)).alloc (Obj.cells #[.int .i64 0, .slice none 0 0, .int .i64 0, .slice none 0 0, .int .i64 0, .int .i64 0, .int .i64 0, .int .i64 0, .bool false, .bool false, .bool false, .int .i64 0, .int .i64 0, .bool false, .bool false, .bool false, .bool false, .int .i64 0, .int .i64 0, .int .i64 0, .int .i64 0, .bool false, .bool false, .bool false, .slice none 0 0, .int .i64 0, .slice none 0 0, .int .i64 0, .slice none 0 0, .string ⟨#[]⟩] 43) := ⟨_, rfl⟩
  have hb1 := bal' w1 (Obj.cells #[.int .i64 0, .slice none 0 0, .int .i64 0, .slice none 0 0, .int .i64 0, .int .i64 0, .int .i64 0, .int .i64 0, .bool false, .bool false, .bool false, .int .i64 0, .int .i64 0, .bool false, .bool false, .bool false, .bool false, .int .i64 0, .int .i64 0, .int .i64 0, .int .i64 0, .bool false, .bool false, .bool false, .slice none 0 0, .int .i64 0, .slice none 0 0, .int .i64 0, .slice none 0 0, .string ⟨#[]⟩] 43)
  have hb2 := bal' (w1.alloc (Obj.cells #[.int .i64 0, .slice none 0 0, .int .i64 0, .slice none 0 0, .int .i64 0, .int .i64 0, .int .i64 0, .int .i64 0, .bool false, .bool false, .bool false, .int .i64 0, .int .i64 0, .bool false, .bool false, .bool false, .bool false, .int .i64 0, .int .i64 0, .int .i64 0, .int .i64 0, .bool false, .bool false, .bool false, .slice none 0 0, .int .i64 0, .slice none 0 0, .int .i64 0, .slice none 0 0, .string ⟨#[]⟩] 43)) (Obj.cells #[.int .i64 0, .slice none 0 0, .int .i64 0, .slice none 0 0, .int .i64 0, .int .i64 0, .int .i64 0, .int .i64 0, .bool false, .bool false, .bool false, .int .i64 0, .int .i64 0, .bool false, .bool false, .bool false, .bool false, .int .i64 0, .int .i64 0, .int .i64 0, .int .i64 0, .bool false, .bool false, .bool false, .slice none 0 0, .int .i64 0, .slice none 0 0, .int .i64 0, .slice none 0 0, .string ⟨#[]⟩] 43)
  have hR0 := (TB.new w1 [.int .i64 0, .slice none 0 0, .int .i64 0, .slice none 0 0, .int .i64 0, .int .i64 0, .int .i64 0, .int .i64 0, .bool false, .bool false, .bool false, .int .i64 0, .int .i64 0, .bool false, .bool false, .bool false, .bool false, .int .i64 0, .int .i64 0, .int .i64 0, .int .i64 0, .bool false, .bool false, .bool false, .slice none 0 0, .int .i64 0, .slice none 0 0, .int .i64 0, .slice none 0 0, .string ⟨#[]⟩]).below hb2
  have hB0 := TB.new (w1.alloc (Obj.cells #[.int .i64 0, .slice none 0 0, .int .i64 0, .slice none 0 0, .int .i64 0, .int .i64 0, .int .i64 0, .int .i64 0, .bool false, .bool false, .bool false, .int .i64 0, .int .i64 0, .bool false, .bool false, .bool false, .bool false, .int .i64 0, .int .i64 0, .int .i64 0, .int .i64 0, .bool false, .bool false, .bool false, .slice none 0 0, .int .i64 0, .slice none 0 0, .int .i64 0, .slice none 0 0, .string ⟨#[]⟩] 43)) [.int .i64 0, .slice none 0 0, .int .i64 0, .slice none 0 0, .int .i64 0, .int .i64 0, .int .i64 0, .int .i64 0, .bool false, .bool false, .bool false, .int .i64 0, .int .i64 0, .bool false, .bool false, .bool false, .bool false, .int .i64 0, .int .i64 0, .int .i64 0, .int .i64 0, .bool false, .bool false, .bool false, .slice none 0 0, .int .i64 0, .slice none 0 0, .int .i64 0, .slice none 0 0, .string ⟨#[]⟩]
  have hbb := hb1.trans (hb2.mono hb1.size)
  have zs2 : w2.heap.size = w.heap.size + 3 := by rw [hw2]; simp; omega
  rw [← hw2] at hR0 hB0 hbb
  rw [zs1] at hR0
  rw [show (w1.alloc (Obj.cells #[.int .i64 0, .slice none 0 0, .int .i64 0, .slice none 0 0, .int .i64 0, .int .i64 0, .int .i64 0, .int .i64 0, .bool false, .bool false, .bool false, .int .i64 0, .int .i64 0, .bool false, .bool false, .bool false, .bool false, .int .i64 0, .int .i64 0, .int .i64 0, .int .i64 0, .bool false, .bool false, .bool false, .slice none 0 0, .int .i64 0, .slice none 0 0, .int .i64 0, .slice none 0 0, .string ⟨#[]⟩] 43)).heap.size = w.heap.size + 2 by simp; omega] at hB0
  have hX := hX0.below hbb
  have kb := hb0.trans (hbb.mono hb0.size)
  rw [hw1] at hw2
  replace hw2 := (show Hid _ from hw2)
  clear z1 z2 z3 z4 z5 z6 z7 hb0 hb1 hb2 hbb hX0 hw1 zs1
  unfold teV gridV stV paV at *
  go_enter Tryd.func7, Tryd.ntmps7
  refine wp_seq_k (fun K hK => ?_)
  have hH := (show Hid _ from hK)
  clear hK
  go_wp2
  refine hH.out _ _ ?_
  clear hH
  refine wp_seq_k (fun K hK => ?_)
  have hH := (show Hid _ from hK)
  clear hK
  go_wp2
  refine hH.out _ _ ?_
  rw [← hw2.out, show w.heap.size + 1 + 1 = w.heap.size + 2 from rfl]
  clear hH hw2
  obtain ⟨c0, c1, c2, c3, c4, c5, c6, c7, c8, c9, c10, c11, c12, c13, c14, c15, c16, c17, c18, c19, c20, c21, c22, c23, c24, c25, c26, c27, c28, c29⟩ := hX.cells
  go_wp2_with fail
  refine (cG _ (hg.below kb)).mono ?_
  rintro e w3 ⟨xg, rfl, hng, hb⟩
  clear c0 c1 c2 c3 c4 c5 c6 c7 c8 c9 c10 c11 c12 c13 c14 c15 c16 c17 c18 c19 c20 c21 c22 c23 c24 c25 c26 c27 c28 c29
  have hB := hB0.below hb
  replace hX := hX.below hb
  have hR := hR0.below hb
  have s23 : w2.heap.size ≤ w3.heap.size := hb.size
  replace kb := kb.trans (hb.mono kb.size)
  clear hB0 hR0 hb
  obtain ⟨xga, xgn, xgp, hxg⟩ := slShp (SlG.of_own hng)
  subst hxg
  have og : OwnR w3 w2.heap.size w3.heap.size (.slice xga xgn xgp) t.g := OwnR.of hng
  clear hng
  have hBl := hB
  have hac := World.grownBy.refl w3 (some (w.heap.size + 2))
  obtain ⟨z3, hz3⟩ : ∃ z, Hid (w3.heap.size = z) := ⟨_, rfl⟩
  have zc := hz3
  obtain ⟨c0, c1, c2, c3, c4, c5, c6, c7, c8, c9, c10, c11, c12, c13, c14, c15, c16, c17, c18, c19, c20, c21, c22, c23, c24, c25, c26, c27, c28, c29⟩ := hX.cells
  go_wp2_with (first | (refine store_at (by rfl) 37 _ _ (by rfl) inf_g hB (by rfl) (by rfl) (by rfl) (by rfl) (by rfl) ?_; intro W hg1 hB1 hz1; clear c0 c1 c2 c3 c4 c5 c6 c7 c8 c9 c10 c11 c12 c13 c14 c15 c16 c17 c18 c19 c20 c21 c22 c23 c24 c25 c26 c27 c28 c29; have hX1 := hX.kept hg1 (by simp); have hac1 := grown_tr hac hg1; have zc1 := (show Hid _ from hz1.trans zc.out); clear hX hB hac zc hg1 hz1; have hX := hX1; have hB := hB1; have hac := hac1; have zc := zc1; clear hX1 hB1 hac1 zc1; obtain ⟨c0, c1, c2, c3, c4, c5, c6, c7, c8, c9, c10, c11, c12, c13, c14, c15, c16, c17, c18, c19, c20, c21, c22, c23, c24, c25, c26, c27, c28, c29⟩ := hX.cells))
  clear c0 c1 c2 c3 c4 c5 c6 c7 c8 c9 c10 c11 c12 c13 c14 c15 c16 c17 c18 c19 c20 c21 c22 c23 c24 c25 c26 c27 c28 c29
  have kbc := kb.grown hac kb.size (fun g e => by cases e; omega)
  have hR := hR.kept hac (by simp)
  have og := og.grown hac (by omega)
  replace hB : TB _ (w.heap.size + 2) [.int .i64 t.gc, .slice xga xgn xgp, .int .i64 0, .slice none 0 0, .int .i64 0, .int .i64 0, .int .i64 0, .int .i64 0, .bool false, .bool false, .bool false, .int .i64 0, .int .i64 0, .bool false, .bool false, .bool false, .bool false, .int .i64 0, .int .i64 0, .int .i64 0, .int .i64 0, .bool false, .bool false, .bool false, .slice none 0 0, .int .i64 0, .slice none 0 0, .int .i64 0, .slice none 0 0, .string ⟨#[]⟩] := hB
  clear hac hBl
  refine (cO _ (ho.below kbc)).mono ?_
  rintro e w4 ⟨xo, rfl, hno, hb⟩
  replace hB := hB.below hb
  replace hX := hX.below hb
  replace hR := hR.below hb
  replace kb := kbc.trans (hb.mono kbc.size)
  have s34 : w3.heap.size ≤ w4.heap.size := by have := hb.size; rw [zc.out, ← hz3.out] at this; exact this
  replace og := og.below hb
  clear kbc hb
  rw [zc.out, ← hz3.out] at hno
  obtain ⟨xoa, xon, xop, hxo⟩ := slShp (SlG.of_own hno)
  subst hxo
  have oo : OwnR w4 w3.heap.size w4.heap.size (.slice xoa xon xop) t.o := OwnR.of hno
  clear hno
  clear zc
  have hBl := hB
  have hac := World.grownBy.refl w4 (some (w.heap.size + 2))
  obtain ⟨z4, hz4⟩ : ∃ z, Hid (w4.heap.size = z) := ⟨_, rfl⟩
  have zc := hz4
  obtain ⟨c0, c1, c2, c3, c4, c5, c6, c7, c8, c9, c10, c11, c12, c13, c14, c15, c16, c17, c18, c19, c20, c21, c22, c23, c24, c25, c26, c27, c28, c29⟩ := hX.cells
  go_wp2_with (first | (refine store_at (by rfl) 37 _ _ (by rfl) inf_g hB (by rfl) (by rfl) (by rfl) (by rfl) (by rfl) ?_; intro W hg1 hB1 hz1; clear c0 c1 c2 c3 c4 c5 c6 c7 c8 c9 c10 c11 c12 c13 c14 c15 c16 c17 c18 c19 c20 c21 c22 c23 c24 c25 c26 c27 c28 c29; have hX1 := hX.kept hg1 (by simp); have hac1 := grown_tr hac hg1; have zc1 := (show Hid _ from hz1.trans zc.out); clear hX hB hac zc hg1 hz1; have hX := hX1; have hB := hB1; have hac := hac1; have zc := zc1; clear hX1 hB1 hac1 zc1; obtain ⟨c0, c1, c2, c3, c4, c5, c6, c7, c8, c9, c10, c11, c12, c13, c14, c15, c16, c17, c18, c19, c20, c21, c22, c23, c24, c25, c26, c27, c28, c29⟩ := hX.cells) | (refine store_at (by rfl) 2 _ _ (by rfl) inf_i hB (by rfl) (by rfl) (by rfl) (by rfl) (by rfl) ?_; intro W hg1 hB1 hz1; clear c0 c1 c2 c3 c4 c5 c6 c7 c8 c9 c10 c11 c12 c13 c14 c15 c16 c17 c18 c19 c20 c21 c22 c23 c24 c25 c26 c27 c28 c29; have hX1 := hX.kept hg1 (by simp); have hac1 := grown_tr hac hg1; have zc1 := (show Hid _ from hz1.trans zc.out); clear hX hB hac zc hg1 hz1; have hX := hX1; have hB := hB1; have hac := hac1; have zc := zc1; clear hX1 hB1 hac1 zc1; obtain ⟨c0, c1, c2, c3, c4, c5, c6, c7, c8, c9, c10, c11, c12, c13, c14, c15, c16, c17, c18, c19, c20, c21, c22, c23, c24, c25, c26, c27, c28, c29⟩ := hX.cells))
  clear c0 c1 c2 c3 c4 c5 c6 c7 c8 c9 c10 c11 c12 c13 c14 c15 c16 c17 c18 c19 c20 c21 c22 c23 c24 c25 c26 c27 c28 c29
  have kbc := kb.grown hac kb.size (fun g e => by cases e; omega)
  have hR := hR.kept hac (by simp)
  have og := og.grown hac (by omega)
  have oo := oo.grown hac (by omega)
  replace hB : TB _ (w.heap.size + 2) [.int .i64 t.gc, .slice xga xgn xgp, .int .i64 t.oc, .slice xoa xon xop, .int .i64 t.row, .int .i64 t.col, .int .i64 0, .int .i64 0, .bool false, .bool false, .bool false, .int .i64 0, .int .i64 0, .bool false, .bool false, .bool false, .bool false, .int .i64 0, .int .i64 0, .int .i64 0, .int .i64 0, .bool false, .bool false, .bool false, .slice none 0 0, .int .i64 0, .slice none 0 0, .int .i64 0, .slice none 0 0, .string ⟨#[]⟩] := hB
  clear hac hBl
  refine (cS _).mono ?_
  rintro e w5 ⟨rfl, hb⟩
  replace hB := hB.below hb
  replace hX := hX.below hb
  replace hR := hR.below hb
  replace kb := kbc.trans (hb.mono kbc.size)
  have s45 : w4.heap.size ≤ w5.heap.size := by have := hb.size; rw [zc.out, ← hz4.out] at this; exact this
  replace og := og.below hb
  replace oo := oo.below hb
  clear kbc hb
  clear zc
  have hBl := hB
  have hac := World.grownBy.refl w5 (some (w.heap.size + 2))
  obtain ⟨z5, hz5⟩ : ∃ z, Hid (w5.heap.size = z) := ⟨_, rfl⟩
  have zc := hz5
  obtain ⟨c0, c1, c2, c3, c4, c5, c6, c7, c8, c9, c10, c11, c12, c13, c14, c15, c16, c17, c18, c19, c20, c21, c22, c23, c24, c25, c26, c27, c28, c29⟩ := hX.cells
  go_wp2_with (first | (refine store_at (by rfl) 39 _ _ (by rfl) inf_s hB (by rfl) (by rfl) (by rfl) (by rfl) (by rfl) ?_; intro W hg1 hB1 hz1; clear c0 c1 c2 c3 c4 c5 c6 c7 c8 c9 c10 c11 c12 c13 c14 c15 c16 c17 c18 c19 c20 c21 c22 c23 c24 c25 c26 c27 c28 c29; have hX1 := hX.kept hg1 (by simp); have hac1 := grown_tr hac hg1; have zc1 := (show Hid _ from hz1.trans zc.out); clear hX hB hac zc hg1 hz1; have hX := hX1; have hB := hB1; have hac := hac1; have zc := zc1; clear hX1 hB1 hac1 zc1; obtain ⟨c0, c1, c2, c3, c4, c5, c6, c7, c8, c9, c10, c11, c12, c13, c14, c15, c16, c17, c18, c19, c20, c21, c22, c23, c24, c25, c26, c27, c28, c29⟩ := hX.cells) | (refine store_at (by rfl) 2 _ _ (by rfl) inf_i hB (by rfl) (by rfl) (by rfl) (by rfl) (by rfl) ?_; intro W hg1 hB1 hz1; clear c0 c1 c2 c3 c4 c5 c6 c7 c8 c9 c10 c11 c12 c13 c14 c15 c16 c17 c18 c19 c20 c21 c22 c23 c24 c25 c26 c27 c28 c29; have hX1 := hX.kept hg1 (by simp); have hac1 := grown_tr hac hg1; have zc1 := (show Hid _ from hz1.trans zc.out); clear hX hB hac zc hg1 hz1; have hX := hX1; have hB := hB1; have hac := hac1; have zc := zc1; clear hX1 hB1 hac1 zc1; obtain ⟨c0, c1, c2, c3, c4, c5, c6, c7, c8, c9, c10, c11, c12, c13, c14, c15, c16, c17, c18, c19, c20, c21, c22, c23, c24, c25, c26, c27, c28, c29⟩ := hX.cells) | (refine store_at (by rfl) 4 _ _ (by rfl) inf_b hB (by rfl) (by rfl) (by rfl) (by rfl) (by rfl) ?_; intro W hg1 hB1 hz1; clear c0 c1 c2 c3 c4 c5 c6 c7 c8 c9 c10 c11 c12 c13 c14 c15 c16 c17 c18 c19 c20 c21 c22 c23 c24 c25 c26 c27 c28 c29; have hX1 := hX.kept hg1 (by simp); have hac1 := grown_tr hac hg1; have zc1 := (show Hid _ from hz1.trans zc.out); clear hX hB hac zc hg1 hz1; have hX := hX1; have hB := hB1; have hac := hac1; have zc := zc1; clear hX1 hB1 hac1 zc1; obtain ⟨c0, c1, c2, c3, c4, c5, c6, c7, c8, c9, c10, c11, c12, c13, c14, c15, c16, c17, c18, c19, c20, c21, c22, c23, c24, c25, c26, c27, c28, c29⟩ := hX.cells))
  clear c0 c1 c2 c3 c4 c5 c6 c7 c8 c9 c10 c11 c12 c13 c14 c15 c16 c17 c18 c19 c20 c21 c22 c23 c24 c25 c26 c27 c28 c29
  have kbc := kb.grown hac kb.size (fun g e => by cases e; omega)
  have hR := hR.kept hac (by simp)
  have og := og.grown hac (by omega)
  have oo := oo.grown hac (by omega)
  replace hB : TB _ (w.heap.size + 2) [.int .i64 t.gc, .slice xga xgn xgp, .int .i64 t.oc, .slice xoa xon xop, .int .i64 t.row, .int .i64 t.col, .int .i64 t.st.fore, .int .i64 t.st.back, .bool t.st.bold, .bool t.st.under, .bool t.st.turned, .int .i64 t.top, .int .i64 t.bot, .bool t.full, .bool t.wrap, .bool t.away, .bool t.hid, .int .i64 t.sr, .int .i64 t.sc, .int .i64 0, .int .i64 0, .bool false, .bool false, .bool false, .slice none 0 0, .int .i64 0, .slice none 0 0, .int .i64 0, .slice none 0 0, .string ⟨#[]⟩] := hB
  clear hac hBl
  refine (cSs _).mono ?_
  rintro e w6 ⟨rfl, hb⟩
  replace hB := hB.below hb
  replace hX := hX.below hb
  replace hR := hR.below hb
  replace kb := kbc.trans (hb.mono kbc.size)
  have s56 : w5.heap.size ≤ w6.heap.size := by have := hb.size; rw [zc.out, ← hz5.out] at this; exact this
  replace og := og.below hb
  replace oo := oo.below hb
  clear kbc hb
  clear zc
  have hBl := hB
  have hac := World.grownBy.refl w6 (some (w.heap.size + 2))
  obtain ⟨z6, hz6⟩ : ∃ z, Hid (w6.heap.size = z) := ⟨_, rfl⟩
  have zc := hz6
  obtain ⟨c0, c1, c2, c3, c4, c5, c6, c7, c8, c9, c10, c11, c12, c13, c14, c15, c16, c17, c18, c19, c20, c21, c22, c23, c24, c25, c26, c27, c28, c29⟩ := hX.cells
  go_wp2_with (first | (refine store_at (by rfl) 39 _ _ (by rfl) inf_s hB (by rfl) (by rfl) (by rfl) (by rfl) (by rfl) ?_; intro W hg1 hB1 hz1; clear c0 c1 c2 c3 c4 c5 c6 c7 c8 c9 c10 c11 c12 c13 c14 c15 c16 c17 c18 c19 c20 c21 c22 c23 c24 c25 c26 c27 c28 c29; have hX1 := hX.kept hg1 (by simp); have hac1 := grown_tr hac hg1; have zc1 := (show Hid _ from hz1.trans zc.out); clear hX hB hac zc hg1 hz1; have hX := hX1; have hB := hB1; have hac := hac1; have zc := zc1; clear hX1 hB1 hac1 zc1; obtain ⟨c0, c1, c2, c3, c4, c5, c6, c7, c8, c9, c10, c11, c12, c13, c14, c15, c16, c17, c18, c19, c20, c21, c22, c23, c24, c25, c26, c27, c28, c29⟩ := hX.cells))
  clear c0 c1 c2 c3 c4 c5 c6 c7 c8 c9 c10 c11 c12 c13 c14 c15 c16 c17 c18 c19 c20 c21 c22 c23 c24 c25 c26 c27 c28 c29
  have kbc := kb.grown hac kb.size (fun g e => by cases e; omega)
  have hR := hR.kept hac (by simp)
  have og := og.grown hac (by omega)
  have oo := oo.grown hac (by omega)
  replace hB : TB _ (w.heap.size + 2) [.int .i64 t.gc, .slice xga xgn xgp, .int .i64 t.oc, .slice xoa xon xop, .int .i64 t.row, .int .i64 t.col, .int .i64 t.st.fore, .int .i64 t.st.back, .bool t.st.bold, .bool t.st.under, .bool t.st.turned, .int .i64 t.top, .int .i64 t.bot, .bool t.full, .bool t.wrap, .bool t.away, .bool t.hid, .int .i64 t.sr, .int .i64 t.sc, .int .i64 t.ss.fore, .int .i64 t.ss.back, .bool t.ss.bold, .bool t.ss.under, .bool t.ss.turned, .slice none 0 0, .int .i64 0, .slice none 0 0, .int .i64 0, .slice none 0 0, .string ⟨#[]⟩] := hB
  clear hac hBl
  refine (cT _ (hti.below kbc).l.sl).mono ?_
  rintro e w7 ⟨xt, rfl, hnt, hb⟩
  replace hB := hB.below hb
  replace hX := hX.below hb
  replace hR := hR.below hb
  replace kb := kbc.trans (hb.mono kbc.size)
  have s67 : w6.heap.size ≤ w7.heap.size := by have := hb.size; rw [zc.out, ← hz6.out] at this; exact this
  replace og := og.below hb
  replace oo := oo.below hb
  clear kbc hb
  rw [zc.out, ← hz6.out] at hnt
  obtain ⟨xta, xtn, xtp, hxt⟩ := OwnI.shape hnt
  subst hxt
  have ol : LiOk w7 w6.heap.size [((.slice xta xtn xtp : Value), t.ti)] := ⟨fun p hp => by rw [List.mem_singleton] at hp; subst hp; exact hnt, List.pairwise_singleton _ _⟩
  clear hnt
  clear zc
  have olt : ∀ p ∈ [((.slice xta xtn xtp : Value), t.ti)], ∀ g, p.1.ownBlock = some g → g < w7.heap.size := fun p hp g e => ((ol.1 p hp).lt g e).2
  have hBl := hB
  have hac := World.grownBy.refl w7 (some (w.heap.size + 2))
  obtain ⟨z7, hz7⟩ : ∃ z, Hid (w7.heap.size = z) := ⟨_, rfl⟩
  have zc := hz7
  obtain ⟨c0, c1, c2, c3, c4, c5, c6, c7, c8, c9, c10, c11, c12, c13, c14, c15, c16, c17, c18, c19, c20, c21, c22, c23, c24, c25, c26, c27, c28, c29⟩ := hX.cells
  go_wp2_with (first | (refine store_at (by rfl) 27 _ _ (by rfl) inf_l hB (by rfl) (by rfl) (by rfl) (by rfl) (by rfl) ?_; intro W hg1 hB1 hz1; clear c0 c1 c2 c3 c4 c5 c6 c7 c8 c9 c10 c11 c12 c13 c14 c15 c16 c17 c18 c19 c20 c21 c22 c23 c24 c25 c26 c27 c28 c29; have hX1 := hX.kept hg1 (by simp); have hac1 := grown_tr hac hg1; have zc1 := (show Hid _ from hz1.trans zc.out); clear hX hB hac zc hg1 hz1; have hX := hX1; have hB := hB1; have hac := hac1; have zc := zc1; clear hX1 hB1 hac1 zc1; obtain ⟨c0, c1, c2, c3, c4, c5, c6, c7, c8, c9, c10, c11, c12, c13, c14, c15, c16, c17, c18, c19, c20, c21, c22, c23, c24, c25, c26, c27, c28, c29⟩ := hX.cells))
  clear c0 c1 c2 c3 c4 c5 c6 c7 c8 c9 c10 c11 c12 c13 c14 c15 c16 c17 c18 c19 c20 c21 c22 c23 c24 c25 c26 c27 c28 c29
  have kbc := kb.grown hac kb.size (fun g e => by cases e; omega)
  have hR := hR.kept hac (by simp)
  have og := og.grown hac (by omega)
  have oo := oo.grown hac (by omega)
  have ol := ol.kept hac (fun p hp => .inr ((ol.1 p hp).not_block hBl (by decide)))
  replace hB : TB _ (w.heap.size + 2) [.int .i64 t.gc, .slice xga xgn xgp, .int .i64 t.oc, .slice xoa xon xop, .int .i64 t.row, .int .i64 t.col, .int .i64 t.st.fore, .int .i64 t.st.back, .bool t.st.bold, .bool t.st.under, .bool t.st.turned, .int .i64 t.top, .int .i64 t.bot, .bool t.full, .bool t.wrap, .bool t.away, .bool t.hid, .int .i64 t.sr, .int .i64 t.sc, .int .i64 t.ss.fore, .int .i64 t.ss.back, .bool t.ss.bold, .bool t.ss.under, .bool t.ss.turned, .slice xta xtn xtp, .int .i64 0, .slice none 0 0, .int .i64 0, .slice none 0 0, .string ⟨#[]⟩] := hB
  clear hac hBl
  refine (cP _ (hpp.below kbc).l.sl (hpt.below kbc).l.sl).mono ?_
  rintro e w8 ⟨xp, xq, rfl, hnp, hb⟩
  replace hB := hB.below hb
  replace hX := hX.below hb
  replace hR := hR.below hb
  replace kb := kbc.trans (hb.mono kbc.size)
  have s78 : w7.heap.size ≤ w8.heap.size := by have := hb.size; rw [zc.out, ← hz7.out] at this; exact this
  replace og := og.below hb
  replace oo := oo.below hb
  replace ol := ol.below hb
  clear kbc hb
  rw [zc.out, ← hz7.out] at hnp
  obtain ⟨xpa, xpn, xpp, hxp⟩ := hnp.head.shape
  obtain ⟨xqa, xqn, xqp, hxq⟩ := hnp.tail.head.shape
  simp only at hxp hxq
  subst hxp; subst hxq
  have ol8 : LiOk w8 w6.heap.size ([((.slice xta xtn xtp : Value), t.ti)] ++ [(.slice xpa xpn xpp, t.pa.params), (.slice xqa xqn xqp, t.pa.text)]) := ol.join olt hnp s67
  clear ol hnp olt
  have ol := ol8
  clear ol8
  clear zc
  have hBl := hB
  have hac := World.grownBy.refl w8 (some (w.heap.size + 2))
  obtain ⟨z8, hz8⟩ : ∃ z, Hid (w8.heap.size = z) := ⟨_, rfl⟩
  have zc := hz8
  obtain ⟨c0, c1, c2, c3, c4, c5, c6, c7, c8, c9, c10, c11, c12, c13, c14, c15, c16, c17, c18, c19, c20, c21, c22, c23, c24, c25, c26, c27, c28, c29⟩ := hX.cells
  go_wp2_with (first | (refine store_at (by rfl) 40 _ _ (by rfl) inf_p hB (by rfl) (by rfl) (by rfl) (by rfl) (by rfl) ?_; intro W hg1 hB1 hz1; clear c0 c1 c2 c3 c4 c5 c6 c7 c8 c9 c10 c11 c12 c13 c14 c15 c16 c17 c18 c19 c20 c21 c22 c23 c24 c25 c26 c27 c28 c29; have hX1 := hX.kept hg1 (by simp); have hac1 := grown_tr hac hg1; have zc1 := (show Hid _ from hz1.trans zc.out); clear hX hB hac zc hg1 hz1; have hX := hX1; have hB := hB1; have hac := hac1; have zc := zc1; clear hX1 hB1 hac1 zc1; obtain ⟨c0, c1, c2, c3, c4, c5, c6, c7, c8, c9, c10, c11, c12, c13, c14, c15, c16, c17, c18, c19, c20, c21, c22, c23, c24, c25, c26, c27, c28, c29⟩ := hX.cells))
  clear c0 c1 c2 c3 c4 c5 c6 c7 c8 c9 c10 c11 c12 c13 c14 c15 c16 c17 c18 c19 c20 c21 c22 c23 c24 c25 c26 c27 c28 c29
  have kbc := kb.grown hac kb.size (fun g e => by cases e; omega)
  have hR := hR.kept hac (by simp)
  have og := og.grown hac (by omega)
  have oo := oo.grown hac (by omega)
  have ol := ol.kept hac (fun p hp => .inr ((ol.1 p hp).not_block hBl (by decide)))
  replace hB : TB _ (w.heap.size + 2) [.int .i64 t.gc, .slice xga xgn xgp, .int .i64 t.oc, .slice xoa xon xop, .int .i64 t.row, .int .i64 t.col, .int .i64 t.st.fore, .int .i64 t.st.back, .bool t.st.bold, .bool t.st.under, .bool t.st.turned, .int .i64 t.top, .int .i64 t.bot, .bool t.full, .bool t.wrap, .bool t.away, .bool t.hid, .int .i64 t.sr, .int .i64 t.sc, .int .i64 t.ss.fore, .int .i64 t.ss.back, .bool t.ss.bold, .bool t.ss.under, .bool t.ss.turned, .slice xta xtn xtp, .int .i64 t.pa.state, .slice xpa xpn xpp, .int .i64 t.pa.mark, .slice xqa xqn xqp, .string ⟨#[]⟩] := hB
  clear hac hBl
  refine (cF _).mono ?_
  rintro e w9 ⟨rfl, hb⟩
  replace hB := hB.below hb
  replace hX := hX.below hb
  replace hR := hR.below hb
  replace kb := kbc.trans (hb.mono kbc.size)
  have s89 : w8.heap.size ≤ w9.heap.size := by have := hb.size; rw [zc.out, ← hz8.out] at this; exact this
  replace og := og.below hb
  replace oo := oo.below hb
  replace ol := ol.below hb
  clear kbc hb
  clear zc
  have hBl := hB
  have hac := World.grownBy.refl w9 (some (w.heap.size + 2))
  obtain ⟨z9, hz9⟩ : ∃ z, Hid (w9.heap.size = z) := ⟨_, rfl⟩
  have zc := hz9
  obtain ⟨c0, c1, c2, c3, c4, c5, c6, c7, c8, c9, c10, c11, c12, c13, c14, c15, c16, c17, c18, c19, c20, c21, c22, c23, c24, c25, c26, c27, c28, c29⟩ := hX.cells
  go_wp2_with (first | (refine load_T (cs := #[.int .i64 t.gc, .slice xga xgn xgp, .int .i64 t.oc, .slice xoa xon xop, .int .i64 t.row, .int .i64 t.col, .int .i64 t.st.fore, .int .i64 t.st.back, .bool t.st.bold, .bool t.st.under, .bool t.st.turned, .int .i64 t.top, .int .i64 t.bot, .bool t.full, .bool t.wrap, .bool t.away, .bool t.hid, .int .i64 t.sr, .int .i64 t.sc, .int .i64 t.ss.fore, .int .i64 t.ss.back, .bool t.ss.bold, .bool t.ss.under, .bool t.ss.turned, .slice xta xtn xtp, .int .i64 t.pa.state, .slice xpa xpn xpp, .int .i64 t.pa.mark, .slice xqa xqn xqp, .string t.fe]) (by rfl) 43 _ (by rfl) Tryd.underlying43 rfl info_te hB (by rfl) ?_) | (refine store_T (cs := #[.int .i64 t.gc, .slice xga xgn xgp, .int .i64 t.oc, .slice xoa xon xop, .int .i64 t.row, .int .i64 t.col, .int .i64 t.st.fore, .int .i64 t.st.back, .bool t.st.bold, .bool t.st.under, .bool t.st.turned, .int .i64 t.top, .int .i64 t.bot, .bool t.full, .bool t.wrap, .bool t.away, .bool t.hid, .int .i64 t.sr, .int .i64 t.sc, .int .i64 t.ss.fore, .int .i64 t.ss.back, .bool t.ss.bold, .bool t.ss.under, .bool t.ss.turned, .slice xta xtn xtp, .int .i64 t.pa.state, .slice xpa xpn xpp, .int .i64 t.pa.mark, .slice xqa xqn xqp, .string t.fe]) (by rfl) 43 _ _ (by rfl) info_te (by rfl) (by rfl) (hR.kept hac (by simp)) (by rfl) (by rfl) ?_; intro w10 hg10 hR10 zz10) | (refine store_at (by rfl) 41 _ _ (by rfl) inf_f hB (by rfl) (by rfl) (by rfl) (by rfl) (by rfl) ?_; intro W hg1 hB1 hz1; clear c0 c1 c2 c3 c4 c5 c6 c7 c8 c9 c10 c11 c12 c13 c14 c15 c16 c17 c18 c19 c20 c21 c22 c23 c24 c25 c26 c27 c28 c29; have hX1 := hX.kept hg1 (by simp); have hac1 := grown_tr hac hg1; have zc1 := (show Hid _ from hz1.trans zc.out); clear hX hB hac zc hg1 hz1; have hX := hX1; have hB := hB1; have hac := hac1; have zc := zc1; clear hX1 hB1 hac1 zc1; obtain ⟨c0, c1, c2, c3, c4, c5, c6, c7, c8, c9, c10, c11, c12, c13, c14, c15, c16, c17, c18, c19, c20, c21, c22, c23, c24, c25, c26, c27, c28, c29⟩ := hX.cells))
  have kbc := kb.grown hac kb.size (fun g e => by cases e; omega)
  have hRR := hR.kept hac (by simp)
  have hfin : OwnT w10 w.heap.size t ⟨.slice xga xgn xgp, .slice xoa xon xop, .slice xta xtn xtp, .slice xpa xpn xpp, .slice xqa xqn xqp⟩ :=
    ⟨w3.heap.size, w4.heap.size, w6.heap.size, OwnR.low ((og.grown hac (by omega)).grown hg10 (by omega)) (by omega), (oo.grown hac (by omega)).grown hg10 (by omega), (ol.kept hac (fun p hp => .inr ((ol.1 p hp).not_block hBl (by decide)))).kept hg10 (fun p hp => .inr (((ol.kept hac (fun p hp => .inr ((ol.1 p hp).not_block hBl (by decide)))).1 p hp).not_block hRR (by decide))), by omega, by omega, by omega, by rw [zz10, zc.out, ← hz9.out]; omega⟩
  exact bodyPost_ret (v := .agg #[.int .i64 t.gc, .slice xga xgn xgp, .int .i64 t.oc, .slice xoa xon xop, .int .i64 t.row, .int .i64 t.col, .int .i64 t.st.fore, .int .i64 t.st.back, .bool t.st.bold, .bool t.st.under, .bool t.st.turned, .int .i64 t.top, .int .i64 t.bot, .bool t.full, .bool t.wrap, .bool t.away, .bool t.hid, .int .i64 t.sr, .int .i64 t.sc, .int .i64 t.ss.fore, .int .i64 t.ss.back, .bool t.ss.bold, .bool t.ss.under, .bool t.ss.turned, .slice xta xtn xtp, .int .i64 t.pa.state, .slice xpa xpn xpp, .int .i64 t.pa.mark, .slice xqa xqn xqp, .string t.fe]) (results_cell_row Tryd.results7 _ _ _ _ _ _ _ rfl hR10 Tryd.underlying43 rfl info_te) rfl ⟨_, rfl, hfin, kbc.grown hg10 kbc.size (fun g e => by cases e; omega)⟩
end Go.Proofs.YtlmnhlfklbgjdaaDoor
namespace Go.Proofs.YtlmnhlfklbgjdaaDoor
open Go.ChangeShapes Go.WideShapes Go.ChangeAt Go.RowKit
/-- Only the blocks of two values change; new ones may come. -/
def GrV (u v : Value) (w w' : World) : Prop := w'.os = w.os ∧ w'.tape = w.tape ∧ w'.output = w.output ∧ w.heap.size ≤ w'.heap.size ∧ ∀ k, k < w.heap.size → u.ownBlock ≠ some k → v.ownBlock ≠ some k → w'.heap[k]? = w.heap[k]?
theorem GrV.of_below {u v : Value} {w w' : World} (h : Below w.heap.size w w') : GrV u v w w' := ⟨h.os, h.tape, h.output, h.size, fun k hk _ _ => h.block k hk⟩
theorem GrV.trans {u v : Value} {a b c : World} (h : GrV u v a b) (k : GrV u v b c) : GrV u v a c :=
  ⟨k.1.trans h.1, k.2.1.trans h.2.1, k.2.2.1.trans h.2.2.1, Nat.le_trans h.2.2.2.1 k.2.2.2.1, fun i hi h1 h2 => (k.2.2.2.2 i (Nat.lt_of_lt_of_le hi h.2.2.2.1) h1 h2).trans (h.2.2.2.2 i hi h1 h2)⟩
/-- What was new to the first world may change. -/
theorem GrV.grown {u v : Value} {a b c : World} {row : Option Nat} (h : GrV u v a b) (k : b.grownBy c row) (hr : ∀ g, row = some g → u.ownBlock = some g ∨ v.ownBlock = some g ∨ a.heap.size ≤ g) : GrV u v a c :=
  ⟨k.os.trans h.1, k.tape.trans h.2.1, k.output.trans h.2.2.1, Nat.le_trans h.2.2.2.1 k.size, fun i hi h1 h2 => (k.block i (Nat.lt_of_lt_of_le hi h.2.2.2.1) (fun e => by
    rcases hr i e.symm with h3 | h3 | h3
    · exact h1 h3
    · exact h2 h3
    · omega)).trans (h.2.2.2.2 i hi h1 h2)⟩
theorem GrV.below {u v : Value} {a b c : World} (h : GrV u v a b) (k : Below b.heap.size b c) : GrV u v a c := h.grown (gbl k none) (fun _ e => by cases e)
theorem GrV.to_below {u v : Value} {w w' : World} {B : Nat} (h : GrV u v w w') (hB : B ≤ w.heap.size) (hu : ∀ g, u.ownBlock = some g → B ≤ g) (hv : ∀ g, v.ownBlock = some g → B ≤ g) : Below B w w' :=
  ⟨h.1, h.2.1, h.2.2.1, h.2.2.2.1, fun k hk => h.2.2.2.2 k (by omega) (fun e => by have := hu k e; omega) (fun e => by have := hv k e; omega)⟩
end Go.Proofs.YtlmnhlfklbgjdaaDoor
namespace Go.Proofs.YtlmnhlfklbgjdaaDoor
open Go.ChangeShapes Go.WideShapes Go.ChangeAt Go.RowKit
theorem TeB.gr {lo hi B : Nat} {w w' : World} {T : TypeId} {t : Te} {v : Tv} (h : TeB w B T t v) (hg : GrB lo hi w w') (hne : B < lo ∨ hi ≤ B) : TeB w' B T t v := by
  unfold TeB
  rw [hg.2.2.2.2 B h.lt hne]
  exact h
theorem TB.gr {lo hi B : Nat} {w w' : World} {cs : List Value} (h : TB w B cs) (hg : GrB lo hi w w') (hne : B < lo ∨ hi ≤ B) : TB w' B cs := by
  unfold TB BlkC
  rw [hg.2.2.2.2 B h.lt hne]
  exact h
theorem LiOk.gr {lo hi base : Nat} {w w' : World} {L : List (Value × List Int)} (h : LiOk w base L) (hg : GrB lo hi w w') (hne : hi ≤ base) : LiOk w' base L :=
  ⟨fun p hp => World.ownsRow.gr (h.1 p hp) hg (fun g e => .inr (by have := ((h.1 p hp).lt g e).1; omega)), h.2⟩
/-- A screen's lists, by their ranges. -/
def RgT (w : World) (base b1 b2 b3 : Nat) (t : Te) (v : Tv) : Prop := OwnR w base b1 v.g t.g ∧ OwnR w b1 b2 v.o t.o ∧ LiOk w b3 [(v.ti, t.ti), (v.pp, t.pa.params), (v.pt, t.pa.text)] ∧ base ≤ b1 ∧ b1 ≤ b2 ∧ b2 ≤ b3 ∧ b3 ≤ w.heap.size
theorem RgT.below {w w' : World} {base b1 b2 b3 : Nat} {t : Te} {v : Tv} (h : RgT w base b1 b2 b3 t v) (hb : Below w.heap.size w w') : RgT w' base b1 b2 b3 t v := by
  obtain ⟨h1, h2, h3, h4, h5, h6, h7⟩ := h
  exact ⟨h1.below hb, h2.below hb, h3.below hb, h4, h5, h6, Nat.le_trans h7 hb.size⟩
theorem RgT.sl {w : World} {base b1 b2 b3 : Nat} {t : Te} {v : Tv} (h : RgT w base b1 b2 b3 t v) : SlT w t v := ⟨h.1.sl, h.2.1.sl, SlN.of_own h.2.2.1.head, SlN.of_own h.2.2.1.tail.head, SlN.of_own h.2.2.1.tail.tail.head⟩
/-- How far the marks go. -/
def mkN (t : Te) : Nat := 7 * sumG t.g t.g.length + 7 * sumG t.o t.o.length + t.ti.length + t.pa.params.length + t.pa.text.length
/-- A screen marked from 1 on. -/
def mkT (t : Te) : Te := { t with
  g := marksG 1 t.g
  o := marksG (1 + 7 * sumG t.g t.g.length) t.o
  ti := marksI ((1 + 7 * sumG t.g t.g.length + 7 * sumG t.o t.o.length : Nat) : Int) t.ti.length
  pa := ⟨t.pa.state, marksI ((1 + 7 * sumG t.g t.g.length + 7 * sumG t.o t.o.length + t.ti.length : Nat) : Int) t.pa.params.length, t.pa.mark, marksI ((1 + 7 * sumG t.g t.g.length + 7 * sumG t.o t.o.length + t.ti.length + t.pa.params.length : Nat) : Int) t.pa.text.length⟩ }
end Go.Proofs.YtlmnhlfklbgjdaaDoor
namespace Go.Proofs.YtlmnhlfklbgjdaaDoor
open Go.ChangeShapes Go.WideShapes Go.ChangeAt Go.RowKit
/-- The blocks of a grid's rows. -/
def RwS (vs : List Value) (k : Nat) : Prop := ∃ i, i < vs.length ∧ (rowV vs i).ownBlock = some k
/-- The blocks of a grid's rows and of the slice of them. -/
def GrS (v : Value) (vs : List Value) (k : Nat) : Prop := v.ownBlock = some k ∨ RwS vs k
/-- Nothing changes but blocks of a set; new ones may come. -/
def GrP (S : Nat → Prop) (w w' : World) : Prop := w'.os = w.os ∧ w'.tape = w.tape ∧ w'.output = w.output ∧ w.heap.size ≤ w'.heap.size ∧ ∀ k, k < w.heap.size → ¬ S k → w'.heap[k]? = w.heap[k]?
theorem GrP.refl (S : Nat → Prop) (w : World) : GrP S w w := ⟨rfl, rfl, rfl, Nat.le_refl _, fun _ _ _ => rfl⟩
theorem GrP.trans {S : Nat → Prop} {a b c : World} (h : GrP S a b) (k : GrP S b c) : GrP S a c :=
  ⟨k.1.trans h.1, k.2.1.trans h.2.1, k.2.2.1.trans h.2.2.1, Nat.le_trans h.2.2.2.1 k.2.2.2.1, fun i hi ho => (k.2.2.2.2 i (Nat.lt_of_lt_of_le hi h.2.2.2.1) ho).trans (h.2.2.2.2 i hi ho)⟩
theorem GrP.size {S : Nat → Prop} {w w' : World} (h : GrP S w w') : w.heap.size ≤ w'.heap.size := h.2.2.2.1
theorem GrP.of_below {S : Nat → Prop} {w w' : World} (h : Below w.heap.size w w') : GrP S w w' := ⟨h.os, h.tape, h.output, h.size, fun k hk _ => h.block k hk⟩
theorem GrP.of_grown {S : Nat → Prop} {w w' : World} {row : Option Nat} (h : w.grownBy w' row) (hr : ∀ g, row = some g → S g) : GrP S w w' :=
  ⟨h.os, h.tape, h.output, h.size, fun k hk ho => h.block k hk (fun e => ho (hr k e.symm))⟩
theorem GrP.mono {S S' : Nat → Prop} {w w' : World} (h : GrP S w w') (hs : ∀ k, k < w.heap.size → S k → S' k) : GrP S' w w' :=
  ⟨h.1, h.2.1, h.2.2.1, h.2.2.2.1, fun k hk ho => h.2.2.2.2 k hk (fun c => ho (hs k hk c))⟩
theorem GrP.to_below {S : Nat → Prop} {B : Nat} {w w' : World} (h : GrP S w w') (hB : ∀ k, S k → B ≤ k) (hs : B ≤ w.heap.size) : Below B w w' :=
  ⟨h.1, h.2.1, h.2.2.1, h.2.2.2.1, fun k hk => h.2.2.2.2 k (by omega) (fun c => by have := hB k c; omega)⟩
theorem _root_.Go.World.ownsRow.grp {S : Nat → Prop} {w w' : World} {base : Nat} {e : TypeId} {size : Nat} {v : Value} {n : Nat} {xs : List Value} (h : w.ownsRow base e size v n xs) (hg : GrP S w w') (hne : ∀ g, v.ownBlock = some g → ¬ S g) : w'.ownsRow base e size v n xs := by
  refine ⟨h.1, ?_⟩
  rcases h.2 with h2 | ⟨g, cap, cur, hv, hbg, hgg, r⟩
  · exact .inl h2
  · exact .inr ⟨g, cap, cur, hv, hbg, by rw [hg.2.2.2.2 g (Array.getElem?_eq_some_iff.1 hgg).1 (hne g (by rw [hv]; rfl))]; exact hgg, r⟩
theorem OwnC.grp {S : Nat → Prop} {w w' : World} {base : Nat} {v : Value} {xs : List Ce} (h : OwnC w base v xs) (hg : GrP S w w') (hne : ∀ g, v.ownBlock = some g → ¬ S g) : OwnC w' base v xs := World.ownsRow.grp (show w.ownsRow _ _ _ _ _ _ from h) hg hne
theorem OwnI.grp {S : Nat → Prop} {w w' : World} {base : Nat} {v : Value} {xs : List Int} (h : OwnI w base v xs) (hg : GrP S w w') (hne : ∀ g, v.ownBlock = some g → ¬ S g) : OwnI w' base v xs := World.ownsRow.grp (show w.ownsRow _ _ _ _ _ _ from h) hg hne
theorem OwnV.grp {S : Nat → Prop} {w w' : World} {base B : Nat} {v : Value} {vs : List Value} {rows : List (List Ce)} (h : OwnV w base B v vs rows) (hg : GrP S w w') (hne : ∀ k, GrS v vs k → ¬ S k) : OwnV w' base B v vs rows :=
  ⟨h.1, World.ownsRow.grp h.2.1 hg (fun g e => hne g (.inl e)), fun i hi => (h.2.2.1 i hi).grp hg (fun g e => hne g (.inr ⟨i, by rw [h.1]; exact hi, e⟩)), h.2.2.2.1, h.2.2.2.2⟩
theorem LiOk.grp {S : Nat → Prop} {base : Nat} {w w' : World} {L : List (Value × List Int)} (h : LiOk w base L) (hg : GrP S w w') (hne : ∀ p ∈ L, ∀ g, p.1.ownBlock = some g → ¬ S g) : LiOk w' base L :=
  ⟨fun p hp => (h.1 p hp).grp hg (hne p hp), h.2⟩
theorem BlkC.grp {S : Nat → Prop} {w w' : World} {B : Nat} {e : TypeId} {cs : List Value} (h : BlkC w B e cs) (hg : GrP S w w') (hne : ¬ S B) : BlkC w' B e cs := by
  unfold BlkC
  rw [hg.2.2.2.2 B h.lt hne]
  exact h
/-- A row's block is a row of cells. -/
theorem OwnC.blk {w : World} {base : Nat} {v : Value} {xs : List Ce} (h : OwnC w base v xs) {g : Nat} (e : v.ownBlock = some g) : ∃ cs, w.heap[g]? = some (.cells cs 65 (0, 0)) := by
  rcases h.2 with ⟨hv, _⟩ | ⟨g', cap, cur, hv, _, hg, _⟩
  · rw [hv] at e; simp [Value.ownBlock] at e
  · rw [hv] at e
    simp only [Value.ownBlock, Option.some.injEq] at e
    subst e
    exact ⟨_, hg⟩
theorem own_blk {w : World} {base : Nat} {T : TypeId} {size : Nat} {v : Value} {n : Nat} {xs : List Value} (h : w.ownsRow base T size v n xs) {g : Nat} (e : v.ownBlock = some g) : ∃ cs, w.heap[g]? = some (.cells cs T (0, 0)) := by
  rcases h.2 with ⟨hv, _⟩ | ⟨g', cap, cur, hv, _, hg, _⟩
  · rw [hv] at e; simp [Value.ownBlock] at e
  · rw [hv] at e
    simp only [Value.ownBlock, Option.some.injEq] at e
    subst e
    exact ⟨_, hg⟩
theorem blk_ne {w : World} {g : Nat} {cs cs' : Array Value} {T T' : TypeId} (h : w.heap[g]? = some (.cells cs T (0, 0))) (h' : w.heap[g]? = some (.cells cs' T' (0, 0))) (hT : T ≠ T') : False := by
  rw [h] at h'
  simp only [Option.some.injEq, Obj.cells.injEq] at h'
  exact hT h'.2.1
/-- A grid's blocks are rows of cells, or of slices of them. -/
theorem GrS.blk {w : World} {base B : Nat} {v : Value} {vs : List Value} {rows : List (List Ce)} (h : OwnV w base B v vs rows) {k : Nat} (hk : GrS v vs k) : ∃ cs T, w.heap[k]? = some (.cells cs T (0, 0)) ∧ (T = 84 ∨ T = 65) := by
  rcases hk with e | ⟨i, hi, e⟩
  · obtain ⟨cs, hc⟩ := own_blk h.2.1 e
    exact ⟨cs, _, hc, .inl rfl⟩
  · obtain ⟨cs, hc⟩ := (h.2.2.1 i (by rw [← h.1]; exact hi)).blk e
    exact ⟨cs, _, hc, .inr rfl⟩
theorem RwS.blk {w : World} {base B : Nat} {v : Value} {vs : List Value} {rows : List (List Ce)} (h : OwnV w base B v vs rows) {k : Nat} (hk : RwS vs k) : ∃ cs, w.heap[k]? = some (.cells cs 65 (0, 0)) := by
  obtain ⟨i, hi, e⟩ := hk
  exact (h.2.2.1 i (by rw [← h.1]; exact hi)).blk e
/-- A block of another type is none of a grid's. -/
theorem grS_not {w : World} {base B : Nat} {v : Value} {vs : List Value} {rows : List (List Ce)} (h : OwnV w base B v vs rows) {k : Nat} {cs : Array Value} {T : TypeId} (hb : w.heap[k]? = some (.cells cs T (0, 0))) (h1 : T ≠ 84) (h2 : T ≠ 65) : ¬ GrS v vs k := fun c => by
  obtain ⟨cs', T', hc, hT⟩ := c.blk h
  rcases hT with rfl | rfl
  · exact blk_ne hb hc h1
  · exact blk_ne hb hc h2
theorem li_not_grS {w : World} {base base' B : Nat} {u v : Value} {vs : List Value} {rows : List (List Ce)} {xs : List Int} (h : OwnV w base B v vs rows) (hu : OwnI w base' u xs) : ∀ k, u.ownBlock = some k → ¬ GrS v vs k := fun k e => by
  obtain ⟨cs, hc⟩ := own_blk (show w.ownsRow _ _ _ _ _ _ from hu) e
  exact grS_not h hc (by decide) (by decide)
theorem GrS.bd {w : World} {base B : Nat} {v : Value} {vs : List Value} {rows : List (List Ce)} (h : OwnV w base B v vs rows) {k : Nat} (hk : GrS v vs k) : base ≤ k ∧ k < w.heap.size := by
  rcases hk with e | ⟨i, hi, e⟩
  · exact h.g.lt k e
  · exact (h.2.2.1 i (by rw [← h.1]; exact hi)).lt k e
theorem RwS.bd {w : World} {base B : Nat} {v : Value} {vs : List Value} {rows : List (List Ce)} (h : OwnV w base B v vs rows) {k : Nat} (hk : RwS vs k) : base ≤ k ∧ k < w.heap.size := GrS.bd h (.inr hk)
/-- A screen's lists, all of one call's own and all apart. -/
def OwnS (w : World) (base : Nat) (t : Te) (v : Tv) (vg vo : List Value) : Prop :=
  OwnV w base w.heap.size v.g vg t.g ∧ OwnV w base w.heap.size v.o vo t.o ∧ (∀ k, GrS v.g vg k → ¬ GrS v.o vo k) ∧ LiOk w base [(v.ti, t.ti), (v.pp, t.pa.params), (v.pt, t.pa.text)]
theorem OwnS.below {w w' : World} {base : Nat} {t : Te} {v : Tv} {vg vo : List Value} (h : OwnS w base t v vg vo) (hb : Below w.heap.size w w') : OwnS w' base t v vg vo :=
  ⟨(h.1.below hb).up hb.size, (h.2.1.below hb).up hb.size, h.2.2.1, h.2.2.2.below hb⟩
theorem OwnS.sl {w : World} {base : Nat} {t : Te} {v : Tv} {vg vo : List Value} (h : OwnS w base t v vg vo) : SlT w t v :=
  ⟨SlG.of_own h.1.g, SlG.of_own h.2.1.g, SlN.of_own h.2.2.2.head, SlN.of_own h.2.2.2.tail.head, SlN.of_own h.2.2.2.tail.tail.head⟩
theorem ownV_low {w : World} {base base' B : Nat} {v : Value} {vs : List Value} {rows : List (List Ce)} (h : OwnV w base B v vs rows) (hb : base' ≤ base) : OwnV w base' B v vs rows :=
  ⟨h.1, own_low' h.2.1 hb, fun i hi => (h.2.2.1 i hi).low hb, h.2.2.2.1, h.2.2.2.2⟩
theorem OwnS.low {w : World} {base base' : Nat} {t : Te} {v : Tv} {vg vo : List Value} (h : OwnS w base t v vg vo) (hb : base' ≤ base) : OwnS w base' t v vg vo :=
  ⟨ownV_low h.1 hb, ownV_low h.2.1 hb, h.2.2.1, h.2.2.2.low hb⟩
/-- A block of another type changes. -/
theorem OwnS.grown {w w' : World} {base B : Nat} {t : Te} {v : Tv} {vg vo : List Value} {T : TypeId} {cs : Array Value} (h : OwnS w base t v vg vo) (hg : w.grownBy w' (some B)) (hT : w.heap[B]? = some (.cells cs T (0, 0))) (h1 : T ≠ 84) (h2 : T ≠ 65) (h3 : T ≠ 2) : OwnS w' base t v vg vo := by
  have hp : GrP (fun k => k = B) w w' := GrP.of_grown hg (fun g e => by cases e; rfl)
  exact ⟨(h.1.grp hp (fun k hk e => by subst e; exact grS_not h.1 hT h1 h2 hk)).up hg.size, (h.2.1.grp hp (fun k hk e => by subst e; exact grS_not h.2.1 hT h1 h2 hk)).up hg.size, h.2.2.1,
    h.2.2.2.kept hg (fun p hp => .inr ((h.2.2.2.1 p hp).not_block hT h3))⟩
/-- Two grids in ranges of their own are apart. -/
theorem apart_ranges {w : World} {lo hi lo' hi' : Nat} {v v' : Value} {vs vs' : List Value} {rows rows' : List (List Ce)} (h : OwnV w lo hi v vs rows) (h' : OwnV w lo' hi' v' vs' rows') (hv : ∀ g, v.ownBlock = some g → g < hi) (hv' : ∀ g, v'.ownBlock = some g → g < hi') (hd : hi ≤ lo' ∨ hi' ≤ lo) : ∀ k, GrS v vs k → ¬ GrS v' vs' k := fun k hk hk' => by
  have a := GrS.bd h hk
  have b := GrS.bd h' hk'
  have a2 : k < hi := by
    rcases hk with e | ⟨i, hi, e⟩
    · exact hv k e
    · exact h.2.2.2.1 i (by rw [← h.1]; exact hi) k e
  have b2 : k < hi' := by
    rcases hk' with e | ⟨i, hi, e⟩
    · exact hv' k e
    · exact h'.2.2.2.1 i (by rw [← h'.1]; exact hi) k e
  omega
theorem RgT.own {w : World} {base b1 b2 b3 : Nat} {t : Te} {v : Tv} (h : RgT w base b1 b2 b3 t v) : ∃ vg vo, OwnS w base t v vg vo := by
  obtain ⟨⟨h1, h1v, h1s⟩, ⟨h2, h2v, h2s⟩, h3, h4, h5, h6, h7⟩ := h
  obtain ⟨vg, hg⟩ := h1.v
  obtain ⟨vo, ho⟩ := h2.v
  exact ⟨vg, vo, hg.up h1s, (ownV_low ho h4).up h2s, apart_ranges hg ho h1v h2v (.inl (Nat.le_refl _)), h3.low (by omega)⟩
end Go.Proofs.YtlmnhlfklbgjdaaDoor
namespace Go.Proofs.YtlmnhlfklbgjdaaDoor
open Go.ChangeShapes Go.WideShapes Go.ChangeAt Go.RowKit
theorem one_te (t : Te) (v : Tv) (hg : ∃ a n c, v.g = .slice a n c) (ho : ∃ a n c, v.o = .slice a n c) (hti : ∃ a n c, v.ti = .slice a n c) (hpp : ∃ a n c, v.pp = .slice a n c) (hpt : ∃ a n c, v.pt = .slice a n c) : (teCs t v).toList.all (·.oneCell') = true := by
  obtain ⟨vg, vo, vti, vpp, vpt⟩ := v
  obtain ⟨_, _, _, h1⟩ := hg
  obtain ⟨_, _, _, h2⟩ := ho
  obtain ⟨_, _, _, h3⟩ := hti
  obtain ⟨_, _, _, h4⟩ := hpp
  obtain ⟨_, _, _, h5⟩ := hpt
  simp only at h1 h2 h3 h4 h5
  subst h1; subst h2; subst h3; subst h4; subst h5
  rfl
theorem SlT.one {w : World} {t : Te} {v : Tv} (h : SlT w t v) : (teCs t v).toList.all (·.oneCell') = true := by
  obtain ⟨h1, h2, h3, h4, h5⟩ := h
  obtain ⟨_, _, e1⟩ := slG_shp h1
  obtain ⟨_, _, e2⟩ := slG_shp h2
  obtain ⟨_, _, e3⟩ := h3.shp
  obtain ⟨_, _, e4⟩ := h4.shp
  obtain ⟨_, _, e5⟩ := h5.shp
  exact one_te t v ⟨_, _, _, e1⟩ ⟨_, _, _, e2⟩ ⟨_, _, _, e3⟩ ⟨_, _, _, e4⟩ ⟨_, _, _, e5⟩
end Go.Proofs.YtlmnhlfklbgjdaaDoor
namespace Go.Proofs.YtlmnhlfklbgjdaaDoor
open Go.ChangeShapes Go.WideShapes Go.ChangeAt Go.RowKit
theorem OwnT.low {w : World} {base base' : Nat} {t : Te} {v : Tv} (h : OwnT w base t v) (hb : base' ≤ base) : OwnT w base' t v := by
  obtain ⟨b1, b2, b3, h1, h2, h3, h4, h5, h6, h7⟩ := h
  exact ⟨b1, b2, b3, OwnR.low h1 hb, h2, h3, by omega, h5, h6, h7⟩
end Go.Proofs.YtlmnhlfklbgjdaaDoor
namespace Go.Proofs.YtlmnhlfklbgjdaaDoor
open Go.ChangeShapes Go.WideShapes Go.ChangeAt Go.RowKit
/-- What stands while a screen is copied. -/
structure ScI (w0 W : World) (b1 b2 : Nat) (cs : List Value) (xg xo : Value) (G O : List (List Ce)) (L : List (Value × List Int)) : Prop where
  b : TB W w0.heap.size cs
  g : OwnR W (w0.heap.size + 1) b1 xg G
  o : OwnR W b1 b2 xo O
  l : LiOk W b2 L
  k : Below w0.heap.size w0 W
  z : w0.heap.size + 1 ≤ b1 ∧ b1 ≤ b2 ∧ b2 ≤ W.heap.size
theorem ScI.below {w0 W W' : World} {b1 b2 : Nat} {cs : List Value} {xg xo : Value} {G O : List (List Ce)} {L : List (Value × List Int)} (h : ScI w0 W b1 b2 cs xg xo G O L) (hb : Below W.heap.size W W') : ScI w0 W' b1 b2 cs xg xo G O L := by
  obtain ⟨h1, h2, h3, h4, h5, z1, z2, z3⟩ := h
  exact ⟨h1.below hb, h2.below hb, h3.below hb, h4.below hb, h5.trans (hb.mono h5.size), z1, z2, Nat.le_trans z3 hb.size⟩
theorem ScI.new {w0 W W' : World} {b1 b2 : Nat} {cs : List Value} {xg xo : Value} {G O : List (List Ce)} {L : List (Value × List Int)} (h : ScI w0 W b1 b2 cs xg xo G O L) (hb : Below W.heap.size W W') {u : Value} {xs : List Int} (ho : OwnI W' W.heap.size u xs) : ScI w0 W' b1 b2 cs xg xo G O ((u, xs) :: L) := by
  obtain ⟨h1, h2, h3, h4, h5, z1, z2, z3⟩ := h
  exact ⟨h1.below hb, h2.below hb, h3.below hb, h4.new hb (ho.low z3) (fun g e => (ho.lt g e).1), h5.trans (hb.mono h5.size), z1, z2, Nat.le_trans z3 hb.size⟩
theorem ScI.stored {w0 W W' : World} {b1 b2 : Nat} {cs cs' : List Value} {xg xo : Value} {G O : List (List Ce)} {L : List (Value × List Int)} (h : ScI w0 W b1 b2 cs xg xo G O L) (hg : W.grownBy W' (some w0.heap.size)) (hp : BlkC W' w0.heap.size 43 cs') : ScI w0 W' b1 b2 cs' xg xo G O L := by
  obtain ⟨h1, h2, h3, h4, h5, z1, z2, z3⟩ := h
  exact ⟨hp, h2.grown hg (by omega), h3.grown hg (by omega), h4.kept hg (fun p hp => .inr ((h4.1 p hp).not_block h1 (by decide))), h5.grown hg h5.size (fun g e => by cases e; omega), z1, z2, Nat.le_trans z3 hg.size⟩
end Go.Proofs.YtlmnhlfklbgjdaaDoor
