/- The laws' own helpers on rows: two cells alike. The laws' own helpers on rows: two rows alike. The laws' own helpers on rows: size, copy. The laws' own helpers on rows: a row's copy. -/
import Derived.Test.YteimcepkoclpbaaDoorJRC0
import Derived.Test.YteimcepkoclpbaaDoorSEq
import Derived.Test.YteimcepkoclpbaaDoorCF
import Derived.Deep.RegionWith
import Derived.Test.YteimcepkoclpbaaDoorJSlDefs
import Derived.Test.YteimcepkoclpbaaDoorJRK0
namespace Go.Proofs.YteimcepkoclpbaaDoor
open Go.ChangeShapes Go.WideShapes Go.ChangeAt Go.RowKit

def BS (a w : World) : Prop := Below a.heap.size a w ∧ a.heap.size ≤ w.heap.size
theorem BS.out {a w : World} (h : BS a w) : Below a.heap.size a w := h.1
theorem BS.set {a w : World} (h : BS a w) (g k : Nat) (u : Value) (hg : a.heap.size ≤ g) : BS a (w.setCell ⟨g, k, none⟩ u) :=
  ⟨h.1.grown (setCell_gr w g k u) h.2 (fun k hk => by cases hk; exact hg), by simpa using h.2⟩
set_option maxHeartbeats 1000000 in
theorem eqCell_same (c : Ce) (w : World) :
    Calls Tryd.prog 64 #[ceV c, ceV c] w fun e w' => e = .returned (.bool true) ∧ Below w.heap.size w w' := by
  have heq := fun W => eqStyle_same c.st W
  have b1 := bal' w (Obj.cells #[.int .i64 c.rune, .int .i64 c.st.fore, .int .i64 c.st.back, .bool c.st.bold, .bool c.st.under, .bool c.st.turned, .int .i64 c.part] 37)
  have b2 := b1.trans ((bal' _ (Obj.cells #[.int .i64 c.rune, .int .i64 c.st.fore, .int .i64 c.st.back, .bool c.st.bold, .bool c.st.under, .bool c.st.turned, .int .i64 c.part] 37)).mono b1.size)
  have s2 := (CeF.new w c 37).below (bal' _ (Obj.cells #[.int .i64 c.rune, .int .i64 c.st.fore, .int .i64 c.st.back, .bool c.st.bold, .bool c.st.under, .bool c.st.turned, .int .i64 c.part] 37))
  have r2 := CeF.new (w.alloc (Obj.cells #[.int .i64 c.rune, .int .i64 c.st.fore, .int .i64 c.st.back, .bool c.st.bold, .bool c.st.under, .bool c.st.turned, .int .i64 c.part] 37)) c 37
  have z1 : (w.alloc (Obj.cells #[.int .i64 c.rune, .int .i64 c.st.fore, .int .i64 c.st.back, .bool c.st.bold, .bool c.st.under, .bool c.st.turned, .int .i64 c.part] 37)).heap.size = w.heap.size + 1 := by simp
  rw [z1] at r2
  unfold ceV stV at *
  go_enter Tryd.func64, Tryd.ntmps64
  go_wp2_with fail
  refine (heq _).mono ?_
  rintro e w1 ⟨rfl, hb1⟩
  have s3 := s2.below hb1
  have r3 := r2.below hb1
  have b3 := b2.trans (hb1.mono b2.size)
  clear s2 r2 b1 b2 hb1 z1 heq
  obtain ⟨_, ⟨c0, c1, c2, c3, c4, c5, c6⟩, _⟩ := s3
  obtain ⟨_, ⟨d0, d1, d2, d3, d4, d5, d6⟩, _⟩ := r3
  go_wp2
  go_ret
  exact ⟨rfl, b3⟩
end Go.Proofs.YteimcepkoclpbaaDoor
namespace Go.Proofs.YteimcepkoclpbaaDoor
open Go.ChangeShapes Go.WideShapes Go.ChangeAt Go.RowKit

set_option maxHeartbeats 1000000 in
theorem eqC_same (va vb : Value) (xs : List Ce) (w : World) (ha : SlC w va xs) (hb : SlC w vb xs) (hl : xs.length ≤ 1073741824) :
    Calls Tryd.prog 31 #[va, vb] w fun e w' => e = .returned (.bool true) ∧ Below w.heap.size w w' := by
  have heq := fun c W => eqCell_same c W
  obtain ⟨a, c, rfl, hc1, hn1, hr1⟩ := ha
  obtain ⟨a', c', rfl, hc2, hn2, hr2⟩ := hb
  rcases hr1 with h | ⟨b, off, rfl, hbb, hs1⟩
  · subst h
    go_enter Tryd.func31, Tryd.ntmps31
    go_wp2
    refine wp_loop_rounds 1 ?_
    rw [rounds_succ]
    go_wp2
    go_ret
    exact ⟨rfl, Below.refl _ _⟩
  · rcases hr2 with h | ⟨b', off', rfl, hbb', hs2⟩
    · subst h
      go_enter Tryd.func31, Tryd.ntmps31
      go_wp2
      refine wp_loop_rounds 1 ?_
      rw [rounds_succ]
      go_wp2
      go_ret
      exact ⟨rfl, Below.refl _ _⟩
    · unfold ceV at heq
      go_enter Tryd.func31, Tryd.ntmps31
      go_wp2
      go_loopw [5] (fun i wr => ∃ j : Nat, i = .int .i64 j ∧ j ≤ xs.length ∧ Below w.heap.size w wr) (fun i _ => xs.length - (intOf i).toNat)
      case atStart => exact ⟨0, rfl, Nat.zero_le _, Below.refl _ _⟩
      case round =>
        obtain ⟨j, rfl, hj, kb⟩ := hrel
        by_cases hlt : j < xs.length
        · have hji : (j : Int) < (xs.length : Int) := by omega
          have hj0 : (0 : Int) ≤ (j : Int) := by omega
          have kd : Below w.heap.size w wr.drew := kb.trans ((bdr _).mono kb.size)
          have hat1 := (hs1 j hlt).below kd hbb
          have hat2 := (hs2 j hlt).below kd hbb'
          obtain ⟨c0, c1, c2, c3, c4, c5, c6⟩ := hat1
          obtain ⟨d0, d1, d2, d3, d4, d5, d6⟩ := hat2
          clear hs1 hs2 
          go_wp2
          go_region_with (go_at_call 64; refine (heq (atC xs j) _).mono ?_; rintro e w1 ⟨rfl, hb1⟩)
          all_goals
            have kb1 := kd.trans (hb1.mono kd.size)
            clear c0 c1 c2 c3 c4 c5 c6 d0 d1 d2 d3 d4 d5 d6 kd kb hb1 heq
            go_wp2
            go_roundw
            case rel => exact ⟨j + 1, by go_num, by omega, kb1⟩
            case measure => simp [intOf]; omega
        · have hji : ¬ (j : Int) < (xs.length : Int) := by omega
          go_wp2
          go_ret
          exact ⟨rfl, kb⟩
theorem SlC.at {w : World} {a : Option Addr} {n c : Nat} {xs : List Ce} (h : SlC w (.slice a n c) xs) (j : Nat) (hj : j < xs.length) : ∃ b off, a = some ⟨b, off, none⟩ ∧ b < w.heap.size ∧ CeAt w b (off + j * 7) (atC xs j) := by
  obtain ⟨a', c', e, _, _, hr⟩ := h
  simp only [Value.slice.injEq] at e
  obtain ⟨rfl, rfl, rfl⟩ := e
  rcases hr with h | ⟨b, off, ha, hb, hi⟩
  · rw [h] at hj; simp at hj
  · exact ⟨b, off, ha, hb, hi j hj⟩
end Go.Proofs.YteimcepkoclpbaaDoor
namespace Go.Proofs.YteimcepkoclpbaaDoor
open Go.ChangeShapes Go.WideShapes Go.ChangeAt Go.RowKit

theorem szC_any (v : Value) (xs : List Ce) (left : Nat) (w : World) (hv : SlC w v xs) (hl : xs.length ≤ maxLen) (hf : left ≤ 4611686018427387904) :
    Calls Tryd.prog 29 #[v, .int .i64 left] w fun e w' => e = .returned (.int .i64 (if left < xs.length then -1 else ((left - xs.length : Nat) : Int))) ∧ w' = w := by
  unfold maxLen at hl
  obtain ⟨a, c, rfl, _⟩ := hv
  generalize xs.length = n at *
  by_cases h : left < n
  · have h2 : (left : Int) - (n : Int) < 0 := by omega
    rw [if_pos h]
    go_enter Tryd.func29, Tryd.ntmps29
    go_wp2
    go_ret
    exact ⟨rfl, rfl⟩
  · have h2 : ¬ (left : Int) - (n : Int) < 0 := by omega
    have h3 : Hid (((left - n : Nat) : Int) = (left : Int) - (n : Int)) := by show _ = _; omega
    rw [if_neg h]
    go_enter Tryd.func29, Tryd.ntmps29
    go_wp2
    go_ret
    exact ⟨by rw [h3.out]; rfl, rfl⟩
set_option maxHeartbeats 1000000 in
theorem toCell_any (c : Ce) (w : World) :
    Calls Tryd.prog 63 #[ceV c] w fun e w' => e = .returned (ceV c) ∧ Below w.heap.size w w' := by
  have hto := fun W => toStyle_any c.st W
  have b1 := bal' w (Obj.cells #[.int .i64 c.rune, .int .i64 c.st.fore, .int .i64 c.st.back, .bool c.st.bold, .bool c.st.under, .bool c.st.turned, .int .i64 c.part] 69)
  have b2 := b1.trans ((bal' _ (Obj.cells #[.int .i64 0, .int .i64 0, .int .i64 0, .bool false, .bool false, .bool false, .int .i64 0] 37)).mono b1.size)
  have b3 := b2.trans ((bal' _ (Obj.cells #[.int .i64 c.rune, .int .i64 0, .int .i64 0, .bool false, .bool false, .bool false, .int .i64 0] 37)).mono b2.size)
  have s3 := ((CeF.new w c 69).below (bal' _ (Obj.cells #[.int .i64 0, .int .i64 0, .int .i64 0, .bool false, .bool false, .bool false, .int .i64 0] 37))).below (bal' _ (Obj.cells #[.int .i64 c.rune, .int .i64 0, .int .i64 0, .bool false, .bool false, .bool false, .int .i64 0] 37))
  have r3 := (CeF.new (w.alloc (Obj.cells #[.int .i64 c.rune, .int .i64 c.st.fore, .int .i64 c.st.back, .bool c.st.bold, .bool c.st.under, .bool c.st.turned, .int .i64 c.part] 69)) Ce.zero 37).below (bal' _ (Obj.cells #[.int .i64 c.rune, .int .i64 0, .int .i64 0, .bool false, .bool false, .bool false, .int .i64 0] 37))
  have o3 := CeF.new ((w.alloc (Obj.cells #[.int .i64 c.rune, .int .i64 c.st.fore, .int .i64 c.st.back, .bool c.st.bold, .bool c.st.under, .bool c.st.turned, .int .i64 c.part] 69)).alloc (Obj.cells #[.int .i64 0, .int .i64 0, .int .i64 0, .bool false, .bool false, .bool false, .int .i64 0] 37)) ⟨c.rune, St.zero, 0⟩ 37
  have z1 : (w.alloc (Obj.cells #[.int .i64 c.rune, .int .i64 c.st.fore, .int .i64 c.st.back, .bool c.st.bold, .bool c.st.under, .bool c.st.turned, .int .i64 c.part] 69)).heap.size = w.heap.size + 1 := by simp
  have z2 : ((w.alloc (Obj.cells #[.int .i64 c.rune, .int .i64 c.st.fore, .int .i64 c.st.back, .bool c.st.bold, .bool c.st.under, .bool c.st.turned, .int .i64 c.part] 69)).alloc (Obj.cells #[.int .i64 0, .int .i64 0, .int .i64 0, .bool false, .bool false, .bool false, .int .i64 0] 37)).heap.size = w.heap.size + 1 + 1 := by simp
  rw [z1] at r3
  rw [z2] at o3
  simp only [Ce.zero, St.zero] at r3 o3
  unfold ceV stV at *
  go_enter Tryd.func63, Tryd.ntmps63
  go_wp2_with fail
  refine (hto _).mono ?_
  rintro e w1 ⟨rfl, hb1⟩
  have s4 := s3.below hb1
  have r4 := r3.below hb1
  have o4 := o3.below hb1
  have b4 := b3.trans (hb1.mono b3.size)
  clear s3 r3 o3 b1 b2 b3 hb1 z1 z2 hto
  obtain ⟨_, ⟨c0, c1, c2, c3, c4, c5, c6⟩, _⟩ := s4
  obtain ⟨_, ⟨d0, d1, d2, d3, d4, d5, d6⟩, ⟨x0, x1, x2, x3, x4, x5, x6⟩⟩ := r4
  obtain ⟨_, ⟨e0, e1, e2, e3, e4, e5, e6⟩, ⟨y0, y1, y2, y3, y4, y5, y6⟩⟩ := o4
  go_wp2
  refine bodyPost_ret (v := .agg #[.int .i64 c.rune, .int .i64 c.st.fore, .int .i64 c.st.back, .bool c.st.bold, .bool c.st.under, .bool c.st.turned, .int .i64 c.part]) (by simp [results, Tryd.results63, go_sem, setCell_ne', *]) rfl ⟨rfl, ?_⟩
  clear c0 c1 c2 c3 c4 c5 c6 d0 d1 d2 d3 d4 d5 d6 e0 e1 e2 e3 e4 e5 e6 x0 x1 x2 x3 x4 x5 x6 y0 y1 y2 y3 y4 y5 y6
  have bs : BS w w1 := ⟨b4, b4.size⟩
  refine BS.out ?_
  repeat (first | with_reducible exact bs | with_reducible refine BS.set ?_ _ _ _ (by omega))
end Go.Proofs.YteimcepkoclpbaaDoor
namespace Go.Proofs.YteimcepkoclpbaaDoor
open Go.ChangeShapes Go.WideShapes Go.ChangeAt Go.RowKit

set_option maxHeartbeats 2000000 in
theorem toCS_copy (v : Value) (xs : List Ce) (w : World) (hv : SlC w v xs) (hl : xs.length ≤ 1073741824) :
    Calls Tryd.prog 30 #[v] w fun e w' => ∃ u, e = .returned u ∧ OwnC w' w.heap.size u xs ∧ Below w.heap.size w w' := by
  have hto := fun c W => toCell_any c W
  unfold ceV at hto
  obtain ⟨a, c, rfl, hc0⟩ := id hv
  clear hc0
  go_enter Tryd.func30, Tryd.ntmps30
  go_wp2_with (refine make_oc rfl _ _ rfl xs.length rfl rfl hl ?_; intro w1 ho1 hb1)
  go_wp2
  go_loopw [4] (fun i wr => ∃ (j : Nat) (ys : List Ce), i = .int .i64 j ∧ j ≤ xs.length ∧ ys.length = xs.length ∧ (∀ t, t < j → atC ys t = atC xs t) ∧ OC w.heap.size (.slice (some ⟨w.heap.size, 0, none⟩) xs.length xs.length) ys w wr) (fun i _ => xs.length - (intOf i).toNat)
  case atStart => exact ⟨0, _, rfl, Nat.zero_le _, List.length_replicate, (fun t h => absurd h (Nat.not_lt_zero t)), ho1, hb1, hb1.size, Nat.le_refl _⟩
  case round =>
    clear ho1 hb1
    obtain ⟨j, ys, rfl, hj, hyl, hys, k⟩ := hrel
    by_cases hlt : j < xs.length
    · have hji : (j : Int) < (xs.length : Int) := by omega
      have hj0 : (0 : Int) ≤ (j : Int) := by omega
      obtain ⟨b, off, rfl, hbb, hat⟩ := (hv.below k.2.1).at j hlt
      obtain ⟨c0, c1, c2, c3, c4, c5, c6⟩ := hat
      go_wp2_with fail
      refine (hto (atC xs j) _).mono ?_
      rintro e w2 ⟨rfl, hb2⟩
      have k2 := k.below hb2
      have hp := k2.1.put hyl j hlt (atC xs j)
      have kk : OC w.heap.size (.slice (some ⟨w.heap.size, 0, none⟩) xs.length xs.length) (ys.set j (atC xs j)) w (putCe w2 w.heap.size (j * 7) (atC xs j)) := k2.own hp.1 hp.2
      have hys2 : ∀ t, t < j + 1 → atC (ys.set j (atC xs j)) t = atC xs t := by
        intro t ht
        rw [atC_set]
        by_cases e : t = j
        · subst e; rw [if_pos ⟨rfl, by omega⟩]
        · rw [if_neg (fun h => e h.1)]; exact hys t (by omega)
      have hyl2 : (ys.set j (atC xs j)).length = xs.length := by simpa using hyl
      have hat := k2.1.at hyl j hlt
      have f0 := k2.1.frozen hyl (j * 7)
      have f1 := k2.1.frozen hyl (j * 7 + 1)
      have f2 := k2.1.frozen hyl (j * 7 + 2)
      have f3 := k2.1.frozen hyl (j * 7 + 3)
      have f4 := k2.1.frozen hyl (j * 7 + 4)
      have f5 := k2.1.frozen hyl (j * 7 + 5)
      have f6 := k2.1.frozen hyl (j * 7 + 6)
      clear hp k hb2 hto hys c0 c1 c2 c3 c4 c5 c6 k2 hv hyl
      generalize ys.set j (atC xs j) = ys2 at *
      obtain ⟨c0, c1, c2, c3, c4, c5, c6⟩ := hat
      simp only [putCe] at kk
      go_wp2
      go_roundw
      case rel => exact ⟨j + 1, ys2, by go_num, by omega, hyl2, hys2, kk⟩
      case measure => simp [intOf]; omega
    · have hjn : j = xs.length := by omega
      have hji : ¬ (j : Int) < (xs.length : Int) := by omega
      have hye : ys = xs := ext_atC _ _ hyl (fun i hi => hys i (by omega))
      subst hye
      clear hys hyl hv hto
      go_wp2
      go_ret
      exact ⟨_, rfl, k.1, k.2.1⟩
end Go.Proofs.YteimcepkoclpbaaDoor
