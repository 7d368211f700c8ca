/- The program's route between two lists. The program's Apart and Shared. The laws' own helpers on lists of int64: like, marked, held. The walk of the exact law of Apart. -/
import Derived.Test.YtdahcdgefflkaaaP1
import Derived.WalkMore
namespace Go.Proofs.Ytdahcdgefflkaaa
open Go.ChangeShapes Go.WideShapes Go.ChangeAt Go.RowKit
/-- The limit of the route in a block. -/
def limOf (w : World) (B : Nat) : Int := match w.cell? ⟨B, 3, none⟩ with
  | some (.int _ z) => z
  | _ => 0
theorem RtB.limIs {w : World} {B : Nat} {va vb vw : Value} {L : Int} {R : Nat → Nat → Int} (h : RtB w B va vb vw L R) : limOf w B = L := by
  unfold limOf; rw [h.cells.2.2.2]
theorem RtB.lim {w : World} {B : Nat} {va vb vw : Value} {L : Int} {R : Nat → Nat → Int} (h : RtB w B va vb vw L R) (x : Int) : RtB (w.setCell ⟨B, 3, none⟩ (.int .i64 x)) B va vb vw x R := by
  obtain ⟨cs, h1, hl, h2, h3, h4, h5, h6⟩ := h
  refine ⟨_, blk_set h1 _ _, by rw [List.length_set]; exact hl, ?_, ?_, ?_, ?_, fun i' j' hi' hj' => ?_⟩
  · rw [List.getElem?_set_ne (by omega)]; exact h2
  · rw [List.getElem?_set_ne (by omega)]; exact h3
  · rw [List.getElem?_set_ne (by omega)]; exact h4
  · rw [List.getElem?_set_self (by omega)]
  · rw [List.getElem?_set_ne (by omega)]; exact h6 i' j' hi' hj'
theorem RtB.kept {w w' : World} {B : Nat} {va vb vw : Value} {L : Int} {R : Nat → Nat → Int} {row : Option Nat} (h : RtB w B va vb vw L R) (hg : w.grownBy w' row) (hne : row ≠ some B) : RtB w' B va vb vw L R := by
  obtain ⟨cs, h1, h2⟩ := h
  exact ⟨cs, h1.kept hg hne, h2⟩
theorem row_part (cs : List Value) (R : Nat → Nat → Int) (hl : cs.length = 1685) (h6 : ∀ i j, i ≤ 40 → j ≤ 40 → cs[4 + i * 41 + j]? = some (.int .i64 (R i j))) (i : Nat) (hi : i ≤ 40) : (cs.drop (4 + i * 41)).take 41 = rowV (fun j => R i j) := by
  refine rowV_ext _ _ (by rw [List.length_take, List.length_drop]; omega) (fun j hj => ?_)
  rw [List.getElem?_take_of_lt hj, List.getElem?_drop]
  exact h6 i j hi (by omega)
theorem edC_far (L d : Int) (hL : L < 160) (h : edC L d = 160) : L < d := by
  unfold edC at h
  split at h
  · omega
  · omega
set_option maxHeartbeats 4000000 in
set_option maxRecDepth 20000 in
theorem routeOf_any (t : Bool) (va vb vw : Value) (xs ys : List Int) (w : World) (ha : SlI w va xs) (hb : SlI w vb ys) (hw : WyS w vw (waysL t)) (hx : xs.length ≤ 40) (hy : ys.length ≤ 40) :
    Calls Try.prog 36 #[va, vb, vw] w fun e w' => e = .returned (.pointer (some ⟨w.heap.size, 0, none⟩)) ∧ Below w.heap.size w w' ∧ ∃ L R, RtB w' w.heap.size va vb vw L R ∧ (0 ≤ L ∧ L < 160) ∧ (∀ i j, i ≤ xs.length → j ≤ ys.length → R i j = edC L (edD t (fun k => xs.getD k 0) (fun k => ys.getD k 0) i j)) ∧ edD t (fun k => xs.getD k 0) (fun k => ys.getD k 0) xs.length ys.length ≤ L := by
  obtain ⟨a, c, hva, _⟩ := id ha
  obtain ⟨a', c', hvb, _⟩ := id hb
  obtain ⟨V, cw, hvw, _⟩ := id hw
  subst hva; subst hvb; subst hvw
  have hdp := fun i' j' => edD_bd t (fun k => xs.getD k 0) (fun k => ys.getD k 0) i' j'
  have hrows := fun i d j => edD_rows t (fun k => xs.getD k 0) (fun k => ys.getD k 0) i d j
  have hfr := fun L (hL : 0 ≤ L ∧ L < 160) R i (hi : i ≤ xs.length) W => fillRow_any t w w.heap.size (Nat.le_refl _) (.slice a xs.length c) (.slice a' ys.length c') (.slice (some ⟨V, 0, none⟩) (waysL t).length cw) L hL R xs ys ha hb hw hx hy i hi W
  obtain ⟨D, hD⟩ : ∃ D, Hid (D = edD t (fun k => xs.getD k 0) (fun k => ys.getD k 0)) := ⟨_, rfl⟩
  rw [← hD.out] at hdp hrows hfr ⊢
  obtain ⟨Dm, hDm⟩ : ∃ Dm, Hid (D xs.length ys.length = Dm) := ⟨_, rfl⟩
  rw [hDm.out]
  have hst := fun L R W h1 => steps_any w.heap.size (.slice a xs.length c) (.slice a' ys.length c') (.slice (some ⟨V, 0, none⟩) (waysL t).length cw) L R xs ys W h1
  have haw := fun W (k : Below w.heap.size w W) => ha.below k
  have hbw := fun W (k : Below w.heap.size w W) => hb.below k
  have hwl : (waysL t).length ≤ 3 := by cases t <;> decide
  generalize (waysL t).length = nw at *
  obtain ⟨m, hm⟩ : ∃ m, Hid (m = xs.length) := ⟨_, rfl⟩
  obtain ⟨n, hn⟩ : ∃ n, Hid (n = ys.length) := ⟨_, rfl⟩
  rw [← hm.out, ← hn.out]
  rw [← hm.out] at hx hfr haw hst hDm
  rw [← hn.out] at hy hfr hbw hst hDm
  replace hdp := (show Hid _ from hdp)
  replace hrows := (show Hid _ from hrows)
  replace hfr := (show Hid _ from hfr)
  replace hst := (show Hid _ from hst)
  replace haw := (show Hid _ from haw)
  replace hbw := (show Hid _ from hbw)
  clear ha hb hw
  go_enter Try.func36, Try.ntmps36
  go_wp2
  refine wp_scope_straight ?_
  go_wp2_with (refine build3_T (by rfl) 75 0 1 2 _ _ _ (by rfl) (.slice a m c) (.slice a' n c') (.slice (some ⟨V, 0, none⟩) nw cw) _ (by rfl) (by rfl) (by rfl) (built_rt _ _ _ _ _ _ _ _ _) ?_)
  refine (allBeyond_any _).mono ?_
  rintro e w1 ⟨rfl, hb1⟩
  have kb1 := (bal' w (Obj.cells (rtC (.slice a m c) (.slice a' n c') (.slice (some ⟨V, 0, none⟩) nw cw)).toArray 75)).trans (hb1.mono (by simp))
  have hR1 := rtC_b (BlkC.below (BlkC.new w _ _) hb1)
  have hz1 : w.heap.size < w1.heap.size := by have := hb1.size; simp at this; omega
  clear hb1
  have hS0 : (w1.alloc (Obj.cells (rowV (fun _ => 0)).toArray 72)).heap[w1.heap.size]? = some (.cells (rowV (fun _ => 0)).toArray 72 (0, 0)) := heap_alloc_new w1 _
  have hal := bal' w1 (Obj.cells (rowV (fun _ => 0)).toArray 72)
  have hR2 := RtB.below hR1 hal
  have hk2 := kb1.trans (hal.mono kb1.size)
  clear hR1 kb1
  go_wp2_with (refine store_T (cs := (rowV (fun _ => 160)).toArray) (by rfl) 72 _ _ (by rfl) (info_row' _) (by rfl) (rowV_one _) hS0 (by rfl) (by rfl) ?_; intro w2 hg hS2 hz2)
  refine wp_label ?_
  go_wp2
  have hz3 : w2.heap.size = w1.heap.size + 1 := by rw [hz2]; simp
  have hk3 := hk2.grown hg hk2.size (fun k e => by cases e; omega)
  have hR3 := RtB.kept hR2 hg (fun e => by injection e with e; omega)
  have hBN : w.heap.size < w1.heap.size := hz1
  generalize hN1 : w1.heap.size = N1 at *
  have hS3 : BlkC w2 N1 72 (rowV (fun _ => 160)) := hS2
  clear hR2 hg hz2 hk2 hal hS0 hN1 hS2
  have eN : IntKind.i64.wrap ((m : Int) + 1) = ((m + 1 : Nat) : Int) := wid (by omega) (by omega) (by omega)
  obtain ⟨M, hM⟩ : ∃ M, Hid (m + 1 = M) := ⟨_, rfl⟩
  rw [hM.out] at eN
  simp only [Act.put]
  go_loopw [9, 28] (fun _ _ wr => ∃ (L : Int) (R : Nat → Nat → Int), RtB wr w.heap.size (.slice a m c) (.slice a' n c') (.slice (some ⟨V, 0, none⟩) nw cw) L R ∧ BlkC wr N1 72 (rowV (fun _ => 160)) ∧ Below w.heap.size w wr ∧ 0 ≤ L ∧ Hid (L = 0 ∨ ∃ l, L = 2 * l + 1 ∧ l < Dm)) (fun _ _ wr => (200 - limOf wr w.heap.size).toNat)
  case atStart => exact ⟨0, _, hR3, hS3, hk3, Int.le_refl _, .inl rfl⟩
  case round =>
    obtain ⟨L, R, hR, hN, kb, hL0, hlim⟩ := hrel
    clear hR3 hS3 hk3 hz3
    have hDb : 0 ≤ Dm ∧ Dm ≤ 80 := by rw [← hDm.out]; have := hdp.out m n; omega
    have hL1 : L < 160 := by
      rcases hlim.out with h | ⟨l, h1, h2⟩
      · omega
      · omega
    have hRlw := RtB.limIs hR
    obtain ⟨c0, _⟩ := hR.cells
    go_wp2
    go_loopw [9, 28] (fun _ iv wr => ∃ (i : Nat) (R : Nat → Nat → Int), i ≤ M ∧ iv = .int .i64 i ∧ RtB wr w.heap.size (.slice a m c) (.slice a' n c') (.slice (some ⟨V, 0, none⟩) nw cw) L R ∧ BlkC wr N1 72 (rowV (fun _ => 160)) ∧ Below w.heap.size w wr ∧ Hid (∀ i' j', i' < i → j' ≤ n → R i' j' = edC L (D i' j'))) (fun _ iv _ => M - (intOf iv).toNat)
    case atStart => exact ⟨0, R, Nat.zero_le _, rfl, hR, hN, kb, fun i' j' h => absurd h (Nat.not_lt_zero _)⟩
    case round =>
      obtain ⟨i, R1, hi, rfl, hR1, hN1, kb1, hF1⟩ := hrel
      clear hR hN kb c0
      by_cases hiM : i < M
      · have him : i ≤ m := by have := hM.out; omega
        have hii : (i : Int) < (M : Int) := by omega
        have hcall := hfr.out L ⟨hL0, hL1⟩ R1 i him wr hR1 kb1 (fun i' j' h1 h2 => hF1.out i' j' h1 h2)
        replace hR1 := (show Hid _ from hR1)
        go_wp2_with fail
        refine hcall.mono ?_
        rintro e w3 ⟨rfl, hg3, R2, hR3, hF2⟩
        have hN3 := BlkC.kept hN1 hg3 (fun e => by injection e with e; have := hBN; omega)
        have kb3 := kb1.grown hg3 kb1.size (fun k e => by cases e; exact Nat.le_refl _)
        have kb3d : Below w.heap.size w w3.drew := kb3.trans ⟨rfl, rfl, rfl, Nat.le_refl _, fun _ _ => rfl⟩
        clear hcall hN1 kb1 hg3 hF1 hR1
        obtain ⟨cs, hcs, hl, hx0⟩ := id hR3
        have hpt := row_part cs R2 hl hx0.2.2.2.2 i (by omega)
        have i41 : (i : Int) < 41 := by omega
        by_cases hq : ∀ j, j < 41 → R2 i j = 160
        · have heq := fun W => eq_row_t (fun j => R2 i j) (fun _ => 160) W hq
          have hfar : L < Dm := by
            obtain ⟨k, hk, hle⟩ := hrows.out i (m - i) n
            rw [show i + (m - i) = m by omega, hDm.out] at hle
            have h1 := hq k (by omega)
            rw [hF2.2.1 k (by omega)] at h1
            have := edC_far L _ hL1 h1
            omega
          clear hq hF2 hx0
          replace hlim := (show Hid _ from hlim)
          have hRl := RtB.limIs hR3
          have q3 : w3.drew.cell? ⟨w.heap.size, 3, none⟩ = some (.int .i64 L) := hR3.cells.2.2.2
          have hfz : w3.drew.frozen? ⟨w.heap.size, 3, none⟩ = false := by obtain ⟨cs, h1, _⟩ := id hR3; exact frozen_blk h1 _
          obtain ⟨L2, hL2⟩ : ∃ L2, Hid (L2 = 2 * L) := ⟨_, rfl⟩
          obtain ⟨L3, hL3⟩ : ∃ L3, Hid (L3 = L2 + 1) := ⟨_, rfl⟩
          have e1 : IntKind.i64.wrap (2 * L) = L2 := wid hL2.out.symm (by omega) (by omega)
          have e2 : IntKind.i64.wrap (L2 + 1) = L3 := wid hL3.out.symm (by have := hL2.out; omega) (by have := hL2.out; omega)
          have hR4 : RtB (w3.drew.setCell ⟨w.heap.size, 3, none⟩ (.int .i64 L3)) w.heap.size (.slice a m c) (.slice a' n c') (.slice (some ⟨V, 0, none⟩) nw cw) L3 R2 := RtB.lim (w := w3.drew) hR3 L3
          have hN4 : BlkC (w3.drew.setCell ⟨w.heap.size, 3, none⟩ (.int .i64 L3)) N1 72 (rowV (fun _ => 160)) := blk_set_ne (w := w3.drew) hN3 (by omega) 3 _
          have kb4 : Below w.heap.size w (w3.drew.setCell ⟨w.heap.size, 3, none⟩ (.int .i64 L3)) := Below.grown (w := w3.drew) kb3d (setCell_gr w3.drew w.heap.size 3 (.int .i64 L3)) kb3.size (fun k e => by cases e; exact Nat.le_refl _)
          have hlim2 : Hid (L3 = 0 ∨ ∃ l, L3 = 2 * l + 1 ∧ l < Dm) := .inr ⟨L, by rw [hL3.out, hL2.out], hfar⟩
          have hmes := RtB.limIs hR4
          have hRl2 := hRlw
          go_wp2
          refine wp_region_noPanic ?_
          refine wp_region_held_drew (S := (fun W => BlkC W w.heap.size 75 cs ∧ BlkC W N1 72 (rowV (fun _ => 160)))) (by kernel_rfl) (⟨hcs, hN3⟩) (fun hHeld => ?_)
          refine' wpAnyH_take (i := 0) (v := _) rfl (by kernel_rfl) (by kernel_rfl) (by kernel_rfl) (fun _ _ _ h => h) (Or.inl ⟨by rfl, ?hy1001⟩) hHeld ?hr1001
          case hy1001 => (intro w hSw; (try dsimp only at hSw); go_simp; (try with_reducible rfl))
          simp only [Act.put, List.setIfInBounds_toArray, List.set_cons_zero, List.set_cons_succ, List.getElem_toArray, List.getElem_cons_zero]
          refine' wpAnyH_take (i := 1) (v := _) rfl (by kernel_rfl) (by kernel_rfl) (by kernel_rfl) (fun _ _ _ h => h) (Or.inl ⟨by rfl, ?hy1002⟩) hHeld ?hr1002
          case hy1002 => (intro w hSw; (try dsimp only at hSw); go_simp; (try with_reducible rfl))
          simp only [Act.put, List.setIfInBounds_toArray, List.set_cons_zero, List.set_cons_succ, List.getElem_toArray, List.getElem_cons_zero, List.getElem_cons_succ]
          refine' wpAnyH_take (i := 2) (v := _) rfl (by kernel_rfl) (by kernel_rfl) (by kernel_rfl) (fun _ _ _ h => h) (Or.inl ⟨by rfl, ?hy1003⟩) hHeld ?hr1003
          case hy1003 => (intro w hSw; (try dsimp only at hSw); go_simp; (try with_reducible rfl))
          simp only [Act.put, List.setIfInBounds_toArray, List.set_cons_zero, List.set_cons_succ, List.getElem_toArray, List.getElem_cons_zero, List.getElem_cons_succ]
          refine' wpAnyH_take (i := 3) (v := _) rfl (by kernel_rfl) (by kernel_rfl) (by kernel_rfl) (fun _ _ _ h => h) (Or.inl ⟨by rfl, ?hy1004⟩) hHeld ?hr1004
          case hy1004 => (intro w hSw; (try dsimp only at hSw); go_simp; (try with_reducible rfl))
          simp only [Act.put, List.setIfInBounds_toArray, List.set_cons_zero, List.set_cons_succ, List.getElem_toArray, List.getElem_cons_zero, List.getElem_cons_succ]
          refine' wpAnyH_take (i := 4) (v := _) rfl (by kernel_rfl) (by kernel_rfl) (by kernel_rfl) (fun _ _ _ h => h) (Or.inl ⟨by rfl, ?hy1005⟩) hHeld ?hr1005
          case hy1005 => (intro w hSw; (try dsimp only at hSw); go_simp; (try with_reducible rfl))
          simp only [Act.put, List.setIfInBounds_toArray, List.set_cons_zero, List.set_cons_succ, List.getElem_toArray, List.getElem_cons_zero, List.getElem_cons_succ]
          refine' wpAnyH_take (i := 5) (v := .agg (rowV (fun j => R2 i j)).toArray) rfl (by kernel_rfl) (by kernel_rfl) (by kernel_rfl) (fun _ _ _ h => h) (Or.inl ⟨by rfl, ?hy1006⟩) hHeld ?hr1006
          case hy1006 => (intro W hSw; exact run_load_row (fun j => R2 i j) hSw.1 _ _ _ rfl rfl hpt)
          simp only [Act.put, List.setIfInBounds_toArray, List.set_cons_zero, List.set_cons_succ, List.getElem_toArray, List.getElem_cons_zero, List.getElem_cons_succ]
          refine' wpAnyH_take (i := 6) (v := .agg (rowV (fun _ => 160)).toArray) rfl (by kernel_rfl) (by kernel_rfl) (by kernel_rfl) (fun _ _ _ h => h) (Or.inl ⟨by rfl, ?hy1007⟩) hHeld ?hr1007
          case hy1007 => (intro W hSw; exact run_load_row (fun _ => 160) hSw.2 _ _ _ rfl rfl rfl)
          simp only [Act.put, List.setIfInBounds_toArray, List.set_cons_zero, List.set_cons_succ, List.getElem_toArray, List.getElem_cons_zero, List.getElem_cons_succ]
          refine' wpAnyH_take (i := 7) (v := _) rfl (by kernel_rfl) (by kernel_rfl) (by kernel_rfl) (fun _ _ _ h => h) (Or.inl ⟨by rfl, ?hy1008⟩) hHeld ?hr1008
          case hy1008 => (intro w hSw; (try dsimp only at hSw); go_simp; (try with_reducible rfl))
          simp only [Act.put, List.setIfInBounds_toArray, List.set_cons_zero, List.set_cons_succ, List.getElem_toArray, List.getElem_cons_zero, List.getElem_cons_succ]
          refine wpAnyH_done (by kernel_rfl) ?_ _
          refine NoPanic.normal ?_
          go_wp2
          go_roundw
          case rel => exact ⟨L3, R2, hR4, hN4, kb4, by have := hL2.out; have := hL3.out; omega, hlim2⟩
          case measure => (refine Nat.lt_of_le_of_lt (Nat.le_of_eq (congrArg (fun z => (200 - z).toNat) (show limOf _ w.heap.size = L3 from hmes))) ?_; rw [hRlw]; have := hL2.out; have := hL3.out; omega)
        · have heq := fun W => eq_row_f (fun j => R2 i j) (fun _ => 160) W hq
          have hF3 : Hid (∀ i' j', i' < i + 1 → j' ≤ n → R2 i' j' = edC L (D i' j')) := fun i' j' h1 h2 => by
            by_cases e : i' = i
            · subst e; exact hF2.2.1 j' (by omega)
            · exact hF2.1 i' j' (by omega) h2
          clear hq hF2 hx0
          replace hR3 := (show Hid _ from hR3)
          go_wp2
          refine wp_region_noPanic ?_
          refine wp_region_held_drew (S := (fun W => BlkC W w.heap.size 75 cs ∧ BlkC W N1 72 (rowV (fun _ => 160)))) (by kernel_rfl) (⟨hcs, hN3⟩) (fun hHeld => ?_)
          refine' wpAnyH_take (i := 0) (v := _) rfl (by kernel_rfl) (by kernel_rfl) (by kernel_rfl) (fun _ _ _ h => h) (Or.inl ⟨by rfl, ?hy1009⟩) hHeld ?hr1009
          case hy1009 => (intro w hSw; (try dsimp only at hSw); go_simp; (try with_reducible rfl))
          simp only [Act.put, List.setIfInBounds_toArray, List.set_cons_zero, List.set_cons_succ, List.getElem_toArray, List.getElem_cons_zero]
          refine' wpAnyH_take (i := 1) (v := _) rfl (by kernel_rfl) (by kernel_rfl) (by kernel_rfl) (fun _ _ _ h => h) (Or.inl ⟨by rfl, ?hy1010⟩) hHeld ?hr1010
          case hy1010 => (intro w hSw; (try dsimp only at hSw); go_simp; (try with_reducible rfl))
          simp only [Act.put, List.setIfInBounds_toArray, List.set_cons_zero, List.set_cons_succ, List.getElem_toArray, List.getElem_cons_zero, List.getElem_cons_succ]
          refine' wpAnyH_take (i := 2) (v := _) rfl (by kernel_rfl) (by kernel_rfl) (by kernel_rfl) (fun _ _ _ h => h) (Or.inl ⟨by rfl, ?hy1011⟩) hHeld ?hr1011
          case hy1011 => (intro w hSw; (try dsimp only at hSw); go_simp; (try with_reducible rfl))
          simp only [Act.put, List.setIfInBounds_toArray, List.set_cons_zero, List.set_cons_succ, List.getElem_toArray, List.getElem_cons_zero, List.getElem_cons_succ]
          refine' wpAnyH_take (i := 3) (v := _) rfl (by kernel_rfl) (by kernel_rfl) (by kernel_rfl) (fun _ _ _ h => h) (Or.inl ⟨by rfl, ?hy1012⟩) hHeld ?hr1012
          case hy1012 => (intro w hSw; (try dsimp only at hSw); go_simp; (try with_reducible rfl))
          simp only [Act.put, List.setIfInBounds_toArray, List.set_cons_zero, List.set_cons_succ, List.getElem_toArray, List.getElem_cons_zero, List.getElem_cons_succ]
          refine' wpAnyH_take (i := 4) (v := _) rfl (by kernel_rfl) (by kernel_rfl) (by kernel_rfl) (fun _ _ _ h => h) (Or.inl ⟨by rfl, ?hy1013⟩) hHeld ?hr1013
          case hy1013 => (intro w hSw; (try dsimp only at hSw); go_simp; (try with_reducible rfl))
          simp only [Act.put, List.setIfInBounds_toArray, List.set_cons_zero, List.set_cons_succ, List.getElem_toArray, List.getElem_cons_zero, List.getElem_cons_succ]
          refine' wpAnyH_take (i := 5) (v := .agg (rowV (fun j => R2 i j)).toArray) rfl (by kernel_rfl) (by kernel_rfl) (by kernel_rfl) (fun _ _ _ h => h) (Or.inl ⟨by rfl, ?hy1014⟩) hHeld ?hr1014
          case hy1014 => (intro W hSw; exact run_load_row (fun j => R2 i j) hSw.1 _ _ _ rfl rfl hpt)
          simp only [Act.put, List.setIfInBounds_toArray, List.set_cons_zero, List.set_cons_succ, List.getElem_toArray, List.getElem_cons_zero, List.getElem_cons_succ]
          refine' wpAnyH_take (i := 6) (v := .agg (rowV (fun _ => 160)).toArray) rfl (by kernel_rfl) (by kernel_rfl) (by kernel_rfl) (fun _ _ _ h => h) (Or.inl ⟨by rfl, ?hy1015⟩) hHeld ?hr1015
          case hy1015 => (intro W hSw; exact run_load_row (fun _ => 160) hSw.2 _ _ _ rfl rfl rfl)
          simp only [Act.put, List.setIfInBounds_toArray, List.set_cons_zero, List.set_cons_succ, List.getElem_toArray, List.getElem_cons_zero, List.getElem_cons_succ]
          refine' wpAnyH_take (i := 7) (v := _) rfl (by kernel_rfl) (by kernel_rfl) (by kernel_rfl) (fun _ _ _ h => h) (Or.inl ⟨by rfl, ?hy1016⟩) hHeld ?hr1016
          case hy1016 => (intro w hSw; (try dsimp only at hSw); go_simp; (try with_reducible rfl))
          simp only [Act.put, List.setIfInBounds_toArray, List.set_cons_zero, List.set_cons_succ, List.getElem_toArray, List.getElem_cons_zero, List.getElem_cons_succ]
          refine wpAnyH_done (by kernel_rfl) ?_ _
          refine NoPanic.normal ?_
          go_wp2
          go_roundw
          case rel => exact ⟨i + 1, R2, by omega, by go_num, hR3.out, hN3, kb3d, hF3⟩
          case measure => simp [intOf]; omega
      · have hMi : i = M := by omega
        subst hMi
        have hMm : i = m + 1 := hM.out.symm
        have hRmn := hF1.out m n (by omega) (Nat.le_refl _)
        rw [hDm.out] at hRmn
        have hqs := fun k => hst.out L R1 (wr.drewN k) (RtB.below hR1 (drwB wr k)) (haw.out _ (kb1.trans ((drwB wr k).mono kb1.size))) (hbw.out _ (kb1.trans ((drwB wr k).mono kb1.size))) hx hy
        have c3 : wr.cell? ⟨w.heap.size, 3, none⟩ = some (.int .i64 L) := hR1.cells.2.2.2
        have hR3 : Hid (RtB wr w.heap.size (.slice a m c) (.slice a' n c') (.slice (some ⟨V, 0, none⟩) nw cw) L R1) := hR1
        clear hR1
        obtain ⟨q, hq⟩ : ∃ q, Hid (R1 m n = q) := ⟨_, rfl⟩
        rw [hq.out] at hRmn
        simp only [hq.out] at hqs
        by_cases hle : q ≤ L
        · have hDL : Dm ≤ L := by
            rw [hRmn] at hle
            unfold edC at hle
            split at hle
            · assumption
            · omega
          clear hRmn
          go_wp2
          go_quiet (exact Calls.quiet_of (hqs _))
          go_wp2
          rw [Exit.noGoto_ret]
          go_ret
          exact ⟨rfl, kb1.trans ((drwB wr nq).mono kb1.size), L, R1, RtB.below hR3.out (drwB wr nq), ⟨hL0, hL1⟩, fun i' j' h1 h2 => hF1.out i' j' (by omega) h2, hDL⟩
        · have hfar : L < Dm := by
            rcases Int.lt_or_le L Dm with h | h
            · exact h
            · exfalso; apply hle; rw [hRmn]; unfold edC; rw [if_pos h]; exact h
          clear hRmn
          go_wp2
          go_quiet (exact Calls.quiet_of (hqs _))
          clear hqs c3
          have hN3 := hN1
          have kb3 := kb1
          have kb3d : Below w.heap.size w (wr.drewN nq) := kb1.trans ((drwB wr nq).mono kb1.size)
          replace hR3 := hR3.out
          replace hlim := (show Hid _ from hlim)
          have hRl := RtB.limIs hR3
          have q3 : (wr.drewN nq).cell? ⟨w.heap.size, 3, none⟩ = some (.int .i64 L) := hR3.cells.2.2.2
          have hfz : (wr.drewN nq).frozen? ⟨w.heap.size, 3, none⟩ = false := by obtain ⟨cs, h1, _⟩ := id hR3; exact frozen_blk h1 _
          obtain ⟨L2, hL2⟩ : ∃ L2, Hid (L2 = 2 * L) := ⟨_, rfl⟩
          obtain ⟨L3, hL3⟩ : ∃ L3, Hid (L3 = L2 + 1) := ⟨_, rfl⟩
          have e1 : IntKind.i64.wrap (2 * L) = L2 := wid hL2.out.symm (by omega) (by omega)
          have e2 : IntKind.i64.wrap (L2 + 1) = L3 := wid hL3.out.symm (by have := hL2.out; omega) (by have := hL2.out; omega)
          have hR4 : RtB ((wr.drewN nq).setCell ⟨w.heap.size, 3, none⟩ (.int .i64 L3)) w.heap.size (.slice a m c) (.slice a' n c') (.slice (some ⟨V, 0, none⟩) nw cw) L3 R1 := RtB.lim (w := (wr.drewN nq)) hR3 L3
          have hN4 : BlkC ((wr.drewN nq).setCell ⟨w.heap.size, 3, none⟩ (.int .i64 L3)) N1 72 (rowV (fun _ => 160)) := blk_set_ne (w := (wr.drewN nq)) hN3 (by omega) 3 _
          have kb4 : Below w.heap.size w ((wr.drewN nq).setCell ⟨w.heap.size, 3, none⟩ (.int .i64 L3)) := Below.grown (w := (wr.drewN nq)) kb3d (setCell_gr (wr.drewN nq) w.heap.size 3 (.int .i64 L3)) kb3.size (fun k e => by cases e; exact Nat.le_refl _)
          have hlim2 : Hid (L3 = 0 ∨ ∃ l, L3 = 2 * l + 1 ∧ l < Dm) := .inr ⟨L, by rw [hL3.out, hL2.out], hfar⟩
          have hmes := RtB.limIs hR4
          have hRl2 := hRlw
          clear hN1 kb1 hR3
          go_wp2
          go_roundw
          case rel => exact ⟨L3, R1, hR4, hN4, kb4, by have := hL2.out; have := hL3.out; omega, hlim2⟩
          case measure => (refine Nat.lt_of_le_of_lt (Nat.le_of_eq (congrArg (fun z => (200 - z).toNat) (show limOf _ w.heap.size = L3 from hmes))) ?_; rw [hRlw]; have := hL2.out; have := hL3.out; omega)
end Go.Proofs.Ytdahcdgefflkaaa
namespace Go.Proofs.Ytdahcdgefflkaaa
open Go.ChangeShapes Go.WideShapes Go.ChangeAt Go.RowKit
theorem listsOk_any (va vb : Value) (xs ys : List Int) (w : World) (ha : SlI w va xs) (hb : SlI w vb ys) :
    Calls Try.prog 35 #[va, vb] w fun e w' => e = .returned (.bool (decide (xs.length ≤ 40 ∧ ys.length ≤ 40))) ∧ w' = w := by
  obtain ⟨a, c, rfl, _⟩ := ha
  obtain ⟨a', c', rfl, _⟩ := hb
  obtain ⟨r, hr⟩ : ∃ r, Hid (decide (xs.length ≤ 40 ∧ ys.length ≤ 40) = r) := ⟨_, rfl⟩
  rw [hr.out]
  have hr2 : r = decide (xs.length ≤ 40 ∧ ys.length ≤ 40) := hr.out.symm
  generalize xs.length = m at *
  generalize ys.length = n at *
  clear hr
  go_enter Try.func35, Try.ntmps35
  by_cases h1 : m ≤ 40
  · have h1i : (m : Int) ≤ 40 := by omega
    by_cases h2 : n ≤ 40
    · have h2i : (n : Int) ≤ 40 := by omega
      have hr3 : r = true := by rw [hr2]; exact decide_eq_true ⟨h1, h2⟩
      subst hr3; clear hr2
      go_wp2
      go_ret
      exact ⟨rfl, rfl⟩
    · have h2i : ¬ (n : Int) ≤ 40 := by omega
      have hr3 : r = false := by rw [hr2]; exact decide_eq_false (by omega)
      subst hr3; clear hr2
      go_wp2
      go_ret
      exact ⟨rfl, rfl⟩
  · have h1i : ¬ (m : Int) ≤ 40 := by omega
    have hr3 : r = false := by rw [hr2]; exact decide_eq_false (by omega)
    subst hr3; clear hr2
    go_wp2
    go_ret
    exact ⟨rfl, rfl⟩
theorem waysT_new (w : World) : WyS (w.alloc (Obj.cells #[.int .i64 3, .int .i64 1, .int .i64 1, .int .i64 1, .int .i64 1, .int .i64 0, .int .i64 2, .int .i64 0, .int .i64 1] 54)) (.slice (some ⟨w.heap.size, 0, none⟩) 3 3) (waysL true) := by
  have hc : ∀ k, (w.alloc (Obj.cells #[.int .i64 3, .int .i64 1, .int .i64 1, .int .i64 1, .int .i64 1, .int .i64 0, .int .i64 2, .int .i64 0, .int .i64 1] 54)).cell? ⟨w.heap.size, k, none⟩ = _ := fun k => cell_of_row _ w.heap.size k _ _ (0, 0) (heap_alloc_new w _)
  refine ⟨w.heap.size, 3, rfl, by simp, fun k hk => ?_⟩
  match k, hk with
  | 0, _ => exact ⟨(hc 0).trans rfl, (hc 1).trans rfl, (hc 2).trans rfl⟩
  | 1, _ => exact ⟨(hc 3).trans rfl, (hc 4).trans rfl, (hc 5).trans rfl⟩
  | 2, _ => exact ⟨(hc 6).trans rfl, (hc 7).trans rfl, (hc 8).trans rfl⟩
theorem allWays_any (w : World) :
    Calls Try.prog 37 #[] w fun e w' => ∃ vw, e = .returned vw ∧ WyS w' vw (waysL true) ∧ Below w.heap.size w w' := by
  have h1 := waysT_new w
  have h2 := bal' w (Obj.cells #[.int .i64 3, .int .i64 1, .int .i64 1, .int .i64 1, .int .i64 1, .int .i64 0, .int .i64 2, .int .i64 0, .int .i64 1] 54)
  replace h1 := (show Hid _ from h1)
  replace h2 := (show Hid _ from h2)
  go_enter Try.func37, Try.ntmps37
  go_wp2
  go_ret
  exact ⟨_, rfl, h1.out, h2.out⟩
set_option maxHeartbeats 1000000 in
theorem implApart_any (va vb : Value) (xs ys : List Int) (w : World) (ha : SlI w va xs) (hb : SlI w vb ys) :
    Calls Try.prog 11 #[va, vb] w fun e w' => e = .returned (.int .i64 (apartV xs ys)) ∧ Below w.heap.size w w' := by
  have hlo := listsOk_any va vb xs ys w ha hb
  by_cases h : xs.length ≤ 40 ∧ ys.length ≤ 40
  · simp only [decide_eq_true h] at hlo
    have hA : Hid (apartV xs ys = edD true (fun k => xs.getD k 0) (fun k => ys.getD k 0) xs.length ys.length) := if_pos h
    rw [hA.out]
    have hlo2 := hlo
    obtain ⟨v, hv⟩ : ∃ v, Hid (edD true (fun k => xs.getD k 0) (fun k => ys.getD k 0) xs.length ys.length = v) := ⟨_, rfl⟩
    rw [hv.out]
    clear hA
    go_enter Try.func11, Try.ntmps11
    go_wp2_with fail
    refine hlo.mono ?_
    rintro e w1 ⟨rfl, hw1⟩
    subst hw1
    go_wp2_with fail
    refine (allWays_any _).mono ?_
    rintro e w2 ⟨vw, rfl, hw2, kb2⟩
    go_wp2_with fail
    refine (routeOf_any true va vb vw xs ys w2 (ha.below kb2) (hb.below kb2) hw2 h.1 h.2).mono ?_
    rintro e w3 ⟨rfl, kb3, L, R, hR, hL, hF, hle⟩
    have k3 := kb2.trans (kb3.mono kb2.size)
    go_wp2_with fail
    refine (steps_any _ va vb vw L R xs ys w3 hR (ha.below k3) (hb.below k3) h.1 h.2).mono ?_
    rintro e w4 ⟨rfl, q, hq⟩
    subst hq
    have hfin : R xs.length ys.length = v := by rw [hF _ _ (Nat.le_refl _) (Nat.le_refl _)]; unfold edC; rw [if_pos hle]; exact hv.out
    rw [hfin]
    go_wp2
    go_ret
    exact ⟨rfl, k3.trans ((drwB w3 q).mono k3.size)⟩
  · simp only [decide_eq_false h] at hlo
    have hA : Hid (apartV xs ys = -1) := if_neg h
    rw [hA.out]
    clear hA h
    go_enter Try.func11, Try.ntmps11
    go_wp2_with fail
    refine hlo.mono ?_
    rintro e w1 ⟨rfl, hw1⟩
    subst hw1
    go_wp2
    go_ret
    exact ⟨rfl, Below.refl _ _⟩
end Go.Proofs.Ytdahcdgefflkaaa
namespace Go.Proofs.Ytdahcdgefflkaaa
open Go.ChangeShapes Go.WideShapes Go.ChangeAt Go.RowKit
set_option maxHeartbeats 400000 in
theorem eqI_same (va vb : Value) (xs : List Int) (w : World) (ha : SlI w va xs) (hb : SlI w vb xs) (hl : xs.length ≤ 1073741824) :
    Calls Try.prog 25 #[va, vb] w fun e w' => e = .returned (.bool true) ∧ ∃ n, w' = w.drewN n := by
  by_cases h0 : xs = []
  · subst h0
    obtain ⟨a, c, rfl, _⟩ := ha
    obtain ⟨a', c', rfl, _⟩ := hb
    go_enter Try.func25, Try.ntmps25
    go_wp2
    refine wp_loop_rounds 1 ?_
    rw [rounds_succ]
    go_wp2
    go_ret
    exact ⟨rfl, 0, rfl⟩
  · obtain ⟨_, c, rfl, e | ⟨b, off, rfl, _, hca⟩⟩ := ha
    · exact absurd e h0
    · obtain ⟨_, c', rfl, e | ⟨b', off', rfl, _, hcb⟩⟩ := hb
      · exact absurd e h0
      · generalize hn : xs.length = n at *
        clear h0 hn
        go_enter Try.func25, Try.ntmps25
        go_wp2
        go_loopw [5] (fun i wr => ∃ k : Nat, k ≤ n ∧ i = .int .i64 k ∧ ∃ m, wr = w.drewN m) (fun i _ => n - (intOf i).toNat)
        case atStart => exact ⟨0, Nat.zero_le _, rfl, 0, rfl⟩
        case round =>
          obtain ⟨k, hk, rfl, m, rfl⟩ := hrel
          by_cases hlt : k < n
          · have h1 : w.cell? ⟨b, off + k, none⟩ = some (.int .i64 (xs.getD k 0)) := hca k hlt
            have h2 : w.cell? ⟨b', off' + k, none⟩ = some (.int .i64 (xs.getD k 0)) := hcb k hlt
            have hi : (k : Int) < (n : Int) := by omega
            generalize xs.getD k 0 = x at *
            clear hca hcb
            go_wp2
            go_quiet (fail)
            go_wp2
            go_roundw
            case rel => exact ⟨k + 1, by omega, by go_num, m + nq, by simp⟩
            case measure => simp [intOf]; omega
          · go_wp2
            go_ret
            exact ⟨rfl, m, rfl⟩

end Go.Proofs.Ytdahcdgefflkaaa
namespace Go.Proofs.Ytdahcdgefflkaaa
open Go.ChangeShapes Go.WideShapes Go.ChangeAt Go.RowKit
set_option maxHeartbeats 4000000 in
set_option maxRecDepth 20000 in
theorem walk_FnExactApart (w : World) (a : Option Addr) (len cap : Nat) (zs : List Int) (hr : IsRow .i64 w a len cap zs) (a' : Option Addr) (len' cap' : Nat) (zs' : List Int) (hr' : IsRow .i64 w a' len' cap' zs') :
    Calls Try.prog 5 #[.slice a len cap, .slice a' len' cap'] w fun e w' => e = .returned (.bool true) ∧ Below w.heap.size w w' := by
  obtain ⟨ha, hl⟩ := SlI.of_row hr
  obtain ⟨hb, hl'⟩ := SlI.of_row hr'
  generalize zs.take len = xs at *
  generalize zs'.take len' = ys at *
  clear hr hr'
  by_cases h1 : len ≤ 1048576
  case neg =>
    have h1i : (1048576 : Int) < (len : Int) := by omega
    go_enter Try.func5, Try.ntmps5
    go_wp2
    go_ret
    exact ⟨rfl, Below.refl _ _⟩
  have h1i : ¬ (1048576 : Int) < (len : Int) := by omega
  by_cases h2 : len' ≤ 1048576
  case neg =>
    have h2i : (1048576 : Int) < (len' : Int) := by omega
    go_enter Try.func5, Try.ntmps5
    go_wp2
    go_ret
    exact ⟨rfl, Below.refl _ _⟩
  have h2i : ¬ (1048576 : Int) < (len' : Int) := by omega
  have hxl : xs.length ≤ 1073741824 := by omega
  have hyl : ys.length ≤ 1073741824 := by omega
  go_enter Try.func5, Try.ntmps5
  go_wp2_with fail
  refine (toI_copy _ xs _ ha hxl).mono ?_
  rintro e w1 ⟨u1, rfl, o1, b1⟩
  have hb1 := hb.below b1
  go_wp2_with fail
  refine (toI_copy _ ys _ hb1 hyl).mono ?_
  rintro e w2 ⟨u2, rfl, o2, b2⟩
  have k2 := b1.trans (b2.mono b1.size)
  have s1 := SlI.of_own (o1.below (b2.mono (Nat.le_refl _)))
  have s2 := SlI.of_own o2
  go_wp2_with fail
  refine (specApart_any _ _ xs ys _ s1 s2).mono ?_
  rintro e w3 ⟨rfl, b3⟩
  have k3 := k2.trans (b3.mono k2.size)
  clear o1 o2 b1 b2 b3 s1 s2 hb1 k2
  have hgen : ∀ (va vb : Value) (W : World), SlI W va xs → SlI W vb ys → Calls Try.prog 11 #[va, vb] W fun e w' => e = .returned (.int .i64 (apartV xs ys)) ∧ Below W.heap.size W w' := fun va vb W => implApart_any va vb xs ys W
  generalize apartV xs ys = r at *
  have ha3 := ha.below k3
  go_wp2_with fail
  refine (toI_copy _ xs _ ha3 hxl).mono ?_
  rintro e w4 ⟨x0, rfl, o4, b4⟩
  have k4 := k3.trans (b4.mono k3.size)
  have hb4 := hb.below k4
  go_wp2_with fail
  refine (toI_copy _ ys _ hb4 hyl).mono ?_
  rintro e w5 ⟨x1, rfl, o5, b5⟩
  have k5 := k4.trans (b5.mono k4.size)
  have s4 := (SlI.of_own o4).below b5
  have s5 := SlI.of_own o5
  clear o4 o5 b4 b5 hb4 ha3
  go_wp2_with fail
  refine (hgen _ _ _ s4 s5).mono ?_
  rintro e w6 ⟨rfl, b6⟩
  have k6 := k5.trans (b6.mono k5.size)
  have s6 := s4.below b6
  have s7 := s5.below b6
  have ha6 := ha.below k6
  clear s4 s5 b6
  go_wp2_with fail
  refine (toI_copy _ xs _ ha6 hxl).mono ?_
  rintro e w7 ⟨x2, rfl, o7, b7⟩
  have k7 := k6.trans (b7.mono k6.size)
  go_wp2_with fail
  refine (eqI_same _ _ xs _ (s6.below b7) (SlI.of_own o7) hxl).mono ?_
  rintro e w8 ⟨rfl, q8, hq8⟩
  subst hq8
  have b8 := drwB w7 q8
  have k8 := k7.trans (b8.mono k7.size)
  have s8 := (s7.below b7).below b8
  have hb8 := hb.below k8
  clear o7 b7 b8 s6 s7
  go_wp2_with fail
  refine (toI_copy _ ys _ hb8 hyl).mono ?_
  rintro e w9 ⟨x3, rfl, o9, b9⟩
  have k9 := k8.trans (b9.mono k8.size)
  go_wp2_with fail
  refine (eqI_same _ _ ys _ (s8.below b9) (SlI.of_own o9) hyl).mono ?_
  rintro e w10 ⟨rfl, q10, hq10⟩
  subst hq10
  go_wp2
  go_ret
  exact ⟨rfl, k9.trans ((drwB w9 q10).mono k9.size)⟩
end Go.Proofs.Ytdahcdgefflkaaa
