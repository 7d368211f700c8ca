/- The specification's Shared. The program's route: alike, and the ways. The program's route: how far two beginnings are apart. The program's route: how far two beginnings are apart. The program's route: a row is filled. The program's route: rows compared, a route built. The program's route between two lists. The program's Apart and Shared. The walk of the law of Levenshtein. -/
import Derived.Test.YtdahcdgefflkaaaP1
import Derived.ChangeKeysEq
import Derived.WalkMore
namespace Go.Proofs.Ytdahcdgefflkaaa
open Go.ChangeShapes Go.WideShapes Go.ChangeAt Go.RowKit
theorem TabT.one {ys : List Value} {W m : Nat} {f : Nat → Nat → Int} (h : TabT ys W m f 0 0) (h0 : ∀ j, f 0 j = 0) : TabT ys W m f 1 0 := by
  intro i' j' hj' hi'
  rw [h i' j' hj' hi', if_neg (by omega)]
  by_cases e : i' = 0
  · subst e; rw [if_pos (by omega), h0]
  · rw [if_neg (by omega)]
set_option maxHeartbeats 4000000 in
set_option maxRecDepth 20000 in
theorem specShared_any (va vb : Value) (xs ys : List Int) (w : World) (ha : SlI w va xs) (hb : SlI w vb ys) :
    Calls Try.prog 14 #[va, vb] w fun e w' => e = .returned (.int .i64 (sharedV xs ys)) ∧ Below w.heap.size w w' := by
  have hh2 := fun W (k : Below w.heap.size w W) => l9Two_any va vb xs ys W (ha.below k) (hb.below k)
  by_cases h : xs.length ≤ 40 ∧ ys.length ≤ 40
  case neg =>
    simp only [decide_eq_false h] at hh2
    have hA : Hid (sharedV xs ys = -1) := if_neg h
    rw [hA.out]
    obtain ⟨a, c, rfl, _⟩ := ha
    obtain ⟨a', c', rfl, _⟩ := hb
    clear hA h
    go_enter Try.func14, Try.ntmps14
    go_wp2_with (first
      | (go_at_call 39; refine (hh2 _ (Below.refl _ _)).mono ?_; rintro e w1 ⟨rfl, hw1⟩; subst hw1))
    go_ret
    exact ⟨rfl, Below.refl _ _⟩
  simp only [decide_eq_true h] at hh2
  have hA : Hid (sharedV xs ys = edL (fun k => xs.getD k 0) (fun k => ys.getD k 0) xs.length ys.length) := if_pos h
  rw [hA.out]
  obtain ⟨hx, hy⟩ := h
  clear hA
  obtain ⟨i0, hi, hz0, hz1, hz2⟩ := info_parts info_i64
  obtain ⟨a, c, rfl, hca⟩ := ha
  obtain ⟨a', c', rfl, hcb⟩ := hb
  obtain ⟨f, hf⟩ : ∃ f, Hid (f = edL (fun k => xs.getD k 0) (fun k => ys.getD k 0)) := ⟨_, rfl⟩
  rw [← hf.out]
  have hlast := last_tab xs.length ys.length
  generalize hm : xs.length = m at *
  generalize hn : ys.length = n at *
  replace hm := (show Hid _ from hm)
  replace hn := (show Hid _ from hn)
  obtain ⟨W, hW⟩ : ∃ W, Hid (n + 1 = W) := ⟨_, rfl⟩
  obtain ⟨M, hM⟩ : ∃ M, Hid (m + 1 = M) := ⟨_, rfl⟩
  rw [hW.out, hM.out] at hlast
  obtain ⟨N, hN⟩ : ∃ N, Hid (M * W = N) := ⟨_, rfl⟩
  rw [hN.out] at hlast
  replace hlast := (show Hid _ from hlast)
  have hN2 : N ≤ 41 * 41 := by rw [← hN.out]; exact Nat.mul_le_mul (by have := hM.out; omega) (by have := hW.out; omega)
  have eW : IntKind.i64.wrap ((n : Int) + 1) = (W : Int) := wid (by have := hW.out; omega) (by omega) (by omega)
  have eM : IntKind.i64.wrap ((m : Int) + 1) = (M : Int) := wid (by have := hM.out; omega) (by omega) (by omega)
  have eN : IntKind.i64.wrap ((M : Int) * (W : Int)) = (N : Int) := by rw [← Int.natCast_mul, hN.out]; exact wid rfl (by omega) (by omega)
  have hNf : Hid (N = (m + 1) * W) := by show _ = _; rw [hM.out, hN.out]
  go_enter Try.func14, Try.ntmps14
  go_wp2_with (first
    | (go_at_call 39; refine (hh2 _ (Below.refl _ _)).mono ?_; rintro e w1 ⟨rfl, hw1⟩; subst hw1)
    | (refine wpList_make_full _ rfl _ _ 24 rfl w1.heap.size 2 i0 (.int .i64 0) 1 Try.underlying24 hi hz0 hz1 .i64 .i64 (N : Int) (N : Int) N (by rfl) (by rfl) rfl rfl ?c1 ?c2 ?c3 ?_))
  case c1 => rw [hz2]; omega
  case c2 => unfold maxLen; omega
  case c3 => exact Nat.le_refl _
  intro w2 ho hg
  have hb1 : Below w1.heap.size w1 w2 := (Below.refl _ _).grown hg (Nat.le_refl _) (fun k hk => by cases hk)
  have ht0 : Hid (TabT (madeCells #[Value.int IntKind.i64 0] N).toList W m f 1 0) := by
    have := TabT.made N f W m hNf.out
    rw [Nat.mul_one] at this
    exact this.one (fun j => by rw [hf.out, edL_0])
  clear hg eN eM hh2
  go_wp2
  go_loopw [7, 8] (fun i _ wr => ∃ (j : Nat) (zs : List Value), 1 ≤ j ∧ j ≤ m + 1 ∧ i = .int .i64 j ∧ wr.ownsRow w1.heap.size 2 1 (.slice (some ⟨w1.heap.size, 0, none⟩) N N) N zs ∧ zs.length = N ∧ Hid (TabT zs W m f j 0) ∧ Below w1.heap.size w1 wr) (fun i _ _ => m + 1 - (intOf i).toNat)
  case atStart => exact ⟨1, _, Nat.le_refl _, by omega, rfl, ho, by simpa using ho.1, ht0, hb1⟩
  case round =>
    obtain ⟨i, zs, hi0, hi1, rfl, ho1, hzl, hT, hbel⟩ := hrel
    clear ho hb1 ht0
    by_cases hlt : i ≤ m
    · have hii : (i : Int) ≤ (m : Int) := by omega
      have hT0 := hT.out.skip (by rw [hf.out, edL_i0])
      go_wp2
      go_loopw [8] (fun jv wr => ∃ (j : Nat) (zs : List Value), 1 ≤ j ∧ j ≤ W ∧ jv = .int .i64 j ∧ wr.ownsRow w1.heap.size 2 1 (.slice (some ⟨w1.heap.size, 0, none⟩) N N) N zs ∧ zs.length = N ∧ Hid (TabT zs W m f i j) ∧ Below w1.heap.size w1 wr) (fun jv _ => W - (intOf jv).toNat)
      case atStart => exact ⟨1, zs, Nat.le_refl _, by have := hW.out; omega, rfl, ho1, hzl, hT0, hbel⟩
      case round =>
        obtain ⟨j, us, hj0, hj1, rfl, ho2, hul, hT2, hbel2⟩ := hrel
        clear ho1 hzl hT hbel hT0
        by_cases hlj : j < W
        · have hjn : (j : Int) ≤ (n : Int) := by have := hW.out; omega
          have hpn : i * W + j < N := by rw [hNf.out]; exact tab_lt hlt hlj
          obtain ⟨p, hp⟩ : ∃ p, Hid (p = i * W + j) := ⟨_, rfl⟩
          rw [← hp.out] at hpn
          obtain ⟨u, hu⟩ : ∃ u, wr.cell? ⟨w1.heap.size, p, none⟩ = some u := by
            rw [ho2.cellAt p (by omega)]; exact ⟨_, List.getElem?_eq_getElem (by omega)⟩
          have hfz := ho2.frozenAt p
          have hst := fun x => ho2.stored p (.int .i64 x)
          have hset := fun x (e : x = f i j) => hT2.out.set (p := p) hlj hlt hp.out (by rw [hul]; exact hNf.out) e
          obtain ⟨i1, hi1'⟩ : ∃ i1, Hid (i = i1 + 1) := ⟨i - 1, by show i = i - 1 + 1; omega⟩
          obtain ⟨j1, hj1'⟩ : ∃ j1, Hid (j = j1 + 1) := ⟨j - 1, by show j = j - 1 + 1; omega⟩
          obtain ⟨r, hr⟩ : ∃ r, Hid (r = i * W) := ⟨_, rfl⟩
          obtain ⟨r1, hr1⟩ : ∃ r1, Hid (r1 = i1 * W) := ⟨_, rfl⟩
          obtain ⟨p1, hp1⟩ : ∃ p1, Hid (p1 = r1 + j) := ⟨_, rfl⟩
          obtain ⟨q, hq⟩ : ∃ q, Hid (q = r + j1) := ⟨_, rfl⟩
          obtain ⟨q1, hq1⟩ : ∃ q1, Hid (q1 = r1 + j1) := ⟨_, rfl⟩
          have hpr : p = r + j := by rw [hp.out, hr.out]
          have hl1 := tab_lt (W := W) (m := m) (i := i1) (j := j) (by have := hi1'.out; omega) hlj
          have hl2 := tab_lt (W := W) (m := m) (i := i) (j := j1) hlt (by have := hj1'.out; omega)
          have hl3 := tab_lt (W := W) (m := m) (i := i1) (j := j1) (by have := hi1'.out; omega) (by have := hj1'.out; omega)
          rw [← hr1.out, ← hp1.out, ← hNf.out] at hl1
          rw [← hr.out, ← hq.out, ← hNf.out] at hl2
          rw [← hr1.out, ← hq1.out, ← hNf.out] at hl3
          have e1 : IntKind.i64.wrap ((i : Int) * (W : Int)) = (r : Int) := by rw [← Int.natCast_mul]; exact wid (by rw [hr.out]) (by omega) (by rw [← hr.out]; omega)
          have e2 : IntKind.i64.wrap ((r : Int) + (j : Int)) = (p : Int) := wid (by omega) (by omega) (by omega)
          have e3 : IntKind.i64.wrap ((i : Int) - 1) = (i1 : Int) := wid (by have := hi1'.out; omega) (by omega) (by omega)
          have e4 : IntKind.i64.wrap ((i1 : Int) * (W : Int)) = (r1 : Int) := by rw [← Int.natCast_mul]; exact wid (by rw [hr1.out]) (by omega) (by rw [← hr1.out]; have := hp1.out; omega)
          have e5 : IntKind.i64.wrap ((r1 : Int) + (j : Int)) = (p1 : Int) := wid (by have := hp1.out; omega) (by omega) (by have := hp1.out; omega)
          have e6 : IntKind.i64.wrap ((p1 : Int) - 1) = (q1 : Int) := wid (by have := hp1.out; have := hq1.out; have := hj1'.out; omega) (by omega) (by omega)
          have e7 : IntKind.i64.wrap ((p : Int) - 1) = (q : Int) := wid (by have := hq.out; have := hj1'.out; omega) (by omega) (by omega)
          have e8 : IntKind.i64.wrap ((j : Int) - 1) = (j1 : Int) := wid (by have := hj1'.out; omega) (by omega) (by omega)
          have k1 := hT2.out.at i1 j1 (by have := hj1'.out; omega) (by have := hi1'.out; omega) (by have := hi1'.out; omega)
          have k2 := hT2.out.at i1 j hlj (by have := hi1'.out; omega) (by have := hi1'.out; omega)
          have k3 := hT2.out.at i j1 (by have := hj1'.out; omega) hlt (by have := hj1'.out; omega)
          rw [← hr1.out, ← hq1.out, ← ho2.cellAt q1 (by omega)] at k1
          rw [← hr1.out, ← hp1.out, ← ho2.cellAt p1 (by omega)] at k2
          rw [← hr.out, ← hq.out, ← ho2.cellAt q (by omega)] at k3
          have him : i1 < m := by have := hi1'.out; omega
          have hjm : j1 < n := by have := hj1'.out; have := hW.out; omega
          rcases hca with h | ⟨b, off, rfl, hbb, hs1⟩
          · exfalso; have := hm.out; rw [h] at this; simp at this; omega
          rcases hcb with h | ⟨b', off', rfl, hbb', hs2⟩
          · exfalso; have := hn.out; rw [h] at this; simp at this; omega
          have c1 := (hbel2.cell (p := ⟨b, off + i1, none⟩) hbb).trans (hs1 i1 him)
          have c2 := (hbel2.cell (p := ⟨b', off' + j1, none⟩) hbb').trans (hs2 j1 hjm)
          have hD := fun (h : xs.getD i1 0 = ys.getD j1 0) => edL_eq (fun k => xs.getD k 0) (fun k => ys.getD k 0) i1 j1 h
          have hE := fun (h : ¬ xs.getD i1 0 = ys.getD j1 0) => edL_ne (fun k => xs.getD k 0) (fun k => ys.getD k 0) i1 j1 h
          rw [← hi1'.out, ← hj1'.out, ← hf.out] at hD hE
          have bd1 := edL_bd (fun k => xs.getD k 0) (fun k => ys.getD k 0) i1 j1
          rw [← hf.out] at bd1
          generalize xs.getD i1 0 = x at *
          generalize ys.getD j1 0 = y at *
          generalize hF : f i j = F at *
          generalize f i1 j1 = F1 at *
          generalize f i1 j = F2 at *
          generalize f i j1 = F3 at *
          clear hF
          by_cases hxy : x = y
          · have hD2 := hD hxy
            clear hD hE
            subst hxy
            subst hD2
            have bF : IntKind.i64.wrap (F1 + 1) = F1 + 1 := wid rfl (by omega) (by omega)
            obtain ⟨hst1, hst2⟩ := hst (F1 + 1)
            have hset := hset _ rfl
            clear ho2 hT2 hs1 hs2 hst hpr bd1
            go_wp2
            go_quiet (fail)
            go_wp2
            go_roundw
            case rel => exact ⟨j + 1, us.set p (.int .i64 (F1 + 1)), by omega, by omega, by go_num, hst1, by simpa using hul, hset, hbel2.grown (row := some w1.heap.size) ⟨hst2.os, hst2.tape, hst2.output, hst2.size, hst2.block⟩ hbel2.size (fun k hk => by cases hk; exact Nat.le_refl _)⟩
            case measure => simp [intOf]; omega
          · have hE2 := hE hxy
            clear hD hE
            subst hE2
            obtain ⟨hst1, hst2⟩ := hst (max F2 F3)
            have hset := hset _ rfl
            have kst : ∀ V : World, (V.cell? ⟨w1.heap.size, p1, none⟩ = some (.int .i64 F2) ∧ V.cell? ⟨w1.heap.size, q, none⟩ = some (.int .i64 F3)) → ((V.setCell ⟨w1.heap.size, p, none⟩ (.int .i64 (max F2 F3))).cell? ⟨w1.heap.size, p1, none⟩ = some (.int .i64 F2) ∧ (V.setCell ⟨w1.heap.size, p, none⟩ (.int .i64 (max F2 F3))).cell? ⟨w1.heap.size, q, none⟩ = some (.int .i64 F3)) := fun V h => by
              have hiW : i1 * W + W ≤ i * W := by rw [hi1'.out, Nat.add_mul]; omega
              refine ⟨(cell_set_ne _ _ _ _ _ (by have := hp1.out; have := hr1.out; have := hr.out; omega)).trans h.1, (cell_set_ne _ _ _ _ _ (by have := hq.out; have := hj1'.out; omega)).trans h.2⟩
            clear ho2 hT2 hs1 hs2 hst hpr bd1
            go_wp2
            go_quiet (fail)
            go_wp2
            refine wp_region_noPanic ?_
            refine wp_region_held_drew (S := (fun W => W.cell? ⟨w1.heap.size, p1, none⟩ = some (.int .i64 F2) ∧ W.cell? ⟨w1.heap.size, q, none⟩ = some (.int .i64 F3))) (by kernel_rfl) (⟨k2, k3⟩) (fun hHeld => ?_)
            refine' wpAnyH_take (i := 0) (v := _) rfl (by kernel_rfl) (by kernel_rfl) (by kernel_rfl) (fun _ _ _ h => h) (Or.inl ⟨by rfl, ?hy1001⟩) hHeld ?hr1001
            case hy1001 => (intro w hSw; (try dsimp only at hSw); go_simp; (try with_reducible rfl))
            simp only [Act.put, List.setIfInBounds_toArray, List.set_cons_zero, List.set_cons_succ, List.getElem_toArray, List.getElem_cons_zero]
            refine' wpAnyH_take (i := 1) (v := _) rfl (by kernel_rfl) (by kernel_rfl) (by kernel_rfl) (fun _ _ _ h => h) (Or.inl ⟨by rfl, ?hy1002⟩) hHeld ?hr1002
            case hy1002 => (intro w hSw; (try dsimp only at hSw); go_simp; (try with_reducible rfl))
            simp only [Act.put, List.setIfInBounds_toArray, List.set_cons_zero, List.set_cons_succ, List.getElem_toArray, List.getElem_cons_zero, List.getElem_cons_succ]
            refine' wpAnyH_take (i := 2) (v := _) rfl (by kernel_rfl) (by kernel_rfl) (by kernel_rfl) (fun _ _ _ h => h) (Or.inl ⟨by rfl, ?hy1003⟩) hHeld ?hr1003
            case hy1003 => (intro w hSw; (try dsimp only at hSw); go_simp; (try with_reducible rfl))
            simp only [Act.put, List.setIfInBounds_toArray, List.set_cons_zero, List.set_cons_succ, List.getElem_toArray, List.getElem_cons_zero, List.getElem_cons_succ]
            refine' wpAnyH_take (i := 3) (v := _) rfl (by kernel_rfl) (by kernel_rfl) (by kernel_rfl) (fun _ _ _ h => h) (Or.inl ⟨by rfl, ?hy1004⟩) hHeld ?hr1004
            case hy1004 => (intro w hSw; (try dsimp only at hSw); go_simp; (try with_reducible rfl))
            simp only [Act.put, List.setIfInBounds_toArray, List.set_cons_zero, List.set_cons_succ, List.getElem_toArray, List.getElem_cons_zero, List.getElem_cons_succ]
            refine' wpAnyH_take (i := 4) (v := _) rfl (by kernel_rfl) (by kernel_rfl) (by kernel_rfl) (fun _ _ _ h => h) (Or.inl ⟨by rfl, ?hy1005⟩) hHeld ?hr1005
            case hy1005 => (intro w hSw; (try dsimp only at hSw); go_simp; (try with_reducible rfl))
            simp only [Act.put, List.setIfInBounds_toArray, List.set_cons_zero, List.set_cons_succ, List.getElem_toArray, List.getElem_cons_zero, List.getElem_cons_succ]
            refine' wpAnyH_take (i := 5) (v := _) rfl (by kernel_rfl) (by kernel_rfl) (by kernel_rfl) (fun _ _ _ h => h) (Or.inl ⟨by rfl, ?hy1006⟩) hHeld ?hr1006
            case hy1006 => (intro w hSw; (try dsimp only at hSw); go_simp; (try with_reducible rfl))
            simp only [Act.put, List.setIfInBounds_toArray, List.set_cons_zero, List.set_cons_succ, List.getElem_toArray, List.getElem_cons_zero, List.getElem_cons_succ]
            refine' wpAnyH_take (i := 6) (v := _) rfl (by kernel_rfl) (by kernel_rfl) (by kernel_rfl) (fun _ _ _ h => h) (Or.inl ⟨by rfl, ?hy1007⟩) hHeld ?hr1007
            case hy1007 => (intro w hSw; (try dsimp only at hSw); go_simp; (try with_reducible rfl))
            simp only [Act.put, List.setIfInBounds_toArray, List.set_cons_zero, List.set_cons_succ, List.getElem_toArray, List.getElem_cons_zero, List.getElem_cons_succ]
            refine' wpAnyH_take (i := 7) (v := _) rfl (by kernel_rfl) (by kernel_rfl) (by kernel_rfl) (fun _ _ _ h => h) (Or.inl ⟨by rfl, ?hy1008⟩) hHeld ?hr1008
            case hy1008 => (intro w hSw; (try dsimp only at hSw); go_simp; (try with_reducible rfl))
            simp only [Act.put, List.setIfInBounds_toArray, List.set_cons_zero, List.set_cons_succ, List.getElem_toArray, List.getElem_cons_zero, List.getElem_cons_succ]
            refine' wpAnyH_take (i := 8) (v := _) rfl (by kernel_rfl) (by kernel_rfl) (by kernel_rfl) (fun _ _ _ h => h) (Or.inl ⟨by rfl, ?hy1009⟩) hHeld ?hr1009
            case hy1009 => (intro w hSw; (try dsimp only at hSw); go_simp; (try with_reducible rfl))
            simp only [Act.put, List.setIfInBounds_toArray, List.set_cons_zero, List.set_cons_succ, List.getElem_toArray, List.getElem_cons_zero, List.getElem_cons_succ]
            refine' wpAnyH_take (i := 9) (v := _) rfl (by kernel_rfl) (by kernel_rfl) (by kernel_rfl) (fun _ _ _ h => h) (Or.inl ⟨by rfl, ?hy1010⟩) hHeld ?hr1010
            case hy1010 => (intro w hSw; (try dsimp only at hSw); go_simp; (try with_reducible rfl))
            simp only [Act.put, List.setIfInBounds_toArray, List.set_cons_zero, List.set_cons_succ, List.getElem_toArray, List.getElem_cons_zero, List.getElem_cons_succ]
            refine' wpAnyH_take (i := 10) (v := _) rfl (by kernel_rfl) (by kernel_rfl) (by kernel_rfl) (fun _ _ _ h => h) (Or.inl ⟨by rfl, ?hy1011⟩) hHeld ?hr1011
            case hy1011 => (intro w hSw; (try dsimp only at hSw); go_simp; (try with_reducible rfl))
            simp only [Act.put, List.setIfInBounds_toArray, List.set_cons_zero, List.set_cons_succ, List.getElem_toArray, List.getElem_cons_zero, List.getElem_cons_succ]
            refine' wpAnyH_take (i := 11) (v := _) rfl (by kernel_rfl) (by kernel_rfl) (by kernel_rfl) (fun _ _ _ h => h) (Or.inl ⟨by rfl, ?hy1012⟩) hHeld ?hr1012
            case hy1012 => (intro w hSw; (try dsimp only at hSw); go_simp; (try with_reducible rfl))
            simp only [Act.put, List.setIfInBounds_toArray, List.set_cons_zero, List.set_cons_succ, List.getElem_toArray, List.getElem_cons_zero, List.getElem_cons_succ]
            refine' wpAnyH_take (i := 12) (v := _) rfl (by kernel_rfl) (by kernel_rfl) (by kernel_rfl) (fun _ _ _ h => h) (Or.inl ⟨by rfl, ?hy1013⟩) hHeld ?hr1013
            case hy1013 => (intro w hSw; (try dsimp only at hSw); go_simp; (try with_reducible rfl))
            simp only [Act.put, List.setIfInBounds_toArray, List.set_cons_zero, List.set_cons_succ, List.getElem_toArray, List.getElem_cons_zero, List.getElem_cons_succ]
            refine' wpAnyH_take (i := 13) (v := _) rfl (by kernel_rfl) (by kernel_rfl) (by kernel_rfl) (fun _ _ _ h => h) (Or.inl ⟨by rfl, ?hy1014⟩) hHeld ?hr1014
            case hy1014 => (intro w hSw; (try dsimp only at hSw); go_simp; (try with_reducible rfl))
            simp only [Act.put, List.setIfInBounds_toArray, List.set_cons_zero, List.set_cons_succ, List.getElem_toArray, List.getElem_cons_zero, List.getElem_cons_succ]
            refine' wpAnyH_take (i := 14) (v := _) rfl (by kernel_rfl) (by kernel_rfl) (by kernel_rfl) (fun _ _ _ h => h) (Or.inl ⟨by rfl, ?hy1015⟩) hHeld ?hr1015
            case hy1015 => (intro w hSw; (try dsimp only at hSw); go_simp; (try with_reducible rfl))
            simp only [Act.put, List.setIfInBounds_toArray, List.set_cons_zero, List.set_cons_succ, List.getElem_toArray, List.getElem_cons_zero, List.getElem_cons_succ]
            refine' wpAnyH_take (i := 15) (v := _) rfl (by kernel_rfl) (by kernel_rfl) (by kernel_rfl) (fun _ _ _ h => h) (Or.inl ⟨by rfl, ?hy1016⟩) hHeld ?hr1016
            case hy1016 => (intro w hSw; (try dsimp only at hSw); go_simp; (try with_reducible rfl))
            simp only [Act.put, List.setIfInBounds_toArray, List.set_cons_zero, List.set_cons_succ, List.getElem_toArray, List.getElem_cons_zero, List.getElem_cons_succ]
            refine' wpAnyH_take (i := 16) (v := _) rfl (by kernel_rfl) (by kernel_rfl) (by kernel_rfl) (fun _ _ _ h => h) (Or.inl ⟨by rfl, ?hy1017⟩) hHeld ?hr1017
            case hy1017 => (intro w hSw; (try dsimp only at hSw); go_simp; (try with_reducible rfl))
            simp only [Act.put, List.setIfInBounds_toArray, List.set_cons_zero, List.set_cons_succ, List.getElem_toArray, List.getElem_cons_zero, List.getElem_cons_succ]
            refine' wpAnyH_take (i := 17) (v := _) rfl (by kernel_rfl) (by kernel_rfl) (by kernel_rfl) (fun _ _ _ h => h) (Or.inl ⟨by rfl, ?hy1018⟩) hHeld ?hr1018
            case hy1018 => (intro w hSw; (try dsimp only at hSw); go_simp; (try with_reducible rfl))
            simp only [Act.put, List.setIfInBounds_toArray, List.set_cons_zero, List.set_cons_succ, List.getElem_toArray, List.getElem_cons_zero, List.getElem_cons_succ]
            refine' wpAnyH_take (i := 18) (v := _) rfl (by kernel_rfl) (by kernel_rfl) (by kernel_rfl) (fun _ _ _ h => h) (Or.inl ⟨by rfl, ?hy1019⟩) hHeld ?hr1019
            case hy1019 => (intro w hSw; (try dsimp only at hSw); go_simp; (try with_reducible rfl))
            simp only [Act.put, List.setIfInBounds_toArray, List.set_cons_zero, List.set_cons_succ, List.getElem_toArray, List.getElem_cons_zero, List.getElem_cons_succ]
            refine' wpAnyH_take (i := 19) (v := _) rfl (by kernel_rfl) (by kernel_rfl) (by kernel_rfl) (fun _ _ _ h => h) (Or.inl ⟨by rfl, ?hy1020⟩) hHeld ?hr1020
            case hy1020 => (intro w hSw; (try dsimp only at hSw); go_simp; (try with_reducible rfl))
            simp only [Act.put, List.setIfInBounds_toArray, List.set_cons_zero, List.set_cons_succ, List.getElem_toArray, List.getElem_cons_zero, List.getElem_cons_succ]
            refine' wpAnyH_take (i := 20) (v := _) rfl (by kernel_rfl) (by kernel_rfl) (by kernel_rfl) (fun _ _ _ h => h) (Or.inl ⟨by rfl, ?hy1021⟩) hHeld ?hr1021
            case hy1021 => (intro w hSw; (try dsimp only at hSw); go_simp; (try with_reducible rfl))
            simp only [Act.put, List.setIfInBounds_toArray, List.set_cons_zero, List.set_cons_succ, List.getElem_toArray, List.getElem_cons_zero, List.getElem_cons_succ]
            refine' wpAnyH_take (i := 21) (v := _) rfl (by kernel_rfl) (by kernel_rfl) (by kernel_rfl) (fun _ _ _ h => h) (Or.inl ⟨by rfl, ?hy1022⟩) hHeld ?hr1022
            case hy1022 => (intro w hSw; (try dsimp only at hSw); go_simp; (try with_reducible rfl))
            simp only [Act.put, List.setIfInBounds_toArray, List.set_cons_zero, List.set_cons_succ, List.getElem_toArray, List.getElem_cons_zero, List.getElem_cons_succ]
            refine' wpAnyH_take (i := 22) (v := _) rfl (by kernel_rfl) (by kernel_rfl) (by kernel_rfl) (fun _ _ _ h => h) (Or.inl ⟨by rfl, ?hy1023⟩) hHeld ?hr1023
            case hy1023 => (intro w hSw; (try dsimp only at hSw); go_simp; (try with_reducible rfl))
            simp only [Act.put, List.setIfInBounds_toArray, List.set_cons_zero, List.set_cons_succ, List.getElem_toArray, List.getElem_cons_zero, List.getElem_cons_succ]
            refine' wpAnyH_take (i := 23) (v := _) rfl (by kernel_rfl) (by kernel_rfl) (by kernel_rfl) (fun _ _ _ h => h) (Or.inl ⟨by rfl, ?hy1024⟩) hHeld ?hr1024
            case hy1024 => (intro w hSw; (try dsimp only at hSw); go_simp; (try with_reducible rfl))
            simp only [Act.put, List.setIfInBounds_toArray, List.set_cons_zero, List.set_cons_succ, List.getElem_toArray, List.getElem_cons_zero, List.getElem_cons_succ]
            refine wpAnyH_ready (rs := [24]) (by kernel_rfl) (by simp) (allReady_1 rfl rfl (fun K hK => ?_))
            go_simp
            refine (l1Max_e _ _ _).mono ?_
            rintro e w9 ⟨rfl, hw9⟩
            subst hw9
            go_wp2_with fail
            refine hK.out _ _ (hHeld) (fun hHeld => ?_)
            clear hK K
            (try simp only [Act.put, List.setIfInBounds_toArray, List.set_cons_zero, List.set_cons_succ, List.getElem_toArray, List.getElem_cons_zero, List.getElem_cons_succ])
            refine' wpAnyH_take (i := 25) (v := _) rfl (by kernel_rfl) (by kernel_rfl) (by kernel_rfl) (fun _ _ _ h => h) (Or.inl ⟨by rfl, ?hy1025⟩) hHeld ?hr1025
            case hy1025 => (intro w hSw; (try dsimp only at hSw); go_simp; (try with_reducible rfl))
            simp only [Act.put, List.setIfInBounds_toArray, List.set_cons_zero, List.set_cons_succ, List.getElem_toArray, List.getElem_cons_zero, List.getElem_cons_succ]
            refine wpAnyH_ready (rs := [26]) (by kernel_rfl) (by simp) (allReady_1 rfl rfl (fun K hK => ?_))
            go_simp
            refine hK.out _ _ (kst _ hHeld) (fun hHeld => ?_)
            clear hK K
            (try simp only [Act.put, List.setIfInBounds_toArray, List.set_cons_zero, List.set_cons_succ, List.getElem_toArray, List.getElem_cons_zero, List.getElem_cons_succ])
            refine wpAnyH_done (by kernel_rfl) ?_ _
            refine NoPanic.normal ?_
            go_wp2
            go_roundw
            case rel => exact ⟨j + 1, us.set p (.int .i64 (max F2 F3)), by omega, by omega, by go_num, hst1, by simpa using hul, hset, hbel2.grown (row := some w1.heap.size) ⟨hst2.os, hst2.tape, hst2.output, hst2.size, hst2.block⟩ hbel2.size (fun k hk => by cases hk; exact Nat.le_refl _)⟩
            case measure => simp [intOf]; omega
        · have hjn : ¬ (j : Int) ≤ (n : Int) := by have := hW.out; omega
          have hjW : j = W := by omega
          subst hjW
          have hT3 := hT2.out.row
          clear hca hcb
          go_wp2
          go_roundw
          case rel => exact ⟨i + 1, us, by omega, by omega, by go_num, ho2, hul, hT3, hbel2⟩
          case measure => simp [intOf]; omega
    · have hii : ¬ (i : Int) ≤ (m : Int) := by omega
      have him : i = m + 1 := by omega
      have hmM := hM.out
      have h2 := tab_lt (W := W) (Nat.le_refl m) (show n < W by have := hW.out; omega)
      have hc := hT.out.at m n (by have := hW.out; omega) (Nat.le_refl _) (by omega)
      rw [← hlast.out, ← ho1.cellAt (N - 1) (by rw [← hNf.out] at h2; omega)] at hc
      have hNN : 0 < N := by rw [← hNf.out] at h2; omega
      have hw : IntKind.i64.wrap ((N : Int) - 1) = ((N - 1 : Nat) : Int) := wid (by omega) (by omega) (by omega)
      have hlt2 : N - 1 < N := by omega
      generalize N - 1 = L at *
      clear hca hcb hT ho1 h2 hlast him hmM
      go_wp2
      go_ret
      exact ⟨rfl, hbel⟩
end Go.Proofs.Ytdahcdgefflkaaa
namespace Go.Proofs.Ytdahcdgefflkaaa
open Go.ChangeShapes Go.WideShapes Go.ChangeAt Go.RowKit
def alikeB (xs ys : List Int) (i j : Nat) : Bool := decide (0 < i ∧ 0 < j ∧ xs.getD (i - 1) 0 = ys.getD (j - 1) 0)
set_option maxHeartbeats 1000000 in
set_option maxRecDepth 20000 in
theorem alike_any (B : Nat) (va vb vw : Value) (L : Int) (R : Nat → Nat → Int) (xs ys : List Int) (w : World) (h : RtB w B va vb vw L R) (ha : SlI w va xs) (hb : SlI w vb ys) (hx : xs.length ≤ 40) (hy : ys.length ≤ 40) (i j : Nat) (hi : i ≤ xs.length) (hj : j ≤ ys.length) :
    Calls Try.prog 55 #[.pointer (some ⟨B, 0, none⟩), .int .i64 i, .int .i64 j] w fun e w' => e = .returned (.bool (alikeB xs ys i j)) ∧ Below w.heap.size w w' := by
  obtain ⟨r, hr⟩ : ∃ r, Hid (alikeB xs ys i j = r) := ⟨_, rfl⟩
  rw [hr.out]
  obtain ⟨a, c, rfl, hca⟩ := ha
  obtain ⟨a', c', rfl, hcb⟩ := hb
  obtain ⟨c0, c1, _, _⟩ := h.cells
  clear h
  by_cases h1 : i = 0
  · subst h1
    have e : r = false := by rw [← hr.out]; exact decide_eq_false (by omega)
    subst e
    clear hr hca hcb c0 c1
    go_enter Try.func55, Try.ntmps55
    go_wp2
    go_quiet (fail)
    go_wp2
    go_ret
    exact ⟨rfl, drwB w nq⟩
  by_cases h2 : j = 0
  · subst h2
    have e : r = false := by rw [← hr.out]; exact decide_eq_false (by omega)
    subst e
    have hi0 : (0 : Int) < (i : Int) := by omega
    have q1 : decide (0 < i) = true := decide_eq_true (by omega)
    clear hr hca hcb c0 c1
    go_enter Try.func55, Try.ntmps55
    go_wp2
    go_quiet (fail)
    go_wp2
    go_ret
    exact ⟨rfl, drwB w nq⟩
  obtain ⟨i1, hi1⟩ : ∃ i1, Hid (i = i1 + 1) := ⟨i - 1, by show i = i - 1 + 1; omega⟩
  obtain ⟨j1, hj1⟩ : ∃ j1, Hid (j = j1 + 1) := ⟨j - 1, by show j = j - 1 + 1; omega⟩
  have e3 : IntKind.i64.wrap ((i : Int) - 1) = (i1 : Int) := wid (by have := hi1.out; omega) (by omega) (by omega)
  have e8 : IntKind.i64.wrap ((j : Int) - 1) = (j1 : Int) := wid (by have := hj1.out; omega) (by omega) (by omega)
  have him : i1 < xs.length := by have := hi1.out; omega
  have hjm : j1 < ys.length := by have := hj1.out; omega
  have hi0 : (0 : Int) < (i : Int) := by omega
  have hj0 : (0 : Int) < (j : Int) := by omega
  have q1 : decide (0 < i) = true := decide_eq_true (by omega)
  have q2 : decide (0 < j) = true := decide_eq_true (by omega)
  rcases hca with h | ⟨b, off, rfl, hbb, hs1⟩
  · exfalso; rw [h] at him; simp at him
  rcases hcb with h | ⟨b', off', rfl, hbb', hs2⟩
  · exfalso; rw [h] at hjm; simp at hjm
  have k1 := hs1 i1 him
  have k2 := hs2 j1 hjm
  have hrr : r = decide (xs.getD i1 0 = ys.getD j1 0) := by
    rw [← hr.out]; unfold alikeB
    rw [show i - 1 = i1 by have := hi1.out; omega, show j - 1 = j1 by have := hj1.out; omega]
    have : (0 < i ∧ 0 < j ∧ xs.getD i1 0 = ys.getD j1 0) ↔ (xs.getD i1 0 = ys.getD j1 0) := ⟨fun h => h.2.2, fun h => ⟨by omega, by omega, h⟩⟩
    simp only [this]
  generalize xs.length = m at *
  generalize ys.length = n at *
  generalize xs.getD i1 0 = x at *
  generalize ys.getD j1 0 = y at *
  clear hr hs1 hs2
  by_cases hxy : x = y
  · subst hxy
    have e : r = true := by rw [hrr]; exact decide_eq_true rfl
    subst e
    clear hrr
    go_enter Try.func55, Try.ntmps55
    go_wp2
    go_quiet (fail)
    go_wp2
    go_ret
    exact ⟨rfl, drwB w nq⟩
  · have e : r = false := by rw [hrr]; exact decide_eq_false hxy
    subst e
    clear hrr
    have hq : (x == y) = false := by simpa using hxy
    go_enter Try.func55, Try.ntmps55
    go_wp2
    go_quiet (fail)
    go_wp2
    go_ret
    exact ⟨rfl, drwB w nq⟩
end Go.Proofs.Ytdahcdgefflkaaa
namespace Go.Proofs.Ytdahcdgefflkaaa
open Go.ChangeShapes Go.WideShapes Go.ChangeAt Go.RowKit
/-- The ways: a step's kind, and how many numbers fewer it leaves. -/
def waysL (t : Bool) : List (Int × Nat × Nat) := if t then [(3, 1, 1), (1, 1, 0), (2, 0, 1)] else [(1, 1, 0), (2, 0, 1)]
theorem fits_any (kd : Int) (fa fb i j : Nat) (w : World) :
    Calls Try.prog 56 #[.agg #[.int .i64 kd, .int .i64 fa, .int .i64 fb], .int .i64 i, .int .i64 j] w fun e w' => e = .returned (.bool (decide (fa ≤ i ∧ fb ≤ j))) ∧ Below w.heap.size w w' := by
  obtain ⟨r, hr⟩ : ∃ r, Hid (decide (fa ≤ i ∧ fb ≤ j) = r) := ⟨_, rfl⟩
  rw [hr.out]
  go_enter Try.func56, Try.ntmps56
  by_cases h1 : fa ≤ i
  · have h1i : (fa : Int) ≤ (i : Int) := by omega
    by_cases h2 : fb ≤ j
    · have h2i : (fb : Int) ≤ (j : Int) := by omega
      have e : r = true := by rw [← hr.out]; exact decide_eq_true ⟨h1, h2⟩
      subst e; clear hr
      go_wp2
      go_ret
      exact ⟨rfl, (Below.refl _ _).alloc (Nat.le_refl _) _⟩
    · have h2i : ¬ (fb : Int) ≤ (j : Int) := by omega
      have e : r = false := by rw [← hr.out]; exact decide_eq_false (fun h => h2 h.2)
      subst e; clear hr
      go_wp2
      go_ret
      exact ⟨rfl, (Below.refl _ _).alloc (Nat.le_refl _) _⟩
  · have h1i : ¬ (fa : Int) ≤ (i : Int) := by omega
    have e : r = false := by rw [← hr.out]; exact decide_eq_false (fun h => h1 h.1)
    subst e; clear hr
    go_wp2
    go_ret
    exact ⟨rfl, (Below.refl _ _).alloc (Nat.le_refl _) _⟩
/-- A slice of ways that can be read. -/
def WyS (w : World) (v : Value) (ws : List (Int × Nat × Nat)) : Prop :=
  ∃ V c, v = .slice (some ⟨V, 0, none⟩) ws.length c ∧ V < w.heap.size ∧ ∀ k, k < ws.length → w.cell? ⟨V, k * 3, none⟩ = some (.int .i64 (ws.getD k (0, 0, 0)).1) ∧ w.cell? ⟨V, k * 3 + 1, none⟩ = some (.int .i64 ((ws.getD k (0, 0, 0)).2.1 : Nat)) ∧ w.cell? ⟨V, k * 3 + 2, none⟩ = some (.int .i64 ((ws.getD k (0, 0, 0)).2.2 : Nat))
theorem WyS.below {w w' : World} {v : Value} {ws : List (Int × Nat × Nat)} (h : WyS w v ws) (hb : Below w.heap.size w w') : WyS w' v ws := by
  obtain ⟨V, c, hv, hlt, hc⟩ := h
  refine ⟨V, c, hv, Nat.lt_of_lt_of_le hlt hb.size, fun k hk => ?_⟩
  have e : ∀ q, w'.cell? ⟨V, q, none⟩ = w.cell? ⟨V, q, none⟩ := fun q => hb.cell (p := ⟨V, q, none⟩) hlt
  rw [e, e, e]; exact hc k hk
/-- One way more. -/
def wayS (R : Nat → Nat → Int) (i j : Nat) (acc : Int) (y : Int × Nat × Nat) : Int := if y.2.1 ≤ i ∧ y.2.2 ≤ j then min acc (R (i - y.2.1) (j - y.2.2) + 1) else acc
def waysS (R : Nat → Nat → Int) (i j : Nat) (ws : List (Int × Nat × Nat)) : Int := ws.foldl (wayS R i j) 160
theorem waysS_snoc (R : Nat → Nat → Int) (i j : Nat) (ws : List (Int × Nat × Nat)) (k : Nat) (h : k < ws.length) : waysS R i j (ws.take (k + 1)) = wayS R i j (waysS R i j (ws.take k)) (ws.getD k (0, 0, 0)) := by
  unfold waysS
  rw [List.take_succ_eq_append_getElem h, List.foldl_append]
  simp [h]
theorem edS_ways (t : Bool) (x y : Nat → Int) (R : Nat → Nat → Int) (i j : Nat) (h0 : ¬ (i = 0 ∧ j = 0)) (hn : ∀ i1 j1, i = i1 + 1 → j = j1 + 1 → ¬ x i1 = y j1) : edS t x y R i j = waysS R i j (waysL t) := by
  cases i with
  | zero =>
    cases j with
    | zero => exact absurd ⟨rfl, rfl⟩ h0
    | succ j => cases t <;> simp [edS, waysS, waysL, wayS]
  | succ i =>
    cases j with
    | zero => cases t <;> simp [edS, waysS, waysL, wayS]
    | succ j =>
      rw [edS, if_neg (hn i j rfl rfl)]
      cases t <;> simp [waysS, waysL, wayS]
theorem wayS_bd (R : Nat → Nat → Int) (i j : Nat) (hR : ∀ i' j', i' ≤ i → j' ≤ j → (i' < i ∨ j' < j) → 0 ≤ R i' j') (acc : Int) (y : Int × Nat × Nat) (hy : 0 < y.2.1 ∨ 0 < y.2.2) (h : 0 ≤ acc ∧ acc ≤ 160) : 0 ≤ wayS R i j acc y ∧ wayS R i j acc y ≤ 160 := by
  unfold wayS
  split
  · have := hR (i - y.2.1) (j - y.2.2) (by omega) (by omega) (by omega); omega
  · exact h
end Go.Proofs.Ytdahcdgefflkaaa
namespace Go.Proofs.Ytdahcdgefflkaaa
open Go.ChangeShapes Go.WideShapes Go.ChangeAt Go.RowKit
theorem min_if (a b : Int) : (if b < a then b else a) = min a b := by split <;> omega
theorem waysL_bd (t : Bool) (k : Nat) (h : k < (waysL t).length) : ((waysL t).getD k (0, 0, 0)).2.1 ≤ 1 ∧ ((waysL t).getD k (0, 0, 0)).2.2 ≤ 1 ∧ (0 < ((waysL t).getD k (0, 0, 0)).2.1 ∨ 0 < ((waysL t).getD k (0, 0, 0)).2.2) := by
  cases t
  · match k, h with
    | 0, _ => decide
    | 1, _ => decide
  · match k, h with
    | 0, _ => decide
    | 1, _ => decide
    | 2, _ => decide
set_option maxHeartbeats 4000000 in
set_option maxRecDepth 20000 in
theorem stepsTo_any (t : Bool) (B : Nat) (va vb vw : Value) (L : Int) (R : Nat → Nat → Int) (xs ys : List Int) (w : World) (h : RtB w B va vb vw L R) (ha : SlI w va xs) (hb : SlI w vb ys) (hw : WyS w vw (waysL t)) (hx : xs.length ≤ 40) (hy : ys.length ≤ 40) (i j : Nat) (hi : i ≤ xs.length) (hj : j ≤ ys.length)
    (hbd : ∀ i' j', i' ≤ i → j' ≤ j → (i' < i ∨ j' < j) → 0 ≤ R i' j' ∧ R i' j' ≤ 160) :
    Calls Try.prog 61 #[.pointer (some ⟨B, 0, none⟩), .int .i64 i, .int .i64 j] w fun e w' => e = .returned (.int .i64 (edS t (fun k => xs.getD k 0) (fun k => ys.getD k 0) R i j)) ∧ Below w.heap.size w w' := by
  have hal := alike_any B va vb vw L R xs ys w h ha hb hx hy i j hi hj
  have hlt := h.lt
  obtain ⟨S, hS⟩ : ∃ S, Hid (edS t (fun k => xs.getD k 0) (fun k => ys.getD k 0) R i j = S) := ⟨_, rfl⟩
  rw [hS.out]
  by_cases h00 : i = 0 ∧ j = 0
  · obtain ⟨rfl, rfl⟩ := h00
    have e : S = 0 := by rw [← hS.out]; rfl
    subst e
    clear hS hal hbd
    go_enter Try.func61, Try.ntmps61
    go_wp2
    go_ret
    exact ⟨rfl, Below.refl _ _⟩
  have hnn : ¬ ((i : Int) = 0 ∧ (j : Int) = 0) := by omega
  by_cases hA : alikeB xs ys i j = true
  · rw [hA] at hal
    have hA2 := of_decide_eq_true hA
    obtain ⟨i1, rfl⟩ : ∃ i1, i = i1 + 1 := ⟨i - 1, by omega⟩
    obtain ⟨j1, rfl⟩ : ∃ j1, j = j1 + 1 := ⟨j - 1, by omega⟩
    have e : S = R i1 j1 := by rw [← hS.out, edS, if_pos (by simpa using hA2.2.2)]
    subst e
    clear hS hbd hA hA2
    generalize hi' : i1 + 1 = i at *
    generalize hj' : j1 + 1 = j at *
    replace hi' := (show Hid _ from hi')
    replace hj' := (show Hid _ from hj')
    have e3 : IntKind.i64.wrap ((i : Int) - 1) = (i1 : Int) := wid (by have := hi'.out; omega) (by omega) (by omega)
    have e8 : IntKind.i64.wrap ((j : Int) - 1) = (j1 : Int) := wid (by have := hj'.out; omega) (by omega) (by omega)
    have i0 : ¬ ((i : Int) = 0) := by have := hi'.out; omega
    have i41 : i1 < 41 := by have := hi'.out; omega
    have j41 : j1 < 41 := by have := hj'.out; omega
    have c4 : ∀ W, Below w.heap.size w W → W.cell? ⟨B, 4 + i1 * 41 + j1, none⟩ = some (.int .i64 (R i1 j1)) := fun W hb => (h.below hb).at i1 j1 (by omega) (by omega)
    go_enter Try.func61, Try.ntmps61
    go_wp2_with (go_at_call 55; refine hal.mono ?_; rintro e w1 ⟨rfl, hb1⟩; have c5 := c4 _ hb1)
    go_ret
    exact ⟨rfl, hb1⟩
  have hA : alikeB xs ys i j = false := by simpa using hA
  rw [hA] at hal
  have hA2 := of_decide_eq_false hA
  have e := edS_ways t (fun k => xs.getD k 0) (fun k => ys.getD k 0) R i j h00 (fun i1 j1 e1 e2 => by
    subst e1; subst e2
    intro q
    exact hA2 ⟨by omega, by omega, by simpa using q⟩)
  rw [hS.out] at e
  subst e
  have hwb := waysL_bd t
  generalize hws : waysL t = ws at *
  obtain ⟨V, c, rfl, hVl, hVc⟩ := hw
  have hN : ws.length ≤ 3 := by rw [← hws]; cases t <;> decide
  clear hS hA hA2 hws
  have c2 : ∀ W, Below w.heap.size w W → W.cell? ⟨B, 2, none⟩ = some (.slice (some ⟨V, 0, none⟩) ws.length c) := fun W hb => (h.below hb).cells.2.2.1
  have c4 : ∀ W p q, Below w.heap.size w W → p ≤ 40 → q ≤ 40 → W.cell? ⟨B, 4 + p * 41 + q, none⟩ = some (.int .i64 (R p q)) := fun W p q hb h1 h2 => (h.below hb).at p q h1 h2
  have cV : ∀ W q, Below w.heap.size w W → W.cell? ⟨V, q, none⟩ = w.cell? ⟨V, q, none⟩ := fun W q hb => hb.cell (p := ⟨V, q, none⟩) hVl
  obtain ⟨N, hNn⟩ : ∃ N, Hid (ws.length = N) := ⟨_, rfl⟩
  rw [hNn.out] at hN c2
  have hfin : waysS R i j ws = waysS R i j (ws.take N) := by rw [← hNn.out, List.take_length]
  rw [hfin]
  have hstep : ∀ k, k < N → waysS R i j (ws.take (k + 1)) = wayS R i j (waysS R i j (ws.take k)) (ws.getD k (0, 0, 0)) := fun k hk => waysS_snoc R i j ws k (by rw [hNn.out]; exact hk)
  have hVc2 : ∀ k, k < N → _ := fun k hk => hVc k (by rw [hNn.out]; exact hk)
  have hwb2 : ∀ k, k < N → _ := fun k hk => hwb k (by rw [hNn.out]; exact hk)
  clear hfin hVc hwb
  generalize hac : (fun k => waysS R i j (ws.take k)) = ac at *
  have hac0 : ac 0 = 160 := by rw [← hac]; rfl
  have hacN : waysS R i j (ws.take N) = ac N := by rw [← hac]
  rw [hacN]
  have hst2 : ∀ k, k < N → ac (k + 1) = wayS R i j (ac k) (ws.getD k (0, 0, 0)) := fun k hk => by rw [← hac]; exact hstep k hk
  have hlim : ∀ k, k ≤ N → 0 ≤ ac k ∧ ac k ≤ 160 := fun k => by
    induction k with
    | zero => intro _; rw [hac0]; omega
    | succ k ih =>
      intro hk
      rw [hst2 k (by omega)]
      exact wayS_bd R i j (fun i' j' h1 h2 h3 => (hbd i' j' h1 h2 h3).1) _ _ (hwb2 k (by omega)).2.2 (ih (by omega))
  clear hstep hac hacN
  replace cV := (show Hid _ from cV)
  replace c4 := (show Hid _ from c4)
  replace c2 := (show Hid _ from c2)
  replace hst2 := (show Hid _ from hst2)
  replace hlim := (show Hid _ from hlim)
  replace hac0 := (show Hid _ from hac0)
  replace hVc2 := (show Hid _ from hVc2)
  replace hwb2 := (show Hid _ from hwb2)
  replace hbd := (show Hid _ from hbd)
  clear hb
  clear hnn
  by_cases q1 : i = 0
  · subst q1
    have q2 : ¬ ((j : Int) = 0) := by omega
    have e0 : ((0 : Nat) : Int) = 0 := rfl
    rw [e0] at hal
    clear e0 h00
    go_enter Try.func61, Try.ntmps61
    go_wp2_with (go_at_call 55; refine hal.mono ?_; rintro e w1 ⟨rfl, hb1⟩; have c3 := c2.out _ hb1)
    go_loopw [7, 9, 35] (fun lv _ kv wr => ∃ k : Nat, k ≤ N ∧ kv = .int .i64 k ∧ lv = .int .i64 (ac k) ∧ Below w.heap.size w wr) (fun _ _ kv _ => N - (intOf kv).toNat)
    case atStart => exact ⟨0, Nat.zero_le _, rfl, by rw [hac0.out], hb1⟩
    case round =>
      obtain ⟨k, hk, rfl, rfl, kb⟩ := hrel
      clear hb1 c3 hal
      by_cases hlk : k < N
      · obtain ⟨v0, v1, v2⟩ := hVc2.out k hlk
        obtain ⟨b1, b2, b3⟩ := hwb2.out k hlk
        have hs := hst2.out k hlk
        have hl := hlim.out k hk
        have hVw : V < wr.heap.size := Nat.lt_of_lt_of_le hVl kb.size
        rw [← cV.out _ _ kb] at v0 v1 v2
        generalize ws.getD k (0, 0, 0) = y at v0 v1 v2 b1 b2 b3 hs
        obtain ⟨kd, fa, fb⟩ := y
        dsimp only at v0 v1 v2 b1 b2 b3 hs
        generalize ac k = A at *
        obtain ⟨A1, hA1⟩ : ∃ A1, Hid (ac (k + 1) = A1) := ⟨_, rfl⟩
        rw [hA1.out] at hs
        have hki : (k : Int) < (N : Int) := by omega
        have hal1 := bal' wr (Obj.cells #[.int .i64 kd, .int .i64 fa, .int .i64 fb] 54)
        have hbx : BlkC (wr.alloc (Obj.cells #[.int .i64 kd, .int .i64 fa, .int .i64 fb] 54)) wr.heap.size 54 [.int .i64 kd, .int .i64 fa, .int .i64 fb] := heap_alloc_new wr _
        have kb2 := kb.trans (hal1.mono kb.size)
        by_cases hf : fa ≤ 0 ∧ fb ≤ j
        · have hft := fun W => (show Calls Try.prog 56 #[.agg #[.int .i64 kd, .int .i64 fa, .int .i64 fb], .int .i64 0, .int .i64 j] W (fun e w' => e = .returned (.bool (decide (fa ≤ 0 ∧ fb ≤ j))) ∧ Below W.heap.size W w') from fits_any kd fa fb 0 j W)
          simp only [decide_eq_true hf] at hft
          obtain ⟨hf0, hf1⟩ := hf
          obtain rfl : fa = 0 := by omega
          obtain ⟨q, hq⟩ : ∃ q, Hid (q = j - fb) := ⟨_, rfl⟩
          have hs2 : A1 = min A (R 0 q + 1) := by rw [hs, hq.out]; exact if_pos ⟨hf0, hf1⟩
          have e2 : IntKind.i64.wrap ((j : Int) - (fb : Int)) = (q : Int) := wid (by have := hq.out; omega) (by omega) (by omega)
          have q41 : q < 41 := by have := hq.out; omega
          have hbR := hbd.out 0 q (by omega) (by have := hq.out; omega) (by have := hq.out; omega)
          have e9 : IntKind.i64.wrap (R 0 q + 1) = R 0 q + 1 := wid rfl (by omega) (by omega)
          replace hs := hs2
          have e0 : ((0 : Nat) : Int) = 0 := rfl
          rw [e0] at v1 hbx kb2
          simp only [e0] at hft
          clear hs2 hf0 hf1 e0
          replace kb2 := (show Hid _ from kb2)
          replace hbx := (show Hid _ from hbx)
          go_wp2_with fail
          refine (hft _).mono ?_
          rintro e w3 ⟨rfl, hb3⟩
          have kb3 := kb2.out.trans (hb3.mono kb2.out.size)
          have d5 := (show w3.cell? ⟨B, 4 + q, none⟩ = _ from by have := c4.out w3 0 q kb3 (by omega) (by omega); simpa using this)
          have d1 : w3.cell? ⟨wr.heap.size, 1, none⟩ = some (.int .i64 0) := cell_blk (BlkC.below hbx.out hb3) 1
          have d2 : w3.cell? ⟨wr.heap.size, 2, none⟩ = some (.int .i64 fb) := cell_blk (BlkC.below hbx.out hb3) 2
          go_wp2
          go_quiet (fail)
          go_wp2
          go_roundw
          case rel => exact ⟨k + 1, by omega, by go_num, by rw [hA1.out, hs, ← min_if], kb3.trans ((drwB w3 nq).mono kb3.size)⟩
          case measure => simp [intOf]; omega
        · have hft := fun W => (show Calls Try.prog 56 #[.agg #[.int .i64 kd, .int .i64 fa, .int .i64 fb], .int .i64 0, .int .i64 j] W (fun e w' => e = .returned (.bool (decide (fa ≤ 0 ∧ fb ≤ j))) ∧ Below W.heap.size W w') from fits_any kd fa fb 0 j W)
          simp only [decide_eq_false hf] at hft
          have hs2 : A1 = A := by rw [hs]; exact if_neg hf
          clear hs hf
          replace kb2 := (show Hid _ from kb2)
          replace hs2 := (show Hid _ from hs2)
          clear hbx
          go_wp2_with (go_at_call 56; refine (hft _).mono ?_; rintro e w3 ⟨rfl, hb3⟩; have kb3 := kb2.out.trans (hb3.mono kb2.out.size))
          go_roundw
          case rel => exact ⟨k + 1, by omega, by go_num, by rw [hA1.out, hs2.out], kb3⟩
          case measure => simp [intOf]; omega
      · have hkN : k = N := by omega
        subst hkN
        go_wp2
        go_ret
        exact ⟨rfl, kb⟩
  · have q2 : ¬ ((i : Int) = 0) := by omega
    clear h00
    go_enter Try.func61, Try.ntmps61
    go_wp2_with (go_at_call 55; refine hal.mono ?_; rintro e w1 ⟨rfl, hb1⟩; have c3 := c2.out _ hb1)
    go_loopw [7, 9, 35] (fun lv _ kv wr => ∃ k : Nat, k ≤ N ∧ kv = .int .i64 k ∧ lv = .int .i64 (ac k) ∧ Below w.heap.size w wr) (fun _ _ kv _ => N - (intOf kv).toNat)
    case atStart => exact ⟨0, Nat.zero_le _, rfl, by rw [hac0.out], hb1⟩
    case round =>
      obtain ⟨k, hk, rfl, rfl, kb⟩ := hrel
      clear hb1 c3 hal
      by_cases hlk : k < N
      · obtain ⟨v0, v1, v2⟩ := hVc2.out k hlk
        obtain ⟨b1, b2, b3⟩ := hwb2.out k hlk
        have hs := hst2.out k hlk
        have hl := hlim.out k hk
        have hVw : V < wr.heap.size := Nat.lt_of_lt_of_le hVl kb.size
        rw [← cV.out _ _ kb] at v0 v1 v2
        generalize ws.getD k (0, 0, 0) = y at v0 v1 v2 b1 b2 b3 hs
        obtain ⟨kd, fa, fb⟩ := y
        dsimp only at v0 v1 v2 b1 b2 b3 hs
        generalize ac k = A at *
        obtain ⟨A1, hA1⟩ : ∃ A1, Hid (ac (k + 1) = A1) := ⟨_, rfl⟩
        rw [hA1.out] at hs
        have hki : (k : Int) < (N : Int) := by omega
        have hal1 := bal' wr (Obj.cells #[.int .i64 kd, .int .i64 fa, .int .i64 fb] 54)
        have hbx : BlkC (wr.alloc (Obj.cells #[.int .i64 kd, .int .i64 fa, .int .i64 fb] 54)) wr.heap.size 54 [.int .i64 kd, .int .i64 fa, .int .i64 fb] := heap_alloc_new wr _
        have kb2 := kb.trans (hal1.mono kb.size)
        by_cases hf : fa ≤ i ∧ fb ≤ j
        · have hft := fun W => fits_any kd fa fb i j W
          simp only [decide_eq_true hf] at hft
          obtain ⟨p, hp⟩ : ∃ p, Hid (p = i - fa) := ⟨_, rfl⟩
          obtain ⟨q, hq⟩ : ∃ q, Hid (q = j - fb) := ⟨_, rfl⟩
          have hs2 : A1 = min A (R p q + 1) := by rw [hs, hp.out, hq.out]; exact if_pos hf
          have e1 : IntKind.i64.wrap ((i : Int) - (fa : Int)) = (p : Int) := wid (by have := hp.out; omega) (by omega) (by omega)
          have e2 : IntKind.i64.wrap ((j : Int) - (fb : Int)) = (q : Int) := wid (by have := hq.out; omega) (by omega) (by omega)
          have p41 : p < 41 := by have := hp.out; omega
          have q41 : q < 41 := by have := hq.out; omega
          have hbR := hbd.out p q (by have := hp.out; omega) (by have := hq.out; omega) (by have := hp.out; have := hq.out; omega)
          have e9 : IntKind.i64.wrap (R p q + 1) = R p q + 1 := wid rfl (by omega) (by omega)
          replace hs := hs2
          clear hs2 hf
          replace kb2 := (show Hid _ from kb2)
          replace hbx := (show Hid _ from hbx)
          go_wp2_with fail
          refine (hft _).mono ?_
          rintro e w3 ⟨rfl, hb3⟩
          have kb3 := kb2.out.trans (hb3.mono kb2.out.size)
          have d5 := c4.out w3 p q kb3 (by omega) (by omega)
          have d1 : w3.cell? ⟨wr.heap.size, 1, none⟩ = some (.int .i64 fa) := cell_blk (BlkC.below hbx.out hb3) 1
          have d2 : w3.cell? ⟨wr.heap.size, 2, none⟩ = some (.int .i64 fb) := cell_blk (BlkC.below hbx.out hb3) 2
          go_wp2
          go_quiet (fail)
          go_wp2
          go_roundw
          case rel => exact ⟨k + 1, by omega, by go_num, by rw [hA1.out, hs, ← min_if], kb3.trans ((drwB w3 nq).mono kb3.size)⟩
          case measure => simp [intOf]; omega
        · have hft := fun W => fits_any kd fa fb i j W
          simp only [decide_eq_false hf] at hft
          have hs2 : A1 = A := by rw [hs]; exact if_neg hf
          clear hs hf
          replace kb2 := (show Hid _ from kb2)
          replace hs2 := (show Hid _ from hs2)
          clear hbx
          go_wp2_with (go_at_call 56; refine (hft _).mono ?_; rintro e w3 ⟨rfl, hb3⟩; have kb3 := kb2.out.trans (hb3.mono kb2.out.size))
          go_roundw
          case rel => exact ⟨k + 1, by omega, by go_num, by rw [hA1.out, hs2.out], kb3⟩
          case measure => simp [intOf]; omega
      · have hkN : k = N := by omega
        subst hkN
        go_wp2
        go_ret
        exact ⟨rfl, kb⟩
end Go.Proofs.Ytdahcdgefflkaaa
namespace Go.Proofs.Ytdahcdgefflkaaa
open Go.ChangeShapes Go.WideShapes Go.ChangeAt Go.RowKit
theorem wp_store_at {P : Program} {o : Oper} {a : Act} {w : World} {K : Act → World → Prop} {Q : Exit → Act → World → Prop} (t : TypeId) (x y : Operand) (ho : o.op = .store t x y) {e : TypeId} {B k n : Nat} {cs : List Value} {v : Value} (hi : (P.info? t).map (·.size) = some n) (hb : BlkC w B e cs) (hx : a.eval x = .pointer (some ⟨B, k, none⟩)) (hy : a.eval y = v) (hn : v.cells.size = n) (h1 : v.cells.toList.all (·.oneCell') = true) (hk : Nat.ble (k + n) cs.length = true)
    (h : K (a.put o.dst undef) (w.setCells B k v.cells.toList)) : o.wp P a w K Q := by
  have hk := Nat.le_of_ble_eq_true hk
  rw [← hn] at hi hk
  have hs := run_storeCells_cells (P := P) B k v.cells.toList 0 w (fun j hj => by
      rw [cell_of_row w B _ cs.toArray e (0, 0) hb]
      simp at hj ⊢; omega) (fun j hj => frozen_of_row w B _ _ _ hb) (fun u hu => List.all_eq_true.1 h1 u hu)
  rw [Nat.add_zero] at hs
  unfold Oper.wp
  cases hq : P.info? t with
  | none => simp [hq] at hi
  | some i =>
    have hsz : v.cells.size = i.size := by simp [hq] at hi; omega
    simp [execOp, ho, hx, hy, Instr.storeAt, Instr.sureAddr, storeVar, sizeOf, typeInfo, hq, hsz, Result.andThen, hs]
    exact h
theorem Below.gr {w w' : World} (h : Below w.heap.size w w') (row : Option Nat) : w.grownBy w' row := ⟨h.os, h.tape, h.output, h.size, fun k hk _ => h.block k hk⟩
theorem edC_bd (l d : Int) (hl : 0 ≤ l ∧ l < 160) (hd : 0 ≤ d) : 0 ≤ edC l d ∧ edC l d ≤ 160 := by unfold edC; split <;> omega
/-- Rows that are filled up to a place. -/
def Fil (L : Int) (D R : Nat → Nat → Int) (n i j : Nat) : Prop :=
  (∀ i' j', i' < i → j' ≤ n → R i' j' = edC L (D i' j')) ∧ (∀ j', j' < j → R i j' = edC L (D i j')) ∧ (∀ j', j ≤ j' → j' ≤ 40 → R i j' = 160)
set_option maxHeartbeats 4000000 in
set_option maxRecDepth 20000 in
theorem fillRow_any (t : Bool) (w0 : World) (B : Nat) (hB0 : w0.heap.size ≤ B) (va vb vw : Value) (L : Int) (hL : 0 ≤ L ∧ L < 160) (R : Nat → Nat → Int) (xs ys : List Int) (ha : SlI w0 va xs) (hb : SlI w0 vb ys) (hw : WyS w0 vw (waysL t)) (hx : xs.length ≤ 40) (hy : ys.length ≤ 40) (i : Nat) (hi : i ≤ xs.length)
    (w : World) (h : RtB w B va vb vw L R) (kb : Below w0.heap.size w0 w) (hF : ∀ i' j', i' < i → j' ≤ ys.length → R i' j' = edC L (edD t (fun k => xs.getD k 0) (fun k => ys.getD k 0) i' j')) :
    Calls Try.prog 53 #[.pointer (some ⟨B, 0, none⟩), .int .i64 i] w fun e w' => e = .returned (.tuple #[]) ∧ w.grownBy w' (some B) ∧ ∃ R', RtB w' B va vb vw L R' ∧ Fil L (edD t (fun k => xs.getD k 0) (fun k => ys.getD k 0)) R' ys.length i (ys.length + 1) := by
  obtain ⟨cs, h1, hl, h2⟩ := h
  have hd : Below w.heap.size w w.drew := ⟨rfl, rfl, rfl, Nat.le_refl _, fun _ _ => rfl⟩
  have i41 : (i : Int) < 41 := by omega
  obtain ⟨D, hD⟩ : ∃ D, Hid (D = edD t (fun k => xs.getD k 0) (fun k => ys.getD k 0)) := ⟨_, rfl⟩
  rw [← hD.out] at hF ⊢
  obtain ⟨N, hN⟩ : ∃ N, Hid (ys.length + 1 = N) := ⟨_, rfl⟩
  rw [hN.out]
  have hN2 : N ≤ 41 := by have := hN.out; omega
  go_enter Try.func53, Try.ntmps53
  go_wp2
  refine wp_region_noPanic ?_
  refine wp_region_held_drew (S := (fun _ => True)) (by kernel_rfl) (trivial) (fun hHeld => ?_)
  refine' wpAnyH_take (i := 0) (v := _) rfl (by kernel_rfl) (by kernel_rfl) (by kernel_rfl) (fun _ _ _ h => h) (Or.inl ⟨by rfl, ?hy1001⟩) hHeld ?hr1001
  case hy1001 => (intro w hSw; (try dsimp only at hSw); go_simp; (try with_reducible rfl))
  simp only [Act.put, List.setIfInBounds_toArray, List.set_cons_zero, List.set_cons_succ, List.getElem_toArray, List.getElem_cons_zero]
  refine' wpAnyH_take (i := 1) (v := _) rfl (by kernel_rfl) (by kernel_rfl) (by kernel_rfl) (fun _ _ _ h => h) (Or.inl ⟨by rfl, ?hy1002⟩) hHeld ?hr1002
  case hy1002 => (intro w hSw; (try dsimp only at hSw); go_simp; (try with_reducible rfl))
  simp only [Act.put, List.setIfInBounds_toArray, List.set_cons_zero, List.set_cons_succ, List.getElem_toArray, List.getElem_cons_zero, List.getElem_cons_succ]
  refine' wpAnyH_take (i := 3) (v := _) rfl (by kernel_rfl) (by kernel_rfl) (by kernel_rfl) (fun _ _ _ h => h) (Or.inl ⟨by rfl, ?hy1003⟩) hHeld ?hr1003
  case hy1003 => (intro w hSw; (try dsimp only at hSw); go_simp; (try with_reducible rfl))
  simp only [Act.put, List.setIfInBounds_toArray, List.set_cons_zero, List.set_cons_succ, List.getElem_toArray, List.getElem_cons_zero, List.getElem_cons_succ]
  refine' wpAnyH_take (i := 4) (v := _) rfl (by kernel_rfl) (by kernel_rfl) (by kernel_rfl) (fun _ _ _ h => h) (Or.inl ⟨by rfl, ?hy1004⟩) hHeld ?hr1004
  case hy1004 => (intro w hSw; (try dsimp only at hSw); go_simp; (try with_reducible rfl))
  simp only [Act.put, List.setIfInBounds_toArray, List.set_cons_zero, List.set_cons_succ, List.getElem_toArray, List.getElem_cons_zero, List.getElem_cons_succ]
  refine wpAnyH_ready (rs := [2]) (by kernel_rfl) (by simp) (allReady_1 rfl rfl (fun K hK => ?_))
  go_simp
  refine (allBeyond_any _).mono ?_
  rintro e w1 ⟨rfl, hb9⟩
  replace hd := hd.trans (hb9.mono hd.size)
  have hB1 := BlkC.below h1 hd
  go_wp2_with fail
  refine hK.out _ _ (trivial) (fun hHeld => ?_)
  clear hK K
  (try simp only [Act.put, List.setIfInBounds_toArray, List.set_cons_zero, List.set_cons_succ, List.getElem_toArray, List.getElem_cons_zero, List.getElem_cons_succ])
  refine' wpAnyH_take (i := 5) (v := _) rfl (by kernel_rfl) (by kernel_rfl) (by kernel_rfl) (fun _ _ _ h => h) (Or.inl ⟨by rfl, ?hy1005⟩) hHeld ?hr1005
  case hy1005 => (intro w hSw; (try dsimp only at hSw); go_simp; (try with_reducible rfl))
  simp only [Act.put, List.setIfInBounds_toArray, List.set_cons_zero, List.set_cons_succ, List.getElem_toArray, List.getElem_cons_zero, List.getElem_cons_succ]
  refine wpAnyH_ready (rs := [6]) (by kernel_rfl) (by simp) (allReady_1 rfl rfl (fun K hK => ?_))
  refine wp_store_at 72 _ _ (by rfl) (v := .agg (rowV (fun _ => 160)).toArray) info_row hB1 (by rfl) (by rfl) (by rfl) (rowV_one _) (Nat.ble_eq_true_of_le (by rw [hl]; omega)) ?_
  refine hK.out _ _ (trivial) (fun hHeld => ?_)
  clear hK K
  (try simp only [Act.put])
  refine wpAnyH_done (by kernel_rfl) ?_ _
  refine NoPanic.normal ?_
  have hB2 : BlkC (w1.setCells B (4 + i * 41) (rowV (fun _ => 160))) B 75 (setV cs (4 + i * 41) (rowV (fun _ => 160))) := setCells_heap B _ (rowV (fun _ => 160)) (4 + i * 41) w1 cs hB1
  have hg2 := grown_tr (Below.gr hd (some B)) (setCells_gr B (rowV (fun _ => 160)) (4 + i * 41) w1)
  have ev : (Value.agg (rowV (fun _ => 160)).toArray).cells.toList = rowV (fun _ => 160) := rfl
  rw [ev]
  obtain ⟨w2, hw2⟩ : ∃ w2, w2 = w1.setCells B (4 + i * 41) (rowV (fun _ => 160)) := ⟨_, rfl⟩
  rw [← hw2] at hB2 hg2 ⊢
  clear hw2 ev hB1 h1
  simp only [List.getElem_toArray, List.getElem_cons_zero, List.getElem_cons_succ]
  obtain ⟨g0, g1, g2, g3, h6⟩ := h2
  have hR2 := RtB.row hl g0 g1 g2 g3 h6 i (by omega) (fun _ => 160) hB2
  have hF2 : Fil L D (rowR R i (fun _ => 160)) ys.length i 0 := by
    refine ⟨fun i' j' h1 h2 => ?_, fun j' h1 => absurd h1 (Nat.not_lt_zero _), fun j' _ _ => ?_⟩
    · unfold rowR; rw [if_neg (by omega)]; exact hF i' j' h1 h2
    · unfold rowR; rw [if_pos rfl]
  clear g0 g1 g2 g3 h6 hB2 hl hd hb9 hF
  have kb2 := kb.grown hg2 kb.size (fun k e => by cases e; exact hB0)
  obtain ⟨_, q1, _, _⟩ := hR2.cells
  have hb2 := hb.below kb2
  obtain ⟨vba, vbc, hvb, _⟩ := hb2
  rw [hvb] at q1
  have eW : IntKind.i64.wrap ((ys.length : Int) + 1) = (N : Int) := wid (by have := hN.out; omega) (by omega) (by omega)

  obtain ⟨R2, hR2e⟩ : ∃ R2, R2 = rowR R i (fun _ => 160) := ⟨_, rfl⟩
  rw [← hR2e] at hR2 hF2
  clear hR2e
  replace hF2 := (show Hid _ from hF2)
  go_wp2
  go_loopw [4, 5, 18] (fun _ _ jv wr => ∃ (j : Nat) (R' : Nat → Nat → Int), j ≤ N ∧ jv = .int .i64 j ∧ RtB wr B va vb vw L R' ∧ Hid (Fil L D R' ys.length i j) ∧ w.grownBy wr (some B)) (fun _ _ jv _ => N - (intOf jv).toNat)
  case atStart => exact ⟨0, R2, Nat.zero_le _, rfl, hR2, hF2, hg2⟩
  case round =>
    obtain ⟨j, R', hj, rfl, hR, hFl, hg⟩ := hrel
    clear hR2 hF2 hg2 kb2 q1
    have hFi := hFl.out
    by_cases hlj : j < N
    · have hji : (j : Int) < (N : Int) := by omega
      have hjn : j ≤ ys.length := by have := hN.out; omega
      have kbr := kb.grown hg kb.size (fun k e => by cases e; exact hB0)
      have hdp := fun i' j' => (edD_bd t (fun k => xs.getD k 0) (fun k => ys.getD k 0) i' j').1
      rw [← hD.out] at hdp
      have hcut := edS_cut t (fun k => xs.getD k 0) (fun k => ys.getD k 0) L hL R' i j (fun i' j' h => by
        rw [← hD.out]
        rcases h with ⟨h1, h2⟩ | ⟨rfl, h2⟩
        · exact hFi.1 i' j' h1 (by omega)
        · exact hFi.2.1 j' h2)
      rw [← hD.out] at hcut
      have hst := stepsTo_any t B va vb vw L R' xs ys wr hR (ha.below kbr) (hb.below kbr) (hw.below kbr) hx hy i j hi hjn (fun i' j' h1 h2 h3 => by
        rcases Nat.lt_or_ge i' i with q | q
        · rw [hFi.1 i' j' q (by omega)]; exact edC_bd L _ hL (hdp _ _)
        · have : i' = i := by omega
          subst this
          rw [hFi.2.1 j' (by omega)]; exact edC_bd L _ hL (hdp _ _))
      generalize edS t (fun k => xs.getD k 0) (fun k => ys.getD k 0) R' i j = s at *
      have j41 : (j : Int) < 41 := by omega
      have i40 : i ≤ 40 := by omega
      have j40 : j ≤ 40 := by omega
      by_cases hs : s ≤ L
      · have hs2 : s = edC L (D i j) := by rw [← hcut]; unfold edC; rw [if_pos hs]
        have hF3 : Fil L D (putR R' i j s) ys.length i (j + 1) := by
          refine ⟨fun i' j' h1 h2 => ?_, fun j' h1 => ?_, fun j' h1 h2 => ?_⟩
          · unfold putR; rw [if_neg (by omega)]; exact hFi.1 i' j' h1 h2
          · unfold putR
            by_cases e : j' = j
            · subst e; rw [if_pos ⟨rfl, rfl⟩]; exact hs2
            · rw [if_neg (by omega)]; exact hFi.2.1 j' (by omega)
          · unfold putR; rw [if_neg (by omega)]; exact hFi.2.2 j' (by omega) h2
        clear hs2 hcut hFl hFi
        replace hF3 := (show Hid _ from hF3)
        replace hR := (show Hid _ from hR)
        go_wp2_with fail
        refine hst.mono ?_
        rintro e w3 ⟨rfl, hb3⟩
        have hR3 := RtB.below hR.out hb3
        obtain ⟨_, _, _, q3⟩ := hR3.cells
        have q4 := hR3.at i j i40 j40
        have hR4 := hR3.put i j i40 j40 s
        have hfz : w3.frozen? ⟨B, 4 + i * 41 + j, none⟩ = false := by obtain ⟨cs, h1, _⟩ := hR3; exact frozen_blk h1 _
        have hg4 := grown_tr hg (grown_tr (Below.gr hb3 (some B)) (setCell_gr w3 B (4 + i * 41 + j) (.int .i64 s)))
        clear hR3 hst hdp
        go_wp2
        go_roundw
        case rel => exact ⟨j + 1, _, by omega, by go_num, hR4, hF3, hg4⟩
        case measure => simp [intOf]; omega
      · have hs2 : (160 : Int) = edC L (D i j) := by rw [← hcut]; unfold edC; rw [if_neg hs]
        have hF3 : Fil L D R' ys.length i (j + 1) := by
          refine ⟨hFi.1, fun j' h1 => ?_, fun j' h1 h2 => hFi.2.2 j' (by omega) h2⟩
          by_cases e : j' = j
          · subst e; rw [← hs2]; exact hFi.2.2 _ (Nat.le_refl _) j40
          · exact hFi.2.1 j' (by omega)
        clear hs2 hcut hFl hFi
        replace hF3 := (show Hid _ from hF3)
        replace hR := (show Hid _ from hR)
        go_wp2_with fail
        refine hst.mono ?_
        rintro e w3 ⟨rfl, hb3⟩
        have hR3 := RtB.below hR.out hb3
        obtain ⟨_, _, _, q3⟩ := hR3.cells
        have hg4 := grown_tr hg (Below.gr hb3 (some B))
        replace hR3 := (show Hid _ from hR3)
        clear hst hdp
        go_wp2
        go_roundw
        case rel => exact ⟨j + 1, _, by omega, by go_num, hR3.out, hF3, hg4⟩
        case measure => simp [intOf]; omega
    · have hjN : j = N := by omega
      subst hjN
      go_wp2
      refine bodyPost_end (results_none rfl _ _ _) rfl ?_
      exact ⟨rfl, hg, R', hR, hFi⟩

end Go.Proofs.Ytdahcdgefflkaaa
namespace Go.Proofs.Ytdahcdgefflkaaa
open Go.ChangeShapes Go.WideShapes Go.ChangeAt Go.RowKit
theorem under_dist : Try.prog.underlying 72 = some (.array 41 2) := by kernel_rfl
theorem plain_i64 : Try.prog.plainKey 2 = true := by kernel_rfl
theorem cells_i64 : Try.prog.cellsOf 2 = 1 := by kernel_rfl
theorem eq_one (d : Nat) (a b : Int) (W : World) : (Op.equalIn (d + 1) 2 (.int .i64 a) (.int .i64 b)).run Try.prog W = .ok (a == b) W := by
  have hu := Try.underlying2
  simp [Op.equalIn, run_underlying hu]
theorem eq_items (f g : Nat → Int) (W : World) : ∀ is : List Nat, (∀ i ∈ is, i < 41) → (Op.eqItems 9999 2 1 (rowV f).toArray (rowV g).toArray is).run Try.prog W = .ok (decide (∀ j ∈ is, f j = g j)) W
  | [], _ => by simp [Op.eqItems]
  | i :: is, h => by
    have ih := eq_items f g W is (fun j hj => h j (List.mem_cons_of_mem _ hj))
    have hi := h i List.mem_cons_self
    have ha : (part 2 (rowV f).toArray (i * 1)).run Try.prog W = .ok (.int .i64 (f i)) W := run_part_plain W plain_i64 (by rw [Nat.mul_one]; simpa using rowV_get f i hi)
    have hb : (part 2 (rowV g).toArray (i * 1)).run Try.prog W = .ok (.int .i64 (g i)) W := run_part_plain W plain_i64 (by rw [Nat.mul_one]; simpa using rowV_get g i hi)
    have he : (Op.equalIn 9999 2 (.int .i64 (f i)) (.int .i64 (g i))).run Try.prog W = .ok (f i == g i) W := eq_one 9998 (f i) (g i) W
    simp only [Op.eqItems, Sem.run_bind, ha, hb, he, Result.andThen_ok]
    by_cases hq : f i = g i
    · simp [hq, ih]
    · simp [hq]
theorem eq_row_t (f g : Nat → Int) (W : World) (h : ∀ j, j < 41 → f j = g j) : (Op.equalIn 10000 72 (.agg (rowV f).toArray) (.agg (rowV g).toArray)).run Try.prog W = .ok true W := by
  obtain ⟨i0, hi, _⟩ := info_parts info_i64
  rw [run_equalIn_array W 9999 _ _ under_dist hi, cells_i64, eq_items f g W _ (fun i hi => List.mem_range.1 hi)]
  rw [decide_eq_true (fun j hj => h j (List.mem_range.1 hj))]
theorem eq_row_f (f g : Nat → Int) (W : World) (h : ¬ ∀ j, j < 41 → f j = g j) : (Op.equalIn 10000 72 (.agg (rowV f).toArray) (.agg (rowV g).toArray)).run Try.prog W = .ok false W := by
  obtain ⟨i0, hi, _⟩ := info_parts info_i64
  rw [run_equalIn_array W 9999 _ _ under_dist hi, cells_i64, eq_items f g W _ (fun i hi => List.mem_range.1 hi)]
  rw [decide_eq_false (fun q => h (fun j hj => q j (List.mem_range.2 hj)))]
/-- A new route's cells. -/
def rtC (va vb vw : Value) : List Value := va :: vb :: vw :: .int .i64 0 :: List.replicate 1681 (.int .i64 0)
theorem built_rt (a a' a'' : Option Addr) (n c n' c' n'' c'' : Nat) : Try.prog.built 75 [(0, .slice a n c), (1, .slice a' n' c'), (2, .slice a'' n'' c'')] = some (rtC (.slice a n c) (.slice a' n' c') (.slice a'' n'' c'')).toArray := by kernel_rfl
theorem build3_T {w : World} {ops : Array Oper} {rest : List Oper} {o : Oper} {a : Act} {Q : Exit → Act → World → Prop} (hgd : Region.wanted o (yielded ops a.tmps) = true) (t : TypeId) (i0 i1 i2 : Nat) (x0 x1 x2 : Operand) (ho : o.op = .build t #[(i0, x0), (i1, x1), (i2, x2)]) (v0 v1 v2 : Value) (cs : Array Value)
    (h0 : a.eval x0 = v0) (h1 : a.eval x1 = v1) (h2 : a.eval x2 = v2) (hf : Try.prog.built t [(i0, v0), (i1, v1), (i2, v2)] = some cs)
    (h : wpList Try.prog ops Q rest (a.put o.dst (.agg cs)) w) : wpList Try.prog ops Q (o :: rest) a w := by
  refine wpList_step fun K hK => ?_
  rw [if_pos hgd]
  have e : (#[(i0, x0), (i1, x1), (i2, x2)].map fun (i, x) => (i, a.eval x)).toList = [(i0, v0), (i1, v1), (i2, v2)] := by simp [h0, h1, h2]
  exact wp_build t _ ho (by rw [e, hf]; rfl) (by rw [e, hf]; exact hK _ _ h)
theorem run_load_row {W : World} {B k : Nat} {e : TypeId} {cs : List Value} (f : Nat → Int) (hb : BlkC W B e cs) (a : Act) (o : Oper) (x : Operand) (ho : o.op = .load 72 x) (hx : a.eval x = .pointer (some ⟨B, k, none⟩)) (hp : (cs.drop k).take 41 = rowV f) :
    (execOp a.eval o).run Try.prog W = .ok (.value (.agg (rowV f).toArray)) W := by
  unfold execOp
  simp only [ho, hx, Instr.loadAt, Instr.sureAddr, Sem.run_bind, Sem.run_pure, Result.andThen_ok, run_loadVar_part W B k e 72 cs (rowV f) _ hb under_dist rfl (by rw [rowV_len]; exact info_row) (by rw [rowV_len]; exact hp)]
set_option maxRecDepth 20000 in
theorem rtC_b {w : World} {B : Nat} {va vb vw : Value} (h : BlkC w B 75 (rtC va vb vw)) : RtB w B va vb vw 0 (fun _ _ => 0) := by
  refine ⟨_, h, by simp [rtC], rfl, rfl, rfl, rfl, fun i j hi hj => ?_⟩
  show (va :: vb :: vw :: .int .i64 0 :: List.replicate 1681 (.int .i64 0))[4 + i * 41 + j]? = _
  rw [show 4 + i * 41 + j = (i * 41 + j) + 1 + 1 + 1 + 1 by omega, List.getElem?_cons_succ, List.getElem?_cons_succ, List.getElem?_cons_succ, List.getElem?_cons_succ, List.getElem?_replicate, if_pos (by omega)]
end Go.Proofs.Ytdahcdgefflkaaa
namespace Go.Proofs.Ytdahcdgefflkaaa
open Go.ChangeShapes Go.WideShapes Go.ChangeAt Go.RowKit
/-- The limit of the route in a block. -/
def limOf (w : World) (B : Nat) : Int := match w.cell? ⟨B, 3, none⟩ with
  | some (.int _ z) => z
  | _ => 0
theorem RtB.limIs {w : World} {B : Nat} {va vb vw : Value} {L : Int} {R : Nat → Nat → Int} (h : RtB w B va vb vw L R) : limOf w B = L := by
  unfold limOf; rw [h.cells.2.2.2]
theorem RtB.lim {w : World} {B : Nat} {va vb vw : Value} {L : Int} {R : Nat → Nat → Int} (h : RtB w B va vb vw L R) (x : Int) : RtB (w.setCell ⟨B, 3, none⟩ (.int .i64 x)) B va vb vw x R := by
  obtain ⟨cs, h1, hl, h2, h3, h4, h5, h6⟩ := h
  refine ⟨_, blk_set h1 _ _, by rw [List.length_set]; exact hl, ?_, ?_, ?_, ?_, fun i' j' hi' hj' => ?_⟩
  · rw [List.getElem?_set_ne (by omega)]; exact h2
  · rw [List.getElem?_set_ne (by omega)]; exact h3
  · rw [List.getElem?_set_ne (by omega)]; exact h4
  · rw [List.getElem?_set_self (by omega)]
  · rw [List.getElem?_set_ne (by omega)]; exact h6 i' j' hi' hj'
theorem RtB.kept {w w' : World} {B : Nat} {va vb vw : Value} {L : Int} {R : Nat → Nat → Int} {row : Option Nat} (h : RtB w B va vb vw L R) (hg : w.grownBy w' row) (hne : row ≠ some B) : RtB w' B va vb vw L R := by
  obtain ⟨cs, h1, h2⟩ := h
  exact ⟨cs, h1.kept hg hne, h2⟩
theorem row_part (cs : List Value) (R : Nat → Nat → Int) (hl : cs.length = 1685) (h6 : ∀ i j, i ≤ 40 → j ≤ 40 → cs[4 + i * 41 + j]? = some (.int .i64 (R i j))) (i : Nat) (hi : i ≤ 40) : (cs.drop (4 + i * 41)).take 41 = rowV (fun j => R i j) := by
  refine rowV_ext _ _ (by rw [List.length_take, List.length_drop]; omega) (fun j hj => ?_)
  rw [List.getElem?_take_of_lt hj, List.getElem?_drop]
  exact h6 i j hi (by omega)
theorem edC_far (L d : Int) (hL : L < 160) (h : edC L d = 160) : L < d := by
  unfold edC at h
  split at h
  · omega
  · omega
set_option maxHeartbeats 4000000 in
set_option maxRecDepth 20000 in
theorem routeOf_any (t : Bool) (va vb vw : Value) (xs ys : List Int) (w : World) (ha : SlI w va xs) (hb : SlI w vb ys) (hw : WyS w vw (waysL t)) (hx : xs.length ≤ 40) (hy : ys.length ≤ 40) :
    Calls Try.prog 36 #[va, vb, vw] w fun e w' => e = .returned (.pointer (some ⟨w.heap.size, 0, none⟩)) ∧ Below w.heap.size w w' ∧ ∃ L R, RtB w' w.heap.size va vb vw L R ∧ (0 ≤ L ∧ L < 160) ∧ (∀ i j, i ≤ xs.length → j ≤ ys.length → R i j = edC L (edD t (fun k => xs.getD k 0) (fun k => ys.getD k 0) i j)) ∧ edD t (fun k => xs.getD k 0) (fun k => ys.getD k 0) xs.length ys.length ≤ L := by
  obtain ⟨a, c, hva, _⟩ := id ha
  obtain ⟨a', c', hvb, _⟩ := id hb
  obtain ⟨V, cw, hvw, _⟩ := id hw
  subst hva; subst hvb; subst hvw
  have hdp := fun i' j' => edD_bd t (fun k => xs.getD k 0) (fun k => ys.getD k 0) i' j'
  have hrows := fun i d j => edD_rows t (fun k => xs.getD k 0) (fun k => ys.getD k 0) i d j
  have hfr := fun L (hL : 0 ≤ L ∧ L < 160) R i (hi : i ≤ xs.length) W => fillRow_any t w w.heap.size (Nat.le_refl _) (.slice a xs.length c) (.slice a' ys.length c') (.slice (some ⟨V, 0, none⟩) (waysL t).length cw) L hL R xs ys ha hb hw hx hy i hi W
  obtain ⟨D, hD⟩ : ∃ D, Hid (D = edD t (fun k => xs.getD k 0) (fun k => ys.getD k 0)) := ⟨_, rfl⟩
  rw [← hD.out] at hdp hrows hfr ⊢
  obtain ⟨Dm, hDm⟩ : ∃ Dm, Hid (D xs.length ys.length = Dm) := ⟨_, rfl⟩
  rw [hDm.out]
  have hst := fun L R W h1 => steps_any w.heap.size (.slice a xs.length c) (.slice a' ys.length c') (.slice (some ⟨V, 0, none⟩) (waysL t).length cw) L R xs ys W h1
  have haw := fun W (k : Below w.heap.size w W) => ha.below k
  have hbw := fun W (k : Below w.heap.size w W) => hb.below k
  have hwl : (waysL t).length ≤ 3 := by cases t <;> decide
  generalize (waysL t).length = nw at *
  obtain ⟨m, hm⟩ : ∃ m, Hid (m = xs.length) := ⟨_, rfl⟩
  obtain ⟨n, hn⟩ : ∃ n, Hid (n = ys.length) := ⟨_, rfl⟩
  rw [← hm.out, ← hn.out]
  rw [← hm.out] at hx hfr haw hst hDm
  rw [← hn.out] at hy hfr hbw hst hDm
  replace hdp := (show Hid _ from hdp)
  replace hrows := (show Hid _ from hrows)
  replace hfr := (show Hid _ from hfr)
  replace hst := (show Hid _ from hst)
  replace haw := (show Hid _ from haw)
  replace hbw := (show Hid _ from hbw)
  clear ha hb hw
  go_enter Try.func36, Try.ntmps36
  go_wp2
  refine wp_scope_straight ?_
  go_wp2_with (refine build3_T (by rfl) 75 0 1 2 _ _ _ (by rfl) (.slice a m c) (.slice a' n c') (.slice (some ⟨V, 0, none⟩) nw cw) _ (by rfl) (by rfl) (by rfl) (built_rt _ _ _ _ _ _ _ _ _) ?_)
  refine (allBeyond_any _).mono ?_
  rintro e w1 ⟨rfl, hb1⟩
  have kb1 := (bal' w (Obj.cells (rtC (.slice a m c) (.slice a' n c') (.slice (some ⟨V, 0, none⟩) nw cw)).toArray 75)).trans (hb1.mono (by simp))
  have hR1 := rtC_b (BlkC.below (BlkC.new w _ _) hb1)
  have hz1 : w.heap.size < w1.heap.size := by have := hb1.size; simp at this; omega
  clear hb1
  have hS0 : (w1.alloc (Obj.cells (rowV (fun _ => 0)).toArray 72)).heap[w1.heap.size]? = some (.cells (rowV (fun _ => 0)).toArray 72 (0, 0)) := heap_alloc_new w1 _
  have hal := bal' w1 (Obj.cells (rowV (fun _ => 0)).toArray 72)
  have hR2 := RtB.below hR1 hal
  have hk2 := kb1.trans (hal.mono kb1.size)
  clear hR1 kb1
  go_wp2_with (refine store_T (cs := (rowV (fun _ => 160)).toArray) (by rfl) 72 _ _ (by rfl) (info_row' _) (by rfl) (rowV_one _) hS0 (by rfl) (by rfl) ?_; intro w2 hg hS2 hz2)
  refine wp_label ?_
  go_wp2
  have hz3 : w2.heap.size = w1.heap.size + 1 := by rw [hz2]; simp
  have hk3 := hk2.grown hg hk2.size (fun k e => by cases e; omega)
  have hR3 := RtB.kept hR2 hg (fun e => by injection e with e; omega)
  have hBN : w.heap.size < w1.heap.size := hz1
  generalize hN1 : w1.heap.size = N1 at *
  have hS3 : BlkC w2 N1 72 (rowV (fun _ => 160)) := hS2
  clear hR2 hg hz2 hk2 hal hS0 hN1 hS2
  have eN : IntKind.i64.wrap ((m : Int) + 1) = ((m + 1 : Nat) : Int) := wid (by omega) (by omega) (by omega)
  obtain ⟨M, hM⟩ : ∃ M, Hid (m + 1 = M) := ⟨_, rfl⟩
  rw [hM.out] at eN
  simp only [Act.put]
  go_loopw [9, 28] (fun _ _ wr => ∃ (L : Int) (R : Nat → Nat → Int), RtB wr w.heap.size (.slice a m c) (.slice a' n c') (.slice (some ⟨V, 0, none⟩) nw cw) L R ∧ BlkC wr N1 72 (rowV (fun _ => 160)) ∧ Below w.heap.size w wr ∧ 0 ≤ L ∧ Hid (L = 0 ∨ ∃ l, L = 2 * l + 1 ∧ l < Dm)) (fun _ _ wr => (200 - limOf wr w.heap.size).toNat)
  case atStart => exact ⟨0, _, hR3, hS3, hk3, Int.le_refl _, .inl rfl⟩
  case round =>
    obtain ⟨L, R, hR, hN, kb, hL0, hlim⟩ := hrel
    clear hR3 hS3 hk3 hz3
    have hDb : 0 ≤ Dm ∧ Dm ≤ 80 := by rw [← hDm.out]; have := hdp.out m n; omega
    have hL1 : L < 160 := by
      rcases hlim.out with h | ⟨l, h1, h2⟩
      · omega
      · omega
    have hRlw := RtB.limIs hR
    obtain ⟨c0, _⟩ := hR.cells
    go_wp2
    go_loopw [9, 28] (fun _ iv wr => ∃ (i : Nat) (R : Nat → Nat → Int), i ≤ M ∧ iv = .int .i64 i ∧ RtB wr w.heap.size (.slice a m c) (.slice a' n c') (.slice (some ⟨V, 0, none⟩) nw cw) L R ∧ BlkC wr N1 72 (rowV (fun _ => 160)) ∧ Below w.heap.size w wr ∧ Hid (∀ i' j', i' < i → j' ≤ n → R i' j' = edC L (D i' j'))) (fun _ iv _ => M - (intOf iv).toNat)
    case atStart => exact ⟨0, R, Nat.zero_le _, rfl, hR, hN, kb, fun i' j' h => absurd h (Nat.not_lt_zero _)⟩
    case round =>
      obtain ⟨i, R1, hi, rfl, hR1, hN1, kb1, hF1⟩ := hrel
      clear hR hN kb c0
      by_cases hiM : i < M
      · have him : i ≤ m := by have := hM.out; omega
        have hii : (i : Int) < (M : Int) := by omega
        have hcall := hfr.out L ⟨hL0, hL1⟩ R1 i him wr hR1 kb1 (fun i' j' h1 h2 => hF1.out i' j' h1 h2)
        replace hR1 := (show Hid _ from hR1)
        go_wp2_with fail
        refine hcall.mono ?_
        rintro e w3 ⟨rfl, hg3, R2, hR3, hF2⟩
        have hN3 := BlkC.kept hN1 hg3 (fun e => by injection e with e; have := hBN; omega)
        have kb3 := kb1.grown hg3 kb1.size (fun k e => by cases e; exact Nat.le_refl _)
        have kb3d : Below w.heap.size w w3.drew := kb3.trans ⟨rfl, rfl, rfl, Nat.le_refl _, fun _ _ => rfl⟩
        clear hcall hN1 kb1 hg3 hF1 hR1
        obtain ⟨cs, hcs, hl, hx0⟩ := id hR3
        have hpt := row_part cs R2 hl hx0.2.2.2.2 i (by omega)
        have i41 : (i : Int) < 41 := by omega
        by_cases hq : ∀ j, j < 41 → R2 i j = 160
        · have heq := fun W => eq_row_t (fun j => R2 i j) (fun _ => 160) W hq
          have hfar : L < Dm := by
            obtain ⟨k, hk, hle⟩ := hrows.out i (m - i) n
            rw [show i + (m - i) = m by omega, hDm.out] at hle
            have h1 := hq k (by omega)
            rw [hF2.2.1 k (by omega)] at h1
            have := edC_far L _ hL1 h1
            omega
          clear hq hF2 hx0
          replace hlim := (show Hid _ from hlim)
          have hRl := RtB.limIs hR3
          have q3 : w3.drew.cell? ⟨w.heap.size, 3, none⟩ = some (.int .i64 L) := hR3.cells.2.2.2
          have hfz : w3.drew.frozen? ⟨w.heap.size, 3, none⟩ = false := by obtain ⟨cs, h1, _⟩ := id hR3; exact frozen_blk h1 _
          obtain ⟨L2, hL2⟩ : ∃ L2, Hid (L2 = 2 * L) := ⟨_, rfl⟩
          obtain ⟨L3, hL3⟩ : ∃ L3, Hid (L3 = L2 + 1) := ⟨_, rfl⟩
          have e1 : IntKind.i64.wrap (2 * L) = L2 := wid hL2.out.symm (by omega) (by omega)
          have e2 : IntKind.i64.wrap (L2 + 1) = L3 := wid hL3.out.symm (by have := hL2.out; omega) (by have := hL2.out; omega)
          have hR4 : RtB (w3.drew.setCell ⟨w.heap.size, 3, none⟩ (.int .i64 L3)) w.heap.size (.slice a m c) (.slice a' n c') (.slice (some ⟨V, 0, none⟩) nw cw) L3 R2 := RtB.lim (w := w3.drew) hR3 L3
          have hN4 : BlkC (w3.drew.setCell ⟨w.heap.size, 3, none⟩ (.int .i64 L3)) N1 72 (rowV (fun _ => 160)) := blk_set_ne (w := w3.drew) hN3 (by omega) 3 _
          have kb4 : Below w.heap.size w (w3.drew.setCell ⟨w.heap.size, 3, none⟩ (.int .i64 L3)) := Below.grown (w := w3.drew) kb3d (setCell_gr w3.drew w.heap.size 3 (.int .i64 L3)) kb3.size (fun k e => by cases e; exact Nat.le_refl _)
          have hlim2 : Hid (L3 = 0 ∨ ∃ l, L3 = 2 * l + 1 ∧ l < Dm) := .inr ⟨L, by rw [hL3.out, hL2.out], hfar⟩
          have hmes := RtB.limIs hR4
          have hRl2 := hRlw
          go_wp2
          refine wp_region_noPanic ?_
          refine wp_region_held_drew (S := (fun W => BlkC W w.heap.size 75 cs ∧ BlkC W N1 72 (rowV (fun _ => 160)))) (by kernel_rfl) (⟨hcs, hN3⟩) (fun hHeld => ?_)
          refine' wpAnyH_take (i := 0) (v := _) rfl (by kernel_rfl) (by kernel_rfl) (by kernel_rfl) (fun _ _ _ h => h) (Or.inl ⟨by rfl, ?hy1001⟩) hHeld ?hr1001
          case hy1001 => (intro w hSw; (try dsimp only at hSw); go_simp; (try with_reducible rfl))
          simp only [Act.put, List.setIfInBounds_toArray, List.set_cons_zero, List.set_cons_succ, List.getElem_toArray, List.getElem_cons_zero]
          refine' wpAnyH_take (i := 1) (v := _) rfl (by kernel_rfl) (by kernel_rfl) (by kernel_rfl) (fun _ _ _ h => h) (Or.inl ⟨by rfl, ?hy1002⟩) hHeld ?hr1002
          case hy1002 => (intro w hSw; (try dsimp only at hSw); go_simp; (try with_reducible rfl))
          simp only [Act.put, List.setIfInBounds_toArray, List.set_cons_zero, List.set_cons_succ, List.getElem_toArray, List.getElem_cons_zero, List.getElem_cons_succ]
          refine' wpAnyH_take (i := 2) (v := _) rfl (by kernel_rfl) (by kernel_rfl) (by kernel_rfl) (fun _ _ _ h => h) (Or.inl ⟨by rfl, ?hy1003⟩) hHeld ?hr1003
          case hy1003 => (intro w hSw; (try dsimp only at hSw); go_simp; (try with_reducible rfl))
          simp only [Act.put, List.setIfInBounds_toArray, List.set_cons_zero, List.set_cons_succ, List.getElem_toArray, List.getElem_cons_zero, List.getElem_cons_succ]
          refine' wpAnyH_take (i := 3) (v := _) rfl (by kernel_rfl) (by kernel_rfl) (by kernel_rfl) (fun _ _ _ h => h) (Or.inl ⟨by rfl, ?hy1004⟩) hHeld ?hr1004
          case hy1004 => (intro w hSw; (try dsimp only at hSw); go_simp; (try with_reducible rfl))
          simp only [Act.put, List.setIfInBounds_toArray, List.set_cons_zero, List.set_cons_succ, List.getElem_toArray, List.getElem_cons_zero, List.getElem_cons_succ]
          refine' wpAnyH_take (i := 4) (v := _) rfl (by kernel_rfl) (by kernel_rfl) (by kernel_rfl) (fun _ _ _ h => h) (Or.inl ⟨by rfl, ?hy1005⟩) hHeld ?hr1005
          case hy1005 => (intro w hSw; (try dsimp only at hSw); go_simp; (try with_reducible rfl))
          simp only [Act.put, List.setIfInBounds_toArray, List.set_cons_zero, List.set_cons_succ, List.getElem_toArray, List.getElem_cons_zero, List.getElem_cons_succ]
          refine' wpAnyH_take (i := 5) (v := .agg (rowV (fun j => R2 i j)).toArray) rfl (by kernel_rfl) (by kernel_rfl) (by kernel_rfl) (fun _ _ _ h => h) (Or.inl ⟨by rfl, ?hy1006⟩) hHeld ?hr1006
          case hy1006 => (intro W hSw; exact run_load_row (fun j => R2 i j) hSw.1 _ _ _ rfl rfl hpt)
          simp only [Act.put, List.setIfInBounds_toArray, List.set_cons_zero, List.set_cons_succ, List.getElem_toArray, List.getElem_cons_zero, List.getElem_cons_succ]
          refine' wpAnyH_take (i := 6) (v := .agg (rowV (fun _ => 160)).toArray) rfl (by kernel_rfl) (by kernel_rfl) (by kernel_rfl) (fun _ _ _ h => h) (Or.inl ⟨by rfl, ?hy1007⟩) hHeld ?hr1007
          case hy1007 => (intro W hSw; exact run_load_row (fun _ => 160) hSw.2 _ _ _ rfl rfl rfl)
          simp only [Act.put, List.setIfInBounds_toArray, List.set_cons_zero, List.set_cons_succ, List.getElem_toArray, List.getElem_cons_zero, List.getElem_cons_succ]
          refine' wpAnyH_take (i := 7) (v := _) rfl (by kernel_rfl) (by kernel_rfl) (by kernel_rfl) (fun _ _ _ h => h) (Or.inl ⟨by rfl, ?hy1008⟩) hHeld ?hr1008
          case hy1008 => (intro w hSw; (try dsimp only at hSw); go_simp; (try with_reducible rfl))
          simp only [Act.put, List.setIfInBounds_toArray, List.set_cons_zero, List.set_cons_succ, List.getElem_toArray, List.getElem_cons_zero, List.getElem_cons_succ]
          refine wpAnyH_done (by kernel_rfl) ?_ _
          refine NoPanic.normal ?_
          go_wp2
          go_roundw
          case rel => exact ⟨L3, R2, hR4, hN4, kb4, by have := hL2.out; have := hL3.out; omega, hlim2⟩
          case measure => (refine Nat.lt_of_le_of_lt (Nat.le_of_eq (congrArg (fun z => (200 - z).toNat) (show limOf _ w.heap.size = L3 from hmes))) ?_; rw [hRlw]; have := hL2.out; have := hL3.out; omega)
        · have heq := fun W => eq_row_f (fun j => R2 i j) (fun _ => 160) W hq
          have hF3 : Hid (∀ i' j', i' < i + 1 → j' ≤ n → R2 i' j' = edC L (D i' j')) := fun i' j' h1 h2 => by
            by_cases e : i' = i
            · subst e; exact hF2.2.1 j' (by omega)
            · exact hF2.1 i' j' (by omega) h2
          clear hq hF2 hx0
          replace hR3 := (show Hid _ from hR3)
          go_wp2
          refine wp_region_noPanic ?_
          refine wp_region_held_drew (S := (fun W => BlkC W w.heap.size 75 cs ∧ BlkC W N1 72 (rowV (fun _ => 160)))) (by kernel_rfl) (⟨hcs, hN3⟩) (fun hHeld => ?_)
          refine' wpAnyH_take (i := 0) (v := _) rfl (by kernel_rfl) (by kernel_rfl) (by kernel_rfl) (fun _ _ _ h => h) (Or.inl ⟨by rfl, ?hy1009⟩) hHeld ?hr1009
          case hy1009 => (intro w hSw; (try dsimp only at hSw); go_simp; (try with_reducible rfl))
          simp only [Act.put, List.setIfInBounds_toArray, List.set_cons_zero, List.set_cons_succ, List.getElem_toArray, List.getElem_cons_zero]
          refine' wpAnyH_take (i := 1) (v := _) rfl (by kernel_rfl) (by kernel_rfl) (by kernel_rfl) (fun _ _ _ h => h) (Or.inl ⟨by rfl, ?hy1010⟩) hHeld ?hr1010
          case hy1010 => (intro w hSw; (try dsimp only at hSw); go_simp; (try with_reducible rfl))
          simp only [Act.put, List.setIfInBounds_toArray, List.set_cons_zero, List.set_cons_succ, List.getElem_toArray, List.getElem_cons_zero, List.getElem_cons_succ]
          refine' wpAnyH_take (i := 2) (v := _) rfl (by kernel_rfl) (by kernel_rfl) (by kernel_rfl) (fun _ _ _ h => h) (Or.inl ⟨by rfl, ?hy1011⟩) hHeld ?hr1011
          case hy1011 => (intro w hSw; (try dsimp only at hSw); go_simp; (try with_reducible rfl))
          simp only [Act.put, List.setIfInBounds_toArray, List.set_cons_zero, List.set_cons_succ, List.getElem_toArray, List.getElem_cons_zero, List.getElem_cons_succ]
          refine' wpAnyH_take (i := 3) (v := _) rfl (by kernel_rfl) (by kernel_rfl) (by kernel_rfl) (fun _ _ _ h => h) (Or.inl ⟨by rfl, ?hy1012⟩) hHeld ?hr1012
          case hy1012 => (intro w hSw; (try dsimp only at hSw); go_simp; (try with_reducible rfl))
          simp only [Act.put, List.setIfInBounds_toArray, List.set_cons_zero, List.set_cons_succ, List.getElem_toArray, List.getElem_cons_zero, List.getElem_cons_succ]
          refine' wpAnyH_take (i := 4) (v := _) rfl (by kernel_rfl) (by kernel_rfl) (by kernel_rfl) (fun _ _ _ h => h) (Or.inl ⟨by rfl, ?hy1013⟩) hHeld ?hr1013
          case hy1013 => (intro w hSw; (try dsimp only at hSw); go_simp; (try with_reducible rfl))
          simp only [Act.put, List.setIfInBounds_toArray, List.set_cons_zero, List.set_cons_succ, List.getElem_toArray, List.getElem_cons_zero, List.getElem_cons_succ]
          refine' wpAnyH_take (i := 5) (v := .agg (rowV (fun j => R2 i j)).toArray) rfl (by kernel_rfl) (by kernel_rfl) (by kernel_rfl) (fun _ _ _ h => h) (Or.inl ⟨by rfl, ?hy1014⟩) hHeld ?hr1014
          case hy1014 => (intro W hSw; exact run_load_row (fun j => R2 i j) hSw.1 _ _ _ rfl rfl hpt)
          simp only [Act.put, List.setIfInBounds_toArray, List.set_cons_zero, List.set_cons_succ, List.getElem_toArray, List.getElem_cons_zero, List.getElem_cons_succ]
          refine' wpAnyH_take (i := 6) (v := .agg (rowV (fun _ => 160)).toArray) rfl (by kernel_rfl) (by kernel_rfl) (by kernel_rfl) (fun _ _ _ h => h) (Or.inl ⟨by rfl, ?hy1015⟩) hHeld ?hr1015
          case hy1015 => (intro W hSw; exact run_load_row (fun _ => 160) hSw.2 _ _ _ rfl rfl rfl)
          simp only [Act.put, List.setIfInBounds_toArray, List.set_cons_zero, List.set_cons_succ, List.getElem_toArray, List.getElem_cons_zero, List.getElem_cons_succ]
          refine' wpAnyH_take (i := 7) (v := _) rfl (by kernel_rfl) (by kernel_rfl) (by kernel_rfl) (fun _ _ _ h => h) (Or.inl ⟨by rfl, ?hy1016⟩) hHeld ?hr1016
          case hy1016 => (intro w hSw; (try dsimp only at hSw); go_simp; (try with_reducible rfl))
          simp only [Act.put, List.setIfInBounds_toArray, List.set_cons_zero, List.set_cons_succ, List.getElem_toArray, List.getElem_cons_zero, List.getElem_cons_succ]
          refine wpAnyH_done (by kernel_rfl) ?_ _
          refine NoPanic.normal ?_
          go_wp2
          go_roundw
          case rel => exact ⟨i + 1, R2, by omega, by go_num, hR3.out, hN3, kb3d, hF3⟩
          case measure => simp [intOf]; omega
      · have hMi : i = M := by omega
        subst hMi
        have hMm : i = m + 1 := hM.out.symm
        have hRmn := hF1.out m n (by omega) (Nat.le_refl _)
        rw [hDm.out] at hRmn
        have hqs := fun k => hst.out L R1 (wr.drewN k) (RtB.below hR1 (drwB wr k)) (haw.out _ (kb1.trans ((drwB wr k).mono kb1.size))) (hbw.out _ (kb1.trans ((drwB wr k).mono kb1.size))) hx hy
        have c3 : wr.cell? ⟨w.heap.size, 3, none⟩ = some (.int .i64 L) := hR1.cells.2.2.2
        have hR3 : Hid (RtB wr w.heap.size (.slice a m c) (.slice a' n c') (.slice (some ⟨V, 0, none⟩) nw cw) L R1) := hR1
        clear hR1
        obtain ⟨q, hq⟩ : ∃ q, Hid (R1 m n = q) := ⟨_, rfl⟩
        rw [hq.out] at hRmn
        simp only [hq.out] at hqs
        by_cases hle : q ≤ L
        · have hDL : Dm ≤ L := by
            rw [hRmn] at hle
            unfold edC at hle
            split at hle
            · assumption
            · omega
          clear hRmn
          go_wp2
          go_quiet (exact Calls.quiet_of (hqs _))
          go_wp2
          rw [Exit.noGoto_ret]
          go_ret
          exact ⟨rfl, kb1.trans ((drwB wr nq).mono kb1.size), L, R1, RtB.below hR3.out (drwB wr nq), ⟨hL0, hL1⟩, fun i' j' h1 h2 => hF1.out i' j' (by omega) h2, hDL⟩
        · have hfar : L < Dm := by
            rcases Int.lt_or_le L Dm with h | h
            · exact h
            · exfalso; apply hle; rw [hRmn]; unfold edC; rw [if_pos h]; exact h
          clear hRmn
          go_wp2
          go_quiet (exact Calls.quiet_of (hqs _))
          clear hqs c3
          have hN3 := hN1
          have kb3 := kb1
          have kb3d : Below w.heap.size w (wr.drewN nq) := kb1.trans ((drwB wr nq).mono kb1.size)
          replace hR3 := hR3.out
          replace hlim := (show Hid _ from hlim)
          have hRl := RtB.limIs hR3
          have q3 : (wr.drewN nq).cell? ⟨w.heap.size, 3, none⟩ = some (.int .i64 L) := hR3.cells.2.2.2
          have hfz : (wr.drewN nq).frozen? ⟨w.heap.size, 3, none⟩ = false := by obtain ⟨cs, h1, _⟩ := id hR3; exact frozen_blk h1 _
          obtain ⟨L2, hL2⟩ : ∃ L2, Hid (L2 = 2 * L) := ⟨_, rfl⟩
          obtain ⟨L3, hL3⟩ : ∃ L3, Hid (L3 = L2 + 1) := ⟨_, rfl⟩
          have e1 : IntKind.i64.wrap (2 * L) = L2 := wid hL2.out.symm (by omega) (by omega)
          have e2 : IntKind.i64.wrap (L2 + 1) = L3 := wid hL3.out.symm (by have := hL2.out; omega) (by have := hL2.out; omega)
          have hR4 : RtB ((wr.drewN nq).setCell ⟨w.heap.size, 3, none⟩ (.int .i64 L3)) w.heap.size (.slice a m c) (.slice a' n c') (.slice (some ⟨V, 0, none⟩) nw cw) L3 R1 := RtB.lim (w := (wr.drewN nq)) hR3 L3
          have hN4 : BlkC ((wr.drewN nq).setCell ⟨w.heap.size, 3, none⟩ (.int .i64 L3)) N1 72 (rowV (fun _ => 160)) := blk_set_ne (w := (wr.drewN nq)) hN3 (by omega) 3 _
          have kb4 : Below w.heap.size w ((wr.drewN nq).setCell ⟨w.heap.size, 3, none⟩ (.int .i64 L3)) := Below.grown (w := (wr.drewN nq)) kb3d (setCell_gr (wr.drewN nq) w.heap.size 3 (.int .i64 L3)) kb3.size (fun k e => by cases e; exact Nat.le_refl _)
          have hlim2 : Hid (L3 = 0 ∨ ∃ l, L3 = 2 * l + 1 ∧ l < Dm) := .inr ⟨L, by rw [hL3.out, hL2.out], hfar⟩
          have hmes := RtB.limIs hR4
          have hRl2 := hRlw
          clear hN1 kb1 hR3
          go_wp2
          go_roundw
          case rel => exact ⟨L3, R1, hR4, hN4, kb4, by have := hL2.out; have := hL3.out; omega, hlim2⟩
          case measure => (refine Nat.lt_of_le_of_lt (Nat.le_of_eq (congrArg (fun z => (200 - z).toNat) (show limOf _ w.heap.size = L3 from hmes))) ?_; rw [hRlw]; have := hL2.out; have := hL3.out; omega)
end Go.Proofs.Ytdahcdgefflkaaa
namespace Go.Proofs.Ytdahcdgefflkaaa
open Go.ChangeShapes Go.WideShapes Go.ChangeAt Go.RowKit
theorem listsOk_any (va vb : Value) (xs ys : List Int) (w : World) (ha : SlI w va xs) (hb : SlI w vb ys) :
    Calls Try.prog 35 #[va, vb] w fun e w' => e = .returned (.bool (decide (xs.length ≤ 40 ∧ ys.length ≤ 40))) ∧ w' = w := by
  obtain ⟨a, c, rfl, _⟩ := ha
  obtain ⟨a', c', rfl, _⟩ := hb
  obtain ⟨r, hr⟩ : ∃ r, Hid (decide (xs.length ≤ 40 ∧ ys.length ≤ 40) = r) := ⟨_, rfl⟩
  rw [hr.out]
  have hr2 : r = decide (xs.length ≤ 40 ∧ ys.length ≤ 40) := hr.out.symm
  generalize xs.length = m at *
  generalize ys.length = n at *
  clear hr
  go_enter Try.func35, Try.ntmps35
  by_cases h1 : m ≤ 40
  · have h1i : (m : Int) ≤ 40 := by omega
    by_cases h2 : n ≤ 40
    · have h2i : (n : Int) ≤ 40 := by omega
      have hr3 : r = true := by rw [hr2]; exact decide_eq_true ⟨h1, h2⟩
      subst hr3; clear hr2
      go_wp2
      go_ret
      exact ⟨rfl, rfl⟩
    · have h2i : ¬ (n : Int) ≤ 40 := by omega
      have hr3 : r = false := by rw [hr2]; exact decide_eq_false (by omega)
      subst hr3; clear hr2
      go_wp2
      go_ret
      exact ⟨rfl, rfl⟩
  · have h1i : ¬ (m : Int) ≤ 40 := by omega
    have hr3 : r = false := by rw [hr2]; exact decide_eq_false (by omega)
    subst hr3; clear hr2
    go_wp2
    go_ret
    exact ⟨rfl, rfl⟩
theorem waysT_new (w : World) : WyS (w.alloc (Obj.cells #[.int .i64 3, .int .i64 1, .int .i64 1, .int .i64 1, .int .i64 1, .int .i64 0, .int .i64 2, .int .i64 0, .int .i64 1] 54)) (.slice (some ⟨w.heap.size, 0, none⟩) 3 3) (waysL true) := by
  have hc : ∀ k, (w.alloc (Obj.cells #[.int .i64 3, .int .i64 1, .int .i64 1, .int .i64 1, .int .i64 1, .int .i64 0, .int .i64 2, .int .i64 0, .int .i64 1] 54)).cell? ⟨w.heap.size, k, none⟩ = _ := fun k => cell_of_row _ w.heap.size k _ _ (0, 0) (heap_alloc_new w _)
  refine ⟨w.heap.size, 3, rfl, by simp, fun k hk => ?_⟩
  match k, hk with
  | 0, _ => exact ⟨(hc 0).trans rfl, (hc 1).trans rfl, (hc 2).trans rfl⟩
  | 1, _ => exact ⟨(hc 3).trans rfl, (hc 4).trans rfl, (hc 5).trans rfl⟩
  | 2, _ => exact ⟨(hc 6).trans rfl, (hc 7).trans rfl, (hc 8).trans rfl⟩
theorem waysF_new (w : World) : WyS (w.alloc (Obj.cells #[.int .i64 1, .int .i64 1, .int .i64 0, .int .i64 2, .int .i64 0, .int .i64 1] 54)) (.slice (some ⟨w.heap.size, 0, none⟩) 2 2) (waysL false) := by
  have hc : ∀ k, (w.alloc (Obj.cells #[.int .i64 1, .int .i64 1, .int .i64 0, .int .i64 2, .int .i64 0, .int .i64 1] 54)).cell? ⟨w.heap.size, k, none⟩ = _ := fun k => cell_of_row _ w.heap.size k _ _ (0, 0) (heap_alloc_new w _)
  refine ⟨w.heap.size, 2, rfl, by simp, fun k hk => ?_⟩
  match k, hk with
  | 0, _ => exact ⟨(hc 0).trans rfl, (hc 1).trans rfl, (hc 2).trans rfl⟩
  | 1, _ => exact ⟨(hc 3).trans rfl, (hc 4).trans rfl, (hc 5).trans rfl⟩
theorem allWays_any (w : World) :
    Calls Try.prog 37 #[] w fun e w' => ∃ vw, e = .returned vw ∧ WyS w' vw (waysL true) ∧ Below w.heap.size w w' := by
  have h1 := waysT_new w
  have h2 := bal' w (Obj.cells #[.int .i64 3, .int .i64 1, .int .i64 1, .int .i64 1, .int .i64 1, .int .i64 0, .int .i64 2, .int .i64 0, .int .i64 1] 54)
  replace h1 := (show Hid _ from h1)
  replace h2 := (show Hid _ from h2)
  go_enter Try.func37, Try.ntmps37
  go_wp2
  go_ret
  exact ⟨_, rfl, h1.out, h2.out⟩
set_option maxHeartbeats 1000000 in
theorem implApart_any (va vb : Value) (xs ys : List Int) (w : World) (ha : SlI w va xs) (hb : SlI w vb ys) :
    Calls Try.prog 11 #[va, vb] w fun e w' => e = .returned (.int .i64 (apartV xs ys)) ∧ Below w.heap.size w w' := by
  have hlo := listsOk_any va vb xs ys w ha hb
  by_cases h : xs.length ≤ 40 ∧ ys.length ≤ 40
  · simp only [decide_eq_true h] at hlo
    have hA : Hid (apartV xs ys = edD true (fun k => xs.getD k 0) (fun k => ys.getD k 0) xs.length ys.length) := if_pos h
    rw [hA.out]
    have hlo2 := hlo
    obtain ⟨v, hv⟩ : ∃ v, Hid (edD true (fun k => xs.getD k 0) (fun k => ys.getD k 0) xs.length ys.length = v) := ⟨_, rfl⟩
    rw [hv.out]
    clear hA
    go_enter Try.func11, Try.ntmps11
    go_wp2_with fail
    refine hlo.mono ?_
    rintro e w1 ⟨rfl, hw1⟩
    subst hw1
    go_wp2_with fail
    refine (allWays_any _).mono ?_
    rintro e w2 ⟨vw, rfl, hw2, kb2⟩
    go_wp2_with fail
    refine (routeOf_any true va vb vw xs ys w2 (ha.below kb2) (hb.below kb2) hw2 h.1 h.2).mono ?_
    rintro e w3 ⟨rfl, kb3, L, R, hR, hL, hF, hle⟩
    have k3 := kb2.trans (kb3.mono kb2.size)
    go_wp2_with fail
    refine (steps_any _ va vb vw L R xs ys w3 hR (ha.below k3) (hb.below k3) h.1 h.2).mono ?_
    rintro e w4 ⟨rfl, q, hq⟩
    subst hq
    have hfin : R xs.length ys.length = v := by rw [hF _ _ (Nat.le_refl _) (Nat.le_refl _)]; unfold edC; rw [if_pos hle]; exact hv.out
    rw [hfin]
    go_wp2
    go_ret
    exact ⟨rfl, k3.trans ((drwB w3 q).mono k3.size)⟩
  · simp only [decide_eq_false h] at hlo
    have hA : Hid (apartV xs ys = -1) := if_neg h
    rw [hA.out]
    clear hA h
    go_enter Try.func11, Try.ntmps11
    go_wp2_with fail
    refine hlo.mono ?_
    rintro e w1 ⟨rfl, hw1⟩
    subst hw1
    go_wp2
    go_ret
    exact ⟨rfl, Below.refl _ _⟩
set_option maxHeartbeats 1000000 in
theorem implShared_any (va vb : Value) (xs ys : List Int) (w : World) (ha : SlI w va xs) (hb : SlI w vb ys) :
    Calls Try.prog 12 #[va, vb] w fun e w' => e = .returned (.int .i64 (sharedV xs ys)) ∧ Below w.heap.size w w' := by
  have hlo := listsOk_any va vb xs ys w ha hb
  by_cases h : xs.length ≤ 40 ∧ ys.length ≤ 40
  · simp only [decide_eq_true h] at hlo
    have hA : Hid (sharedV xs ys = edL (fun k => xs.getD k 0) (fun k => ys.getD k 0) xs.length ys.length) := if_pos h
    rw [hA.out]
    have hsh := edD_shared (fun k => xs.getD k 0) (fun k => ys.getD k 0) xs.length ys.length
    have hbd := edL_bd (fun k => xs.getD k 0) (fun k => ys.getD k 0) xs.length ys.length
    obtain ⟨v, hv⟩ : ∃ v, Hid (edL (fun k => xs.getD k 0) (fun k => ys.getD k 0) xs.length ys.length = v) := ⟨_, rfl⟩
    rw [hv.out] at hsh hbd ⊢
    clear hA
    obtain ⟨a, c, hva, _⟩ := id ha
    obtain ⟨a', c', hvb, _⟩ := id hb
    subst hva; subst hvb
    have hw2 := waysF_new w
    have kb2 := bal' w (Obj.cells #[.int .i64 1, .int .i64 1, .int .i64 0, .int .i64 2, .int .i64 0, .int .i64 1] 54)
    obtain ⟨W2, hW2⟩ : ∃ W2, Hid (W2 = w.alloc (Obj.cells #[.int .i64 1, .int .i64 1, .int .i64 0, .int .i64 2, .int .i64 0, .int .i64 1] 54)) := ⟨_, rfl⟩
    rw [← hW2.out] at hw2 kb2
    obtain ⟨nb, hnb⟩ : ∃ nb, Hid (w.heap.size = nb) := ⟨_, rfl⟩
    replace hw2 := (show Hid _ from hw2)
    replace kb2 := (show Hid _ from kb2)
    go_enter Try.func12, Try.ntmps12
    go_wp2_with fail
    refine hlo.mono ?_
    rintro e w1 ⟨rfl, hw1⟩
    subst hw1
    go_wp2_with fail
    rw [← hW2.out]
    refine (routeOf_any false (.slice a xs.length c) (.slice a' ys.length c') (.slice (some ⟨w1.heap.size, 0, none⟩) 2 2) xs ys W2 (ha.below kb2.out) (hb.below kb2.out) hw2.out h.1 h.2).mono ?_
    rintro e w3 ⟨rfl, kb3, L, R, hR, hL, hF, hle⟩
    have k3 := kb2.out.trans (kb3.mono kb2.out.size)
    go_wp2_with fail
    refine (steps_any _ (.slice a xs.length c) (.slice a' ys.length c') (.slice (some ⟨w1.heap.size, 0, none⟩) 2 2) L R xs ys w3 hR (ha.below k3) (hb.below k3) h.1 h.2).mono ?_
    rintro e w4 ⟨rfl, q, hq⟩
    subst hq
    have hfin : R xs.length ys.length = (xs.length : Int) + ys.length - 2 * v := by rw [hF _ _ (Nat.le_refl _) (Nat.le_refl _)]; unfold edC; rw [if_pos hle]; exact hsh
    rw [hfin]
    obtain ⟨h40, h41⟩ := h
    clear hfin hF hle hsh hR hL
    obtain ⟨s, hs⟩ : ∃ s, Hid ((xs.length : Int) + ys.length = s) := ⟨_, rfl⟩
    have e1 : IntKind.i64.wrap ((xs.length : Int) + (ys.length : Int)) = s := wid hs.out (by omega) (by omega)
    rw [hs.out]
    have hs2 := hs.out
    have e2 : IntKind.i64.wrap (s - (s - 2 * v)) = v + v := wid (by omega) (by omega) (by omega)
    have e3 : (v + v).tdiv 2 = v := by rw [show v + v = v * 2 by omega]; exact Int.mul_tdiv_cancel v (by decide)
    have e4 : IntKind.i64.wrap v = v := wid rfl (by omega) (by omega)
    clear hs2
    go_wp2
    go_ret
    exact ⟨rfl, k3.trans ((drwB w3 q).mono k3.size)⟩
  · simp only [decide_eq_false h] at hlo
    have hA : Hid (sharedV xs ys = -1) := if_neg h
    rw [hA.out]
    clear hA h
    go_enter Try.func12, Try.ntmps12
    go_wp2_with fail
    refine hlo.mono ?_
    rintro e w1 ⟨rfl, hw1⟩
    subst hw1
    go_wp2
    go_ret
    exact ⟨rfl, Below.refl _ _⟩
end Go.Proofs.Ytdahcdgefflkaaa
namespace Go.Proofs.Ytdahcdgefflkaaa
open Go.ChangeShapes Go.WideShapes Go.ChangeAt Go.RowKit
theorem apart_zero (xs ys : List Int) : edD true (fun k => xs.getD k 0) (fun k => ys.getD k 0) xs.length ys.length = 0 ↔ xs = ys := by
  rw [edD_zero]
  exact ⟨fun ⟨h1, h2⟩ => ints_ext h1 (fun k hk => h2 k hk), fun h => by subst h; exact ⟨rfl, fun _ _ => rfl⟩⟩
/-- What the law asks of two lists that are not too long, and a third. -/
theorem lev_all (xs ys zs : List Int) (hx : xs.length ≤ 40) (hy : ys.length ≤ 40) (hz : zs.length ≤ 40) (d s e f : Int) (hd : d = apartV xs ys) (hs : s = sharedV xs ys) (he : e = apartV xs zs) (hf : f = apartV zs ys) :
    apartV ys xs = d ∧ sharedV ys xs = s ∧ (d = 0 ↔ xs = ys) ∧ d ≤ e + f ∧ 0 ≤ d ∧ 0 ≤ s ∧ (0 ≤ e ∧ e ≤ 80) ∧ (0 ≤ f ∧ f ≤ 80) ∧ (xs.length : Int) - ys.length ≤ d ∧ (ys.length : Int) - xs.length ≤ d ∧ d ≤ max (xs.length : Int) ys.length ∧ s ≤ xs.length ∧ s ≤ ys.length ∧ d ≤ (xs.length : Int) + ys.length - 2 * s ∧ (xs.length : Int) ≤ d + s ∧ (ys.length : Int) ≤ d + s := by
  unfold apartV sharedV at *
  rw [if_pos ⟨hx, hy⟩] at hd hs
  rw [if_pos ⟨hx, hz⟩] at he
  rw [if_pos ⟨hz, hy⟩] at hf
  rw [if_pos ⟨hy, hx⟩, if_pos ⟨hy, hx⟩]
  have t1 := edD_tri (fun k => xs.getD k 0) (fun k => ys.getD k 0) (fun k => zs.getD k 0) xs.length ys.length zs.length
  have b1 := edD_bd true (fun k => xs.getD k 0) (fun k => ys.getD k 0) xs.length ys.length
  have b2 := edD_bd true (fun k => xs.getD k 0) (fun k => zs.getD k 0) xs.length zs.length
  have b3 := edD_bd true (fun k => zs.getD k 0) (fun k => ys.getD k 0) zs.length ys.length
  have l1 := edL_bd (fun k => xs.getD k 0) (fun k => ys.getD k 0) xs.length ys.length
  have lo := edD_lo true (fun k => xs.getD k 0) (fun k => ys.getD k 0) xs.length ys.length
  have hi := edD_hi (fun k => xs.getD k 0) (fun k => ys.getD k 0) xs.length ys.length
  have le := edD_le (fun k => xs.getD k 0) (fun k => ys.getD k 0) xs.length ys.length
  have sh := edD_shared (fun k => xs.getD k 0) (fun k => ys.getD k 0) xs.length ys.length
  have mx := edD_max (fun k => xs.getD k 0) (fun k => ys.getD k 0) xs.length ys.length
  have z := apart_zero xs ys
  rw [← hd] at t1 b1 lo hi le mx z
  rw [← hs] at l1 sh mx
  rw [← he] at t1 b2
  rw [← hf] at t1 b3
  refine ⟨by rw [hd]; exact edD_sym _ _ _ _ _, by rw [hs]; exact edL_sym _ _ _ _, z, t1, b1.1, l1.1, ⟨b2.1, by omega⟩, ⟨b3.1, by omega⟩, lo.1, lo.2, hi, l1.2.1, l1.2.2, by omega, mx.1, mx.2⟩
theorem info_int64l : (Try.prog.info? 2).map (fun i => (i.zero, i.size, i.bytes)) = some (some (.int .i64 0), 1, 8) := by kernel_rfl
set_option maxRecDepth 20000 in
set_option maxHeartbeats 4000000 in
theorem walk_FnLevenshtein (w : World) (a : Option Addr) (len cap : Nat) (zs : List Int) (hr : IsRow .u8 w a len cap zs) :
    Calls Try.prog 3 #[.slice a len cap] w fun e w' => e = .returned (.bool true) ∧ Below w.heap.size w w' := by
  by_cases h4 : len ≤ 4096
  case neg =>
    have hbig : decide (4096 < (len : Int)) = true := by simp; omega
    go_enter Try.func3, Try.ntmps3
    go_wp2_with fail
    refine (big_a a len cap _).mono ?_
    rw [hbig]
    rintro e w0 ⟨rfl, rfl⟩
    go_wp2
    go_ret
    exact ⟨rfl, Below.refl _ _⟩
  obtain ⟨hv, _⟩ := SlB.of_row hr h4
  have hbig : decide (4096 < (len : Int)) = false := by simp; omega
  obtain ⟨i0, hi, hz0, hz1, hz2⟩ := info_parts info_int64l
  clear hr
  generalize zs.take len = cd at *
  go_enter Try.func3, Try.ntmps3
  go_wp2_with fail
  refine (big_a a len cap _).mono ?_
  rw [hbig]
  rintro e w0 ⟨rfl, rfl⟩
  go_wp2_with fail
  refine (drawApart_a _ cd _ hv).mono ?_
  rintro e w1 ⟨u1, u2, xs, ys, rfl, hx, hy, s1, s2, k1⟩
  clear hbig
  go_wp2_with fail
  refine (implApart_any u1 u2 xs ys _ s1 s2).mono ?_
  rintro e w2 ⟨rfl, b2⟩
  replace s1 := s1.below b2
  replace s2 := s2.below b2
  replace k1 := k1.trans (b2.mono k1.size)
  clear b2
  go_wp2_with fail
  refine (implShared_any u1 u2 xs ys _ s1 s2).mono ?_
  rintro e w3 ⟨rfl, b2⟩
  replace s1 := s1.below b2
  replace s2 := s2.below b2
  replace k1 := k1.trans (b2.mono k1.size)
  clear b2
  go_wp2_with fail
  refine (specApart_any u1 u2 xs ys _ s1 s2).mono ?_
  rintro e w4 ⟨rfl, b2⟩
  replace s1 := s1.below b2
  replace s2 := s2.below b2
  replace k1 := k1.trans (b2.mono k1.size)
  clear b2
  obtain ⟨d, hd⟩ : ∃ d, Hid (d = apartV xs ys) := ⟨_, rfl⟩
  obtain ⟨s, hs⟩ : ∃ s, Hid (s = sharedV xs ys) := ⟨_, rfl⟩
  rw [← hd.out, ← hs.out]
  go_wp2_with fail
  refine (specShared_any u1 u2 xs ys _ s1 s2).mono ?_
  rintro e w5 ⟨rfl, b2⟩
  rw [← hs.out]
  replace s1 := s1.below b2
  replace s2 := s2.below b2
  replace k1 := k1.trans (b2.mono k1.size)
  clear b2
  by_cases hxy : xs.length ≤ 40 ∧ ys.length ≤ 40
  case neg =>
    have hd1 : d = -1 := by rw [hd.out]; exact if_neg hxy
    have hs1 : s = -1 := by rw [hs.out]; exact if_neg hxy
    clear hd hs
    subst hd1; subst hs1
    go_wp2
    go_ret
    exact ⟨rfl, k1⟩
  obtain ⟨hx4, hy4⟩ := hxy
  clear hx hy
  have hd0 : ¬ d < 0 := by have := (lev_all xs ys xs hx4 hy4 hx4 d s _ _ hd.out hs.out rfl rfl).2.2.2.2.1; omega
  have hv5 := hv.below k1
  have ho0 := World.ownsRow_lit (base := w5.heap.size) (e := 2) (size := 1) w5 #[] 0 (Nat.le_refl _) (Nat.zero_le _) rfl
  have hbl := bal w5 (Obj.cells #[] 2)
  clear hv
  replace ho0 := (show Hid _ from ho0)
  replace hbl := (show Hid _ from hbl)
  go_wp2
  go_loopw [7, 8] (fun cv iv wr => ∃ (j : Nat) (zs : List Int), j ≤ 8 ∧ iv = .int .i64 j ∧ zs.length = j ∧ wr.ownsRow w5.heap.size 2 1 cv zs.length (zs.map (Value.int .i64)) ∧ Below w5.heap.size w5 wr) (fun _ iv _ => 8 - (intOf iv).toNat)
  case atStart => exact ⟨0, [], by omega, rfl, rfl, World.ownsRow_lit (base := w5.heap.size) (e := 2) (size := 1) w5 #[] 0 (Nat.le_refl _) (Nat.zero_le _) rfl, bal w5 _⟩
  case round =>
    obtain ⟨j, zs, hj, rfl, hzl, ho, kb⟩ := hrel
    subst hzl
    clear ho0 hbl
    have hvr := hv5.below kb
    go_wp2_with fail
    refine (pick_a _ cd _ hvr 1 8 (by omega) (by omega)).mono ?_
    rintro e wp ⟨r, rfl, hr0, hr8, hwp⟩
    subst hwp
    by_cases hjr : (zs.length : Int) < r
    · have eI : IntKind.i64.wrap (10 + (zs.length : Int)) = 10 + (zs.length : Int) := wid rfl (by omega) (by omega)
      go_wp2_with fail
      refine (pick_a _ cd _ hvr (10 + (zs.length : Int)) 4 (by omega) (by omega)).mono ?_
      rintro e wp ⟨q, rfl, hq0, hq4, hwp⟩
      subst hwp
      clear hvr
      have kbs := kb.size
      go_wp2_with (at_builtin; refine wpList_append_own _ rfl _ _ 24 rfl w5.heap.size 2 i0 (.int .i64 0) 1 8 Try.underlying24 hi hz0 hz1 hz2 rfl (by decide) _ _ _ rfl (ho.alloc _) ⟨_, 0, none⟩ 1 1 [.int .i64 q] rfl rfl ?c1 ?c2 ?c3 ?c4 ?c5 ?_)
      case c1 =>
        intro j u hj
        match j, hj with
        | 0, hj => simp at hj; subst hj; simp [Addr.add]
      case c2 => intro u hu; simp at hu; subst hu; rfl
      case c3 => unfold maxLen; omega
      case c4 => omega
      case c5 => simp; omega
      · intro v' w7 ho7 hg7 _
        have hown : ∀ k, u7.ownBlock = some k → w5.heap.size ≤ k := fun k hk => (ho.lt k hk).1
        have kb7 := (kb.alloc kb.size _).grown hg7 (by simp; omega) hown
        clear hg7 ho hown
        go_wp2
        go_roundw
        case rel => exact ⟨zs.length + 1, zs ++ [q], by omega, by go_num, by simp, by simpa using ho7, kb7⟩
        case measure => simp [intOf]; omega
    · have hz4 : zs.length ≤ 40 := by omega
      have hzs := SlI.of_own ho
      have kA := k1.trans (kb.mono k1.size)
      have t1 := s1.below kb
      have t2 := s2.below kb
      clear s1 s2 hv5 hvr ho k1
      obtain ⟨ee, hee⟩ : ∃ ee, Hid (ee = apartV xs zs) := ⟨_, rfl⟩
      obtain ⟨ff, hff⟩ : ∃ ff, Hid (ff = apartV zs ys) := ⟨_, rfl⟩
      obtain ⟨g1, g2, g3, g4, g5, g6, g7, g8, g9, g10, g11, g12, g13, g14, g15, g16⟩ := lev_all xs ys zs hx4 hy4 hz4 d s ee ff hd.out hs.out hee.out hff.out
      obtain ⟨bz, hbz⟩ : ∃ bz, Hid ((d == 0) = bz) := ⟨_, rfl⟩
      have hb1 : (d == 0) = bz := hbz.out
      have hlk : decide (xs = ys) = bz := by
        rw [← hb1]
        by_cases h : d = 0
        · rw [decide_eq_true (g3.1 h)]; simp [h]
        · rw [decide_eq_false (fun q => h (g3.2 q))]; simp [h]
      obtain ⟨sm, hsm⟩ : ∃ sm, Hid (sm = ee + ff) := ⟨_, rfl⟩
      have e1 : IntKind.i64.wrap (ee + ff) = sm := wid hsm.out.symm (by omega) (by omega)
      have q1 : d ≤ sm := by have := hsm.out; omega
      obtain ⟨a1, c1, hu1, _⟩ := id t1
      obtain ⟨a2, c2, hu2, _⟩ := id t2
      subst hu1; subst hu2
      obtain ⟨m, hm⟩ : ∃ m, Hid (xs.length = m) := ⟨_, rfl⟩
      obtain ⟨n, hn⟩ : ∃ n, Hid (ys.length = n) := ⟨_, rfl⟩
      rw [hm.out] at g9 g10 g11 g12 g14 g15 hx4 t1 ⊢
      rw [hn.out] at g9 g10 g11 g13 g14 g16 hy4 t2 ⊢
      obtain ⟨mn, hmn⟩ : ∃ mn, Hid (mn = (m : Int) + n) := ⟨_, rfl⟩
      have e2 : IntKind.i64.wrap ((m : Int) + (n : Int)) = mn := wid hmn.out.symm (by omega) (by omega)
      obtain ⟨ss, hss⟩ : ∃ ss, Hid (ss = 2 * s) := ⟨_, rfl⟩
      have e3 : IntKind.i64.wrap (2 * s) = ss := wid hss.out.symm (by omega) (by omega)
      obtain ⟨ms, hms⟩ : ∃ ms, Hid (ms = mn - ss) := ⟨_, rfl⟩
      have e4 : IntKind.i64.wrap (mn - ss) = ms := wid hms.out.symm (by have := hmn.out; have := hss.out; omega) (by have := hmn.out; have := hss.out; omega)
      have q2 : d ≤ ms := by have := hmn.out; have := hss.out; have := hms.out; omega
      obtain ⟨mo, hmo⟩ : ∃ mo, Hid (mo = (m : Int) - n) := ⟨_, rfl⟩
      have e5 : IntKind.i64.wrap ((m : Int) - (n : Int)) = mo := wid hmo.out.symm (by omega) (by omega)
      by_cases hcmp : m < n
      · have hlt : (m : Int) < (n : Int) := by omega
        have hmo2 := hmo.out
        have hneg : mo < 0 := by omega
        obtain ⟨mp, hmp⟩ : ∃ mp, Hid (mp = -mo) := ⟨_, rfl⟩
        have hmp2 := hmp.out
        have e6 : IntKind.i64.wrap (-mo) = mp := wid hmp2.symm (by omega) (by omega)
        obtain ⟨lo, hlo⟩ : ∃ lo, Hid (lo = (n : Int) - mp) := ⟨_, rfl⟩
        have hlo2 := hlo.out
        have e7 : IntKind.i64.wrap ((n : Int) - mp) = lo := wid hlo2.symm (by omega) (by omega)
        have q3 : s ≤ lo := by omega
        obtain ⟨l2, hl2⟩ : ∃ l2, Hid (l2 = (n : Int) - s) := ⟨_, rfl⟩
        have hl22 := hl2.out
        have e8 : IntKind.i64.wrap ((n : Int) - s) = l2 := wid hl22.symm (by omega) (by omega)
        have q4 : l2 ≤ d := by omega
        have q5 : mp ≤ d := by omega
        have q6 : d ≤ (n : Int) := by omega
        have hmi := hneg
        clear g4 g5 g6 g7 g8 g9 g10 g11 g12 g13 g14 g15 g16 hmo2 hlo2 hl22 hcmp hmp2
        replace t1 := (show Hid _ from t1)
        replace t2 := (show Hid _ from t2)
        replace hzs := (show Hid _ from hzs)
        replace g1 := (show Hid _ from g1)
        replace g2 := (show Hid _ from g2)
        go_wp2_with fail
        refine (like_any _ _ xs ys _ t1.out t2.out (by have := hm.out; omega)).mono ?_
        rintro e x1 ⟨rfl, b2⟩
        rw [hlk]
        have k2 := kA.trans (b2.mono kA.size)
        have s1 := SlI.below t1.out b2
        have s2 := SlI.below t2.out b2
        have s3 := SlI.below hzs.out b2
        clear b2 t1 t2 hzs hlk
        go_wp2_with fail
        refine (implApart_any _ _ ys xs _ s2 s1).mono ?_
        rintro e x2 ⟨rfl, b2⟩
        rw [g1.out]
        have k3 := k2.trans (b2.mono k2.size)
        replace s1 := s1.below b2
        replace s2 := s2.below b2
        replace s3 := s3.below b2
        clear b2 k2 g1
        go_wp2_with fail
        refine (implApart_any _ _ xs zs _ s1 s3).mono ?_
        rintro e x3 ⟨rfl, b2⟩
        rw [← hee.out]
        have k4 := k3.trans (b2.mono k3.size)
        replace s1 := s1.below b2
        replace s2 := s2.below b2
        replace s3 := s3.below b2
        clear b2 k3
        go_wp2_with fail
        refine (implApart_any _ _ zs ys _ s3 s2).mono ?_
        rintro e x4 ⟨rfl, b2⟩
        rw [← hff.out]
        have k5 := k4.trans (b2.mono k4.size)
        replace s1 := s1.below b2
        replace s2 := s2.below b2
        clear b2 k4 s3
        go_wp2_with fail
        refine (implShared_any _ _ ys xs _ s2 s1).mono ?_
        rintro e x5 ⟨rfl, b2⟩
        rw [g2.out]
        have k6 := k5.trans (b2.mono k5.size)
        clear b2 k5 s1 s2
        go_wp2
        go_ret
        exact ⟨rfl, k6⟩
      · have hlt : ¬ (m : Int) < (n : Int) := by omega
        have hmo2 := hmo.out
        have hneg : ¬ mo < 0 := by omega
        obtain ⟨lo, hlo⟩ : ∃ lo, Hid (lo = (m : Int) - mo) := ⟨_, rfl⟩
        have hlo2 := hlo.out
        have e7 : IntKind.i64.wrap ((m : Int) - mo) = lo := wid hlo2.symm (by omega) (by omega)
        have q3 : s ≤ lo := by omega
        obtain ⟨l2, hl2⟩ : ∃ l2, Hid (l2 = (m : Int) - s) := ⟨_, rfl⟩
        have hl22 := hl2.out
        have e8 : IntKind.i64.wrap ((m : Int) - s) = l2 := wid hl22.symm (by omega) (by omega)
        have q4 : l2 ≤ d := by omega
        have q5 : mo ≤ d := by omega
        have q6 : d ≤ (m : Int) := by omega
        have hmi := hneg
        clear g4 g5 g6 g7 g8 g9 g10 g11 g12 g13 g14 g15 g16 hmo2 hlo2 hl22 hcmp
        replace t1 := (show Hid _ from t1)
        replace t2 := (show Hid _ from t2)
        replace hzs := (show Hid _ from hzs)
        replace g1 := (show Hid _ from g1)
        replace g2 := (show Hid _ from g2)
        go_wp2_with fail
        refine (like_any _ _ xs ys _ t1.out t2.out (by have := hm.out; omega)).mono ?_
        rintro e x1 ⟨rfl, b2⟩
        rw [hlk]
        have k2 := kA.trans (b2.mono kA.size)
        have s1 := SlI.below t1.out b2
        have s2 := SlI.below t2.out b2
        have s3 := SlI.below hzs.out b2
        clear b2 t1 t2 hzs hlk
        go_wp2_with fail
        refine (implApart_any _ _ ys xs _ s2 s1).mono ?_
        rintro e x2 ⟨rfl, b2⟩
        rw [g1.out]
        have k3 := k2.trans (b2.mono k2.size)
        replace s1 := s1.below b2
        replace s2 := s2.below b2
        replace s3 := s3.below b2
        clear b2 k2 g1
        go_wp2_with fail
        refine (implApart_any _ _ xs zs _ s1 s3).mono ?_
        rintro e x3 ⟨rfl, b2⟩
        rw [← hee.out]
        have k4 := k3.trans (b2.mono k3.size)
        replace s1 := s1.below b2
        replace s2 := s2.below b2
        replace s3 := s3.below b2
        clear b2 k3
        go_wp2_with fail
        refine (implApart_any _ _ zs ys _ s3 s2).mono ?_
        rintro e x4 ⟨rfl, b2⟩
        rw [← hff.out]
        have k5 := k4.trans (b2.mono k4.size)
        replace s1 := s1.below b2
        replace s2 := s2.below b2
        clear b2 k4 s3
        go_wp2_with fail
        refine (implShared_any _ _ ys xs _ s2 s1).mono ?_
        rintro e x5 ⟨rfl, b2⟩
        rw [g2.out]
        have k6 := k5.trans (b2.mono k5.size)
        clear b2 k5 s1 s2
        go_wp2
        go_ret
        exact ⟨rfl, k6⟩
end Go.Proofs.Ytdahcdgefflkaaa
