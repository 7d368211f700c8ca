/- The program's Edits. The laws' own helpers on lists of int64: like, marked, held. The laws' own helpers on lists of edits: like, marked, held. The walk of the exact law of Edits. -/
import Derived.Test.YtdahcdgefflkaaaP2
namespace Go.Proofs.Ytdahcdgefflkaaa
open Go.ChangeShapes Go.WideShapes Go.ChangeAt Go.RowKit
theorem own_low {w : World} {base base' g cap : Nat} {es : List (Int × Int × Int)} (h : OwnE w base g cap es) (hb : base' ≤ base) : OwnE w base' g cap es := by
  refine ⟨h.1, ?_⟩
  rcases h.2 with h2 | ⟨g', cap', cur, hv, hbg, hg, r⟩
  · exact .inl h2
  · exact .inr ⟨g', cap', cur, hv, Nat.le_trans hb hbg, hg, r⟩
set_option maxHeartbeats 1000000 in
theorem implEdits_any (va vb : Value) (xs ys : List Int) (w : World) (ha : SlI w va xs) (hb : SlI w vb ys) :
    Calls Try.prog 18 #[va, vb] w fun e w' => ∃ g cap, e = .returned (.tuple #[.slice (some ⟨g, 0, none⟩) (editsV xs ys).length cap, .bool (decide (xs.length ≤ 40 ∧ ys.length ≤ 40))]) ∧ OwnE w' w.heap.size g cap (editsV xs ys) ∧ Below w.heap.size w w' := by
  have hlo := listsOk_any va vb xs ys w ha hb
  by_cases h : xs.length ≤ 40 ∧ ys.length ≤ 40
  case neg =>
    simp only [decide_eq_false h] at hlo ⊢
    have hA : editsV xs ys = [] := if_neg h
    rw [hA]
    have ho0 : OwnE (w.alloc (Obj.cells #[] 62)) w.heap.size w.heap.size 0 [] := World.ownsRow_lit (base := w.heap.size) (e := 62) (size := 3) w #[] 0 (Nat.le_refl _) (Nat.zero_le _) rfl
    have hbl := bal' w (Obj.cells #[] 62)
    replace ho0 := (show Hid _ from ho0)
    replace hbl := (show Hid _ from hbl)
    clear hA h
    go_enter Try.func18, Try.ntmps18
    go_wp2_with fail
    refine hlo.mono ?_
    rintro e w1 ⟨rfl, hw1⟩
    subst hw1
    go_wp2
    exact bodyPost_ret (results_tmp2 rfl _ _ _) rfl ⟨_, _, rfl, ho0.out, hbl.out⟩
  simp only [decide_eq_true h] at hlo ⊢
  have hA : editsV xs ys = edE (fun k => xs.getD k 0) (fun k => ys.getD k 0) xs.length ys.length := if_pos h
  rw [hA]
  clear hA
  go_enter Try.func18, Try.ntmps18
  go_wp2_with fail
  refine hlo.mono ?_
  rintro e w1 ⟨rfl, hw1⟩
  subst hw1
  go_wp2_with fail
  refine (allWays_any _).mono ?_
  rintro e w2 ⟨vw, rfl, hw2, kb2⟩
  go_wp2_with fail
  refine (routeOf_any true va vb vw xs ys w2 (ha.below kb2) (hb.below kb2) hw2 h.1 h.2).mono ?_
  rintro e w3 ⟨rfl, kb3, L, R, hR, hL, hF, hle⟩
  have k3 := kb2.trans (kb3.mono kb2.size)
  go_wp2_with fail
  refine (edits_any _ va vb vw L R xs ys w3 hR (ha.below k3) (hb.below k3) (hw2.below kb3) h.1 h.2 hL hF hle).mono ?_
  rintro e w4 ⟨g, cap, rfl, ho, kb4⟩
  have k4 := k3.trans (kb4.mono k3.size)
  have hlow : OwnE w4 w1.heap.size g cap (edE (fun k => xs.getD k 0) (fun k => ys.getD k 0) xs.length ys.length) := own_low ho k3.size
  replace hlow := (show Hid _ from hlow)
  clear ho kb4 hF hle hR
  go_wp2
  exact bodyPost_ret (results_tmp2 rfl _ _ _) rfl ⟨_, _, rfl, hlow.out, k4⟩
end Go.Proofs.Ytdahcdgefflkaaa
namespace Go.Proofs.Ytdahcdgefflkaaa
open Go.ChangeShapes Go.WideShapes Go.ChangeAt Go.RowKit
set_option maxHeartbeats 400000 in
theorem eqI_same (va vb : Value) (xs : List Int) (w : World) (ha : SlI w va xs) (hb : SlI w vb xs) (hl : xs.length ≤ 1073741824) :
    Calls Try.prog 25 #[va, vb] w fun e w' => e = .returned (.bool true) ∧ ∃ n, w' = w.drewN n := by
  by_cases h0 : xs = []
  · subst h0
    obtain ⟨a, c, rfl, _⟩ := ha
    obtain ⟨a', c', rfl, _⟩ := hb
    go_enter Try.func25, Try.ntmps25
    go_wp2
    refine wp_loop_rounds 1 ?_
    rw [rounds_succ]
    go_wp2
    go_ret
    exact ⟨rfl, 0, rfl⟩
  · obtain ⟨_, c, rfl, e | ⟨b, off, rfl, _, hca⟩⟩ := ha
    · exact absurd e h0
    · obtain ⟨_, c', rfl, e | ⟨b', off', rfl, _, hcb⟩⟩ := hb
      · exact absurd e h0
      · generalize hn : xs.length = n at *
        clear h0 hn
        go_enter Try.func25, Try.ntmps25
        go_wp2
        go_loopw [5] (fun i wr => ∃ k : Nat, k ≤ n ∧ i = .int .i64 k ∧ ∃ m, wr = w.drewN m) (fun i _ => n - (intOf i).toNat)
        case atStart => exact ⟨0, Nat.zero_le _, rfl, 0, rfl⟩
        case round =>
          obtain ⟨k, hk, rfl, m, rfl⟩ := hrel
          by_cases hlt : k < n
          · have h1 : w.cell? ⟨b, off + k, none⟩ = some (.int .i64 (xs.getD k 0)) := hca k hlt
            have h2 : w.cell? ⟨b', off' + k, none⟩ = some (.int .i64 (xs.getD k 0)) := hcb k hlt
            have hi : (k : Int) < (n : Int) := by omega
            generalize xs.getD k 0 = x at *
            clear hca hcb
            go_wp2
            go_quiet (fail)
            go_wp2
            go_roundw
            case rel => exact ⟨k + 1, by omega, by go_num, m + nq, by simp⟩
            case measure => simp [intOf]; omega
          · go_wp2
            go_ret
            exact ⟨rfl, m, rfl⟩

theorem grown_trans {a b c : World} {row : Option Nat} (h : a.grownBy b row) (k : b.grownBy c row) : a.grownBy c row :=
  ⟨k.os.trans h.os, k.tape.trans h.tape, k.output.trans h.output, Nat.le_trans h.size k.size, fun i hi hr => (k.block i (Nat.lt_of_lt_of_le hi h.size) hr).trans (h.block i hi hr)⟩
def marksI (k : Int) (n : Nat) : List Int := (List.range n).map fun (i : Nat) => k + (i : Int)
theorem marksI_at (k : Int) (n i : Nat) (h : i < n) : (marksI k n).getD i 0 = k + (i : Int) := by simp [marksI, h]

/-- Two lists' prefixes marked: what stands there while it is marked. -/
theorem marked_all (k : Int) (n : Nat) (ys : List Value) (hl : ys.length = n) (h : ∀ i, i < n → ys[i]? = some (.int .i64 (k + (i : Int)))) : ys = (marksI k n).map (Value.int .i64) := by
  apply List.ext_getElem?
  intro i
  by_cases hi : i < n
  · rw [h i hi]; simp [marksI, hi]
  · rw [List.getElem?_eq_none (by omega), List.getElem?_eq_none (by simp [marksI]; omega)]

set_option maxHeartbeats 400000 in
theorem markI_own (base : Nat) (v : Value) (k : Int) (n : Nat) (xs : List Value) (w : World) (hown : w.ownsRow base 2 1 v n xs) (hk : 0 ≤ k ∧ k ≤ 1073741824) (hl : n ≤ 1073741824) :
    Calls Try.prog 27 #[v, .int .i64 k] w fun e w' => e = .returned (.int .i64 (k + n)) ∧ w'.ownsRow base 2 1 v n ((marksI k n).map (Value.int .i64)) ∧ w.grownBy w' v.ownBlock := by
  have hlen := hown.1
  rcases hown.2 with ⟨rfl, rfl⟩ | ⟨g, cap, cur, rfl, hb, hg, _⟩
  · go_enter Try.func27, Try.ntmps27
    go_wp2
    refine wp_loop_rounds 1 ?_
    rw [rounds_succ]
    go_wp2
    go_ret
    exact ⟨by simp, World.ownsRow_nil _ _ _ _, World.grownBy.refl _ _⟩
  · clear hg
    go_enter Try.func27, Try.ntmps27
    go_wp2
    go_loopw [1, 5] (fun q i wr => ∃ (j : Nat) (ys : List Value), j ≤ n ∧ i = .int .i64 j ∧ q = .int .i64 (k + (j : Int)) ∧ wr.ownsRow base 2 1 (.slice (some ⟨g, 0, none⟩) n cap) n ys ∧ ys.length = n ∧ (∀ t, t < j → ys[t]? = some (.int .i64 (k + (t : Int)))) ∧ w.grownBy wr (some g)) (fun _ i _ => n - (intOf i).toNat)
    case atStart => exact ⟨0, xs, Nat.zero_le _, rfl, by simp, hown, by simpa using hlen, by simp, World.grownBy.refl _ _⟩
    case round =>
      obtain ⟨j, ys, hj, rfl, rfl, ho, hyl, hys, hgr⟩ := hrel
      by_cases hlt : j < n
      · have h1 : ∃ u, wr.cell? ⟨g, j, none⟩ = some u := by
          rw [ho.cellAt j (by omega)]; exact ⟨_, List.getElem?_eq_getElem (by omega)⟩
        obtain ⟨u, h1⟩ := h1
        have h2 := ho.frozenAt j
        have hst := ho.stored j (.int .i64 (k + (j : Int)))
        obtain ⟨hst1, hst2⟩ := hst
        clear ho
        go_wp2
        go_roundw
        case rel =>
          refine ⟨j + 1, ys.set j (.int .i64 (k + (j : Int))), by omega, by go_num, by go_num, hst1, by simpa using hyl, ?_, grown_trans hgr hst2⟩
          intro t ht
          by_cases e : t = j
          · subst e; simp [hyl, hlt]
          · rw [List.getElem?_set_ne (by omega)]; exact hys t (by omega)
        case measure => simp [intOf]; omega
      · have hjn : j = n := by omega
        subst hjn
        go_wp2
        go_ret
        exact ⟨rfl, by rw [← marked_all k j ys hyl hys]; exact ho, hgr⟩

end Go.Proofs.Ytdahcdgefflkaaa
namespace Go.Proofs.Ytdahcdgefflkaaa
open Go.ChangeShapes Go.WideShapes Go.ChangeAt Go.RowKit
/-- A slice of n edits that can be read, its numbers one behind the other. -/
def SlE (w : World) (v : Value) (n : Nat) (L : List Int) : Prop :=
  L.length = n * 3 ∧ ∃ a c, v = .slice a n c ∧ (n = 0 ∨ ∃ b, a = some ⟨b, 0, none⟩ ∧ b < w.heap.size ∧ ∀ i, i < n * 3 → w.cell? ⟨b, i, none⟩ = some (.int .i64 (L.getD i 0)))
theorem SlE.below {w w' : World} {v : Value} {n : Nat} {L : List Int} (h : SlE w v n L) (hb : Below w.heap.size w w') : SlE w' v n L := by
  obtain ⟨hl, a, c, hv, h | ⟨b, ha, hlt, hc⟩⟩ := h
  · exact ⟨hl, a, c, hv, .inl h⟩
  · exact ⟨hl, a, c, hv, .inr ⟨b, ha, Nat.lt_of_lt_of_le hlt hb.size, fun i hi => (hb.cell (p := ⟨b, i, none⟩) hlt).trans (hc i hi)⟩⟩
theorem SlE.of_own {w : World} {base : Nat} {e : TypeId} {v : Value} {n : Nat} {L : List Int} (h : w.ownsRow base e 3 v n (L.map (Value.int .i64))) : SlE w v n L := by
  have hl : L.length = n * 3 := by have := h.1; simpa using this
  refine ⟨hl, ?_⟩
  rcases h.2 with ⟨rfl, h2⟩ | ⟨g, cap, cur, rfl, hb, hg, hr⟩
  · exact ⟨none, 0, by rw [h2], .inl h2⟩
  · refine ⟨_, cap, rfl, .inr ⟨g, rfl, (Array.getElem?_eq_some_iff.1 hg).1, fun i hi => ?_⟩⟩
    rw [h.cellAt i hi]
    simp [List.getD_eq_getElem?_getD, show i < L.length by omega]
theorem eqEdit_same (x y z : Int) (w : World) :
    Calls Try.prog 50 #[.agg #[.int .i64 x, .int .i64 y, .int .i64 z], .agg #[.int .i64 x, .int .i64 y, .int .i64 z]] w fun e w' => e = .returned (.bool true) ∧ Below w.heap.size w w' := by
  go_enter Try.func50, Try.ntmps50
  go_wp2
  go_ret
  exact ⟨rfl, ((Below.refl _ _).alloc (Nat.le_refl _) _).alloc (by simp) _⟩
set_option maxHeartbeats 1000000 in
theorem eqE_same (va vb : Value) (n : Nat) (L : List Int) (w : World) (ha : SlE w va n L) (hb : SlE w vb n L) (hn : n ≤ 1073741824) :
    Calls Try.prog 26 #[va, vb] w fun e w' => e = .returned (.bool true) ∧ Below w.heap.size w w' := by
  obtain ⟨hl, a, c, rfl, hca⟩ := ha
  obtain ⟨_, a', c', rfl, hcb⟩ := hb
  by_cases h0 : n = 0
  · subst h0
    clear hca hcb
    go_enter Try.func26, Try.ntmps26
    go_wp2
    refine wp_loop_rounds 1 ?_
    rw [rounds_succ]
    go_wp2
    go_ret
    exact ⟨rfl, Below.refl _ _⟩
  rcases hca with h | ⟨b, rfl, hbl, hs1⟩
  · exact absurd h h0
  rcases hcb with h | ⟨b', rfl, hbl', hs2⟩
  · exact absurd h h0
  have hcs : ∀ j W, j < n → Below w.heap.size w W → W.cell? ⟨b, j * 3, none⟩ = some (.int .i64 (L.getD (j * 3) 0)) ∧ W.cell? ⟨b, j * 3 + 1, none⟩ = some (.int .i64 (L.getD (j * 3 + 1) 0)) ∧ W.cell? ⟨b, j * 3 + 2, none⟩ = some (.int .i64 (L.getD (j * 3 + 2) 0)) ∧ W.cell? ⟨b', j * 3, none⟩ = some (.int .i64 (L.getD (j * 3) 0)) ∧ W.cell? ⟨b', j * 3 + 1, none⟩ = some (.int .i64 (L.getD (j * 3 + 1) 0)) ∧ W.cell? ⟨b', j * 3 + 2, none⟩ = some (.int .i64 (L.getD (j * 3 + 2) 0)) := fun j W hj k => by
    have e1 : ∀ q, W.cell? ⟨b, q, none⟩ = w.cell? ⟨b, q, none⟩ := fun q => k.cell (p := ⟨b, q, none⟩) hbl
    have e2 : ∀ q, W.cell? ⟨b', q, none⟩ = w.cell? ⟨b', q, none⟩ := fun q => k.cell (p := ⟨b', q, none⟩) hbl'
    rw [e1, e1, e1, e2, e2, e2]
    exact ⟨hs1 _ (by omega), hs1 _ (by omega), hs1 _ (by omega), hs2 _ (by omega), hs2 _ (by omega), hs2 _ (by omega)⟩
  replace hcs := (show Hid _ from hcs)
  clear hs1 hs2 h0
  go_enter Try.func26, Try.ntmps26
  go_wp2
  go_loopw [5] (fun i wr => ∃ k : Nat, k ≤ n ∧ i = .int .i64 k ∧ Below w.heap.size w wr) (fun i _ => n - (intOf i).toNat)
  case atStart => exact ⟨0, Nat.zero_le _, rfl, Below.refl _ _⟩
  case round =>
    obtain ⟨j, hj, rfl, kb⟩ := hrel
    by_cases hlt : j < n
    · have hi : (j : Int) < (n : Int) := by omega
      have hcl := fun W (k : Below wr.heap.size wr W) => hcs.out j W hlt (kb.trans (k.mono kb.size))
      have hd : Below wr.heap.size wr wr.drew := ⟨rfl, rfl, rfl, Nat.le_refl _, fun _ _ => rfl⟩
      generalize L.getD (j * 3) 0 = x at *
      generalize L.getD (j * 3 + 1) 0 = y at *
      generalize L.getD (j * 3 + 2) 0 = z at *
      go_wp2
      refine wp_region_noPanic ?_
      refine wp_region_held_drew (S := (fun W => W.cell? ⟨b, j * 3, none⟩ = some (.int .i64 x) ∧ W.cell? ⟨b, j * 3 + 1, none⟩ = some (.int .i64 y) ∧ W.cell? ⟨b, j * 3 + 2, none⟩ = some (.int .i64 z) ∧ W.cell? ⟨b', j * 3, none⟩ = some (.int .i64 x) ∧ W.cell? ⟨b', j * 3 + 1, none⟩ = some (.int .i64 y) ∧ W.cell? ⟨b', j * 3 + 2, none⟩ = some (.int .i64 z))) (by kernel_rfl) (hcl _ hd) (fun hHeld => ?_)
      refine' wpAnyH_take (i := 0) (v := _) rfl (by kernel_rfl) (by kernel_rfl) (by kernel_rfl) (fun _ _ _ h => h) (Or.inl ⟨by rfl, ?hy1001⟩) hHeld ?hr1001
      case hy1001 => (intro w hSw; (try dsimp only at hSw); go_simp; (try with_reducible rfl))
      simp only [Act.put, List.setIfInBounds_toArray, List.set_cons_zero, List.set_cons_succ, List.getElem_toArray, List.getElem_cons_zero]
      refine' wpAnyH_take (i := 1) (v := _) rfl (by kernel_rfl) (by kernel_rfl) (by kernel_rfl) (fun _ _ _ h => h) (Or.inl ⟨by rfl, ?hy1002⟩) hHeld ?hr1002
      case hy1002 => (intro w hSw; (try dsimp only at hSw); go_simp; (try with_reducible rfl))
      simp only [Act.put, List.setIfInBounds_toArray, List.set_cons_zero, List.set_cons_succ, List.getElem_toArray, List.getElem_cons_zero, List.getElem_cons_succ]
      refine' wpAnyH_take (i := 2) (v := _) rfl (by kernel_rfl) (by kernel_rfl) (by kernel_rfl) (fun _ _ _ h => h) (Or.inl ⟨by rfl, ?hy1003⟩) hHeld ?hr1003
      case hy1003 => (intro w hSw; (try dsimp only at hSw); go_simp; (try with_reducible rfl))
      simp only [Act.put, List.setIfInBounds_toArray, List.set_cons_zero, List.set_cons_succ, List.getElem_toArray, List.getElem_cons_zero, List.getElem_cons_succ]
      refine' wpAnyH_take (i := 3) (v := _) rfl (by kernel_rfl) (by kernel_rfl) (by kernel_rfl) (fun _ _ _ h => h) (Or.inl ⟨by rfl, ?hy1004⟩) hHeld ?hr1004
      case hy1004 => (intro w hSw; (try dsimp only at hSw); go_simp; (try with_reducible rfl))
      simp only [Act.put, List.setIfInBounds_toArray, List.set_cons_zero, List.set_cons_succ, List.getElem_toArray, List.getElem_cons_zero, List.getElem_cons_succ]
      refine' wpAnyH_take (i := 4) (v := _) rfl (by kernel_rfl) (by kernel_rfl) (by kernel_rfl) (fun _ _ _ h => h) (Or.inl ⟨by rfl, ?hy1005⟩) hHeld ?hr1005
      case hy1005 => (intro w hSw; (try dsimp only at hSw); go_simp; (try with_reducible rfl))
      simp only [Act.put, List.setIfInBounds_toArray, List.set_cons_zero, List.set_cons_succ, List.getElem_toArray, List.getElem_cons_zero, List.getElem_cons_succ]
      refine' wpAnyH_take (i := 5) (v := _) rfl (by kernel_rfl) (by kernel_rfl) (by kernel_rfl) (fun _ _ _ h => h) (Or.inl ⟨by rfl, ?hy1006⟩) hHeld ?hr1006
      case hy1006 => (intro w hSw; (try dsimp only at hSw); go_simp; (try with_reducible rfl))
      simp only [Act.put, List.setIfInBounds_toArray, List.set_cons_zero, List.set_cons_succ, List.getElem_toArray, List.getElem_cons_zero, List.getElem_cons_succ]
      refine' wpAnyH_take (i := 6) (v := _) rfl (by kernel_rfl) (by kernel_rfl) (by kernel_rfl) (fun _ _ _ h => h) (Or.inl ⟨by rfl, ?hy1007⟩) hHeld ?hr1007
      case hy1007 => (intro w hSw; (try dsimp only at hSw); go_simp; (try with_reducible rfl))
      simp only [Act.put, List.setIfInBounds_toArray, List.set_cons_zero, List.set_cons_succ, List.getElem_toArray, List.getElem_cons_zero, List.getElem_cons_succ]
      refine' wpAnyH_take (i := 7) (v := _) rfl (by kernel_rfl) (by kernel_rfl) (by kernel_rfl) (fun _ _ _ h => h) (Or.inl ⟨by rfl, ?hy1008⟩) hHeld ?hr1008
      case hy1008 => (intro w hSw; (try dsimp only at hSw); go_simp; (try with_reducible rfl))
      simp only [Act.put, List.setIfInBounds_toArray, List.set_cons_zero, List.set_cons_succ, List.getElem_toArray, List.getElem_cons_zero, List.getElem_cons_succ]
      refine wpAnyH_ready (rs := [8]) (by kernel_rfl) (by simp) (allReady_1 rfl rfl (fun K hK => ?_))
      go_simp
      refine (eqEdit_same x y z _).mono ?_
      rintro e w9 ⟨rfl, hb9⟩
      replace hd := hd.trans (hb9.mono hd.size)
      go_wp2_with fail
      refine hK.out _ _ (hcl _ hd) (fun hHeld => ?_)
      clear hK K
      (try simp only [Act.put, List.setIfInBounds_toArray, List.set_cons_zero, List.set_cons_succ, List.getElem_toArray, List.getElem_cons_zero, List.getElem_cons_succ])
      refine' wpAnyH_take (i := 9) (v := _) rfl (by kernel_rfl) (by kernel_rfl) (by kernel_rfl) (fun _ _ _ h => h) (Or.inl ⟨by rfl, ?hy1009⟩) hHeld ?hr1009
      case hy1009 => (intro w hSw; (try dsimp only at hSw); go_simp; (try with_reducible rfl))
      simp only [Act.put, List.setIfInBounds_toArray, List.set_cons_zero, List.set_cons_succ, List.getElem_toArray, List.getElem_cons_zero, List.getElem_cons_succ]
      refine wpAnyH_done (by kernel_rfl) ?_ _
      refine NoPanic.normal ?_
      have kb2 := kb.trans (hd.mono kb.size)
      clear hHeld hd hb9 hcl
      go_wp2
      go_roundw
      case rel => exact ⟨j + 1, by omega, by go_num, kb2⟩
      case measure => simp [intOf]; omega
    · have hi : ¬ (j : Int) < (n : Int) := by omega
      go_wp2
      go_ret
      exact ⟨rfl, kb⟩
theorem marks3 (k : Int) (n : Nat) (ys : List Value) (hl : ys.length = n * 3) (h : ∀ t, t < n * 3 → ys[t]? = some (.int .i64 (k + (t : Int)))) : ys = (marksI k (n * 3)).map (Value.int .i64) := marked_all k (n * 3) ys hl h
set_option maxHeartbeats 1000000 in
theorem heldE_marks (v : Value) (k : Int) (n : Nat) (w : World) (hv : SlE w v n (marksI k (n * 3))) (hk : 0 ≤ k ∧ k ≤ 1073741824) (hn : n ≤ 1073741824) :
    Calls Try.prog 29 #[v, .int .i64 k] w fun e w' => e = .returned (.int .i64 (k + 3 * n)) ∧ w' = w := by
  obtain ⟨_, a, c, rfl, hca⟩ := hv
  by_cases h0 : n = 0
  · subst h0
    clear hca
    go_enter Try.func29, Try.ntmps29
    go_wp2
    refine wp_loop_rounds 1 ?_
    rw [rounds_succ]
    go_wp2
    go_ret
    exact ⟨by simp, rfl⟩
  rcases hca with h | ⟨b, rfl, hbl, hs1⟩
  · exact absurd h h0
  have hc : ∀ t, t < n * 3 → w.cell? ⟨b, t, none⟩ = some (.int .i64 (k + (t : Int))) := fun t ht => by rw [hs1 t ht, marksI_at k _ _ ht]
  replace hc := (show Hid _ from hc)
  clear hs1 h0
  go_enter Try.func29, Try.ntmps29
  go_wp2
  go_loop [1, 5] (fun q i => ∃ j : Nat, j ≤ n ∧ i = .int .i64 j ∧ ∃ p : Int, q = .int .i64 p ∧ p = k + 3 * (j : Int)) (fun _ i => n - (intOf i).toNat)
  case atStart => exact ⟨0, Nat.zero_le _, rfl, k, rfl, by simp⟩
  case round =>
    obtain ⟨j, hj, rfl, p, rfl, hp⟩ := hrel
    by_cases hlt : j < n
    · have hi : (j : Int) < (n : Int) := by omega
      obtain ⟨p1, hp1⟩ : ∃ p1, Hid (p1 = p + 1) := ⟨_, rfl⟩
      obtain ⟨p2, hp2⟩ : ∃ p2, Hid (p2 = p1 + 1) := ⟨_, rfl⟩
      obtain ⟨p3, hp3⟩ : ∃ p3, Hid (p3 = p2 + 1) := ⟨_, rfl⟩
      have c0 : w.cell? ⟨b, j * 3, none⟩ = some (.int .i64 p) := by rw [hc.out _ (by omega)]; congr 2; omega
      have c1 : w.cell? ⟨b, j * 3 + 1, none⟩ = some (.int .i64 p1) := by rw [hc.out _ (by omega)]; congr 2; have := hp1.out; omega
      have c2 : w.cell? ⟨b, j * 3 + 2, none⟩ = some (.int .i64 p2) := by rw [hc.out _ (by omega)]; congr 2; have := hp1.out; have := hp2.out; omega
      have hpb : p ≤ 4294967296 := by omega
      have hpb0 : 0 ≤ p := by omega
      have e1 : IntKind.i64.wrap (p + 1) = p1 := by have := hp1.out; simp [IntKind.wrap, IntKind.bits, IntKind.signed]; omega
      have e2 : IntKind.i64.wrap (p1 + 1) = p2 := by have := hp1.out; have := hp2.out; simp [IntKind.wrap, IntKind.bits, IntKind.signed]; omega
      have e3 : IntKind.i64.wrap (p2 + 1) = p3 := by have := hp1.out; have := hp2.out; have := hp3.out; simp [IntKind.wrap, IntKind.bits, IntKind.signed]; omega
      have hpn : p3 = k + 3 * ((j + 1 : Nat) : Int) := by have := hp1.out; have := hp2.out; have := hp3.out; omega
      replace hp := (show Hid _ from hp)
      replace hpn := (show Hid _ from hpn)
      clear hpb hpb0
      go_wp2
      go_round
      case rel => exact ⟨j + 1, by omega, by go_num, p3, rfl, hpn.out⟩
      case measure => simp [intOf]; omega
    · have hjn : j = n := by omega
      subst hjn
      replace hp := (show Hid _ from hp)
      go_wp2
      go_ret
      exact ⟨congrArg (fun z => Ending.returned (.int .i64 z)) hp.out, rfl⟩
set_option maxHeartbeats 1000000 in
theorem markE_own (base : Nat) (v : Value) (k : Int) (n : Nat) (xs : List Value) (w : World) (hown : w.ownsRow base 62 3 v n xs) (hk : 0 ≤ k ∧ k ≤ 1073741824) (hn : n ≤ 1073741824) :
    Calls Try.prog 28 #[v, .int .i64 k] w fun e w' => e = .returned (.int .i64 (k + 3 * n)) ∧ w'.ownsRow base 62 3 v n ((marksI k (n * 3)).map (Value.int .i64)) ∧ w.grownBy w' v.ownBlock := by
  have hlen := hown.1
  rcases hown.2 with ⟨rfl, rfl⟩ | ⟨g, cap, cur, rfl, hb, hg, _⟩
  · go_enter Try.func28, Try.ntmps28
    go_wp2
    refine wp_loop_rounds 1 ?_
    rw [rounds_succ]
    go_wp2
    go_ret
    exact ⟨by simp, World.ownsRow_nil _ _ _ _, World.grownBy.refl _ _⟩
  · clear hg
    go_enter Try.func28, Try.ntmps28
    go_wp2
    go_loopw [1, 5] (fun q i wr => ∃ (j : Nat) (ys : List Value), j ≤ n ∧ i = .int .i64 j ∧ (∃ p : Int, q = .int .i64 p ∧ p = k + 3 * (j : Int)) ∧ wr.ownsRow base 62 3 (.slice (some ⟨g, 0, none⟩) n cap) n ys ∧ ys.length = n * 3 ∧ Hid (∀ t, t < j * 3 → ys[t]? = some (.int .i64 (k + (t : Int)))) ∧ w.grownBy wr (some g)) (fun _ i _ => n - (intOf i).toNat)
    case atStart => exact ⟨0, xs, Nat.zero_le _, rfl, ⟨k, rfl, by simp⟩, hown, by simpa using hlen, fun t ht => by omega, World.grownBy.refl _ _⟩
    case round =>
      obtain ⟨j, ys, hj, rfl, ⟨p, rfl, hp⟩, ho, hyl, hys, hgr⟩ := hrel
      by_cases hlt : j < n
      · have hi : (j : Int) < (n : Int) := by omega
        obtain ⟨p1, hp1⟩ : ∃ p1, Hid (p1 = p + 1) := ⟨_, rfl⟩
        obtain ⟨p2, hp2⟩ : ∃ p2, Hid (p2 = p1 + 1) := ⟨_, rfl⟩
        obtain ⟨p3, hp3⟩ : ∃ p3, Hid (p3 = p2 + 1) := ⟨_, rfl⟩
        have hq1 := hp1.out
        have hq2 := hp2.out
        have hq3 := hp3.out
        have e1 : IntKind.i64.wrap (p + 1) = p1 := by simp [IntKind.wrap, IntKind.bits, IntKind.signed]; omega
        have e2 : IntKind.i64.wrap (p1 + 1) = p2 := by simp [IntKind.wrap, IntKind.bits, IntKind.signed]; omega
        have e3 : IntKind.i64.wrap (p2 + 1) = p3 := by simp [IntKind.wrap, IntKind.bits, IntKind.signed]; omega
        have hpn : p3 = k + 3 * ((j + 1 : Nat) : Int) := by omega
        obtain ⟨s1, t1⟩ := ho.stored (j * 3) (.int .i64 p)
        obtain ⟨s2, t2⟩ := s1.stored (j * 3 + 1) (.int .i64 p1)
        obtain ⟨s3, t3⟩ := s2.stored (j * 3 + 2) (.int .i64 p2)
        have hle : ∀ q, q < 3 → ∀ (W : World) (zs : List Value), W.ownsRow base 62 3 (.slice (some ⟨g, 0, none⟩) n cap) n zs → ∃ u, W.cell? ⟨g, j * 3 + q, none⟩ = some u := fun q hq W zs h => by
          rw [h.cellAt (j * 3 + q) (by omega)]
          have := h.1
          exact ⟨_, List.getElem?_eq_getElem (by omega)⟩
        obtain ⟨u0, h0⟩ := hle 0 (by omega) _ _ ho
        obtain ⟨u1, h1⟩ := hle 1 (by omega) _ _ s1
        obtain ⟨u2, h2⟩ := hle 2 (by omega) _ _ s2
        rw [Nat.add_zero] at h0
        have f0 := ho.frozenAt (j * 3)
        have f1 := s1.frozenAt (j * 3 + 1)
        have f2 := s2.frozenAt (j * 3 + 2)
        have hys3 : ∀ t, t < (j + 1) * 3 → (((ys.set (j * 3) (.int .i64 p)).set (j * 3 + 1) (.int .i64 p1)).set (j * 3 + 2) (.int .i64 p2))[t]? = some (.int .i64 (k + (t : Int))) := fun t ht => by
          by_cases q2 : t = j * 3 + 2
          · subst q2; rw [List.getElem?_set_self (by simp; omega)]; congr 2; omega
          rw [List.getElem?_set_ne (fun q => q2 q.symm)]
          by_cases q1 : t = j * 3 + 1
          · subst q1; rw [List.getElem?_set_self (by simp; omega)]; congr 2; omega
          rw [List.getElem?_set_ne (fun q => q1 q.symm)]
          by_cases q0 : t = j * 3
          · subst q0; rw [List.getElem?_set_self (by omega)]; congr 2; omega
          rw [List.getElem?_set_ne (fun q => q0 q.symm)]
          exact hys.out t (by omega)
        have hg3 := grown_trans hgr (grown_trans t1 (grown_trans t2 t3))
        replace hp := (show Hid _ from hp)
        replace hpn := (show Hid _ from hpn)
        replace hys3 := (show Hid _ from hys3)
        clear hle ho s1 s2 t1 t2 t3 hys hgr hq1 hq2 hq3
        go_wp2
        go_roundw
        case rel => exact ⟨j + 1, _, by omega, by go_num, ⟨p3, rfl, hpn.out⟩, s3, by simp [hyl], hys3, hg3⟩
        case measure => simp [intOf]; omega
      · have hjn : j = n := by omega
        subst hjn
        replace hp := (show Hid _ from hp)
        go_wp2
        go_ret
        exact ⟨congrArg (fun z => Ending.returned (.int .i64 z)) hp.out, by rw [← marks3 k j ys hyl hys.out]; exact ho, hgr⟩
end Go.Proofs.Ytdahcdgefflkaaa
namespace Go.Proofs.Ytdahcdgefflkaaa
open Go.ChangeShapes Go.WideShapes Go.ChangeAt Go.RowKit
theorem editsV_len (xs ys : List Int) : (editsV xs ys).length ≤ 80 := by
  unfold editsV
  split
  · rename_i h
    have h1 := edE_len (fun k => xs.getD k 0) (fun k => ys.getD k 0) xs.length ys.length
    have h2 := (edD_bd true (fun k => xs.getD k 0) (fun k => ys.getD k 0) xs.length ys.length).2
    omega
  · simp
theorem OwnE.sl {w : World} {base g cap : Nat} {es : List (Int × Int × Int)} (h : OwnE w base g cap es) : SlE w (.slice (some ⟨g, 0, none⟩) es.length cap) es.length (edV es) := SlE.of_own h
theorem OwnE.kept' {w w' : World} {base g cap : Nat} {es : List (Int × Int × Int)} {row : Option Nat} (h : OwnE w base g cap es) (hg : w.grownBy w' row) (hne : row ≠ some g) : OwnE w' base g cap es :=
  World.ownsRow.kept h hg (.inr (fun e => hne (by rw [← e]; rfl)))
set_option maxHeartbeats 4000000 in
set_option maxRecDepth 20000 in
theorem walk_FnExactEdits (w : World) (a : Option Addr) (len cap : Nat) (zs : List Int) (hr : IsRow .i64 w a len cap zs) (a' : Option Addr) (len' cap' : Nat) (zs' : List Int) (hr' : IsRow .i64 w a' len' cap' zs') :
    Calls Try.prog 7 #[.slice a len cap, .slice a' len' cap'] w fun e w' => e = .returned (.bool true) ∧ Below w.heap.size w w' := by
  obtain ⟨ha, hl⟩ := SlI.of_row hr
  obtain ⟨hb, hl'⟩ := SlI.of_row hr'
  generalize zs.take len = xs at *
  generalize zs'.take len' = ys at *
  clear hr hr'
  subst hl
  subst hl'
  by_cases h1 : xs.length ≤ 1048576
  case neg =>
    have h1i : (1048576 : Int) < (xs.length : Int) := by omega
    go_enter Try.func7, Try.ntmps7
    go_wp2
    go_ret
    exact ⟨rfl, Below.refl _ _⟩
  have h1i : ¬ (1048576 : Int) < (xs.length : Int) := by omega
  by_cases h2 : ys.length ≤ 1048576
  case neg =>
    have h2i : (1048576 : Int) < (ys.length : Int) := by omega
    go_enter Try.func7, Try.ntmps7
    go_wp2
    go_ret
    exact ⟨rfl, Below.refl _ _⟩
  have h2i : ¬ (1048576 : Int) < (ys.length : Int) := by omega
  have hxl : xs.length ≤ 1073741824 := by omega
  have hyl : ys.length ≤ 1073741824 := by omega
  have hsp := fun va vb W => specEdits_any va vb xs ys W
  have him := fun va vb W => implEdits_any va vb xs ys W
  have hel := editsV_len xs ys
  generalize editsV xs ys = es at *
  generalize decide (xs.length ≤ 40 ∧ ys.length ≤ 40) = bb at *
  replace hsp := (show Hid _ from hsp)
  replace him := (show Hid _ from him)
  go_enter Try.func7, Try.ntmps7
  go_wp2_with fail
  refine (toI_copy _ xs _ ha hxl).mono ?_
  rintro e w1 ⟨u1, rfl, o1, b1⟩
  have hb1 := hb.below b1
  go_wp2_with fail
  refine (toI_copy _ ys _ hb1 hyl).mono ?_
  rintro e w2 ⟨u2, rfl, o2, b2⟩
  have k2 := b1.trans (b2.mono b1.size)
  have s1 := SlI.of_own (o1.below (b2.mono (Nat.le_refl _)))
  have s2 := SlI.of_own o2
  clear o1 o2 b1 b2 hb1
  go_wp2_with fail
  refine (hsp.out _ _ _ s1 s2).mono ?_
  rintro e w3 ⟨gw, cw, rfl, ow, b3⟩
  have k3 := k2.trans (b3.mono k2.size)
  have hgw := (OwnE.lt ow).2
  have ha3 := ha.below k3
  clear s1 s2 k2 b3 hsp
  replace ow := (show Hid _ from ow)
  go_wp2_with fail
  refine (toI_copy _ xs _ ha3 hxl).mono ?_
  rintro e w4 ⟨x0, rfl, o4, b4⟩
  have k4 := k3.trans (b4.mono k3.size)
  have hb4 := hb.below k4
  have n4 := fun k h => (o4.lt k h)
  go_wp2_with fail
  refine (toI_copy _ ys _ hb4 hyl).mono ?_
  rintro e w5 ⟨x1, rfl, o5, b5⟩
  have k5 := k4.trans (b5.mono k4.size)
  have n5 := fun k h => (o5.lt k h)
  have ow5 : Hid (OwnE w5 _ gw cw es) := OwnE.kept' (OwnE.kept' ow.out (Below.gr b4 none) (by intro e; cases e)) (Below.gr b5 none) (by intro e; cases e)
  have z4 := b4.size
  have z5 := b5.size
  have o45 : w5.ownsRow w3.heap.size 2 1 x0 xs.length (xs.map (Value.int .i64)) := o4.kept (Below.gr b5 none) (by
    cases hx : x0.ownBlock with
    | none => exact .inl rfl
    | some k => exact .inr (by intro e; cases e))
  clear ow o4 b4 b5 hb4 ha3
  go_wp2_with fail
  refine (him.out _ _ _ (SlI.of_own o45) (SlI.of_own o5)).mono ?_
  rintro e w6 ⟨gg, cg, rfl, og, b6⟩
  have k6 := k5.trans (b6.mono k5.size)
  have hgg := (OwnE.lt og).1
  have z6 := b6.size
  have nk : ∀ (v : Value) (row : Option Nat), (∀ k, v.ownBlock = some k → row ≠ some k) → v.ownBlock = none ∨ v.ownBlock ≠ row := fun v row h => by
    cases hx : v.ownBlock with
    | none => exact .inl rfl
    | some k => exact .inr (fun e => h k hx e.symm)
  have p0 := o45.kept (Below.gr b6 none) (nk _ _ (fun k _ e => by cases e))
  have p1 := o5.kept (Below.gr b6 none) (nk _ _ (fun k _ e => by cases e))
  have pw : OwnE w6 _ gw cw es := OwnE.kept' ow5.out (Below.gr b6 none) (by intro e; cases e)
  clear o45 o5 ow5 b6
  replace pw := (show Hid _ from pw)
  replace og := (show Hid _ from og)
  replace p0 := (show Hid _ from p0)
  replace p1 := (show Hid _ from p1)
  replace nk := (show Hid _ from nk)
  replace n4 := (show Hid _ from n4)
  replace n5 := (show Hid _ from n5)
  have hel2 : es.length ≤ 1073741824 := by omega
  go_wp2_with fail
  refine (eqE_same _ _ es.length (edV es) _ (OwnE.sl og.out) (OwnE.sl pw.out) hel2).mono ?_
  rintro e w7 ⟨rfl, b7⟩
  have k7 := k6.trans (b7.mono k6.size)
  go_wp2_with fail
  refine (toI_copy _ xs _ (ha.below k7) hxl).mono ?_
  rintro e w8 ⟨x2, rfl, o8, b8⟩
  have c8 := b7.trans (b8.mono b7.size)
  have k8 := k6.trans (c8.mono k6.size)
  go_wp2_with fail
  refine (eqI_same _ _ xs _ ((SlI.of_own p0.out).below c8) (SlI.of_own o8) hxl).mono ?_
  rintro e w9 ⟨rfl, q9, hq9⟩
  subst hq9
  have c9 := c8.trans (Below.mono (drwB w8 q9) c8.size)
  have k9 := k6.trans (c9.mono k6.size)
  clear o8 b7 b8 c8 k8 k7
  go_wp2_with fail
  refine (toI_copy _ ys _ (hb.below k9) hyl).mono ?_
  rintro e w10 ⟨x3, rfl, o10, b10⟩
  have c10 := c9.trans (b10.mono c9.size)
  go_wp2_with fail
  refine (eqI_same _ _ ys _ ((SlI.of_own p1.out).below c10) (SlI.of_own o10) hyl).mono ?_
  rintro e w11 ⟨rfl, q11, hq11⟩
  subst hq11
  have c11 := c10.trans (Below.mono (drwB w10 q11) c10.size)
  have k11 := k6.trans (c11.mono k6.size)
  have q0 := World.ownsRow.kept p0.out (Below.gr c11 none) (nk.out _ _ (fun k _ e => by cases e))
  have q1 := World.ownsRow.kept p1.out (Below.gr c11 none) (nk.out _ _ (fun k _ e => by cases e))
  have qw := OwnE.kept' pw.out (Below.gr c11 none) (by intro e; cases e)
  have qg := OwnE.kept' og.out (Below.gr c11 none) (by intro e; cases e)
  have z11 := c11.size
  clear p0 p1 pw og o10 b10 c9 k9 c10 c11 k6
  generalize w10.drewN q11 = wA at *
  replace qw := (show Hid _ from qw)
  replace qg := (show Hid _ from qg)
  replace q1 := (show Hid _ from q1)
  go_wp2_with fail
  refine (markI_own _ x0 1 xs.length _ _ q0 (by omega) hxl).mono ?_
  rintro e w12 ⟨rfl, r0, g12⟩
  have r1 := World.ownsRow.kept q1.out g12 (nk.out _ _ (fun k h e => by have := n5.out k h; have := n4.out k e; omega))
  have rw2 := OwnE.kept' qw.out g12 (fun e => by have := n4.out _ e; omega)
  have rg := OwnE.kept' qg.out g12 (fun e => by have := n4.out _ e; omega)
  have k12 := k11.grown g12 k11.size (fun k e => by have := n4.out k e; have := k3.size; omega)
  have z12 := g12.size
  clear q0 q1 qw qg g12 k11 r0
  have hm1 : (0 : Int) ≤ 1 + (xs.length : Int) ∧ 1 + (xs.length : Int) ≤ 1073741824 := by omega
  have hm2 : ¬ (1 + (xs.length : Int) + (ys.length : Int) < 0) := by omega
  replace rw2 := (show Hid _ from rw2)
  replace rg := (show Hid _ from rg)
  go_wp2_with fail
  have hmk := markI_own _ x1 (1 + (xs.length : Int)) ys.length _ _ r1 hm1 hyl
  obtain ⟨kk, hkk⟩ : ∃ kk, Hid (1 + (xs.length : Int) + (ys.length : Int) = kk) := ⟨_, rfl⟩
  rw [hkk.out] at hmk hm2
  have hkd : decide (kk < 0) = false := decide_eq_false (by omega)
  refine hmk.mono ?_
  rintro e w13 ⟨rfl, r0, g13⟩
  have sw := OwnE.kept' rw2.out g13 (fun e => by have := n5.out _ e; omega)
  have sg := OwnE.kept' rg.out g13 (fun e => by have := n5.out _ e; omega)
  have k13 := k12.grown g13 k12.size (fun k e => by have := n5.out k e; have := k3.size; omega)
  have z13 := g13.size
  clear r0 r1 rw2 rg g13 k12 n4 n5 hmk hm1
  replace sw := (show Hid _ from sw)
  replace sg := (show Hid _ from sg)
  go_wp2_with fail
  refine (eqE_same _ _ es.length (edV es) _ (OwnE.sl sg.out) (OwnE.sl sw.out) hel2).mono ?_
  rintro e w14 ⟨rfl, b14⟩
  have tw := OwnE.kept' sw.out (Below.gr b14 none) (by intro e; cases e)
  have tg := OwnE.kept' sg.out (Below.gr b14 none) (by intro e; cases e)
  have k14 := k13.trans (b14.mono k13.size)
  have z14 := b14.size
  clear sw sg b14 k13
  replace tw := (show Hid _ from tw)
  replace tg := (show Hid _ from tg)
  go_wp2_with fail
  refine (markE_own _ _ 1 es.length _ _ tg.out (by omega) hel2).mono ?_
  rintro e w15 ⟨rfl, mg, g15⟩
  have vw := OwnE.kept' tw.out g15 (fun e => by have e2 : some gg = some gw := e; injection e2 with e2; omega)
  have k15 := k14.grown g15 k14.size (fun k e => by have e2 : some gg = some k := e; injection e2 with e2; have := k3.size; omega)
  have hsg := SlE.of_own mg
  clear tw tg g15 k14
  have hm3 : ¬ (1 + 3 * (es.length : Int) < 0) := by omega
  replace vw := (show Hid _ from vw)
  replace mg := (show Hid _ from mg)
  replace hsg := (show Hid _ from hsg)
  go_wp2_with fail
  refine (heldE_marks _ 1 es.length _ hsg.out (by omega) hel2).mono ?_
  rintro e w16 ⟨rfl, hw16⟩
  subst hw16
  go_wp2_with fail
  refine (toI_copy _ xs _ (ha.below k15) hxl).mono ?_
  rintro e w17 ⟨y1, rfl, o17, b17⟩
  have k17 := k15.trans (b17.mono k15.size)
  go_wp2_with fail
  refine (toI_copy _ ys _ (hb.below k17) hyl).mono ?_
  rintro e w18 ⟨y2, rfl, o18, b18⟩
  have k18 := k17.trans (b18.mono k17.size)
  have c18 := b17.trans (b18.mono b17.size)
  have s17 := (SlI.of_own o17).below b18
  have s18 := SlI.of_own o18
  clear o17 o18 b17 b18 k17
  go_wp2_with fail
  refine (him.out _ _ _ s17 s18).mono ?_
  rintro e w19 ⟨gh, ch, rfl, oh, b19⟩
  have k19 := k18.trans (b19.mono k18.size)
  have c19 := c18.trans (b19.mono c18.size)
  have xw := OwnE.kept' vw.out (Below.gr c19 none) (by intro e; cases e)
  clear vw s17 s18 b19 c18 k18
  replace oh := (show Hid _ from oh)
  replace xw := (show Hid _ from xw)
  go_wp2_with fail
  refine (eqE_same _ _ es.length (edV es) _ (OwnE.sl oh.out) (OwnE.sl xw.out) hel2).mono ?_
  rintro e w20 ⟨rfl, b20⟩
  have k20 := k19.trans (b20.mono k19.size)
  have c20 := c19.trans (b20.mono c19.size)
  have hsg2 := SlE.below hsg.out c20
  replace hsg2 := (show Hid _ from hsg2)
  clear oh xw b20 c19 k19 hsg mg
  go_wp2_with fail
  refine (heldE_marks _ 1 es.length _ hsg2.out (by omega) hel2).mono ?_
  rintro e w21 ⟨rfl, hw21⟩
  subst hw21
  go_wp2
  go_ret
  exact ⟨rfl, k20⟩
end Go.Proofs.Ytdahcdgefflkaaa
