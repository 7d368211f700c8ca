/- The program's Apart and Shared. The laws' own helpers on lists of int64: like, marked, held. The walk of the exact law of Shared. -/
import Derived.Test.YtdahcdgefflkaaaP1
namespace Go.Proofs.Ytdahcdgefflkaaa
open Go.ChangeShapes Go.WideShapes Go.ChangeAt Go.RowKit
theorem listsOk_any (va vb : Value) (xs ys : List Int) (w : World) (ha : SlI w va xs) (hb : SlI w vb ys) :
    Calls Try.prog 35 #[va, vb] w fun e w' => e = .returned (.bool (decide (xs.length ≤ 40 ∧ ys.length ≤ 40))) ∧ w' = w := by
  obtain ⟨a, c, rfl, _⟩ := ha
  obtain ⟨a', c', rfl, _⟩ := hb
  obtain ⟨r, hr⟩ : ∃ r, Hid (decide (xs.length ≤ 40 ∧ ys.length ≤ 40) = r) := ⟨_, rfl⟩
  rw [hr.out]
  have hr2 : r = decide (xs.length ≤ 40 ∧ ys.length ≤ 40) := hr.out.symm
  generalize xs.length = m at *
  generalize ys.length = n at *
  clear hr
  go_enter Try.func35, Try.ntmps35
  by_cases h1 : m ≤ 40
  · have h1i : (m : Int) ≤ 40 := by omega
    by_cases h2 : n ≤ 40
    · have h2i : (n : Int) ≤ 40 := by omega
      have hr3 : r = true := by rw [hr2]; exact decide_eq_true ⟨h1, h2⟩
      subst hr3; clear hr2
      go_wp2
      go_ret
      exact ⟨rfl, rfl⟩
    · have h2i : ¬ (n : Int) ≤ 40 := by omega
      have hr3 : r = false := by rw [hr2]; exact decide_eq_false (by omega)
      subst hr3; clear hr2
      go_wp2
      go_ret
      exact ⟨rfl, rfl⟩
  · have h1i : ¬ (m : Int) ≤ 40 := by omega
    have hr3 : r = false := by rw [hr2]; exact decide_eq_false (by omega)
    subst hr3; clear hr2
    go_wp2
    go_ret
    exact ⟨rfl, rfl⟩
theorem waysF_new (w : World) : WyS (w.alloc (Obj.cells #[.int .i64 1, .int .i64 1, .int .i64 0, .int .i64 2, .int .i64 0, .int .i64 1] 54)) (.slice (some ⟨w.heap.size, 0, none⟩) 2 2) (waysL false) := by
  have hc : ∀ k, (w.alloc (Obj.cells #[.int .i64 1, .int .i64 1, .int .i64 0, .int .i64 2, .int .i64 0, .int .i64 1] 54)).cell? ⟨w.heap.size, k, none⟩ = _ := fun k => cell_of_row _ w.heap.size k _ _ (0, 0) (heap_alloc_new w _)
  refine ⟨w.heap.size, 2, rfl, by simp, fun k hk => ?_⟩
  match k, hk with
  | 0, _ => exact ⟨(hc 0).trans rfl, (hc 1).trans rfl, (hc 2).trans rfl⟩
  | 1, _ => exact ⟨(hc 3).trans rfl, (hc 4).trans rfl, (hc 5).trans rfl⟩
set_option maxHeartbeats 1000000 in
theorem implShared_any (va vb : Value) (xs ys : List Int) (w : World) (ha : SlI w va xs) (hb : SlI w vb ys) :
    Calls Try.prog 12 #[va, vb] w fun e w' => e = .returned (.int .i64 (sharedV xs ys)) ∧ Below w.heap.size w w' := by
  have hlo := listsOk_any va vb xs ys w ha hb
  by_cases h : xs.length ≤ 40 ∧ ys.length ≤ 40
  · simp only [decide_eq_true h] at hlo
    have hA : Hid (sharedV xs ys = edL (fun k => xs.getD k 0) (fun k => ys.getD k 0) xs.length ys.length) := if_pos h
    rw [hA.out]
    have hsh := edD_shared (fun k => xs.getD k 0) (fun k => ys.getD k 0) xs.length ys.length
    have hbd := edL_bd (fun k => xs.getD k 0) (fun k => ys.getD k 0) xs.length ys.length
    obtain ⟨v, hv⟩ : ∃ v, Hid (edL (fun k => xs.getD k 0) (fun k => ys.getD k 0) xs.length ys.length = v) := ⟨_, rfl⟩
    rw [hv.out] at hsh hbd ⊢
    clear hA
    obtain ⟨a, c, hva, _⟩ := id ha
    obtain ⟨a', c', hvb, _⟩ := id hb
    subst hva; subst hvb
    have hw2 := waysF_new w
    have kb2 := bal' w (Obj.cells #[.int .i64 1, .int .i64 1, .int .i64 0, .int .i64 2, .int .i64 0, .int .i64 1] 54)
    obtain ⟨W2, hW2⟩ : ∃ W2, Hid (W2 = w.alloc (Obj.cells #[.int .i64 1, .int .i64 1, .int .i64 0, .int .i64 2, .int .i64 0, .int .i64 1] 54)) := ⟨_, rfl⟩
    rw [← hW2.out] at hw2 kb2
    obtain ⟨nb, hnb⟩ : ∃ nb, Hid (w.heap.size = nb) := ⟨_, rfl⟩
    replace hw2 := (show Hid _ from hw2)
    replace kb2 := (show Hid _ from kb2)
    go_enter Try.func12, Try.ntmps12
    go_wp2_with fail
    refine hlo.mono ?_
    rintro e w1 ⟨rfl, hw1⟩
    subst hw1
    go_wp2_with fail
    rw [← hW2.out]
    refine (routeOf_any false (.slice a xs.length c) (.slice a' ys.length c') (.slice (some ⟨w1.heap.size, 0, none⟩) 2 2) xs ys W2 (ha.below kb2.out) (hb.below kb2.out) hw2.out h.1 h.2).mono ?_
    rintro e w3 ⟨rfl, kb3, L, R, hR, hL, hF, hle⟩
    have k3 := kb2.out.trans (kb3.mono kb2.out.size)
    go_wp2_with fail
    refine (steps_any _ (.slice a xs.length c) (.slice a' ys.length c') (.slice (some ⟨w1.heap.size, 0, none⟩) 2 2) L R xs ys w3 hR (ha.below k3) (hb.below k3) h.1 h.2).mono ?_
    rintro e w4 ⟨rfl, q, hq⟩
    subst hq
    have hfin : R xs.length ys.length = (xs.length : Int) + ys.length - 2 * v := by rw [hF _ _ (Nat.le_refl _) (Nat.le_refl _)]; unfold edC; rw [if_pos hle]; exact hsh
    rw [hfin]
    obtain ⟨h40, h41⟩ := h
    clear hfin hF hle hsh hR hL
    obtain ⟨s, hs⟩ : ∃ s, Hid ((xs.length : Int) + ys.length = s) := ⟨_, rfl⟩
    have e1 : IntKind.i64.wrap ((xs.length : Int) + (ys.length : Int)) = s := wid hs.out (by omega) (by omega)
    rw [hs.out]
    have hs2 := hs.out
    have e2 : IntKind.i64.wrap (s - (s - 2 * v)) = v + v := wid (by omega) (by omega) (by omega)
    have e3 : (v + v).tdiv 2 = v := by rw [show v + v = v * 2 by omega]; exact Int.mul_tdiv_cancel v (by decide)
    have e4 : IntKind.i64.wrap v = v := wid rfl (by omega) (by omega)
    clear hs2
    go_wp2
    go_ret
    exact ⟨rfl, k3.trans ((drwB w3 q).mono k3.size)⟩
  · simp only [decide_eq_false h] at hlo
    have hA : Hid (sharedV xs ys = -1) := if_neg h
    rw [hA.out]
    clear hA h
    go_enter Try.func12, Try.ntmps12
    go_wp2_with fail
    refine hlo.mono ?_
    rintro e w1 ⟨rfl, hw1⟩
    subst hw1
    go_wp2
    go_ret
    exact ⟨rfl, Below.refl _ _⟩
end Go.Proofs.Ytdahcdgefflkaaa
namespace Go.Proofs.Ytdahcdgefflkaaa
open Go.ChangeShapes Go.WideShapes Go.ChangeAt Go.RowKit
set_option maxHeartbeats 400000 in
theorem eqI_same (va vb : Value) (xs : List Int) (w : World) (ha : SlI w va xs) (hb : SlI w vb xs) (hl : xs.length ≤ 1073741824) :
    Calls Try.prog 25 #[va, vb] w fun e w' => e = .returned (.bool true) ∧ ∃ n, w' = w.drewN n := by
  by_cases h0 : xs = []
  · subst h0
    obtain ⟨a, c, rfl, _⟩ := ha
    obtain ⟨a', c', rfl, _⟩ := hb
    go_enter Try.func25, Try.ntmps25
    go_wp2
    refine wp_loop_rounds 1 ?_
    rw [rounds_succ]
    go_wp2
    go_ret
    exact ⟨rfl, 0, rfl⟩
  · obtain ⟨_, c, rfl, e | ⟨b, off, rfl, _, hca⟩⟩ := ha
    · exact absurd e h0
    · obtain ⟨_, c', rfl, e | ⟨b', off', rfl, _, hcb⟩⟩ := hb
      · exact absurd e h0
      · generalize hn : xs.length = n at *
        clear h0 hn
        go_enter Try.func25, Try.ntmps25
        go_wp2
        go_loopw [5] (fun i wr => ∃ k : Nat, k ≤ n ∧ i = .int .i64 k ∧ ∃ m, wr = w.drewN m) (fun i _ => n - (intOf i).toNat)
        case atStart => exact ⟨0, Nat.zero_le _, rfl, 0, rfl⟩
        case round =>
          obtain ⟨k, hk, rfl, m, rfl⟩ := hrel
          by_cases hlt : k < n
          · have h1 : w.cell? ⟨b, off + k, none⟩ = some (.int .i64 (xs.getD k 0)) := hca k hlt
            have h2 : w.cell? ⟨b', off' + k, none⟩ = some (.int .i64 (xs.getD k 0)) := hcb k hlt
            have hi : (k : Int) < (n : Int) := by omega
            generalize xs.getD k 0 = x at *
            clear hca hcb
            go_wp2
            go_quiet (fail)
            go_wp2
            go_roundw
            case rel => exact ⟨k + 1, by omega, by go_num, m + nq, by simp⟩
            case measure => simp [intOf]; omega
          · go_wp2
            go_ret
            exact ⟨rfl, m, rfl⟩

end Go.Proofs.Ytdahcdgefflkaaa
namespace Go.Proofs.Ytdahcdgefflkaaa
open Go.ChangeShapes Go.WideShapes Go.ChangeAt Go.RowKit
set_option maxHeartbeats 4000000 in
set_option maxRecDepth 20000 in
theorem walk_FnExactShared (w : World) (a : Option Addr) (len cap : Nat) (zs : List Int) (hr : IsRow .i64 w a len cap zs) (a' : Option Addr) (len' cap' : Nat) (zs' : List Int) (hr' : IsRow .i64 w a' len' cap' zs') :
    Calls Try.prog 6 #[.slice a len cap, .slice a' len' cap'] w fun e w' => e = .returned (.bool true) ∧ Below w.heap.size w w' := by
  obtain ⟨ha, hl⟩ := SlI.of_row hr
  obtain ⟨hb, hl'⟩ := SlI.of_row hr'
  generalize zs.take len = xs at *
  generalize zs'.take len' = ys at *
  clear hr hr'
  by_cases h1 : len ≤ 1048576
  case neg =>
    have h1i : (1048576 : Int) < (len : Int) := by omega
    go_enter Try.func6, Try.ntmps6
    go_wp2
    go_ret
    exact ⟨rfl, Below.refl _ _⟩
  have h1i : ¬ (1048576 : Int) < (len : Int) := by omega
  by_cases h2 : len' ≤ 1048576
  case neg =>
    have h2i : (1048576 : Int) < (len' : Int) := by omega
    go_enter Try.func6, Try.ntmps6
    go_wp2
    go_ret
    exact ⟨rfl, Below.refl _ _⟩
  have h2i : ¬ (1048576 : Int) < (len' : Int) := by omega
  have hxl : xs.length ≤ 1073741824 := by omega
  have hyl : ys.length ≤ 1073741824 := by omega
  go_enter Try.func6, Try.ntmps6
  go_wp2_with fail
  refine (toI_copy _ xs _ ha hxl).mono ?_
  rintro e w1 ⟨u1, rfl, o1, b1⟩
  have hb1 := hb.below b1
  go_wp2_with fail
  refine (toI_copy _ ys _ hb1 hyl).mono ?_
  rintro e w2 ⟨u2, rfl, o2, b2⟩
  have k2 := b1.trans (b2.mono b1.size)
  have s1 := SlI.of_own (o1.below (b2.mono (Nat.le_refl _)))
  have s2 := SlI.of_own o2
  go_wp2_with fail
  refine (specShared_any _ _ xs ys _ s1 s2).mono ?_
  rintro e w3 ⟨rfl, b3⟩
  have k3 := k2.trans (b3.mono k2.size)
  clear o1 o2 b1 b2 b3 s1 s2 hb1 k2
  have hgen : ∀ (va vb : Value) (W : World), SlI W va xs → SlI W vb ys → Calls Try.prog 12 #[va, vb] W fun e w' => e = .returned (.int .i64 (sharedV xs ys)) ∧ Below W.heap.size W w' := fun va vb W => implShared_any va vb xs ys W
  generalize sharedV xs ys = r at *
  have ha3 := ha.below k3
  go_wp2_with fail
  refine (toI_copy _ xs _ ha3 hxl).mono ?_
  rintro e w4 ⟨x0, rfl, o4, b4⟩
  have k4 := k3.trans (b4.mono k3.size)
  have hb4 := hb.below k4
  go_wp2_with fail
  refine (toI_copy _ ys _ hb4 hyl).mono ?_
  rintro e w5 ⟨x1, rfl, o5, b5⟩
  have k5 := k4.trans (b5.mono k4.size)
  have s4 := (SlI.of_own o4).below b5
  have s5 := SlI.of_own o5
  clear o4 o5 b4 b5 hb4 ha3
  go_wp2_with fail
  refine (hgen _ _ _ s4 s5).mono ?_
  rintro e w6 ⟨rfl, b6⟩
  have k6 := k5.trans (b6.mono k5.size)
  have s6 := s4.below b6
  have s7 := s5.below b6
  have ha6 := ha.below k6
  clear s4 s5 b6
  go_wp2_with fail
  refine (toI_copy _ xs _ ha6 hxl).mono ?_
  rintro e w7 ⟨x2, rfl, o7, b7⟩
  have k7 := k6.trans (b7.mono k6.size)
  go_wp2_with fail
  refine (eqI_same _ _ xs _ (s6.below b7) (SlI.of_own o7) hxl).mono ?_
  rintro e w8 ⟨rfl, q8, hq8⟩
  subst hq8
  have b8 := drwB w7 q8
  have k8 := k7.trans (b8.mono k7.size)
  have s8 := (s7.below b7).below b8
  have hb8 := hb.below k8
  clear o7 b7 b8 s6 s7
  go_wp2_with fail
  refine (toI_copy _ ys _ hb8 hyl).mono ?_
  rintro e w9 ⟨x3, rfl, o9, b9⟩
  have k9 := k8.trans (b9.mono k8.size)
  go_wp2_with fail
  refine (eqI_same _ _ ys _ (s8.below b9) (SlI.of_own o9) hyl).mono ?_
  rintro e w10 ⟨rfl, q10, hq10⟩
  subst hq10
  go_wp2
  go_ret
  exact ⟨rfl, k9.trans ((drwB w9 q10).mono k9.size)⟩
end Go.Proofs.Ytdahcdgefflkaaa
