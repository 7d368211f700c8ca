/- Contract of the program's Pulled. -/
import Derived.Test.YteimcepkoclpbaaDoorRK9
namespace Go.Proofs.YteimcepkoclpbaaDoor
open Go.ChangeShapes Go.WideShapes Go.ChangeAt Go.RowKit

theorem pullL_V (xs : List Ce) (p n : Nat) (s : St) : pullL xs p n s = pullV xs p n s := rfl
set_option maxHeartbeats 8000000 in
set_option maxRecDepth 20000 in
theorem implPulled_any (v : Value) (xs : List Ce) (f t : Int) (s : St) (w : World) (hS : SpansAt w) (hv : SlC w v xs) (hl : xs.length ≤ 1048576) :
    Calls Tryd.prog 26 #[v, .int .i64 f, .int .i64 t, stV s] w fun e w' => ∃ u, e = .returned u ∧ OwnC w' w.heap.size u (pulledV xs f t s) ∧ Below w.heap.size w w' := by
  have h2 := StAt.new w s 26
  have hbA := bal' w (Obj.cells #[.int .i64 s.fore, .int .i64 s.back, .bool s.bold, .bool s.under, .bool s.turned] 26)
  have hno : ∀ W : World, OwnC W w.heap.size (.slice none 0 0) [] := fun W => ownC_none W _
  have hmo := moveOk_any v xs f t s _ (hS.below hbA hS.lt) (hv.below hbA) hl
  have hv1 := hv.below hbA
  have hmi := moveB_iff xs f t s
  obtain ⟨a, c, rfl, hcp, _⟩ := id hv
  unfold stV at *
  obtain ⟨_, ⟨c0, c1, c2, c3, c4⟩, _⟩ := id h2
  go_enter Tryd.func26, Tryd.ntmps26
  go_wp2_with fail
  refine hmo.mono ?_
  rintro e w2 ⟨rfl, hb2⟩
  have kb := hbA.trans (hb2.mono hbA.size)
  have hs := h2.below hb2
  have hv2 := hv1.below hb2
  clear hbA hb2 h2 hmo hv1 hv c0 c1 c2 c3 c4
  cases hm : moveB xs f t s
  · have hV : Hid (pulledV xs f t s = []) := by show _ = _; unfold pulledV; rw [if_neg (fun h => by have := hmi.2 h; rw [hm] at this; cases this)]
    clear hmi hm
    go_wp2
    go_ret
    exact ⟨_, rfl, by rw [hV.out]; exact hno _, kb⟩
  · obtain ⟨hr, ho, h1, h3⟩ := hmi.1 hm
    obtain ⟨p, rfl⟩ : ∃ p : Nat, f = p := ⟨f.toNat, by omega⟩
    obtain ⟨n, rfl⟩ : ∃ n : Nat, t = n := ⟨t.toNat, by omega⟩
    have hV : Hid (pulledV xs p n s = pullV xs p n s) := by show _ = _; unfold pulledV; rw [if_pos ⟨hr, ho, h1, h3⟩]; simp [pullL_V]
    obtain ⟨hx60, hR⟩ := (right_iff xs).1 hr
    have hcop := copied_any _ xs _ hv2 (by omega)
    have hlt3 := hs.1
    have hpx : p < xs.length := by omega
    have hway := fun m => pull_way hR p n m s hpx
    clear hr hmi hm
    generalize hN : xs.length = N at *
    have hnN : n ≤ N := by omega
    have hw0 : IntKind.i64.wrap ((N : Int) - (p : Int)) = (N : Int) - (p : Int) := by simp [IntKind.wrap_i64]; omega
    go_wp2_with fail
    refine hcop.mono ?_
    rintro e w4 ⟨g, rfl, ho4, hb4⟩
    have kb4 := kb.trans (hb4.mono kb.size)
    have hs4 := hs.below hb4
    have hgl := (ho4.lt g rfl).1
    have ho4 := ho4.low kb.size
    have hBg : w.heap.size ≠ g := by omega
    clear hcop hb4 hs hv2
    obtain ⟨m, hm⟩ : ∃ m, m = min n (N - p) := ⟨_, rfl⟩
    have hmI : (if (N : Int) - (p : Int) < (n : Int) then (N : Int) - (p : Int) else (n : Int)) = (m : Int) := by split <;> omega
    by_cases h0 : n = 0
    · have hm0 : m = 0 := by omega
      have hV2 : Hid (pulledV xs p n s = xs) := by show _ = _; rw [hV.out, pullV, if_pos (by omega)]
      subst hm0
      clear hway hV hm h0 hR
      go_wp2
      go_ret
      exact ⟨_, rfl, by rw [hV2.out]; exact ho4, kb4⟩
    · have hway := hway m h0 (by rw [hm])
      have hmp : 0 < m := by omega
      have hmN : p + m ≤ N := by omega
      have hmpi : (0 : Int) < (m : Int) := by omega
      have hw1 : IntKind.i64.wrap ((N : Int) - (m : Int)) = (N : Int) - (m : Int) := by simp [IntKind.wrap_i64]; omega
      have hw2 : IntKind.i64.wrap ((p : Int) + (m : Int)) = (p : Int) + (m : Int) := by simp [IntKind.wrap_i64]; omega
      have hpa := part_any w.heap.size g N N p xs w4 ho4 hN hR (by omega) (by omega)
      have hpb := fun W h => part_any w.heap.size g N N (p + m) (partW xs p) W h (by rw [partW_len]; exact hN) (partW_right hR p) (by omega) (by omega)
      have eNm : ((N - m : Nat) : Int) = (N : Int) - (m : Int) := by omega
      have epm : ((p + m : Nat) : Int) = (p : Int) + (m : Int) := by omega
      have hQl : (partW (partW xs p) (p + m)).length = N := by rw [partW_len, partW_len]; exact hN
      have hcut2 := fun W => cut_any g N N (N - m) N W (by omega) (by omega) (Nat.le_refl _)
      rw [epm] at hpb
      rw [eNm, show N - (N - m) = m by omega] at hcut2
      have hbo := fun L W h1 h2 (h3 : L.length = N) => blankOut_box w.heap.size w.heap.size g N N (N - m) m m ((N - m) * 7) L s W h1 hBg h2 h3 (by omega) (by omega) (by omega) rfl
      have hwm := wind_move (partW (partW xs p) (p + m)) p (p + m) (N - m - p) (by rw [hQl]; omega) (by rw [hQl]; omega)
      have hml : (((partW (partW xs p) (p + m)).drop (p + m)).take (N - m - p)).length = N - m - p := by rw [List.length_take, List.length_drop, hQl]; omega
      have hmat : ∀ i, i < N - m - p → atC (((partW (partW xs p) (p + m)).drop (p + m)).take (N - m - p)) i = atC (partW (partW xs p) (p + m)) (p + m + i) := fun i hi => by rw [atC_take _ _ _ hi, atC_drop]

      have hfin : Hid (fillUp (windL (partW (partW xs p) (p + m)) p (((partW (partW xs p) (p + m)).drop (p + m)).take (N - m - p))) (N - m) (N - m + m) s = pullV xs p n s) := by show _ = _; rw [hwm, show N - m + m = N by omega]; exact hway
      have hwl : (windL (partW (partW xs p) (p + m)) p (((partW (partW xs p) (p + m)).drop (p + m)).take (N - m - p))).length = N := by rw [windL_len _ _ _ (by rw [hml, hQl]; omega)]; exact hQl
      clear hway hm h0 hwm hnN
      go_wp2_with fail
      refine hpa.mono ?_
      clear hpa
      rintro e w5 ⟨rfl, ho5, hg5⟩
      have kb5 := kb4.grown hg5 kb4.size (fun k hk => by cases hk; exact Nat.le_trans kb.size hgl)
      have hs5 := hs4.grown hg5 (by simpa using Ne.symm hBg)
      clear ho4 hg5 hs4
      go_wp2_with fail
      refine (hpb _ ho5).mono ?_
      clear hpb
      rintro e w6 ⟨rfl, ho6, hg6⟩
      have kb6 := kb5.grown hg6 kb5.size (fun k hk => by cases hk; exact Nat.le_trans kb.size hgl)
      have hs6 := hs5.grown hg6 (by simpa using Ne.symm hBg)
      clear ho5 hg6 hs5
      generalize hQ : partW (partW xs p) (p + m) = Q at *
      generalize hM : (Q.drop (p + m)).take (N - m - p) = M at *
      have hpm0 : (0 : Int) ≤ (p : Int) + (m : Int) := by omega
      have htn : ((p : Int) + (m : Int)).toNat = p + m := by omega
      have hpmN : (p : Int) + (m : Int) ≤ (N : Int) := by omega
      have hod := ho6.below (bdr w6)
      have hsd := hs6.below (bdr w6)
      have kbd := kb6.trans ((bdr w6).mono kb6.size)
      have hnat : ∀ i, i < N → CeAt w6.drew g (i * 7) (atC Q i) := fun i hi => hod.at hQl i hi
      by_cases hE : p + m = N
      · have hcut := fun W => cut_none g N N p W (by omega) (Nat.le_refl _)
        have eNp : (N : Int) - (m : Int) = (p : Int) := by omega
        have hEt : (N = p + m) = True := eq_true hE.symm
        have hM0 : M.length = 0 := by rw [hml]; omega
        have hz0 : N - (p + m) = 0 := by omega
        have hw3 : IntKind.i64.wrap (p : Int) = (p : Int) := by simp [IntKind.wrap_i64]; omega
        rw [eNp] at hcut2
        clear hmI hE
        go_wp2
        go_region_held3 (fun _ => True) (trivial)
          (first
            | (go_at_call 48; refine (hcut _).mono ?_; rintro e wk ⟨rfl, hwk⟩; subst hwk)
            | (refine step_copy_oc (by rfl) _ _ (by rfl) w.heap.size g N N p Q M hod hQl (some ⟨g, 0, none⟩) (some ⟨g, 0, none⟩) 0 0 0 0 (by rfl) (by rfl) hM0 (by rw [hM0]; omega) (fun h => by rw [hM0] at h; exact absurd h (Nat.lt_irrefl 0)) ?_; intro w7 ho7 hg7))
        have hs7 := hsd.grown hg7 (by simpa using Ne.symm hBg)
        have kb7 := kbd.grown hg7 kbd.size (fun k hk => by cases hk; exact Nat.le_trans kb.size hgl)
        have hod7 := ho7.below (bdr w7)
        have hsd7 := hs7.below (bdr w7)
        have kbd7 := kb7.trans ((bdr w7).mono kb7.size)
        have hcd : w7.drew.cell? ⟨w.heap.size, 0, none⟩ = some (.int .i64 s.fore) ∧ w7.drew.cell? ⟨w.heap.size, 1, none⟩ = some (.int .i64 s.back) ∧ w7.drew.cell? ⟨w.heap.size, 2, none⟩ = some (.bool s.bold) ∧ w7.drew.cell? ⟨w.heap.size, 3, none⟩ = some (.bool s.under) ∧ w7.drew.cell? ⟨w.heap.size, 4, none⟩ = some (.bool s.turned) := hsd7.2.1
        have hbz := hbo (windL Q p M) _ hsd7 hod7 hwl
        obtain ⟨_, ⟨c0, c1, c2, c3, c4⟩, _⟩ := id hs7
        clear hbo hs7 hsd7 hod hsd kbd hg7 ho7 hmat hnat
        go_wp2
        clear c0 c1 c2 c3 c4
        go_region_held3 (fun W => W.cell? ⟨w.heap.size, 0, none⟩ = some (.int .i64 s.fore) ∧ W.cell? ⟨w.heap.size, 1, none⟩ = some (.int .i64 s.back) ∧ W.cell? ⟨w.heap.size, 2, none⟩ = some (.bool s.bold) ∧ W.cell? ⟨w.heap.size, 3, none⟩ = some (.bool s.under) ∧ W.cell? ⟨w.heap.size, 4, none⟩ = some (.bool s.turned)) (first | with_reducible assumption)
          (first
            | (go_at_call 48; refine (hcut2 _).mono ?_; rintro e wk ⟨rfl, hwk⟩; subst hwk)
            | (go_at_call 47; refine hbz.mono ?_; rintro e wz ⟨rfl, hcz, hoz, hgz⟩))
        go_wp2
        go_ret
        rw [hfin.out] at hoz
        exact ⟨_, rfl, by rw [hV.out]; exact hoz, kbd7.grown hgz kbd7.size (fun k hk => by cases hk; exact Nat.le_trans kb.size hgl)⟩
      · have hcut := fun W => cut_any g N N p (N - m) W (by omega) (by omega) (Nat.le_refl _)
        rw [eNm] at hcut
        have hEf : (N = p + m) = False := eq_false (fun h => hE h.symm)
        clear hmI
        clear hE
        go_wp2
        go_region_held3 (fun _ => True) (trivial)
          (first
            | (go_at_call 48; refine (hcut _).mono ?_; rintro e wk ⟨rfl, hwk⟩; subst hwk)
            | (refine step_copy_oc (by rfl) _ _ (by rfl) w.heap.size g N N p Q M hod hQl (some ⟨g, p * 7, none⟩) (some ⟨g, (p + m) * 7, none⟩) (N - m - p) (N - m - p) (N - (p + m)) (N - (p + m)) (by rfl) (by rfl) (by rw [hml, show N - (p + m) = N - m - p by omega]; exact (Nat.min_self _).symm) (by rw [hml]; omega) (fun _ => ⟨rfl, g, (p + m) * 7, rfl, fun i hi => by rw [hml] at hi; rw [hmat i hi, ← Nat.add_mul]; exact hnat _ (by omega)⟩) ?_; intro w7 ho7 hg7))
        have hs7 := hsd.grown hg7 (by simpa using Ne.symm hBg)
        have kb7 := kbd.grown hg7 kbd.size (fun k hk => by cases hk; exact Nat.le_trans kb.size hgl)
        have hod7 := ho7.below (bdr w7)
        have hsd7 := hs7.below (bdr w7)
        have kbd7 := kb7.trans ((bdr w7).mono kb7.size)
        have hcd : w7.drew.cell? ⟨w.heap.size, 0, none⟩ = some (.int .i64 s.fore) ∧ w7.drew.cell? ⟨w.heap.size, 1, none⟩ = some (.int .i64 s.back) ∧ w7.drew.cell? ⟨w.heap.size, 2, none⟩ = some (.bool s.bold) ∧ w7.drew.cell? ⟨w.heap.size, 3, none⟩ = some (.bool s.under) ∧ w7.drew.cell? ⟨w.heap.size, 4, none⟩ = some (.bool s.turned) := hsd7.2.1
        have hbz := hbo (windL Q p M) _ hsd7 hod7 hwl
        obtain ⟨_, ⟨c0, c1, c2, c3, c4⟩, _⟩ := id hs7
        clear hbo hs7 hsd7 hod hsd kbd hg7 ho7 hmat hnat
        go_wp2
        clear c0 c1 c2 c3 c4
        go_region_held3 (fun W => W.cell? ⟨w.heap.size, 0, none⟩ = some (.int .i64 s.fore) ∧ W.cell? ⟨w.heap.size, 1, none⟩ = some (.int .i64 s.back) ∧ W.cell? ⟨w.heap.size, 2, none⟩ = some (.bool s.bold) ∧ W.cell? ⟨w.heap.size, 3, none⟩ = some (.bool s.under) ∧ W.cell? ⟨w.heap.size, 4, none⟩ = some (.bool s.turned)) (first | with_reducible assumption)
          (first
            | (go_at_call 48; refine (hcut2 _).mono ?_; rintro e wk ⟨rfl, hwk⟩; subst hwk)
            | (go_at_call 47; refine hbz.mono ?_; rintro e wz ⟨rfl, hcz, hoz, hgz⟩))
        go_wp2
        go_ret
        rw [hfin.out] at hoz
        exact ⟨_, rfl, by rw [hV.out]; exact hoz, kbd7.grown hgz kbd7.size (fun k hk => by cases hk; exact Nat.le_trans kb.size hgl)⟩
end Go.Proofs.YteimcepkoclpbaaDoor
