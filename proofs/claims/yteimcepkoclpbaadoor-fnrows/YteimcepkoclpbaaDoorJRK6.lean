/- Contract of the program's Blank. Contract of the program's Cleared. -/
import Derived.Test.YteimcepkoclpbaaDoorJRK0
import Derived.Test.YteimcepkoclpbaaDoorJRC0
import Derived.Test.YteimcepkoclpbaaDoorSI0A
import Derived.Test.YteimcepkoclpbaaDoorJRK4
import Derived.Test.YteimcepkoclpbaaDoorJRK2
import Derived.Test.YteimcepkoclpbaaDoorJRC5
namespace Go.Proofs.YteimcepkoclpbaaDoor
open Go.ChangeShapes Go.WideShapes Go.ChangeAt Go.RowKit

theorem fill_row (n : Nat) (s : St) : fillUp (List.replicate n Ce.zero) 0 (0 + n) s = rowL n s := ext_atC _ _ (by rw [fillUp_len]; simp [rowL]) fun i hi => by
  rw [fillUp_len, List.length_replicate] at hi
  rw [fillUp_at _ _ _ _ _ (by simpa using hi), if_pos (by omega), rowL_at _ _ _ hi]
set_option maxHeartbeats 4000000 in
set_option maxRecDepth 20000 in
theorem implBlank_any (n : Int) (s : St) (w : World) :
    Calls Tryd.prog 14 #[.int .i64 n, stV s] w fun e w' => ∃ v, e = .returned v ∧ OwnC w' w.heap.size v (blankV n s) ∧ Below w.heap.size w w' := by
  have h2 := StAt.new w s 26
  have hbA := bal' w (Obj.cells #[.int .i64 s.fore, .int .i64 s.back, .bool s.bold, .bool s.under, .bool s.turned] 26)
  have hOK := implStyleOk_any s
  have hno : ∀ W : World, OwnC W w.heap.size (.slice none 0 0) [] := fun W => ownC_none W _
  by_cases h1 : 1 ≤ n
  · by_cases h60 : n ≤ 60
    · have h1i : ¬ n < 1 := by omega
      have h60i : ¬ 60 < n := by omega
      obtain ⟨_, ⟨c0, c1, c2, c3, c4⟩, _⟩ := id h2
      have hV : Hid (blankV n s = if s.ok = true then rowL n.toNat s else []) := by
        show _ = _; unfold blankV
        by_cases h : s.ok = true
        · rw [if_pos ⟨h1, h60, h⟩, if_pos h]
        · rw [if_neg (fun x => h x.2.2), if_neg h]
      unfold stV at *
      go_enter Tryd.func14, Tryd.ntmps14
      go_wp2_with fail
      generalize w.alloc (Obj.cells #[.int .i64 s.fore, .int .i64 s.back, .bool s.bold, .bool s.under, .bool s.turned] 26) = W0 at *
      refine (hOK _).mono ?_
      rintro e w1 ⟨rfl, hb1⟩
      have kb := hbA.trans (hb1.mono hbA.size)
      have hs1 := h2.below hb1
      clear hbA h2 hb1 c0 c1 c2 c3 c4 hOK
      cases ho : s.ok
      · have hV2 : Hid (blankV n s = []) := by show _ = _; rw [hV.out, if_neg (by rw [ho]; decide)]
        clear ho hs1
        go_wp2
        go_ret
        exact ⟨_, rfl, by rw [hV2.out]; exact hno _, kb⟩
      · obtain ⟨m, rfl⟩ : ∃ m : Nat, n = m := ⟨n.toNat, by omega⟩
        have hV2 : Hid (blankV m s = rowL m s) := by show _ = _; rw [hV.out, if_pos ho]; simp
        have hm2 : m ≤ 1073741824 := by omega
        have hbo := fun W h => blankOut_any w1.heap.size w1.heap.size m m 0 m m 0 (List.replicate m Ce.zero) s W h (by simp) (by omega) (by omega) (by omega) rfl
        have hs0 := hs1.1
        unfold stV at hbo
        clear ho h1 h60 hV
        go_wp2_with (refine make_oc rfl _ _ rfl m rfl rfl hm2 ?_; intro w2 ho2 hb2; have hs2 := hs1.below hb2; have hss := hs2; obtain ⟨_, ⟨c0, c1, c2, c3, c4⟩, _⟩ := hss)
        refine (hbo _ ho2).mono ?_
        rintro e w3 ⟨rfl, ho3, hg3⟩
        rw [fill_row] at ho3
        have kb2 := kb.trans (hb2.mono kb.size)
        go_wp2
        go_ret
        exact ⟨_, rfl, by rw [hV2.out]; exact ho3.low kb.size, kb2.grown hg3 kb2.size (fun k hk => by cases hk; exact kb.size)⟩
    · have h60i : 60 < n := by omega
      have h1i : ¬ n < 1 := by omega
      have hV : Hid (blankV n s = []) := by show _ = _; unfold blankV; rw [if_neg (by omega)]
      clear hOK
      unfold stV
      go_enter Tryd.func14, Tryd.ntmps14
      go_wp2
      go_ret
      exact ⟨_, rfl, by rw [hV.out]; exact hno _, hbA⟩
  · have h1i : n < 1 := by omega
    have hV : Hid (blankV n s = []) := by show _ = _; unfold blankV; rw [if_neg (by omega)]
    clear hOK
    unfold stV
    go_enter Tryd.func14, Tryd.ntmps14
    go_wp2
    go_ret
    exact ⟨_, rfl, by rw [hV.out]; exact hno _, hbA⟩
end Go.Proofs.YteimcepkoclpbaaDoor
namespace Go.Proofs.YteimcepkoclpbaaDoor
open Go.ChangeShapes Go.WideShapes Go.ChangeAt Go.RowKit

set_option maxHeartbeats 4000000 in
set_option maxRecDepth 20000 in
theorem implCleared_any (v : Value) (xs : List Ce) (f t : Int) (s : St) (w : World) (hS : SpansAt w) (hv : SlC w v xs) (hl : xs.length ≤ 1048576) :
    Calls Tryd.prog 12 #[v, .int .i64 f, .int .i64 t, stV s] w fun e w' => ∃ u, e = .returned u ∧ OwnC w' w.heap.size u (clearedV xs f t s) ∧ Below w.heap.size w w' := by
  have h2 := StAt.new w s 26
  have hbA := bal' w (Obj.cells #[.int .i64 s.fore, .int .i64 s.back, .bool s.bold, .bool s.under, .bool s.turned] 26)
  have hOK := implStyleOk_any s
  have hno : ∀ W : World, OwnC W w.heap.size (.slice none 0 0) [] := fun W => ownC_none W _
  have hro := implRowOk_any v xs _ (hS.below hbA hS.lt) (hv.below hbA) hl
  have hv1 := hv.below hbA
  obtain ⟨a, c, rfl, hcp, _⟩ := id hv
  unfold stV at *
  go_enter Tryd.func12, Tryd.ntmps12
  go_wp2_with fail
  refine hro.mono ?_
  rintro e w2 ⟨rfl, hb2⟩
  have kb := hbA.trans (hb2.mono hbA.size)
  have hs := h2.below hb2
  have hv2 := hv1.below hb2
  clear hbA hb2 h2 hro hv1 hv
  cases hr : rowOkB xs
  · have hV : Hid (clearedV xs f t s = []) := by show _ = _; unfold clearedV; rw [if_neg (fun h => by rw [hr] at h; exact absurd h.1 (by decide))]
    clear hOK
    go_wp2
    go_ret
    exact ⟨_, rfl, by rw [hV.out]; exact hno _, kb⟩
  · obtain ⟨_, ⟨c0, c1, c2, c3, c4⟩, _⟩ := id hs
    go_wp2_with fail
    refine (hOK _).mono ?_
    rintro e w3 ⟨rfl, hb3⟩
    have kb := kb.trans (hb3.mono kb.size)
    have hs := hs.below hb3
    have hv3 := hv2.below hb3
    clear hb3 hOK hv2 c0 c1 c2 c3 c4
    cases ho : s.ok
    · have hV : Hid (clearedV xs f t s = []) := by show _ = _; unfold clearedV; rw [if_neg (fun h => by rw [ho] at h; exact absurd h.2.1 (by decide))]
      go_wp2
      go_ret
      exact ⟨_, rfl, by rw [hV.out]; exact hno _, kb⟩
    · by_cases f0 : f < 0
      · have hV : Hid (clearedV xs f t s = []) := by show _ = _; unfold clearedV; rw [if_neg (fun h => by have := h.2.2.1; omega)]
        go_wp2
        go_ret
        exact ⟨_, rfl, by rw [hV.out]; exact hno _, kb⟩
      · by_cases ft : t < f
        · have hV : Hid (clearedV xs f t s = []) := by show _ = _; unfold clearedV; rw [if_neg (fun h => by have := h.2.2.1; omega)]
          go_wp2
          go_ret
          exact ⟨_, rfl, by rw [hV.out]; exact hno _, kb⟩
        · by_cases tl : (xs.length : Int) < t
          · have hV : Hid (clearedV xs f t s = []) := by show _ = _; unfold clearedV; rw [if_neg (fun h => by have := h.2.2.2; omega)]
            go_wp2
            go_ret
            exact ⟨_, rfl, by rw [hV.out]; exact hno _, kb⟩
          · obtain ⟨p, rfl⟩ : ∃ p : Nat, f = p := ⟨f.toNat, by omega⟩
            obtain ⟨q, rfl⟩ : ∃ q : Nat, t = q := ⟨t.toNat, by omega⟩
            have hV : Hid (clearedV xs p q s = clearL xs p q s) := by show _ = _; unfold clearedV; rw [if_pos ⟨hr, ho, by omega, by omega⟩]; simp
            obtain ⟨hx60, hR⟩ := (right_iff xs).1 hr
            have hcop := copied_any _ xs _ hv3 (by omega)
            have hlt3 := hs.1
            clear hr ho
            go_wp2_with fail
            refine hcop.mono ?_
            rintro e w4 ⟨g, rfl, ho4, hb4⟩
            have kb4 := kb.trans (hb4.mono kb.size)
            have hs4 := hs.below hb4
            have hgl := (ho4.lt g rfl).1
            have ho4 := ho4.low kb.size
            have hBg : w.heap.size ≠ g := by omega
            clear hcop hb4 hs hv3
            by_cases hpq : p < q
            · have hpqi : (p : Int) < (q : Int) := by omega
              have hpa := part_any w.heap.size g xs.length xs.length p xs w4 ho4 rfl hR (by omega) (by omega)
              have hpb := fun W h => part_any w.heap.size g xs.length xs.length q (partW xs p) W h (partW_len xs p) (partW_right hR p) (by omega) (by omega)
              have hcut := fun W => cut_any g xs.length xs.length p q W hpq (by omega) (Nat.le_refl _)
              have hfin : Hid (fillUp (partW (partW xs p) q) p (p + (q - p)) s = clearL xs p q s) := by show _ = _; rw [show p + (q - p) = q by omega]; exact clear_way hR p q s hpq (by omega)
              have hbo := fun W h1 h2 => blankOut_box w.heap.size w.heap.size g xs.length xs.length p (q - p) (q - p) (p * 7) (partW (partW xs p) q) s W h1 hBg h2 (by rw [partW_len, partW_len]) (by omega) (by omega) (by omega) rfl
              clear hpq hR
              go_wp2_with fail
              refine hpa.mono ?_
              clear hpa
              rintro e w5 ⟨rfl, ho5, hg5⟩
              have kb5 := kb4.grown hg5 kb4.size (fun k hk => by cases hk; exact Nat.le_trans kb.size hgl)
              have hs5 := hs4.grown hg5 (by simpa using Ne.symm hBg)
              clear ho4 hg5 hs4
              go_wp2_with fail
              refine (hpb _ ho5).mono ?_
              clear hpb
              rintro e w6 ⟨rfl, ho6, hg6⟩
              have kb6 := kb5.grown hg6 kb5.size (fun k hk => by cases hk; exact Nat.le_trans kb.size hgl)
              have hs6 := hs5.grown hg6 (by simpa using Ne.symm hBg)
              clear ho5 hg6 hs5
              have hod := ho6.below (bdr w6)
              have hsd := hs6.below (bdr w6)
              have hcd : w6.drew.cell? ⟨w.heap.size, 0, none⟩ = some (.int .i64 s.fore) ∧ w6.drew.cell? ⟨w.heap.size, 1, none⟩ = some (.int .i64 s.back) ∧ w6.drew.cell? ⟨w.heap.size, 2, none⟩ = some (.bool s.bold) ∧ w6.drew.cell? ⟨w.heap.size, 3, none⟩ = some (.bool s.under) ∧ w6.drew.cell? ⟨w.heap.size, 4, none⟩ = some (.bool s.turned) := hsd.2.1
              have kbd := kb6.trans ((bdr w6).mono kb6.size)
              obtain ⟨_, ⟨c0, c1, c2, c3, c4⟩, _⟩ := id hs6
              clear ho6 hs6
              go_wp2
              clear c0 c1 c2 c3 c4
              go_region_held3 (fun W => W.cell? ⟨w.heap.size, 0, none⟩ = some (.int .i64 s.fore) ∧ W.cell? ⟨w.heap.size, 1, none⟩ = some (.int .i64 s.back) ∧ W.cell? ⟨w.heap.size, 2, none⟩ = some (.bool s.bold) ∧ W.cell? ⟨w.heap.size, 3, none⟩ = some (.bool s.under) ∧ W.cell? ⟨w.heap.size, 4, none⟩ = some (.bool s.turned)) (first | with_reducible assumption)
                (first
                  | (go_at_call 48; refine (hcut _).mono ?_; rintro e wk ⟨rfl, hwk⟩; subst hwk)
                  | (go_at_call 47; refine (hbo _ hsd hod).mono ?_; rintro e wz ⟨rfl, hcz, hoz, hgz⟩))
              go_wp2
              go_ret
              rw [hfin.out] at hoz
              exact ⟨_, rfl, by rw [hV.out]; exact hoz, kbd.grown hgz kbd.size (fun k hk => by cases hk; exact Nat.le_trans kb.size hgl)⟩
            · have hpqi : ¬ (p : Int) < (q : Int) := by omega
              have epq : q = p := by omega
              have hV2 : Hid (clearedV xs p q s = xs) := by show _ = _; rw [hV.out, epq]; exact clear_none hR p s
              clear hpq hR hV epq
              go_wp2
              go_ret
              exact ⟨_, rfl, by rw [hV2.out]; exact ho4, kb4⟩
end Go.Proofs.YteimcepkoclpbaaDoor
