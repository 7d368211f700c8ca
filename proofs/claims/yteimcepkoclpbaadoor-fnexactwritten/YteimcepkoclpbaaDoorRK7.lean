/- Contract of the program's Cleared. -/
import Derived.Test.YteimcepkoclpbaaDoorRK5
import Derived.Test.YteimcepkoclpbaaDoorRK3
import Derived.Test.YteimcepkoclpbaaDoorRC5
namespace Go.Proofs.YteimcepkoclpbaaDoor
open Go.ChangeShapes Go.WideShapes Go.ChangeAt Go.RowKit

set_option maxHeartbeats 4000000 in
set_option maxRecDepth 20000 in
theorem implCleared_any (v : Value) (xs : List Ce) (f t : Int) (s : St) (w : World) (hS : SpansAt w) (hv : SlC w v xs) (hl : xs.length ≤ 1048576) :
    Calls Tryd.prog 12 #[v, .int .i64 f, .int .i64 t, stV s] w fun e w' => ∃ u, e = .returned u ∧ OwnC w' w.heap.size u (clearedV xs f t s) ∧ Below w.heap.size w w' := by
  have h2 := StAt.new w s 26
  have hbA := bal' w (Obj.cells #[.int .i64 s.fore, .int .i64 s.back, .bool s.bold, .bool s.under, .bool s.turned] 26)
  have hOK := implStyleOk_any s
  have hno : ∀ W : World, OwnC W w.heap.size (.slice none 0 0) [] := fun W => ownC_none W _
  have hro := implRowOk_any v xs _ (hS.below hbA hS.lt) (hv.below hbA) hl
  have hv1 := hv.below hbA
  obtain ⟨a, c, rfl, hcp, _⟩ := id hv
  unfold stV at *
  go_enter Tryd.func12, Tryd.ntmps12
  go_wp2_with fail
  refine hro.mono ?_
  rintro e w2 ⟨rfl, hb2⟩
  have kb := hbA.trans (hb2.mono hbA.size)
  have hs := h2.below hb2
  have hv2 := hv1.below hb2
  clear hbA hb2 h2 hro hv1 hv
  cases hr : rowOkB xs
  · have hV : Hid (clearedV xs f t s = []) := by show _ = _; unfold clearedV; rw [if_neg (fun h => by rw [hr] at h; exact absurd h.1 (by decide))]
    clear hOK
    go_wp2
    go_ret
    exact ⟨_, rfl, by rw [hV.out]; exact hno _, kb⟩
  · obtain ⟨_, ⟨c0, c1, c2, c3, c4⟩, _⟩ := id hs
    go_wp2_with fail
    refine (hOK _).mono ?_
    rintro e w3 ⟨rfl, hb3⟩
    have kb := kb.trans (hb3.mono kb.size)
    have hs := hs.below hb3
    have hv3 := hv2.below hb3
    clear hb3 hOK hv2 c0 c1 c2 c3 c4
    cases ho : s.ok
    · have hV : Hid (clearedV xs f t s = []) := by show _ = _; unfold clearedV; rw [if_neg (fun h => by rw [ho] at h; exact absurd h.2.1 (by decide))]
      go_wp2
      go_ret
      exact ⟨_, rfl, by rw [hV.out]; exact hno _, kb⟩
    · by_cases f0 : f < 0
      · have hV : Hid (clearedV xs f t s = []) := by show _ = _; unfold clearedV; rw [if_neg (fun h => by have := h.2.2.1; omega)]
        go_wp2
        go_ret
        exact ⟨_, rfl, by rw [hV.out]; exact hno _, kb⟩
      · by_cases ft : t < f
        · have hV : Hid (clearedV xs f t s = []) := by show _ = _; unfold clearedV; rw [if_neg (fun h => by have := h.2.2.1; omega)]
          go_wp2
          go_ret
          exact ⟨_, rfl, by rw [hV.out]; exact hno _, kb⟩
        · by_cases tl : (xs.length : Int) < t
          · have hV : Hid (clearedV xs f t s = []) := by show _ = _; unfold clearedV; rw [if_neg (fun h => by have := h.2.2.2; omega)]
            go_wp2
            go_ret
            exact ⟨_, rfl, by rw [hV.out]; exact hno _, kb⟩
          · obtain ⟨p, rfl⟩ : ∃ p : Nat, f = p := ⟨f.toNat, by omega⟩
            obtain ⟨q, rfl⟩ : ∃ q : Nat, t = q := ⟨t.toNat, by omega⟩
            have hV : Hid (clearedV xs p q s = clearL xs p q s) := by show _ = _; unfold clearedV; rw [if_pos ⟨hr, ho, by omega, by omega⟩]; simp
            obtain ⟨hx60, hR⟩ := (right_iff xs).1 hr
            have hcop := copied_any _ xs _ hv3 (by omega)
            have hlt3 := hs.1
            clear hr ho
            go_wp2_with fail
            refine hcop.mono ?_
            rintro e w4 ⟨g, rfl, ho4, hb4⟩
            have kb4 := kb.trans (hb4.mono kb.size)
            have hs4 := hs.below hb4
            have hgl := (ho4.lt g rfl).1
            have ho4 := ho4.low kb.size
            have hBg : w.heap.size ≠ g := by omega
            clear hcop hb4 hs hv3
            by_cases hpq : p < q
            · have hpqi : (p : Int) < (q : Int) := by omega
              have hpa := part_any w.heap.size g xs.length xs.length p xs w4 ho4 rfl hR (by omega) (by omega)
              have hpb := fun W h => part_any w.heap.size g xs.length xs.length q (partW xs p) W h (partW_len xs p) (partW_right hR p) (by omega) (by omega)
              have hcut := fun W => cut_any g xs.length xs.length p q W hpq (by omega) (Nat.le_refl _)
              have hfin : Hid (fillUp (partW (partW xs p) q) p (p + (q - p)) s = clearL xs p q s) := by show _ = _; rw [show p + (q - p) = q by omega]; exact clear_way hR p q s hpq (by omega)
              have hbo := fun W h1 h2 => blankOut_box w.heap.size w.heap.size g xs.length xs.length p (q - p) (q - p) (p * 7) (partW (partW xs p) q) s W h1 hBg h2 (by rw [partW_len, partW_len]) (by omega) (by omega) (by omega) rfl
              clear hpq hR
              go_wp2_with fail
              refine hpa.mono ?_
              clear hpa
              rintro e w5 ⟨rfl, ho5, hg5⟩
              have kb5 := kb4.grown hg5 kb4.size (fun k hk => by cases hk; exact Nat.le_trans kb.size hgl)
              have hs5 := hs4.grown hg5 (by simpa using Ne.symm hBg)
              clear ho4 hg5 hs4
              go_wp2_with fail
              refine (hpb _ ho5).mono ?_
              clear hpb
              rintro e w6 ⟨rfl, ho6, hg6⟩
              have kb6 := kb5.grown hg6 kb5.size (fun k hk => by cases hk; exact Nat.le_trans kb.size hgl)
              have hs6 := hs5.grown hg6 (by simpa using Ne.symm hBg)
              clear ho5 hg6 hs5
              have hod := ho6.below (bdr w6)
              have hsd := hs6.below (bdr w6)
              have hcd : w6.drew.cell? ⟨w.heap.size, 0, none⟩ = some (.int .i64 s.fore) ∧ w6.drew.cell? ⟨w.heap.size, 1, none⟩ = some (.int .i64 s.back) ∧ w6.drew.cell? ⟨w.heap.size, 2, none⟩ = some (.bool s.bold) ∧ w6.drew.cell? ⟨w.heap.size, 3, none⟩ = some (.bool s.under) ∧ w6.drew.cell? ⟨w.heap.size, 4, none⟩ = some (.bool s.turned) := hsd.2.1
              have kbd := kb6.trans ((bdr w6).mono kb6.size)
              obtain ⟨_, ⟨c0, c1, c2, c3, c4⟩, _⟩ := id hs6
              clear ho6 hs6
              go_wp2
              clear c0 c1 c2 c3 c4
              go_region_held3 (fun W => W.cell? ⟨w.heap.size, 0, none⟩ = some (.int .i64 s.fore) ∧ W.cell? ⟨w.heap.size, 1, none⟩ = some (.int .i64 s.back) ∧ W.cell? ⟨w.heap.size, 2, none⟩ = some (.bool s.bold) ∧ W.cell? ⟨w.heap.size, 3, none⟩ = some (.bool s.under) ∧ W.cell? ⟨w.heap.size, 4, none⟩ = some (.bool s.turned)) (first | with_reducible assumption)
                (first
                  | (go_at_call 48; refine (hcut _).mono ?_; rintro e wk ⟨rfl, hwk⟩; subst hwk)
                  | (go_at_call 47; refine (hbo _ hsd hod).mono ?_; rintro e wz ⟨rfl, hcz, hoz, hgz⟩))
              go_wp2
              go_ret
              rw [hfin.out] at hoz
              exact ⟨_, rfl, by rw [hV.out]; exact hoz, kbd.grown hgz kbd.size (fun k hk => by cases hk; exact Nat.le_trans kb.size hgl)⟩
            · have hpqi : ¬ (p : Int) < (q : Int) := by omega
              have epq : q = p := by omega
              have hV2 : Hid (clearedV xs p q s = xs) := by show _ = _; rw [hV.out, epq]; exact clear_none hR p s
              clear hpq hR hV epq
              go_wp2
              go_ret
              exact ⟨_, rfl, by rw [hV2.out]; exact ho4, kb4⟩
end Go.Proofs.YteimcepkoclpbaaDoor
