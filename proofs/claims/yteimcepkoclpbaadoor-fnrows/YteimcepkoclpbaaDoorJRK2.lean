/- Contracts of the program's cut and copied rows, and of a wide rune parted. Contract of the program's parted wide rune. -/
import Derived.Test.YteimcepkoclpbaaDoorJRK0
import Derived.Deep.RegionHeld3
namespace Go.Proofs.YteimcepkoclpbaaDoor
open Go.ChangeShapes Go.WideShapes Go.ChangeAt Go.RowKit

theorem cut_any (g n cap f t : Nat) (w : World) (hft : f < t) (ht : t ≤ n) (hc : n ≤ cap) :
    Calls Tryd.prog 48 #[.slice (some ⟨g, 0, none⟩) n cap, .int .i64 f, .int .i64 t] w fun e w' => e = .returned (.slice (some ⟨g, f * 7, none⟩) (t - f) (t - f)) ∧ w' = w := by
  have h1 : (f : Int) ≤ (t : Int) := by omega
  have h0 : (0 : Int) ≤ (f : Int) := by omega
  have h2 : (t : Int) ≤ (cap : Int) := by omega
  have h3 : ¬ (t - f = 0) := by omega
  go_enter Tryd.func48, Tryd.ntmps48
  go_wp2
  go_ret
  exact ⟨rfl, rfl⟩
theorem cut_none (g n cap f : Nat) (w : World) (ht : f ≤ n) (hc : n ≤ cap) :
    Calls Tryd.prog 48 #[.slice (some ⟨g, 0, none⟩) n cap, .int .i64 f, .int .i64 f] w fun e w' => e = .returned (.slice (some ⟨g, 0, none⟩) 0 0) ∧ w' = w := by
  have h1 : (f : Int) ≤ (f : Int) := by omega
  have h0 : (0 : Int) ≤ (f : Int) := by omega
  have h2 : (f : Int) ≤ (cap : Int) := by omega
  go_enter Tryd.func48, Tryd.ntmps48
  go_wp2
  go_ret
  exact ⟨rfl, rfl⟩
set_option maxRecDepth 20000 in
theorem copied_any (v : Value) (xs : List Ce) (w : World) (hv : SlC w v xs) (hl : xs.length ≤ 1000) :
    Calls Tryd.prog 45 #[v] w fun e w' => ∃ g, e = .returned (.slice (some ⟨g, 0, none⟩) xs.length xs.length) ∧ OwnC w' w.heap.size (.slice (some ⟨g, 0, none⟩) xs.length xs.length) xs ∧ Below w.heap.size w w' := by
  obtain ⟨a, c, rfl, hcp, hnc, hr⟩ := id hv
  have hl2 : xs.length ≤ 1073741824 := by omega
  have hwin : Hid (windL (List.replicate xs.length Ce.zero) 0 xs = xs) := by show _ = _; simp [windL]
  have hmin : Hid (xs.length = Nat.min xs.length xs.length) := (Nat.min_self _).symm
  have hre : Hid ((List.replicate xs.length Ce.zero).length = xs.length) := by show _ = _; simp
  have hsrc := fun W h (h0 : 0 < xs.length) => (show SlC W (.slice a xs.length c) xs from h).src h0
  clear hr
  go_enter Tryd.func45, Tryd.ntmps45
  go_wp2_with (first
    | (refine make_oc rfl _ _ rfl xs.length rfl rfl hl2 ?_; intro w1 ho1 hb1; have hv1 := hv.below hb1)
    | (refine copy_oc rfl _ _ rfl w.heap.size w.heap.size xs.length xs.length 0 (List.replicate xs.length Ce.zero) xs ho1 hre.out (some ⟨w.heap.size, 0, none⟩) a xs.length xs.length xs.length c rfl rfl hmin.out (Nat.le_of_eq (Nat.zero_add _)) (fun h0 => ⟨rfl, hsrc w1 hv1 h0⟩) ?_; intro w2 ho2 hg2; rw [hwin.out] at ho2))
  have hb2 := hb1.grown hg2 hb1.size (fun k hk => by cases hk; exact Nat.le_refl _)
  go_ret
  exact ⟨_, rfl, ho2, hb2⟩
end Go.Proofs.YteimcepkoclpbaaDoor
namespace Go.Proofs.YteimcepkoclpbaaDoor
open Go.ChangeShapes Go.WideShapes Go.ChangeAt Go.RowKit

/-- A row of this call's own, and nothing else has changed. -/
def PW (base g n cap : Nat) (L : List Ce) (w0 W : World) : Prop := OwnC W base (.slice (some ⟨g, 0, none⟩) n cap) L ∧ w0.grownBy W (some g)
theorem PW.below {base g n cap : Nat} {L : List Ce} {w0 W W' : World} (k : PW base g n cap L w0 W) (hb : Below W.heap.size W W') : PW base g n cap L w0 W' :=
  ⟨k.1.below hb, grown_tr k.2 (gbl hb _)⟩
theorem PW.own {base g n cap : Nat} {L L' : List Ce} {w0 W W' : World} (k : PW base g n cap L w0 W) (h : OwnC W' base (.slice (some ⟨g, 0, none⟩) n cap) L') (hg : W.grownBy W' (some g)) : PW base g n cap L' w0 W' :=
  ⟨h, grown_tr k.2 hg⟩
set_option maxHeartbeats 4000000 in
set_option maxRecDepth 20000 in
theorem part_any (base g n cap p : Nat) (L : List Ce) (w : World) (h : OwnC w base (.slice (some ⟨g, 0, none⟩) n cap) L) (hn : L.length = n) (hR : Right L) (hp : p ≤ n) (hl : n ≤ 1000) :
    Calls Tryd.prog 46 #[.slice (some ⟨g, 0, none⟩) n cap, .int .i64 p] w fun e w' => e = .returned (.tuple #[]) ∧ OwnC w' base (.slice (some ⟨g, 0, none⟩) n cap) (partW L p) ∧ w.grownBy w' (some g) := by
  have hp0 : (0 : Int) ≤ (p : Int) := by omega
  obtain ⟨_, _, _, hnc, _⟩ := h.cur hn
  have hG : ∀ W, w.grownBy W (some g) → w.heap.size ≤ W.heap.size := fun W h => h.size
  by_cases hpn : p < n
  · have hpi : (p : Int) < (n : Int) := by omega
    have hat := h.at hn p hpn
    obtain ⟨c0, c1, c2, c3, c4, c5, c6⟩ := hat
    by_cases h2 : (atC L p).part = 2
    · have b2 : ((atC L p).part == 2) = true := by simp [h2]
      obtain ⟨q0, q1, q2, q3⟩ := hR.two h2
      have hV : Hid (partW L p = fillUp L (p - 1) (p - 1 + 2) (atC L p).st) := by show _ = _; unfold partW; rw [if_pos h2, show p - 1 + 2 = p + 1 by omega]
      have hcut := fun W => cut_any g n cap (p - 1) (p + 1) W (by omega) (by omega) hnc
      have e1 : ((p - 1 : Nat) : Int) = (p : Int) - 1 := by omega
      have e2 : ((p + 1 : Nat) : Int) = (p : Int) + 1 := by omega
      have e3 : p + 1 - (p - 1) = 2 := by omega
      rw [e1, e2, e3] at hcut
      have hbo : ∀ W, OwnC W base (.slice (some ⟨g, 0, none⟩) n cap) L → Calls Tryd.prog 47 #[.slice (some ⟨g, (p - 1) * 7, none⟩) 2 2, stV (atC L p).st] W fun e w' => e = .returned (.tuple #[]) ∧ (w'.cell? ⟨g, p * 7 + 1, none⟩ = some (.int .i64 (atC L p).st.fore) ∧ w'.cell? ⟨g, p * 7 + 2, none⟩ = some (.int .i64 (atC L p).st.back) ∧ w'.cell? ⟨g, p * 7 + 3, none⟩ = some (.bool (atC L p).st.bold) ∧ w'.cell? ⟨g, p * 7 + 4, none⟩ = some (.bool (atC L p).st.under) ∧ w'.cell? ⟨g, p * 7 + 5, none⟩ = some (.bool (atC L p).st.turned)) ∧ OwnC w' base (.slice (some ⟨g, 0, none⟩) n cap) (fillUp L (p - 1) (p - 1 + 2) (atC L p).st) ∧ W.grownBy w' (some g) := fun W hW =>
        (blankOut_any base g n cap (p - 1) 2 2 ((p - 1) * 7) L (atC L p).st W hW hn (by omega) (by omega) hl rfl).mono fun e w' ⟨he, ho, hg⟩ => by
          have hz := ho.at (by rw [fillUp_len]; exact hn) p hpn
          rw [fill_at _ _ _ _ _ (by omega), if_pos (by omega)] at hz
          exact ⟨he, ⟨hz.2.1, hz.2.2.1, hz.2.2.2.1, hz.2.2.2.2.1, hz.2.2.2.2.2.1⟩, ho, hg⟩
      have hd := h.below (bdr w)
      have hgd : w.grownBy w.drew (some g) := gbl (bdr w) _
      have hcd : w.drew.cell? ⟨g, p * 7 + 1, none⟩ = some (.int .i64 (atC L p).st.fore) ∧ w.drew.cell? ⟨g, p * 7 + 2, none⟩ = some (.int .i64 (atC L p).st.back) ∧ w.drew.cell? ⟨g, p * 7 + 3, none⟩ = some (.bool (atC L p).st.bold) ∧ w.drew.cell? ⟨g, p * 7 + 4, none⟩ = some (.bool (atC L p).st.under) ∧ w.drew.cell? ⟨g, p * 7 + 5, none⟩ = some (.bool (atC L p).st.turned) := ⟨c1, c2, c3, c4, c5⟩
      have hw1 : IntKind.i64.wrap ((p : Int) - 1) = (p : Int) - 1 := by simp [IntKind.wrap_i64]; omega
      have hw2 : IntKind.i64.wrap ((p : Int) + 1) = (p : Int) + 1 := by simp [IntKind.wrap_i64]; omega
      unfold stV at hbo
      clear e1 e2 e3 h2 q3 q2 hR
      go_enter Tryd.func46, Tryd.ntmps46
      go_wp2
      clear h c0 c1 c2 c3 c4 c5 c6
      go_region_held3 (fun W => W.cell? ⟨g, p * 7 + 1, none⟩ = some (.int .i64 (atC L p).st.fore) ∧ W.cell? ⟨g, p * 7 + 2, none⟩ = some (.int .i64 (atC L p).st.back) ∧ W.cell? ⟨g, p * 7 + 3, none⟩ = some (.bool (atC L p).st.bold) ∧ W.cell? ⟨g, p * 7 + 4, none⟩ = some (.bool (atC L p).st.under) ∧ W.cell? ⟨g, p * 7 + 5, none⟩ = some (.bool (atC L p).st.turned)) (first | with_reducible assumption)
        (first
          | (go_at_call 48; refine (hcut _).mono ?_; rintro e wk ⟨rfl, hwk⟩; subst hwk)
          | (go_at_call 47; refine (hbo _ hd).mono ?_; rintro e wz ⟨rfl, hcz, ho, hg⟩))
      refine bodyPost_end (results_none rfl _ _ _) rfl ?_
      exact ⟨rfl, by rw [hV.out]; exact ho, grown_tr hgd hg⟩
    · have b2 : ((atC L p).part == 2) = false := by simp [h2]
      have hV : Hid (partW L p = L) := by show _ = _; unfold partW; rw [if_neg h2]
      clear h2 hR
      go_enter Tryd.func46, Tryd.ntmps46
      go_wp2
      refine bodyPost_end (results_none rfl _ _ _) rfl ?_
      exact ⟨rfl, by rw [hV.out]; exact h, World.grownBy.refl _ _⟩
  · have hpi : ¬ (p : Int) < (n : Int) := by omega
    have hV : Hid (partW L p = L) := by show _ = _; unfold partW; rw [atC_ge (by omega), if_neg (by decide)]
    clear hR
    go_enter Tryd.func46, Tryd.ntmps46
    go_wp2
    refine bodyPost_end (results_none rfl _ _ _) rfl ?_
    exact ⟨rfl, by rw [hV.out]; exact h, World.grownBy.refl _ _⟩
end Go.Proofs.YteimcepkoclpbaaDoor
