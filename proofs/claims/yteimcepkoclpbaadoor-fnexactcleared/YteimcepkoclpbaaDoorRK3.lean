/- Contract of the program's parted wide rune. -/
import Derived.Test.YteimcepkoclpbaaDoorRK2
import Derived.Deep.RegionHeld3
namespace Go.Proofs.YteimcepkoclpbaaDoor
open Go.ChangeShapes Go.WideShapes Go.ChangeAt Go.RowKit

/-- A row of this call's own, and nothing else has changed. -/
def PW (base g n cap : Nat) (L : List Ce) (w0 W : World) : Prop := OwnC W base (.slice (some ⟨g, 0, none⟩) n cap) L ∧ w0.grownBy W (some g)
theorem PW.below {base g n cap : Nat} {L : List Ce} {w0 W W' : World} (k : PW base g n cap L w0 W) (hb : Below W.heap.size W W') : PW base g n cap L w0 W' :=
  ⟨k.1.below hb, grown_tr k.2 (gbl hb _)⟩
theorem PW.own {base g n cap : Nat} {L L' : List Ce} {w0 W W' : World} (k : PW base g n cap L w0 W) (h : OwnC W' base (.slice (some ⟨g, 0, none⟩) n cap) L') (hg : W.grownBy W' (some g)) : PW base g n cap L' w0 W' :=
  ⟨h, grown_tr k.2 hg⟩
set_option maxHeartbeats 4000000 in
set_option maxRecDepth 20000 in
theorem part_any (base g n cap p : Nat) (L : List Ce) (w : World) (h : OwnC w base (.slice (some ⟨g, 0, none⟩) n cap) L) (hn : L.length = n) (hR : Right L) (hp : p ≤ n) (hl : n ≤ 1000) :
    Calls Tryd.prog 46 #[.slice (some ⟨g, 0, none⟩) n cap, .int .i64 p] w fun e w' => e = .returned (.tuple #[]) ∧ OwnC w' base (.slice (some ⟨g, 0, none⟩) n cap) (partW L p) ∧ w.grownBy w' (some g) := by
  have hp0 : (0 : Int) ≤ (p : Int) := by omega
  obtain ⟨_, _, _, hnc, _⟩ := h.cur hn
  have hG : ∀ W, w.grownBy W (some g) → w.heap.size ≤ W.heap.size := fun W h => h.size
  by_cases hpn : p < n
  · have hpi : (p : Int) < (n : Int) := by omega
    have hat := h.at hn p hpn
    obtain ⟨c0, c1, c2, c3, c4, c5, c6⟩ := hat
    by_cases h2 : (atC L p).part = 2
    · have b2 : ((atC L p).part == 2) = true := by simp [h2]
      obtain ⟨q0, q1, q2, q3⟩ := hR.two h2
      have hV : Hid (partW L p = fillUp L (p - 1) (p - 1 + 2) (atC L p).st) := by show _ = _; unfold partW; rw [if_pos h2, show p - 1 + 2 = p + 1 by omega]
      have hcut := fun W => cut_any g n cap (p - 1) (p + 1) W (by omega) (by omega) hnc
      have e1 : ((p - 1 : Nat) : Int) = (p : Int) - 1 := by omega
      have e2 : ((p + 1 : Nat) : Int) = (p : Int) + 1 := by omega
      have e3 : p + 1 - (p - 1) = 2 := by omega
      rw [e1, e2, e3] at hcut
      have hbo : ∀ W, OwnC W base (.slice (some ⟨g, 0, none⟩) n cap) L → Calls Tryd.prog 47 #[.slice (some ⟨g, (p - 1) * 7, none⟩) 2 2, stV (atC L p).st] W fun e w' => e = .returned (.tuple #[]) ∧ (w'.cell? ⟨g, p * 7 + 1, none⟩ = some (.int .i64 (atC L p).st.fore) ∧ w'.cell? ⟨g, p * 7 + 2, none⟩ = some (.int .i64 (atC L p).st.back) ∧ w'.cell? ⟨g, p * 7 + 3, none⟩ = some (.bool (atC L p).st.bold) ∧ w'.cell? ⟨g, p * 7 + 4, none⟩ = some (.bool (atC L p).st.under) ∧ w'.cell? ⟨g, p * 7 + 5, none⟩ = some (.bool (atC L p).st.turned)) ∧ OwnC w' base (.slice (some ⟨g, 0, none⟩) n cap) (fillUp L (p - 1) (p - 1 + 2) (atC L p).st) ∧ W.grownBy w' (some g) := fun W hW =>
        (blankOut_any base g n cap (p - 1) 2 2 ((p - 1) * 7) L (atC L p).st W hW hn (by omega) (by omega) hl rfl).mono fun e w' ⟨he, ho, hg⟩ => by
          have hz := ho.at (by rw [fillUp_len]; exact hn) p hpn
          rw [fill_at _ _ _ _ _ (by omega), if_pos (by omega)] at hz
          exact ⟨he, ⟨hz.2.1, hz.2.2.1, hz.2.2.2.1, hz.2.2.2.2.1, hz.2.2.2.2.2.1⟩, ho, hg⟩
      have hd := h.below (bdr w)
      have hgd : w.grownBy w.drew (some g) := gbl (bdr w) _
      have hcd : w.drew.cell? ⟨g, p * 7 + 1, none⟩ = some (.int .i64 (atC L p).st.fore) ∧ w.drew.cell? ⟨g, p * 7 + 2, none⟩ = some (.int .i64 (atC L p).st.back) ∧ w.drew.cell? ⟨g, p * 7 + 3, none⟩ = some (.bool (atC L p).st.bold) ∧ w.drew.cell? ⟨g, p * 7 + 4, none⟩ = some (.bool (atC L p).st.under) ∧ w.drew.cell? ⟨g, p * 7 + 5, none⟩ = some (.bool (atC L p).st.turned) := ⟨c1, c2, c3, c4, c5⟩
      have hw1 : IntKind.i64.wrap ((p : Int) - 1) = (p : Int) - 1 := by simp [IntKind.wrap_i64]; omega
      have hw2 : IntKind.i64.wrap ((p : Int) + 1) = (p : Int) + 1 := by simp [IntKind.wrap_i64]; omega
      unfold stV at hbo
      clear e1 e2 e3 h2 q3 q2 hR
      go_enter Tryd.func46, Tryd.ntmps46
      go_wp2
      clear h c0 c1 c2 c3 c4 c5 c6
      go_region_held3 (fun W => W.cell? ⟨g, p * 7 + 1, none⟩ = some (.int .i64 (atC L p).st.fore) ∧ W.cell? ⟨g, p * 7 + 2, none⟩ = some (.int .i64 (atC L p).st.back) ∧ W.cell? ⟨g, p * 7 + 3, none⟩ = some (.bool (atC L p).st.bold) ∧ W.cell? ⟨g, p * 7 + 4, none⟩ = some (.bool (atC L p).st.under) ∧ W.cell? ⟨g, p * 7 + 5, none⟩ = some (.bool (atC L p).st.turned)) (first | with_reducible assumption)
        (first
          | (go_at_call 48; refine (hcut _).mono ?_; rintro e wk ⟨rfl, hwk⟩; subst hwk)
          | (go_at_call 47; refine (hbo _ hd).mono ?_; rintro e wz ⟨rfl, hcz, ho, hg⟩))
      refine bodyPost_end (results_none rfl _ _ _) rfl ?_
      exact ⟨rfl, by rw [hV.out]; exact ho, grown_tr hgd hg⟩
    · have b2 : ((atC L p).part == 2) = false := by simp [h2]
      have hV : Hid (partW L p = L) := by show _ = _; unfold partW; rw [if_neg h2]
      clear h2 hR
      go_enter Tryd.func46, Tryd.ntmps46
      go_wp2
      refine bodyPost_end (results_none rfl _ _ _) rfl ?_
      exact ⟨rfl, by rw [hV.out]; exact h, World.grownBy.refl _ _⟩
  · have hpi : ¬ (p : Int) < (n : Int) := by omega
    have hV : Hid (partW L p = L) := by show _ = _; unfold partW; rw [atC_ge (by omega), if_neg (by decide)]
    clear hR
    go_enter Tryd.func46, Tryd.ntmps46
    go_wp2
    refine bodyPost_end (results_none rfl _ _ _) rfl ?_
    exact ⟨rfl, by rw [hV.out]; exact h, World.grownBy.refl _ _⟩
end Go.Proofs.YteimcepkoclpbaaDoor
