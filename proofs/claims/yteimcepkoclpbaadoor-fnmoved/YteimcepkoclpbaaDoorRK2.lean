/- Contracts of the program's cut and copied rows, and of a wide rune parted. -/
import Derived.Test.YteimcepkoclpbaaDoorRK1
namespace Go.Proofs.YteimcepkoclpbaaDoor
open Go.ChangeShapes Go.WideShapes Go.ChangeAt Go.RowKit

theorem cut_any (g n cap f t : Nat) (w : World) (hft : f < t) (ht : t ≤ n) (hc : n ≤ cap) :
    Calls Tryd.prog 48 #[.slice (some ⟨g, 0, none⟩) n cap, .int .i64 f, .int .i64 t] w fun e w' => e = .returned (.slice (some ⟨g, f * 7, none⟩) (t - f) (t - f)) ∧ w' = w := by
  have h1 : (f : Int) ≤ (t : Int) := by omega
  have h0 : (0 : Int) ≤ (f : Int) := by omega
  have h2 : (t : Int) ≤ (cap : Int) := by omega
  have h3 : ¬ (t - f = 0) := by omega
  go_enter Tryd.func48, Tryd.ntmps48
  go_wp2
  go_ret
  exact ⟨rfl, rfl⟩
theorem cut_none (g n cap f : Nat) (w : World) (ht : f ≤ n) (hc : n ≤ cap) :
    Calls Tryd.prog 48 #[.slice (some ⟨g, 0, none⟩) n cap, .int .i64 f, .int .i64 f] w fun e w' => e = .returned (.slice (some ⟨g, 0, none⟩) 0 0) ∧ w' = w := by
  have h1 : (f : Int) ≤ (f : Int) := by omega
  have h0 : (0 : Int) ≤ (f : Int) := by omega
  have h2 : (f : Int) ≤ (cap : Int) := by omega
  go_enter Tryd.func48, Tryd.ntmps48
  go_wp2
  go_ret
  exact ⟨rfl, rfl⟩
set_option maxRecDepth 20000 in
theorem copied_any (v : Value) (xs : List Ce) (w : World) (hv : SlC w v xs) (hl : xs.length ≤ 1000) :
    Calls Tryd.prog 45 #[v] w fun e w' => ∃ g, e = .returned (.slice (some ⟨g, 0, none⟩) xs.length xs.length) ∧ OwnC w' w.heap.size (.slice (some ⟨g, 0, none⟩) xs.length xs.length) xs ∧ Below w.heap.size w w' := by
  obtain ⟨a, c, rfl, hcp, hnc, hr⟩ := id hv
  have hl2 : xs.length ≤ 1073741824 := by omega
  have hwin : Hid (windL (List.replicate xs.length Ce.zero) 0 xs = xs) := by show _ = _; simp [windL]
  have hmin : Hid (xs.length = Nat.min xs.length xs.length) := (Nat.min_self _).symm
  have hre : Hid ((List.replicate xs.length Ce.zero).length = xs.length) := by show _ = _; simp
  have hsrc := fun W h (h0 : 0 < xs.length) => (show SlC W (.slice a xs.length c) xs from h).src h0
  clear hr
  go_enter Tryd.func45, Tryd.ntmps45
  go_wp2_with (first
    | (refine make_oc rfl _ _ rfl xs.length rfl rfl hl2 ?_; intro w1 ho1 hb1; have hv1 := hv.below hb1)
    | (refine copy_oc rfl _ _ rfl w.heap.size w.heap.size xs.length xs.length 0 (List.replicate xs.length Ce.zero) xs ho1 hre.out (some ⟨w.heap.size, 0, none⟩) a xs.length xs.length xs.length c rfl rfl hmin.out (Nat.le_of_eq (Nat.zero_add _)) (fun h0 => ⟨rfl, hsrc w1 hv1 h0⟩) ?_; intro w2 ho2 hg2; rw [hwin.out] at ho2))
  have hb2 := hb1.grown hg2 hb1.size (fun k hk => by cases hk; exact Nat.le_refl _)
  go_ret
  exact ⟨_, rfl, ho2, hb2⟩
end Go.Proofs.YteimcepkoclpbaaDoor
