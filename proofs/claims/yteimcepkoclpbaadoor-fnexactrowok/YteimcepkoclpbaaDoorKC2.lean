/- The laws' own helpers on rows: marked and held. -/
import Derived.Test.YteimcepkoclpbaaDoorKCB
namespace Go.Proofs.YteimcepkoclpbaaDoor
open Go.ChangeShapes Go.WideShapes Go.ChangeAt Go.RowKit

def mkC (q : Nat) : Ce := ⟨(q : Int), ⟨(q : Int) + 1, (q : Int) + 1 + 1, ((q : Int) + 1 + 1 + 1).tmod 3 == 0, ((q : Int) + 1 + 1 + 1 + 1).tmod 3 == 0, ((q : Int) + 1 + 1 + 1 + 1 + 1).tmod 3 == 0⟩, (q : Int) + 1 + 1 + 1 + 1 + 1 + 1⟩
def marksC (k n : Nat) : List Ce := (List.range n).map fun i => mkC (k + 7 * i)
theorem marksC_len (k n : Nat) : (marksC k n).length = n := by simp [marksC]
theorem marksC_at (k n i : Nat) (h : i < n) : atC (marksC k n) i = mkC (k + 7 * i) := by
  rw [atC_lt (by rw [marksC_len]; exact h)]
  simp [marksC]
set_option maxHeartbeats 4000000 in
set_option maxRecDepth 20000 in
theorem heldC_marks (v : Value) (k n : Nat) (w : World) (hv : SlC w v (marksC k n)) (hk : k ≤ 1073741824) (hl : n ≤ 1073741824) :
    Calls Tryd.prog 34 #[v, .int .i64 k] w fun e w' => e = .returned (.int .i64 ((k + 7 * n : Nat) : Int)) ∧ w' = w := by
  obtain ⟨a, c, rfl, hc0⟩ := id hv
  rw [marksC_len] at hv ⊢
  clear hc0
  go_enter Tryd.func34, Tryd.ntmps34
  go_wp2
  go_loop [1, 5] (fun q i => ∃ j : Nat, j ≤ n ∧ i = .int .i64 j ∧ q = .int .i64 ((k + 7 * j : Nat) : Int)) (fun _ i => n - (intOf i).toNat)
  case atStart => exact ⟨0, Nat.zero_le _, rfl, by simp⟩
  case round =>
    obtain ⟨j, hj, rfl, rfl⟩ := hrel
    by_cases hlt : j < n
    · have hji : (j : Int) < (n : Int) := by omega
      have hj0 : (0 : Int) ≤ (j : Int) := by omega
      obtain ⟨b, off, rfl, hbb, hat⟩ := hv.at j (by rw [marksC_len]; exact hlt)
      rw [marksC_at k n j hlt] at hat
      have hq : k + 7 * j ≤ 8 * 1073741824 := by omega
      have hq7 : Hid (((k + 7 * (j + 1) : Nat) : Int) = ((k + 7 * j : Nat) : Int) + 1 + 1 + 1 + 1 + 1 + 1 + 1) := by show _ = _; omega
      generalize k + 7 * j = q at *
      obtain ⟨c0, c1, c2, c3, c4, c5, c6⟩ := hat
      simp only [mkC] at c0 c1 c2 c3 c4 c5 c6
      clear hv
      go_wp2
      go_round
      case rel => exact ⟨j + 1, by omega, by go_num, by rw [hq7.out]⟩
      case measure => simp [intOf]; omega
    · have hjn : j = n := by omega
      subst hjn
      go_wp2
      go_ret
      exact ⟨rfl, rfl⟩
set_option maxHeartbeats 8000000 in
set_option maxRecDepth 20000 in
theorem markC_own (base : Nat) (v : Value) (k : Nat) (xs : List Ce) (w : World) (hown : OwnC w base v xs) (hk : k ≤ 1073741824) (hl : xs.length ≤ 1073741824) :
    Calls Tryd.prog 33 #[v, .int .i64 k] w fun e w' => e = .returned (.int .i64 ((k + 7 * xs.length : Nat) : Int)) ∧ OwnC w' base v (marksC k xs.length) ∧ w.grownBy w' v.ownBlock := by
  rcases hown.shape with ⟨rfl, rfl⟩ | ⟨g, cap, rfl, hbg, hlg, hcap⟩
  · go_enter Tryd.func33, Tryd.ntmps33
    go_wp2
    refine wp_loop_rounds 1 ?_
    rw [rounds_succ]
    go_wp2
    go_ret
    exact ⟨by simp, by simpa [marksC] using hown, World.grownBy.refl _ _⟩
  · generalize hn : xs.length = n at *
    go_enter Tryd.func33, Tryd.ntmps33
    go_wp2
    go_loopw [1, 5] (fun q i wr => ∃ (j : Nat) (ys : List Ce), j ≤ n ∧ i = .int .i64 j ∧ q = .int .i64 ((k + 7 * j : Nat) : Int) ∧ ys.length = n ∧ (∀ t, t < j → atC ys t = mkC (k + 7 * t)) ∧ OwnC wr base (.slice (some ⟨g, 0, none⟩) n cap) ys ∧ w.grownBy wr (some g)) (fun _ i _ => n - (intOf i).toNat)
    case atStart => exact ⟨0, xs, Nat.zero_le _, rfl, by simp, hn, (fun t h => absurd h (Nat.not_lt_zero t)), hown, World.grownBy.refl _ _⟩
    case round =>
      obtain ⟨j, ys, hj, rfl, rfl, hyl, hys, ho, hgr⟩ := hrel
      by_cases hlt : j < n
      · have hji : (j : Int) < (n : Int) := by omega
        have hj0 : (0 : Int) ≤ (j : Int) := by omega
        have hq : k + 7 * j ≤ 8 * 1073741824 := by omega
        have hq7 : Hid (((k + 7 * (j + 1) : Nat) : Int) = ((k + 7 * j : Nat) : Int) + 1 + 1 + 1 + 1 + 1 + 1 + 1) := by show _ = _; omega
        have hp := ho.put hyl j hlt (mkC (k + 7 * j))
        have hys2 : ∀ t, t < j + 1 → atC (ys.set j (mkC (k + 7 * j))) t = mkC (k + 7 * t) := by
          intro t ht
          rw [atC_set]
          by_cases e : t = j
          · subst e; rw [if_pos ⟨rfl, by omega⟩]
          · rw [if_neg (fun h => e h.1)]; exact hys t (by omega)
        have hyl2 : (ys.set j (mkC (k + 7 * j))).length = n := by simpa using hyl
        obtain ⟨kk, kg⟩ := hp
        have hgr2 := grown_tr hgr kg
        have hat := ho.at hyl j hlt
        have f0 := ho.frozen hyl (j * 7)
        have f1 := ho.frozen hyl (j * 7 + 1)
        have f2 := ho.frozen hyl (j * 7 + 2)
        have f3 := ho.frozen hyl (j * 7 + 3)
        have f4 := ho.frozen hyl (j * 7 + 4)
        have f5 := ho.frozen hyl (j * 7 + 5)
        have f6 := ho.frozen hyl (j * 7 + 6)
        clear hown ho hgr kg hys hyl hbg hlg
        generalize ys.set j (mkC (k + 7 * j)) = ys2 at *
        generalize k + 7 * j = q at *
        obtain ⟨c0, c1, c2, c3, c4, c5, c6⟩ := hat
        simp only [putCe, mkC] at kk hgr2
        go_wp2
        go_roundw
        case rel => exact ⟨j + 1, ys2, by omega, by go_num, by rw [hq7.out], hyl2, hys2, kk, hgr2⟩
        case measure => simp [intOf]; omega
      · have hjn : j = n := by omega
        have hji : ¬ (j : Int) < (n : Int) := by omega
        have hye : ys = marksC k n := ext_atC _ _ (by rw [marksC_len]; exact hyl) (fun i hi => by rw [marksC_at k n i (by omega)]; exact hys i (by omega))
        subst hjn
        clear hys hyl hown
        subst hye
        go_wp2
        go_ret
        exact ⟨rfl, ho, hgr⟩
end Go.Proofs.YteimcepkoclpbaaDoor
