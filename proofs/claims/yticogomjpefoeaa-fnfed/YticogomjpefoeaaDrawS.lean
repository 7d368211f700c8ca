/- Drawn numbers, bytes and texts of the chapter of runes. -/
import Derived.Test.YticogomjpefoeaaDraw7
namespace Go.Proofs.Yticogomjpefoeaa
open Go.ChangeShapes Go.WideShapes Go.ChangeAt Go.RowKit
theorem drawPut_a (v : Value) (xs : List Int) (w : World) (hv : SlB w v xs) :
    Calls Try.prog 7 #[v] w fun e w' => ∃ r : Int, e = .returned (.int .i64 r) ∧ Below w.heap.size w w' := by
  go_enter Try.func7, Try.ntmps7
  go_wp2_with fail
  refine (drawRuneOk_a v xs _ hv).mono ?_
  rintro e w1 ⟨r, rfl, _, hb1⟩
  go_wp2
  go_ret
  exact ⟨r, rfl, hb1⟩
theorem drawRunes_a (v : Value) (xs : List Int) (w : World) (hv : SlB w v xs) :
    Calls Try.prog 11 #[v] w fun e w' => ∃ s : ByteArray, e = .returned (.string s) ∧ s.size ≤ 40 ∧ Below w.heap.size w w' := by
  go_enter Try.func11, Try.ntmps11
  go_wp2_with fail
  refine (drawGet_a v xs _ hv).mono ?_
  rintro e w1 ⟨s, rfl, hs, hb1⟩
  go_wp2
  go_ret
  exact ⟨s, rfl, hs, hb1⟩
set_option maxHeartbeats 1000000 in
theorem drawStarts_a (v : Value) (xs : List Int) (w : World) (hv : SlB w v xs) :
    Calls Try.prog 14 #[v] w fun e w' => ∃ b : Int, e = .returned (.int .u8 b) ∧ Below w.heap.size w w' := by
  go_enter Try.func14, Try.ntmps14
  go_wp2_with fail
  refine (l1New_a v xs _ hv).mono ?_
  rintro e w1 ⟨rfl, hc1, hb1⟩
  go_wp2_with fail
  refine (l1Below_a _ v xs 6 _ (hc1.below (bal w1 _))).mono ?_
  rintro e w2 ⟨x, rfl, hx0, hx1, _, hc2, hg2⟩
  obtain ⟨k, rfl⟩ : ∃ k : Nat, x = k := ⟨x.toNat, by omega⟩
  have hk : k < 6 := by have := hx1 (by omega); omega
  have hki : (k : Int) < 6 := by omega
  obtain ⟨y, hcell, hy⟩ := u8_lit w1 w2 w.heap.size [0, 127, 128, 191, 192, 255] (by intro z hz; simp at hz; omega) 5 hg2 hc1.1 k hk
  have hb2 := below_of_grown7 hb1 (gtr (World.grownBy_alloc w1 _ (some w.heap.size)) hg2) (Nat.le_refl _)
  clear hg2 hx1
  go_wp2
  go_ret
  exact ⟨y, rfl, hb2⟩
end Go.Proofs.Yticogomjpefoeaa
