/- Rows drawn, right or wrong. -/
import Derived.Test.YteimcepkoclpbaaDoorDrawR2
import Derived.Test.YteimcepkoclpbaaDoorRK0
namespace Go.Proofs.YteimcepkoclpbaaDoor
open Go.ChangeShapes Go.WideShapes Go.ChangeAt Go.RowKit

theorem KR.put {g : Nat} {v : Value} {xs : List Int} {u : Value} {L L' : List Ce} {w0 W W' : World} (k : KR g v xs u L w0 W) (ho : OwnC W' w0.heap.size u L') (hg : W.grownBy W' u.ownBlock) : KR g v xs u L' w0 W' :=
  ⟨ho, k.2.1.grown_own hg (fun q e => Nat.lt_of_lt_of_le k.2.2.2 (k.1.lt q e).1), grownBy_own k.2.2.1 hg (fun q e => (k.1.lt q e).1), k.2.2.2⟩
theorem l1From_a (g : Nat) (v : Value) (xs : List Int) (lo hi : Int) (w : World) (hc : CurAt w g v xs) :
    Calls Tryd.prog 66 #[.pointer (some ⟨g, 0, none⟩), .int .i64 lo, .int .i64 hi] w fun e w' => ∃ y : Int, e = .returned (.int .i64 y) ∧ CurAt w' g v xs ∧ w.grownBy w' (some g) := by
  go_enter Tryd.func66, Tryd.ntmps66
  go_wp2_with fail
  refine (l1Below_a g v xs _ _ hc).mono ?_
  rintro e w1 ⟨x, rfl, _, _, _, hc1, hg1⟩
  go_wp2
  go_ret
  exact ⟨_, rfl, hc1, hg1⟩
theorem l1Max_any (a b : Int) (w : World) :
    Calls Tryd.prog 67 #[.int .i64 a, .int .i64 b] w fun e w' => e = .returned (.int .i64 (max a b)) ∧ w' = w := by
  by_cases h : b < a
  · have hm : Hid (max a b = a) := by show _ = _; omega
    go_enter Tryd.func67, Tryd.ntmps67
    go_wp2
    go_ret
    exact ⟨by rw [hm.out]; rfl, rfl⟩
  · have hm : Hid (max a b = b) := by show _ = _; omega
    go_enter Tryd.func67, Tryd.ntmps67
    go_wp2
    go_ret
    exact ⟨by rw [hm.out]; rfl, rfl⟩
set_option maxHeartbeats 1000000 in
theorem l4DrawAt_a (g : Nat) (v : Value) (xs : List Int) (n : Nat) (w : World) (hc : CurAt w g v xs) (hn : n ≤ 1000) :
    Calls Tryd.prog 40 #[.pointer (some ⟨g, 0, none⟩), .int .i64 n] w fun e w' => ∃ y : Int, e = .returned (.int .i64 y) ∧ CurAt w' g v xs ∧ w.grownBy w' (some g) := by
  have hwr : IntKind.i64.wrap ((n : Int) + 1) = (n : Int) + 1 := by simp [IntKind.wrap_i64]; omega
  have hmx := fun W => l1Max_any 1 (n : Int) W
  go_enter Tryd.func40, Tryd.ntmps40
  go_wp2_with fail
  refine (l1Once_a g v xs 12 _ hc).mono ?_
  rintro e w1 ⟨b, rfl, hc1, hg1⟩
  cases b
  · generalize max 1 (n : Int) = mm at *
    go_wp2_with fail
    refine (hmx _).mono ?_
    rintro e w2 ⟨rfl, hw⟩
    subst hw
    go_wp2_with fail
    refine (l1Below_a g v xs _ _ hc1).mono ?_
    rintro e w3 ⟨x, rfl, _, _, _, hc3, hg3⟩
    go_wp2
    go_ret
    exact ⟨x, rfl, hc3, gtr hg1 hg3⟩
  · have hlt := hc1.1
    go_wp2_with fail
    refine (l1Below_a g v xs 5 _ (hc1.below (bal w1 _))).mono ?_
    rintro e w3 ⟨x, rfl, hx0, hx1, _, hc3, hg3⟩
    obtain ⟨k, rfl⟩ : ∃ k : Nat, x = k := ⟨x.toNat, by omega⟩
    have hk : k < 5 := by have := hx1 (by omega); omega
    have hki : (k : Int) < 5 := by omega
    have hcell := lit_pick [-1, (n : Int), (n : Int) + 1, 4611686018427387904, -9223372036854775808] .i64 2 hg3 hlt k hk
    have hgA := gtr (gtr hg1 (World.grownBy_alloc w1 _ (some g))) hg3
    clear hg3 hx1 hmx
    generalize hy : [-1, (n : Int), (n : Int) + 1, 4611686018427387904, -9223372036854775808].getD k 0 = y at *
    clear hy
    go_wp2
    go_ret
    exact ⟨y, rfl, hc3, hgA⟩
end Go.Proofs.YteimcepkoclpbaaDoor
