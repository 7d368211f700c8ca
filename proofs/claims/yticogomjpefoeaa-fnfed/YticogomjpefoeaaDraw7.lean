/- Drawn numbers and texts of the first two chapters. -/
import Derived.Test.YticogomjpefoeaaDraw6
namespace Go.Proofs.Yticogomjpefoeaa
open Go.ChangeShapes Go.WideShapes Go.ChangeAt Go.RowKit

theorem below_of_grown7 {w0 w w' : World} {g : Nat} (hb : Below w0.heap.size w0 w) (hg : w.grownBy w' (some g)) (h : w0.heap.size ≤ g) : Below w0.heap.size w0 w' :=
  hb.grown hg hb.size (fun k hk => by cases hk; exact h)
def RO : List Int := [-1, 0, 127, 128, 2047, 2048, 55295, 55296, 57343, 57344, 65535, 65536, 1114111, 1114112, 4611686018427387904, -9223372036854775808]
def RW : List Int := [31, 32, 126, 127, 159, 160, 767, 768, 879, 880, 4351, 4352, 4447, 4448, 12287, 12288, 55295, 57344, 127743, 127744, 131071, 131072]
def RC : List Int := [-1, 1000, 1001, 4611686018427387904]
theorem i64_lit {w w1 : World} (g : Nat) (L : List Int) (n : Nat) (hn : L.length = n) (t : TypeId) (hg : (w.alloc (.cells (L.map (Value.int .i64)).toArray t)).grownBy w1 (some g)) (hlt : g < w.heap.size) (x : Int) (hx0 : 0 ≤ x) (hx1 : x < n) :
    ∃ (k : Nat) (y : Int), x = k ∧ (k : Int) < n ∧ y ∈ L ∧ w1.cell? ⟨w.heap.size, k, none⟩ = some (.int .i64 y) := by
  obtain ⟨k, rfl⟩ : ∃ k : Nat, x = k := ⟨x.toNat, by omega⟩
  have hk : k < L.length := by omega
  exact ⟨k, L.getD k 0, rfl, hx1, getD_all (p := fun y => y ∈ L) L (fun _ h => h) k hk, lit_pick L .i64 t hg hlt k hk⟩

set_option maxHeartbeats 1000000 in
set_option maxRecDepth 20000 in
theorem drawRuneOk_a (v : Value) (xs : List Int) (w : World) (hv : SlB w v xs) :
    Calls Try.prog 29 #[v] w fun e w' => ∃ r : Int, e = .returned (.int .i64 r) ∧ (r ∈ RO ∨ runeOk r = true) ∧ Below w.heap.size w w' := by
  go_enter Try.func29, Try.ntmps29
  go_wp2_with fail
  refine (l1New_a v xs _ hv).mono ?_
  rintro e w1 ⟨rfl, hc1, hb1⟩
  go_wp2_with fail
  refine (l1Once_a _ v xs 2 _ hc1).mono ?_
  rintro e w2 ⟨b, rfl, hc2, hg2⟩
  have hb2 := below_of_grown7 hb1 hg2 (Nat.le_refl _)
  clear hc1 hb1 hg2
  cases b
  · go_wp2_with fail
    refine (l1DrawRune_a _ v xs _ hc2).mono ?_
    rintro e w3 ⟨r, rfl, hr, hc3, hg3⟩
    go_wp2
    go_ret
    exact ⟨r, rfl, .inr hr, below_of_grown7 hb2 hg3 (Nat.le_refl _)⟩
  · go_wp2_with fail
    refine (l1Below_a _ v xs 16 _ (hc2.below (bal w2 _))).mono ?_
    rintro e w3 ⟨x, rfl, hx0, hx1, _, hc3, hg3⟩
    obtain ⟨k, y, rfl, hk, hy, hcell⟩ := i64_lit w.heap.size RO 16 rfl 2 hg3 hc2.1 x hx0 (hx1 (by omega))
    have hb3 := below_of_grown7 hb2 (gtr (World.grownBy_alloc w2 _ (some w.heap.size)) hg3) (Nat.le_refl _)
    have hki : (k : Int) < 16 := hk
    clear hg3 hx1
    go_wp2
    go_ret
    exact ⟨y, rfl, .inl hy, hb3⟩
set_option maxHeartbeats 1000000 in
theorem drawGet_a (v : Value) (xs : List Int) (w : World) (hv : SlB w v xs) :
    Calls Try.prog 35 #[v] w fun e w' => ∃ s : ByteArray, e = .returned (.string s) ∧ s.size ≤ 40 ∧ Below w.heap.size w w' := by
  go_enter Try.func35, Try.ntmps35
  go_wp2_with fail
  refine (l1New_a v xs _ hv).mono ?_
  rintro e w1 ⟨rfl, hc1, hb1⟩
  go_wp2_with fail
  refine (l1DrawBytes_a _ v xs _ hc1).mono ?_
  rintro e w2 ⟨s, rfl, hs, hc2, hg2⟩
  go_wp2
  go_ret
  exact ⟨s, rfl, hs, below_of_grown7 hb1 hg2 (Nat.le_refl _)⟩
end Go.Proofs.Yticogomjpefoeaa
