/- Rows alike; runes and places drawn for rows. -/
import Derived.Test.YteimcepkoclpbaaDoorKC1
import Derived.Test.YteimcepkoclpbaaDoorStEq
import Derived.Test.YteimcepkoclpbaaDoorDrawSt
namespace Go.Proofs.YteimcepkoclpbaaDoor
open Go.ChangeShapes Go.WideShapes Go.ChangeAt Go.RowKit

set_option maxHeartbeats 1000000 in
theorem eq_ce (a : Ce) (W : World) : (Op.equalIn 10000 37 (.agg #[.int .i64 a.rune, .int .i64 a.st.fore, .int .i64 a.st.back, .bool a.st.bold, .bool a.st.under, .bool a.st.turned, .int .i64 a.part]) (.agg #[.int .i64 a.rune, .int .i64 a.st.fore, .int .i64 a.st.back, .bool a.st.bold, .bool a.st.under, .bool a.st.turned, .int .i64 a.part])).run Tryd.prog W = .ok true W := by
  have hu := Tryd.underlying37
  have hs := Tryd.underlying26
  have hi := Tryd.underlying2
  have hb := Tryd.underlying4
  rw [run_equalIn_struct W 9999 _ _ _ (by simp [Program.fieldsOf, hu]) (by kernel_rfl)]
  simp [Program.fieldsOf, hu, hi, hb, hs, Op.eqFields, go_sem, Result.andThen]
section
attribute [local go_sem ↓] eq_ce
set_option maxHeartbeats 1000000 in
theorem likeR_same (va vb : Value) (xs : List Ce) (w : World) (ha : SlC w va xs) (hb : SlC w vb xs) (hl : xs.length ≤ 1073741824) :
    Calls Tryd.prog 15 #[va, vb] w fun e w' => e = .returned (.bool true) ∧ ∃ n, w' = w.drewN n := by
  obtain ⟨a, c, rfl, hc1, hn1, hr1⟩ := ha
  obtain ⟨a', c', rfl, hc2, hn2, hr2⟩ := hb
  rcases hr1 with h | ⟨b, off, rfl, hbb, hs1⟩
  · subst h
    go_enter Tryd.func15, Tryd.ntmps15
    go_wp2
    refine wp_loop_rounds 1 ?_
    rw [rounds_succ]
    go_wp2
    go_ret
    exact ⟨rfl, 0, rfl⟩
  · rcases hr2 with h | ⟨b', off', rfl, hbb', hs2⟩
    · subst h
      go_enter Tryd.func15, Tryd.ntmps15
      go_wp2
      refine wp_loop_rounds 1 ?_
      rw [rounds_succ]
      go_wp2
      go_ret
      exact ⟨rfl, 0, rfl⟩
    · go_enter Tryd.func15, Tryd.ntmps15
      go_wp2
      go_loopw [5] (fun i wr => ∃ j : Nat, i = .int .i64 j ∧ j ≤ xs.length ∧ ∃ m, wr = w.drewN m) (fun i _ => xs.length - (intOf i).toNat)
      case atStart => exact ⟨0, rfl, Nat.zero_le _, 0, rfl⟩
      case round =>
        obtain ⟨j, rfl, hj, m, rfl⟩ := hrel
        by_cases hlt : j < xs.length
        · have hji : (j : Int) < (xs.length : Int) := by omega
          have hj0 : (0 : Int) ≤ (j : Int) := by omega
          obtain ⟨c0, c1, c2, c3, c4, c5, c6⟩ := hs1 j hlt
          obtain ⟨d0, d1, d2, d3, d4, d5, d6⟩ := hs2 j hlt
          clear hs1 hs2
          go_wp2
          go_quiet (fail)
          go_wp2
          go_roundw
          case rel => exact ⟨j + 1, by go_num, by omega, m + nq, by simp⟩
          case measure => simp [intOf]; omega
        · have hji : ¬ (j : Int) < (xs.length : Int) := by omega
          go_wp2
          go_ret
          exact ⟨rfl, m, rfl⟩
end
def RD : List Int := [97, 98, 120, 233, 19968, 19969, 128512, 32]
set_option maxHeartbeats 1000000 in
theorem l4DrawRune_a (g : Nat) (v : Value) (xs : List Int) (w : World) (hc : CurAt w g v xs) :
    Calls Tryd.prog 37 #[.pointer (some ⟨g, 0, none⟩)] w fun e w' => ∃ k, k < 8 ∧ e = .returned (.int .i64 (RD.getD k 0)) ∧ CurAt w' g v xs ∧ w.grownBy w' (some g) := by
  have hlt := hc.1
  go_enter Tryd.func37, Tryd.ntmps37
  go_wp2_with fail
  refine (l1Below_a g v xs 8 _ (hc.below (bal w _))).mono ?_
  rintro e w3 ⟨x, rfl, hx0, hx1, _, hc3, hg3⟩
  obtain ⟨k, rfl⟩ : ∃ k : Nat, x = k := ⟨x.toNat, by omega⟩
  have hk : k < 8 := by have := hx1 (by omega); omega
  have hki : (k : Int) < 8 := by omega
  have hcell := lit_pick RD .i64 2 hg3 hlt k hk
  have hgA := gtr (World.grownBy_alloc w _ (some g)) hg3
  clear hg3 hx1
  generalize hy : RD.getD k 0 = y at *
  go_wp2
  go_ret
  exact ⟨k, hk, by rw [hy]; rfl, hc3, hgA⟩
end Go.Proofs.YteimcepkoclpbaaDoor
