/- The walk of the law of Styled. -/
import Derived.Test.YtjcoebabipmmhaaSI4
import Derived.Test.YtjcoebabipmmhaaLists
import Derived.Test.YtjcoebabipmmhaaListsTo
namespace Go.Proofs.Ytjcoebabipmmhaa
open Go.ChangeShapes Go.WideShapes Go.ChangeAt Go.RowKit

theorem row_wf {w : World} {a : Option Addr} {len cap : Nat} {zs : List Int} (hr : IsRow .i64 w a len cap zs) : ∀ x ∈ zs.take len, -9223372036854775808 ≤ x ∧ x ≤ 9223372036854775807 := by
  intro x hx
  rcases hr with ⟨_, _, _, rfl⟩ | ⟨y, _, _, _, _, _, hw⟩
  · simp at hx
  · have h := hw x (List.mem_of_mem_take hx)
    have hmin : IntKind.i64.min = -9223372036854775808 := rfl
    have hmax : IntKind.i64.max = 9223372036854775807 := rfl
    simp only [Lit.wf, Bool.and_eq_true, decide_eq_true_eq] at h
    omega
theorem bdS {B : Nat} {a w : World} (h : Below B a w) (n : Nat) : Below B a (w.drewN n) := ⟨h.os, h.tape, h.output, h.size, h.block⟩
set_option maxHeartbeats 4000000 in
theorem walk_FnExactStyled (w : World) (s : St) (a : Option Addr) (len cap : Nat) (zs : List Int) (hr : IsRow .i64 w a len cap zs) :
    Calls Try.prog 4 #[stV s, .slice a len cap] w fun e w' => e = .returned (.bool true) ∧ Below w.heap.size w w' := by
  obtain ⟨hv, hlen⟩ := SlI.of_row hr
  have hwf := row_wf hr
  clear hr
  generalize zs.take len = xs at *
  by_cases hL : (len : Int) ≤ 1048576
  · have hxl : xs.length ≤ 1048576 := by omega
    clear hlen
    have hto := toStyle_any s
    have hsp := fun v W h => specStyled_any s v xs W h hxl
    have him := fun v W h => implStyled_any s v xs W h hwf hxl
    have k0 := StAt.new w s 23
    have hbA := bal' w (Obj.cells #[.int .i64 s.fore, .int .i64 s.back, .bool s.bold, .bool s.under, .bool s.turned] 23)
    generalize styledV s xs = y at *
    have heq := eqStyle_same y
    unfold stV at *
    go_enter Try.func4, Try.ntmps4
    go_wp2_with fail
    refine (hto _).mono ?_
    rintro e w1 ⟨rfl, hb1⟩
    have k1 := k0.below hb1
    have kw1 := hbA.trans (hb1.mono hbA.size)
    clear k0 hbA hb1
    go_wp2_with fail
    refine (toI_copy _ xs _ (hv.below kw1) (by omega)).mono ?_
    rintro e w2 ⟨v2, rfl, ho2, hb2⟩
    have k2 := k1.below hb2
    have kw2 := kw1.trans (hb2.mono kw1.size)
    clear k1 kw1 hb2
    go_wp2_with fail
    refine (hsp _ _ (SlI.of_own ho2)).mono ?_
    rintro e w3 ⟨rfl, hb3⟩
    have k3 := k2.below hb3
    have kw3 := kw2.trans (hb3.mono kw2.size)
    clear k2 kw2 hb3 ho2 hsp
    have y3 := StAt.new w3 y 25
    have k3' := k3.below (bal' w3 (Obj.cells #[.int .i64 y.fore, .int .i64 y.back, .bool y.bold, .bool y.under, .bool y.turned] 25))
    have kw3' := kw3.trans ((bal' w3 (Obj.cells #[.int .i64 y.fore, .int .i64 y.back, .bool y.bold, .bool y.under, .bool y.turned] 25)).mono kw3.size)
    clear k3 kw3
    go_wp2_with fail
    refine (toI_copy _ xs _ (hv.below kw3') (by omega)).mono ?_
    rintro e w4 ⟨v4, rfl, ho4, hb4⟩
    have k4 := k3'.below hb4
    have y4 := y3.below hb4
    have kw4 := kw3'.trans (hb4.mono kw3'.size)
    have hsz4 := hb4.size
    clear k3' y3 kw3' hb4
    obtain ⟨_, ⟨c0, c1, c2, c3, c4⟩, _⟩ := id k4
    go_wp2_with fail
    refine (hto _).mono ?_
    rintro e w5 ⟨rfl, hb5⟩
    have y5 := y4.below hb5
    have ho5 := ho4.below hb5
    have kw5 := kw4.trans (hb5.mono kw4.size)
    clear k4 y4 ho4 kw4 hb5 c0 c1 c2 c3 c4 hto
    go_wp2_with fail
    refine (him _ _ (SlI.of_own ho5)).mono ?_
    rintro e w6 ⟨rfl, hb6⟩
    have y6 := y5.below hb6
    have ho6 := ho5.below hb6
    have kw6 := kw5.trans (hb6.mono kw5.size)
    clear y5 ho5 kw5 hb6 him
    have y6' := (y6.below (bal' w6 (Obj.cells #[.int .i64 y.fore, .int .i64 y.back, .bool y.bold, .bool y.under, .bool y.turned] 25)))
    have ho6' := (ho6.below (bal' w6 (Obj.cells #[.int .i64 y.fore, .int .i64 y.back, .bool y.bold, .bool y.under, .bool y.turned] 25)))
    have kw6' := kw6.trans ((bal' w6 (Obj.cells #[.int .i64 y.fore, .int .i64 y.back, .bool y.bold, .bool y.under, .bool y.turned] 25)).mono kw6.size)
    obtain ⟨hly, ⟨d0, d1, d2, d3, d4⟩, _⟩ := id y6
    obtain ⟨_, ⟨f0, f1, f2, f3, f4⟩, _⟩ := id y6'
    have hn1 : ¬ (w3.heap.size = w6.heap.size) := by omega
    have hn2 : ¬ (w6.heap.size = w3.heap.size) := by omega
    go_wp2_with fail
    refine (heq _).mono ?_
    rintro e w7 ⟨rfl, hb7⟩
    have ho7 := ho6'.below hb7
    have kw7 := kw6'.trans (hb7.mono kw6'.size)
    clear y6 ho6 kw6 y6' ho6' kw6' d0 d1 d2 d3 d4 f0 f1 f2 f3 f4 hb7 heq hn1 hn2
    go_wp2_with fail
    refine (toI_copy _ xs _ (hv.below kw7) (by omega)).mono ?_
    rintro e w8 ⟨v8, rfl, ho8, hb8⟩
    have ho78 := ho7.below hb8
    have kw8 := kw7.trans (hb8.mono kw7.size)
    clear ho7 kw7 hb8
    go_wp2_with fail
    refine (eqI_same _ _ xs _ (SlI.of_own ho78) (SlI.of_own ho8) (by omega)).mono ?_
    rintro e w9 ⟨rfl, n9, hw9⟩
    have kw9 : Below w.heap.size w w9 := by rw [hw9]; exact bdS kw8 n9
    clear hw9 kw8 ho8 ho78
    go_wp2
    go_ret
    exact ⟨rfl, kw9⟩
  · unfold stV
    go_enter Try.func4, Try.ntmps4
    go_wp2
    go_ret
    exact ⟨rfl, (Below.refl _ _).alloc (Nat.le_refl _) _⟩
end Go.Proofs.Ytjcoebabipmmhaa
