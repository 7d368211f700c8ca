/- Contracts of the program's moveOk, and of a window moved within a row. -/
import Derived.Test.YteimcepkoclpbaaDoorRK5
import Derived.Test.YteimcepkoclpbaaDoorRK3
import Derived.Test.YteimcepkoclpbaaDoorRC8
namespace Go.Proofs.YteimcepkoclpbaaDoor
open Go.ChangeShapes Go.WideShapes Go.ChangeAt Go.RowKit

def moveB (xs : List Ce) (f t : Int) (s : St) : Bool := rowOkB xs && (s.ok && (decide (0 ≤ f) && (decide (f < xs.length) && (decide (0 ≤ t) && decide (t ≤ xs.length)))))
theorem moveB_iff (xs : List Ce) (f t : Int) (s : St) : moveB xs f t s = true ↔ rowOkB xs = true ∧ s.ok = true ∧ (0 ≤ f ∧ f ≤ xs.length - 1) ∧ (0 ≤ t ∧ t ≤ xs.length) := by
  unfold moveB
  simp only [Bool.and_eq_true, decide_eq_true_eq]
  constructor
  · rintro ⟨a, b, c, d, e, f⟩; exact ⟨a, b, ⟨c, by omega⟩, e, f⟩
  · rintro ⟨a, b, ⟨c, d⟩, e, f⟩; exact ⟨a, b, c, by omega, e, f⟩
set_option maxHeartbeats 1000000 in
set_option maxRecDepth 20000 in
theorem moveOk_any (v : Value) (xs : List Ce) (f t : Int) (s : St) (w : World) (hS : SpansAt w) (hv : SlC w v xs) (hl : xs.length ≤ 1048576) :
    Calls Tryd.prog 60 #[v, .int .i64 f, .int .i64 t, stV s] w fun e w' => e = .returned (.bool (moveB xs f t s)) ∧ Below w.heap.size w w' := by
  have h2 := StAt.new w s 26
  have hbA := bal' w (Obj.cells #[.int .i64 s.fore, .int .i64 s.back, .bool s.bold, .bool s.under, .bool s.turned] 26)
  have hOK := implStyleOk_any s
  have hro := implRowOk_any v xs _ (hS.below hbA hS.lt) (hv.below hbA) hl
  have hM : Hid (moveB xs f t s = (rowOkB xs && (s.ok && (decide (0 ≤ f) && (decide (f < xs.length) && (decide (0 ≤ t) && decide (t ≤ xs.length))))))) := rfl
  obtain ⟨a, c, rfl, hcp, _⟩ := id hv
  clear hv
  unfold stV at *
  generalize rowOkB xs = rb at *
  generalize s.ok = so at *
  generalize xs.length = n at *
  go_enter Tryd.func60, Tryd.ntmps60
  go_wp2_with fail
  refine hro.mono ?_
  rintro e w2 ⟨rfl, hb2⟩
  have kb := hbA.trans (hb2.mono hbA.size)
  have hs := h2.below hb2
  clear hbA hb2 h2 hro
  cases rb
  · clear hOK
    go_wp2
    go_ret
    exact ⟨by rw [hM.out]; rfl, kb⟩
  · obtain ⟨_, ⟨c0, c1, c2, c3, c4⟩, _⟩ := id hs
    go_wp2_with fail
    refine (hOK _).mono ?_
    rintro e w3 ⟨rfl, hb3⟩
    have kb := kb.trans (hb3.mono kb.size)
    clear hb3 hOK c0 c1 c2 c3 c4 hs
    cases so
    · go_wp2
      go_ret
      exact ⟨by rw [hM.out]; rfl, kb⟩
    · by_cases h1 : 0 ≤ f
      · by_cases h2 : f < (n : Int)
        · by_cases h3 : 0 ≤ t
          · have hM2 : Hid (moveB xs f t s = decide (t ≤ (n : Int))) := by show _ = _; rw [hM.out, decide_eq_true h1, decide_eq_true h2, decide_eq_true h3]; rfl
            clear hM
            go_wp2
            go_ret
            exact ⟨by rw [hM2.out]; first | rfl | (simp; done), kb⟩
          · have hM2 : Hid (moveB xs f t s = false) := by show _ = _; rw [hM.out, decide_eq_true h1, decide_eq_true h2, decide_eq_false h3]; rfl
            clear hM
            go_wp2
            go_ret
            exact ⟨by rw [hM2.out]; first | rfl | (simp; done), kb⟩
        · have hM2 : Hid (moveB xs f t s = false) := by show _ = _; rw [hM.out, decide_eq_true h1, decide_eq_false h2]; rfl
          clear hM
          go_wp2
          go_ret
          exact ⟨by rw [hM2.out]; first | rfl | (simp; done), kb⟩
      · have hM2 : Hid (moveB xs f t s = false) := by show _ = _; rw [hM.out, decide_eq_false h1]; rfl
        clear hM
        go_wp2
        go_ret
        exact ⟨by rw [hM2.out]; first | rfl | (simp; done), kb⟩
/-- Cells of a row are laid over it at another place. -/
theorem wind_move (Q : List Ce) (q p k : Nat) (h1 : q + k ≤ Q.length) (h2 : p + k ≤ Q.length) : windL Q q ((Q.drop p).take k) = moveL Q q p k := by
  have hl : ((Q.drop p).take k).length = k := by rw [List.length_take, List.length_drop]; omega
  refine ext_atC _ _ (by rw [windL_len _ _ _ (by rw [hl]; exact h1), moveL_len]) fun i hi => ?_
  rw [windL_len _ _ _ (by rw [hl]; exact h1)] at hi
  rw [windL_at _ _ _ (by rw [hl]; exact h1), moveL_at _ _ _ _ _ hi, hl]
  by_cases c : q ≤ i ∧ i < q + k
  · rw [if_pos c, if_pos c, atC_take _ _ _ (by omega), atC_drop]
  · rw [if_neg c, if_neg c]
end Go.Proofs.YteimcepkoclpbaaDoor
