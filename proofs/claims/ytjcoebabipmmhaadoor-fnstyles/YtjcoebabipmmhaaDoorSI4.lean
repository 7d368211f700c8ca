/- Contract of Styled as the program has it: all cases. -/
import Derived.Test.YtjcoebabipmmhaaDoorSI3
namespace Go.Proofs.YtjcoebabipmmhaaDoor
open Go.ChangeShapes Go.WideShapes Go.ChangeAt Go.RowKit

set_option maxHeartbeats 4000000 in
theorem implStyled_none (s : St) (a : Option Addr) (c : Nat) (xs : List Int) (w : World) (hl : xs.length ≤ 1048576) (hn : ¬ (s.ok = true ∧ xs.length ≤ 16 ∧ xs ≠ [])) :
    Calls Tryd.prog 7 #[stV s, .slice a xs.length c] w fun e w' => e = .returned (stV St.zero) ∧ Below w.heap.size w w' := by
  have h2 := StAt.new w s 25
  have h4 := StAt.new (w.alloc (Obj.cells #[.int .i64 s.fore, .int .i64 s.back, .bool s.bold, .bool s.under, .bool s.turned] 25)) St.zero 25
  have e4 : (w.alloc (Obj.cells #[.int .i64 s.fore, .int .i64 s.back, .bool s.bold, .bool s.under, .bool s.turned] 25)).heap.size = w.heap.size + 1 := by simp
  rw [e4] at h4
  have hbA : Below w.heap.size w ((w.alloc (Obj.cells #[.int .i64 s.fore, .int .i64 s.back, .bool s.bold, .bool s.under, .bool s.turned] 25)).alloc (Obj.cells #[.int .i64 0, .int .i64 0, .bool false, .bool false, .bool false] 25)) := ((Below.refl _ _).alloc (Nat.le_refl _) _).alloc (by simp) _
  have hOK := implStyleOk_any s
  have H3 : s.ok = false ∨ (s.ok = true ∧ (((xs.length : Int) == 0) = true)) ∨ (s.ok = true ∧ (((xs.length : Int) == 0) = false) ∧ 16 < (xs.length : Int)) := by
    cases h : s.ok
    · exact .inl rfl
    · by_cases hx : xs = []
      · exact .inr (.inl ⟨rfl, by simp [hx]⟩)
      · refine .inr (.inr ⟨rfl, by simp; exact hx, ?_⟩)
        have : ¬ xs.length ≤ 16 := fun e => hn ⟨h, e, hx⟩
        omega
  clear hn
  unfold stV at *
  go_enter Tryd.func7, Tryd.ntmps7
  go_wp2_with fail
  refine (hOK _).mono ?_
  rintro e w2 ⟨rfl, hb2⟩
  have k4 := h4.below hb2
  have kb := hbA.trans (hb2.mono hbA.size)
  clear h2 h4 e4 hbA hb2 hOK
  have kP := k4.put St.zero
  have kbP := own_lift kb (putSt_grown w2 (w.heap.size + 1) St.zero) (by omega)
  obtain ⟨_, ⟨d0, d1, d2, d3, d4⟩, ⟨x0, x1, x2, x3, x4⟩⟩ := k4
  obtain ⟨_, ⟨e0, e1, e2, e3, e4⟩, _⟩ := kP
  simp only [putSt, St.zero] at kbP e0 e1 e2 e3 e4 d0 d1 d2 d3 d4
  rcases H3 with h | ⟨h, hz⟩ | ⟨h, hz, hi⟩
  all_goals
    rw [h]
    clear h
    go_wp2
    exact bodyPost_ret (v := .agg #[.int .i64 0, .int .i64 0, .bool false, .bool false, .bool false]) (by simp [results, Tryd.results7, go_sem, e0, e1, e2, e3, e4]) rfl ⟨rfl, kbP⟩
theorem implStyled_any (s : St) (v : Value) (xs : List Int) (w : World) (hv : SlI w v xs) (hwf : ∀ x ∈ xs, -9223372036854775808 ≤ x ∧ x ≤ 9223372036854775807) (hl : xs.length ≤ 1048576) :
    Calls Tryd.prog 7 #[stV s, v] w fun e w' => e = .returned (stV (styledV s xs)) ∧ Below w.heap.size w w' := by
  by_cases hc : s.ok = true ∧ xs.length ≤ 16 ∧ xs ≠ []
  · obtain ⟨h1, h2, h3⟩ := hc
    have hs : styledV s xs = styledF s xs := by unfold styledV; rw [if_pos ⟨h1, h2⟩, if_neg h3]
    obtain ⟨_, c, rfl, e | ⟨bb, off, rfl, hbb, hcl⟩⟩ := hv
    · exact absurd e h3
    · rw [hs]
      exact implStyled_main s bb off c xs w hbb hcl (fun j hj => by
        have e : xs.getD j 0 = xs[j] := by simp [List.getD, hj]
        rw [e]; exact wf64 _ (hwf _ (List.getElem_mem hj))) (List.length_pos_iff.2 h3) h2 h1
  · have hs : styledV s xs = St.zero := by
      unfold styledV
      by_cases hx : xs = []
      · subst hx; by_cases h1 : s.ok = true <;> simp [h1]
      · rw [if_neg (fun h => hc ⟨h.1, h.2, hx⟩)]
    obtain ⟨a, c, rfl, _⟩ := hv
    rw [hs]
    exact implStyled_none s a c xs w hl hc
end Go.Proofs.YtjcoebabipmmhaaDoor
