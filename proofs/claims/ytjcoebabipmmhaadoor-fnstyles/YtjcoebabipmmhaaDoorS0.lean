/- Contracts of the small functions on styles. -/
import Derived.Test.YtjcoebabipmmhaaDoorBase0S
import Derived.Test.YtjcoebabipmmhaaDoorMS
namespace Go.Proofs.YtjcoebabipmmhaaDoor
open Go.ChangeShapes Go.WideShapes Go.ChangeAt Go.RowKit

def stV (s : St) : Value := .agg #[.int .i64 s.fore, .int .i64 s.back, .bool s.bold, .bool s.under, .bool s.turned]
theorem ret_st {a b : St} (h : a = b) : Ending.returned (stV a) = .returned (stV b) := by rw [h]

set_option maxHeartbeats 400000 in
theorem specStyleOk_any (s : St) (w : World) :
    Calls Tryd.prog 16 #[stV s] w fun e w' => e = .returned (.bool s.ok) ∧ Below w.heap.size w w' := by
  obtain ⟨f, b, bo, un, tu⟩ := s
  have hok : Hid ((St.mk f b bo un tu).ok = decide (0 ≤ f ∧ f ≤ 8 ∧ 0 ≤ b ∧ b ≤ 8)) := rfl
  unfold stV
  simp only
  go_enter Tryd.func16, Tryd.ntmps16
  go_wp2_with (go_at_call 40; refine (l1In_any _ _ _ _).mono ?_; rintro e w' ⟨rfl, hw⟩; subst hw)
  all_goals
    go_ret
    refine ⟨ret_bool ?_, (Below.refl _ _).alloc (Nat.le_refl _) _⟩
    rw [hok.out]
    clear hok
    by_cases h1 : 0 ≤ f ∧ f ≤ 8
    · by_cases h2 : 0 ≤ b ∧ b ≤ 8
      · have h3 : 0 ≤ f ∧ f ≤ 8 ∧ 0 ≤ b ∧ b ≤ 8 := ⟨h1.1, h1.2, h2⟩
        simp_all
      · have h3 : ¬ (0 ≤ f ∧ f ≤ 8 ∧ 0 ≤ b ∧ b ≤ 8) := fun h => h2 h.2.2
        simp_all
        try omega
    · have h3 : ¬ (0 ≤ f ∧ f ≤ 8 ∧ 0 ≤ b ∧ b ≤ 8) := fun h => h1 ⟨h.1, h.2.1⟩
      simp_all
theorem flag_any (c : Bool) (x y : Int) (w : World) :
    Calls Tryd.prog 45 #[.bool c, .int .i64 x, .int .i64 y] w fun e w' => e = .returned (.int .i64 (flagV c x y)) ∧ w' = w := by
  cases c
  all_goals
    go_enter Tryd.func45, Tryd.ntmps45
    go_wp2
    go_ret
    exact ⟨rfl, rfl⟩
theorem toStyle_any (s : St) (w : World) :
    Calls Tryd.prog 17 #[stV s] w fun e w' => e = .returned (stV s) ∧ Below w.heap.size w w' := by
  obtain ⟨f, b, bo, un, tu⟩ := s
  unfold stV
  simp only
  go_enter Tryd.func17, Tryd.ntmps17
  go_wp2
  refine bodyPost_ret (v := .agg #[.int .i64 f, .int .i64 b, .bool bo, .bool un, .bool tu]) (by simp [results, Tryd.results17, go_sem]) rfl ⟨rfl, ?_⟩
  exact (((Below.refl _ _).alloc (Nat.le_refl _) _).alloc (by simp) _).alloc (by simp; omega) _
set_option maxHeartbeats 1000000 in
theorem l3Param_any (s : St) (n : Int) (w : World) :
    Calls Tryd.prog 44 #[stV s, .int .i64 n] w fun e w' => e = .returned (stV (paramV s n)) ∧ Below w.heap.size w w' := by
  obtain ⟨f, b, bo, un, tu⟩ := s
  unfold stV
  simp only
  go_enter Tryd.func44, Tryd.ntmps44
  go_wp2_with (go_at_call 40; refine (l1In_any _ _ _ _).mono ?_; rintro e w' ⟨rfl, hw⟩; subst hw)
  all_goals
    refine bodyPost_ret (v := stV (paramV ⟨f, b, bo, un, tu⟩ n)) ?_ rfl ⟨rfl, ?_⟩
    · (try simp only [beq_iff_eq, beq_eq_false_iff_ne, ne_eq] at *)
      unfold paramV
      repeat' split
      all_goals first
        | (exfalso; omega)
        | (simp [results, Tryd.results44, go_sem, stV, St.zero]; done)
        | (simp [results, Tryd.results44, go_sem, stV, *]; done)
        | (simp [results, Tryd.results44, go_sem, stV, St.zero]; omega)
    · exact ((Below.refl _ _).alloc (Nat.le_refl _) _).alloc (by simp) _
end Go.Proofs.YtjcoebabipmmhaaDoor
