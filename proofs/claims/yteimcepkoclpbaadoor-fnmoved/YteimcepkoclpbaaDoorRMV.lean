/- What pushed and pulled rows are to the law of moves. Plain mathematics. -/
import Derived.Test.YteimcepkoclpbaaDoorLENP
namespace Go.Proofs.YteimcepkoclpbaaDoor

theorem pushedV_yes (L : List Ce) (p q : Int) (s : St) : (pushedV L p q s = [] ∧ pulledV L p q s = []) ∨
    ∃ a n : Nat, p = a ∧ q = n ∧ a < L.length ∧ n ≤ L.length ∧ 1 ≤ L.length ∧ L.length ≤ 60 ∧ Right L ∧ s.ok = true ∧ pushedV L p q s = pushV L a n s ∧ pulledV L p q s = pullV L a n s := by
  unfold pushedV pulledV
  by_cases h : rowOkB L = true ∧ s.ok = true ∧ (0 ≤ p ∧ p ≤ L.length - 1) ∧ (0 ≤ q ∧ q ≤ L.length)
  · right
    obtain ⟨hl, hR⟩ := (right_iff L).1 h.1
    refine ⟨p.toNat, q.toNat, by omega, by omega, by omega, by omega, hl.1, hl.2, hR, h.2.1, ?_, ?_⟩
    · rw [if_pos h]; rfl
    · rw [if_pos h]; rfl
  · left; rw [if_neg h, if_neg h]; exact ⟨rfl, rfl⟩
theorem pushV_ok {L : List Ce} (hR : Right L) (h1 : 1 ≤ L.length) (h60 : L.length ≤ 60) (a n : Nat) (s : St) (hs : s.ok = true) : rowOkB (pushV L a n s) = true :=
  (right_iff _).2 ⟨by rw [pushV_len]; exact ⟨h1, h60⟩, pushV_right hR a n s hs⟩
theorem pullV_ok {L : List Ce} (hR : Right L) (h1 : 1 ≤ L.length) (h60 : L.length ≤ 60) (a n : Nat) (ha : a ≤ L.length) (s : St) (hs : s.ok = true) : rowOkB (pullV L a n s) = true :=
  (right_iff _).2 ⟨by rw [pullV_len L a n s ha]; exact ⟨h1, h60⟩, pullV_right hR a n s hs⟩
theorem push_blank {L : List Ce} (hR : Right L) (a n : Nat) (s : St) (hs : s.ok = true) (ha : a < L.length) (i : Nat) (h1 : a ≤ i) (h2 : i < a + n) (h3 : i < L.length) : atC (pushV L a n s) i = blankC s := by
  rw [pushV_at hR a n s hs ha (by omega) i h3, if_neg (by omega), if_pos h2]
theorem pulled_of {L : List Ce} (hR : Right L) (h60 : L.length ≤ 60) (a n : Nat) (s : St) (hs : s.ok = true) (ha : a < L.length) (hn : n ≤ L.length) : pulledV L a n s = pullV L a n s := by
  unfold pulledV
  rw [if_pos ⟨(right_iff L).2 ⟨⟨by omega, h60⟩, hR⟩, hs, by omega, by omega⟩]
  rfl
theorem pushed_none {L : List Ce} (hR : Right L) (h60 : L.length ≤ 60) (a : Nat) (s : St) (hs : s.ok = true) (ha : a < L.length) : pushedV L a 0 s = L := by
  unfold pushedV
  rw [if_pos ⟨(right_iff L).2 ⟨⟨by omega, h60⟩, hR⟩, hs, by omega, by omega⟩]
  rfl
theorem moved_back {L : List Ce} (hR : Right L) (a n : Nat) (s : St) (hs : s.ok = true) (h1 : a + n < L.length) (h2 : (atC L a).part ≠ 2) (h3 : (atC (pushV L a n s) (L.length - 1)).part = (atC L (L.length - 1 - n)).part) :
    (pullV (pushV L a n s) a n s).take (L.length - n) = L.take (L.length - n) := by
  by_cases h0 : n = 0
  · subst h0
    have e : pushV L a 0 s = L := by unfold pushV; rw [if_pos rfl]
    have e2 : pullV L a 0 s = L := by unfold pullV; rw [if_pos (by omega)]
    rw [e, e2]
  · have hX := pushV_right hR a n s hs
    have hXl := pushV_len L a n s
    have hXat := fun i hi => pushV_at hR a n s hs (by omega : a < L.length) h0 i hi
    have hPl := pullV_len (pushV L a n s) a n s (by omega)
    refine ext_atC _ _ (by rw [List.length_take, List.length_take, hPl, hXl]) fun i hi => ?_
    rw [List.length_take, hPl, hXl] at hi
    rw [atC_take _ _ _ (by omega), atC_take _ _ _ (by omega), pullV_at hX a n n s (by omega) h0 (by rw [hXl]; omega) i (by omega), hXl]
    have ea : atC (pushV L a n s) a = blankC s := push_blank hR a n s hs (by omega) a (Nat.le_refl _) (by omega) (by omega)
    by_cases c1 : i < a
    · rw [if_pos c1, ea, if_neg (by simp [blankC]), hXat i (by omega), if_pos c1, if_neg (fun x => h2 x.1)]
    · rw [if_neg c1, if_pos (by omega)]
      have hlast : ∀ j, j < L.length - n → a ≤ j → atC (pushV L a n s) (j + n) = if (atC L j).part = 1 ∧ j + n + 1 = L.length then blankC (atC L j).st else atC L j := fun j hj ha => by
        rw [hXat (j + n) (by omega), if_neg (by omega), if_neg (by omega), show j + n - n = j by omega]
        by_cases c : (atC L j).part = 1 ∧ j + n + 1 = L.length
        · rw [if_pos c, if_pos (.inr c)]
        · rw [if_neg c, if_neg (by rintro (x | x); exact h2 x.1; exact c x)]
      have e2 : ¬ ((atC (pushV L a n s) (a + n)).part = 2 ∧ i = a) := by
        rintro ⟨x, _⟩
        rw [hlast a (by omega) (Nat.le_refl _)] at x
        split at x
        · exact absurd x (by simp [blankC])
        · exact h2 x
      rw [if_neg e2, hlast i (by omega) (by omega)]
      by_cases c : (atC L i).part = 1 ∧ i + n + 1 = L.length
      · exfalso
        have e3 := hlast i (by omega) (by omega)
        rw [if_pos c, show i + n = L.length - 1 by omega] at e3
        rw [e3, show L.length - 1 - n = i by omega, c.1] at h3
        exact absurd h3 (by simp [blankC])
      · rw [if_neg c]
end Go.Proofs.YteimcepkoclpbaaDoor
