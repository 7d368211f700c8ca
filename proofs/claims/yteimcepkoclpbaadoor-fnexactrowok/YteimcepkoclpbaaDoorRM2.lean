/- Right rows. Plain mathematics. -/
import Derived.Test.YteimcepkoclpbaaDoorRM
import Derived.Test.YteimcepkoclpbaaDoorM8
namespace Go.Proofs.YteimcepkoclpbaaDoor

def cellOkB (l : List Ce) (i : Nat) : Bool :=
  (atC l i).st.ok && (if (atC l i).part = 0 then decide (widthV (atC l i).rune = 1)
    else if (atC l i).part = 1 then decide (widthV (atC l i).rune = 2) && (decide (i + 1 < l.length) && (decide ((atC l (i + 1)).part = 2) && decide ((atC l (i + 1)).st = (atC l i).st)))
    else if (atC l i).part = 2 then decide ((atC l i).rune = 0) && (decide (0 < i) && decide ((atC l (i - 1)).part = 1))
    else false)
def rowOkB (l : List Ce) : Bool := decide (1 ≤ l.length ∧ l.length ≤ 60) && (List.range l.length).all (cellOkB l)
theorem rowOkB_no (l : List Ce) (i : Nat) (hi : i < l.length) (h : cellOkB l i = false) : rowOkB l = false := by
  unfold rowOkB
  have : (List.range l.length).all (cellOkB l) = false := by
    rw [List.all_eq_false]
    exact ⟨i, List.mem_range.2 hi, by simp [h]⟩
  rw [this, Bool.and_false]
theorem rowOkB_len (l : List Ce) (h : ¬ (1 ≤ l.length ∧ l.length ≤ 60)) : rowOkB l = false := by
  unfold rowOkB
  rw [decide_eq_false h, Bool.false_and]
theorem rowOkB_yes (l : List Ce) (h : 1 ≤ l.length ∧ l.length ≤ 60) (ha : ∀ i, i < l.length → cellOkB l i = true) : rowOkB l = true := by
  unfold rowOkB
  rw [decide_eq_true h, Bool.true_and, List.all_eq_true]
  exact fun i hi => ha i (List.mem_range.1 hi)
theorem rowOkB_iff (l : List Ce) : rowOkB l = true ↔ (1 ≤ l.length ∧ l.length ≤ 60) ∧ ∀ i, i < l.length → cellOkB l i = true := by
  constructor
  · intro h
    unfold rowOkB at h
    rw [Bool.and_eq_true, decide_eq_true_eq, List.all_eq_true] at h
    exact ⟨h.1, fun i hi => h.2 i (List.mem_range.2 hi)⟩
  · rintro ⟨h1, h2⟩; exact rowOkB_yes l h1 h2
end Go.Proofs.YteimcepkoclpbaaDoor
