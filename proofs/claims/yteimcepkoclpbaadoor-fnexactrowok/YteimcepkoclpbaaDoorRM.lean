/- Rows of cells. Plain mathematics. -/
import Derived.Test.YteimcepkoclpbaaDoorMS
namespace Go.Proofs.YteimcepkoclpbaaDoor

structure Ce where
  rune : Int
  st : St
  part : Int
deriving DecidableEq
def Ce.zero : Ce := ⟨0, St.zero, 0⟩
def blankC (s : St) : Ce := ⟨32, s, 0⟩
def atC (l : List Ce) (i : Nat) : Ce := l.getD i Ce.zero
theorem atC_lt {l : List Ce} {i : Nat} (h : i < l.length) : atC l i = l[i] := by simp [atC, List.getD, h]
theorem atC_append_left (l m : List Ce) (i : Nat) (h : i < l.length) : atC (l ++ m) i = atC l i := by
  simp [atC, List.getD, List.getElem?_append_left h]
theorem atC_append_right (l m : List Ce) (i : Nat) : atC (l ++ m) (l.length + i) = atC m i := by
  simp [atC, List.getD, List.getElem?_append_right]
theorem atC_set (l : List Ce) (j i : Nat) (c : Ce) : atC (l.set j c) i = if i = j ∧ j < l.length then c else atC l i := by
  simp only [atC, List.getD, List.getElem?_set]
  by_cases h : j = i
  · subst h
    by_cases h2 : j < l.length
    · simp [h2]
    · simp [h2]
  · rw [if_neg h, if_neg (fun e => h e.1.symm)]
theorem ext_atC (l m : List Ce) (hl : l.length = m.length) (h : ∀ i, i < l.length → atC l i = atC m i) : l = m := by
  apply List.ext_getElem hl
  intro i h1 h2
  have := h i h1
  rwa [atC_lt h1, atC_lt h2] at this
theorem atC_take (l : List Ce) (n i : Nat) (h : i < n) : atC (l.take n) i = atC l i := by simp [atC, List.getD, h]
theorem atC_drop (l : List Ce) (n i : Nat) : atC (l.drop n) i = atC l (n + i) := by simp [atC, List.getD, List.getElem?_drop]

/-- A half that stands alone. -/
def aloneB (l : List Ce) (i : Nat) : Bool :=
  ((atC l i).part == 1 && (decide (i + 1 = l.length) || (atC l (i + 1)).part != 2)) || ((atC l i).part == 2 && (decide (i = 0) || (atC l (i - 1)).part != 1))
def mendC (l : List Ce) (i : Nat) : Ce := if aloneB l i = true then blankC (atC l i).st else atC l i
/-- The row, its first j cells mended. -/
def mendUp (l : List Ce) (j : Nat) : List Ce := (List.range l.length).map fun i => if i < j then mendC l i else atC l i
def mendV (l : List Ce) : List Ce := mendUp l l.length
theorem mendUp_len (l : List Ce) (j : Nat) : (mendUp l j).length = l.length := by simp [mendUp]
theorem mendUp_at (l : List Ce) (j i : Nat) (h : i < l.length) : atC (mendUp l j) i = if i < j then mendC l i else atC l i := by
  rw [atC_lt (by rw [mendUp_len]; exact h)]
  simp [mendUp]
theorem mendUp_zero (l : List Ce) : mendUp l 0 = l := ext_atC _ _ (mendUp_len l 0) fun i h => by
  rw [mendUp_len] at h
  rw [mendUp_at l 0 i h]; simp
theorem mendUp_step (l : List Ce) (j : Nat) (h : j < l.length) : mendUp l (j + 1) = (mendUp l j).set j (mendC l j) := ext_atC _ _ (by simp [mendUp_len]) fun i hi => by
  rw [mendUp_len] at hi
  rw [mendUp_at l (j + 1) i hi, atC_set, mendUp_len, mendUp_at l j i hi]
  by_cases e : i = j
  · subst e; simp [h]
  · rw [if_neg (show ¬ (i = j ∧ j < l.length) from fun x => e x.1)]
    by_cases e2 : i < j
    · rw [if_pos e2, if_pos (by omega)]
    · rw [if_neg e2, if_neg (by omega)]
theorem mendUp_keep (l : List Ce) (j : Nat) (h : j < l.length) (ha : aloneB l j = false) : mendUp l (j + 1) = mendUp l j := ext_atC _ _ (by simp [mendUp_len]) fun i hi => by
  rw [mendUp_len] at hi
  rw [mendUp_at l (j + 1) i hi, mendUp_at l j i hi]
  by_cases e : i = j
  · subst e; simp [mendC, ha]
  · by_cases e2 : i < j
    · rw [if_pos e2, if_pos (by omega)]
    · rw [if_neg e2, if_neg (by omega)]
theorem mendV_len (l : List Ce) : (mendV l).length = l.length := mendUp_len l _
theorem mendV_at (l : List Ce) (i : Nat) (h : i < l.length) : atC (mendV l) i = mendC l i := by
  rw [mendV, mendUp_at l _ i h, if_pos h]
/-- Cells from a to b blank. -/
def fillUp (l : List Ce) (a b : Nat) (s : St) : List Ce := (List.range l.length).map fun i => if a ≤ i ∧ i < b then blankC s else atC l i
theorem fillUp_len (l : List Ce) (a b : Nat) (s : St) : (fillUp l a b s).length = l.length := by simp [fillUp]
theorem fillUp_at (l : List Ce) (a b : Nat) (s : St) (i : Nat) (h : i < l.length) : atC (fillUp l a b s) i = if a ≤ i ∧ i < b then blankC s else atC l i := by
  rw [atC_lt (by rw [fillUp_len]; exact h)]
  simp [fillUp]
theorem fillUp_zero (l : List Ce) (a : Nat) (s : St) : fillUp l a a s = l := ext_atC _ _ (fillUp_len l a a s) fun i h => by
  rw [fillUp_len] at h
  rw [fillUp_at l a a s i h, if_neg (by omega)]
theorem fillUp_step (l : List Ce) (a b : Nat) (s : St) (hab : a ≤ b) (h : b < l.length) : fillUp l a (b + 1) s = (fillUp l a b s).set b (blankC s) := ext_atC _ _ (by simp [fillUp_len]) fun i hi => by
  rw [fillUp_len] at hi
  rw [fillUp_at l a (b + 1) s i hi, atC_set, fillUp_len, fillUp_at l a b s i hi]
  by_cases e : i = b
  · subst e; rw [if_pos (by omega), if_pos ⟨rfl, h⟩]
  · rw [if_neg (show ¬ (i = b ∧ b < l.length) from fun x => e x.1)]
    by_cases e2 : a ≤ i ∧ i < b
    · rw [if_pos e2, if_pos (by omega)]
    · rw [if_neg e2, if_neg (by omega)]
def clearL (l : List Ce) (a b : Nat) (s : St) : List Ce := mendV (fillUp l a b s)
theorem clearL_len (l : List Ce) (a b : Nat) (s : St) : (clearL l a b s).length = l.length := by rw [clearL, mendV_len, fillUp_len]
def rowL (n : Nat) (s : St) : List Ce := List.replicate n (blankC s)
end Go.Proofs.YteimcepkoclpbaaDoor
