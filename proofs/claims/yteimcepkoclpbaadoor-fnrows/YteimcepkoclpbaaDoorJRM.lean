/- Rows of cells. Plain mathematics. Right rows. Plain mathematics. Right rows: what keeps them right. Plain mathematics. The program's way with rows: cleared, pushed, pulled. Plain mathematics. -/
import Derived.Test.YteimcepkoclpbaaDoorJM1
import Derived.Test.YteimcepkoclpbaaDoorJM2
namespace Go.Proofs.YteimcepkoclpbaaDoor

structure Ce where
  rune : Int
  st : St
  part : Int
deriving DecidableEq
def Ce.zero : Ce := ⟨0, St.zero, 0⟩
def blankC (s : St) : Ce := ⟨32, s, 0⟩
def atC (l : List Ce) (i : Nat) : Ce := l.getD i Ce.zero
theorem atC_lt {l : List Ce} {i : Nat} (h : i < l.length) : atC l i = l[i] := by simp [atC, List.getD, h]
theorem atC_append_left (l m : List Ce) (i : Nat) (h : i < l.length) : atC (l ++ m) i = atC l i := by
  simp [atC, List.getD, List.getElem?_append_left h]
theorem atC_append_right (l m : List Ce) (i : Nat) : atC (l ++ m) (l.length + i) = atC m i := by
  simp [atC, List.getD, List.getElem?_append_right]
theorem atC_set (l : List Ce) (j i : Nat) (c : Ce) : atC (l.set j c) i = if i = j ∧ j < l.length then c else atC l i := by
  simp only [atC, List.getD, List.getElem?_set]
  by_cases h : j = i
  · subst h
    by_cases h2 : j < l.length
    · simp [h2]
    · simp [h2]
  · rw [if_neg h, if_neg (fun e => h e.1.symm)]
theorem ext_atC (l m : List Ce) (hl : l.length = m.length) (h : ∀ i, i < l.length → atC l i = atC m i) : l = m := by
  apply List.ext_getElem hl
  intro i h1 h2
  have := h i h1
  rwa [atC_lt h1, atC_lt h2] at this
theorem atC_take (l : List Ce) (n i : Nat) (h : i < n) : atC (l.take n) i = atC l i := by simp [atC, List.getD, h]
theorem atC_drop (l : List Ce) (n i : Nat) : atC (l.drop n) i = atC l (n + i) := by simp [atC, List.getD, List.getElem?_drop]

/-- A half that stands alone. -/
def aloneB (l : List Ce) (i : Nat) : Bool :=
  ((atC l i).part == 1 && (decide (i + 1 = l.length) || (atC l (i + 1)).part != 2)) || ((atC l i).part == 2 && (decide (i = 0) || (atC l (i - 1)).part != 1))
def mendC (l : List Ce) (i : Nat) : Ce := if aloneB l i = true then blankC (atC l i).st else atC l i
/-- The row, its first j cells mended. -/
def mendUp (l : List Ce) (j : Nat) : List Ce := (List.range l.length).map fun i => if i < j then mendC l i else atC l i
def mendV (l : List Ce) : List Ce := mendUp l l.length
theorem mendUp_len (l : List Ce) (j : Nat) : (mendUp l j).length = l.length := by simp [mendUp]
theorem mendUp_at (l : List Ce) (j i : Nat) (h : i < l.length) : atC (mendUp l j) i = if i < j then mendC l i else atC l i := by
  rw [atC_lt (by rw [mendUp_len]; exact h)]
  simp [mendUp]
theorem mendUp_zero (l : List Ce) : mendUp l 0 = l := ext_atC _ _ (mendUp_len l 0) fun i h => by
  rw [mendUp_len] at h
  rw [mendUp_at l 0 i h]; simp
theorem mendUp_step (l : List Ce) (j : Nat) (h : j < l.length) : mendUp l (j + 1) = (mendUp l j).set j (mendC l j) := ext_atC _ _ (by simp [mendUp_len]) fun i hi => by
  rw [mendUp_len] at hi
  rw [mendUp_at l (j + 1) i hi, atC_set, mendUp_len, mendUp_at l j i hi]
  by_cases e : i = j
  · subst e; simp [h]
  · rw [if_neg (show ¬ (i = j ∧ j < l.length) from fun x => e x.1)]
    by_cases e2 : i < j
    · rw [if_pos e2, if_pos (by omega)]
    · rw [if_neg e2, if_neg (by omega)]
theorem mendUp_keep (l : List Ce) (j : Nat) (h : j < l.length) (ha : aloneB l j = false) : mendUp l (j + 1) = mendUp l j := ext_atC _ _ (by simp [mendUp_len]) fun i hi => by
  rw [mendUp_len] at hi
  rw [mendUp_at l (j + 1) i hi, mendUp_at l j i hi]
  by_cases e : i = j
  · subst e; simp [mendC, ha]
  · by_cases e2 : i < j
    · rw [if_pos e2, if_pos (by omega)]
    · rw [if_neg e2, if_neg (by omega)]
theorem mendV_len (l : List Ce) : (mendV l).length = l.length := mendUp_len l _
theorem mendV_at (l : List Ce) (i : Nat) (h : i < l.length) : atC (mendV l) i = mendC l i := by
  rw [mendV, mendUp_at l _ i h, if_pos h]
/-- Cells from a to b blank. -/
def fillUp (l : List Ce) (a b : Nat) (s : St) : List Ce := (List.range l.length).map fun i => if a ≤ i ∧ i < b then blankC s else atC l i
theorem fillUp_len (l : List Ce) (a b : Nat) (s : St) : (fillUp l a b s).length = l.length := by simp [fillUp]
theorem fillUp_at (l : List Ce) (a b : Nat) (s : St) (i : Nat) (h : i < l.length) : atC (fillUp l a b s) i = if a ≤ i ∧ i < b then blankC s else atC l i := by
  rw [atC_lt (by rw [fillUp_len]; exact h)]
  simp [fillUp]
theorem fillUp_zero (l : List Ce) (a : Nat) (s : St) : fillUp l a a s = l := ext_atC _ _ (fillUp_len l a a s) fun i h => by
  rw [fillUp_len] at h
  rw [fillUp_at l a a s i h, if_neg (by omega)]
theorem fillUp_step (l : List Ce) (a b : Nat) (s : St) (hab : a ≤ b) (h : b < l.length) : fillUp l a (b + 1) s = (fillUp l a b s).set b (blankC s) := ext_atC _ _ (by simp [fillUp_len]) fun i hi => by
  rw [fillUp_len] at hi
  rw [fillUp_at l a (b + 1) s i hi, atC_set, fillUp_len, fillUp_at l a b s i hi]
  by_cases e : i = b
  · subst e; rw [if_pos (by omega), if_pos ⟨rfl, h⟩]
  · rw [if_neg (show ¬ (i = b ∧ b < l.length) from fun x => e x.1)]
    by_cases e2 : a ≤ i ∧ i < b
    · rw [if_pos e2, if_pos (by omega)]
    · rw [if_neg e2, if_neg (by omega)]
def clearL (l : List Ce) (a b : Nat) (s : St) : List Ce := mendV (fillUp l a b s)
theorem clearL_len (l : List Ce) (a b : Nat) (s : St) : (clearL l a b s).length = l.length := by rw [clearL, mendV_len, fillUp_len]
def rowL (n : Nat) (s : St) : List Ce := List.replicate n (blankC s)
end Go.Proofs.YteimcepkoclpbaaDoor
namespace Go.Proofs.YteimcepkoclpbaaDoor

def cellOkB (l : List Ce) (i : Nat) : Bool :=
  (atC l i).st.ok && (if (atC l i).part = 0 then decide (widthV (atC l i).rune = 1)
    else if (atC l i).part = 1 then decide (widthV (atC l i).rune = 2) && (decide (i + 1 < l.length) && (decide ((atC l (i + 1)).part = 2) && decide ((atC l (i + 1)).st = (atC l i).st)))
    else if (atC l i).part = 2 then decide ((atC l i).rune = 0) && (decide (0 < i) && decide ((atC l (i - 1)).part = 1))
    else false)
def rowOkB (l : List Ce) : Bool := decide (1 ≤ l.length ∧ l.length ≤ 60) && (List.range l.length).all (cellOkB l)
theorem rowOkB_no (l : List Ce) (i : Nat) (hi : i < l.length) (h : cellOkB l i = false) : rowOkB l = false := by
  unfold rowOkB
  have : (List.range l.length).all (cellOkB l) = false := by
    rw [List.all_eq_false]
    exact ⟨i, List.mem_range.2 hi, by simp [h]⟩
  rw [this, Bool.and_false]
theorem rowOkB_len (l : List Ce) (h : ¬ (1 ≤ l.length ∧ l.length ≤ 60)) : rowOkB l = false := by
  unfold rowOkB
  rw [decide_eq_false h, Bool.false_and]
theorem rowOkB_yes (l : List Ce) (h : 1 ≤ l.length ∧ l.length ≤ 60) (ha : ∀ i, i < l.length → cellOkB l i = true) : rowOkB l = true := by
  unfold rowOkB
  rw [decide_eq_true h, Bool.true_and, List.all_eq_true]
  exact fun i hi => ha i (List.mem_range.1 hi)
theorem rowOkB_iff (l : List Ce) : rowOkB l = true ↔ (1 ≤ l.length ∧ l.length ≤ 60) ∧ ∀ i, i < l.length → cellOkB l i = true := by
  constructor
  · intro h
    unfold rowOkB at h
    rw [Bool.and_eq_true, decide_eq_true_eq, List.all_eq_true] at h
    exact ⟨h.1, fun i hi => h.2 i (List.mem_range.2 hi)⟩
  · rintro ⟨h1, h2⟩; exact rowOkB_yes l h1 h2
end Go.Proofs.YteimcepkoclpbaaDoor
namespace Go.Proofs.YteimcepkoclpbaaDoor

theorem atC_ge {l : List Ce} {i : Nat} (h : l.length ≤ i) : atC l i = Ce.zero := by simp [atC, List.getD, List.getElem?_eq_none h]
def genL (n : Nat) (f : Nat → Ce) : List Ce := (List.range n).map f
theorem genL_len (n : Nat) (f : Nat → Ce) : (genL n f).length = n := by simp [genL]
theorem genL_at (n : Nat) (f : Nat → Ce) (i : Nat) (h : i < n) : atC (genL n f) i = f i := by
  rw [atC_lt (by rw [genL_len]; exact h)]; simp [genL]
theorem alone_iff (l : List Ce) (i : Nat) : aloneB l i = true ↔ ((atC l i).part = 1 ∧ (atC l (i + 1)).part ≠ 2) ∨ ((atC l i).part = 2 ∧ (i = 0 ∨ (atC l (i - 1)).part ≠ 1)) := by
  unfold aloneB
  by_cases h : i + 1 = l.length
  · rw [atC_ge (l := l) (i := i + 1) (by omega)]
    simp [Ce.zero, h]
  · simp [h]
theorem mendV_all (l : List Ce) (i : Nat) : atC (mendV l) i = mendC l i := by
  by_cases h : i < l.length
  · exact mendV_at l i h
  · rw [atC_ge (by rw [mendV_len]; omega), mendC, atC_ge (by omega)]
    have : ¬ aloneB l i = true := by rw [alone_iff, atC_ge (l := l) (i := i) (by omega)]; simp [Ce.zero]
    rw [if_neg this]
/-- A cell that is right by itself. -/
def c1 (c : Ce) : Prop := c.st.ok = true ∧ ((c.part = 0 ∧ widthV c.rune = 1) ∨ (c.part = 1 ∧ widthV c.rune = 2) ∨ (c.part = 2 ∧ c.rune = 0))
def Right (l : List Ce) : Prop :=
  (∀ i, i < l.length → c1 (atC l i)) ∧ (∀ i, (atC l i).part = 1 → (atC l (i + 1)).part = 2 ∧ (atC l (i + 1)).st = (atC l i).st) ∧ (∀ i, (atC l i).part = 2 → 0 < i ∧ (atC l (i - 1)).part = 1)
def Semi (l : List Ce) : Prop :=
  (∀ i, i < l.length → c1 (atC l i)) ∧ (∀ i, (atC l i).part = 1 → (atC l (i + 1)).part = 2 → (atC l (i + 1)).st = (atC l i).st)
theorem Right.semi {l : List Ce} (h : Right l) : Semi l := ⟨h.1, fun i h1 _ => (h.2.1 i h1).2⟩
theorem part_lt {l : List Ce} {i : Nat} (h : (atC l i).part ≠ 0) : i < l.length := by
  rcases Nat.lt_or_ge i l.length with h1 | h1
  · exact h1
  · rw [atC_ge h1] at h; exact absurd rfl h
theorem right_iff (l : List Ce) : rowOkB l = true ↔ (1 ≤ l.length ∧ l.length ≤ 60) ∧ Right l := by
  rw [rowOkB_iff]
  constructor
  · rintro ⟨hl, h⟩
    refine ⟨hl, ?_, ?_, ?_⟩
    · intro i hi
      have := h i hi
      unfold cellOkB at this
      rw [Bool.and_eq_true] at this
      refine ⟨this.1, ?_⟩
      have h2 := this.2
      by_cases h0 : (atC l i).part = 0
      · rw [if_pos h0] at h2; exact .inl ⟨h0, by simpa using h2⟩
      · rw [if_neg h0] at h2
        by_cases h1 : (atC l i).part = 1
        · rw [if_pos h1] at h2; simp at h2; exact .inr (.inl ⟨h1, h2.1⟩)
        · rw [if_neg h1] at h2
          by_cases h3 : (atC l i).part = 2
          · rw [if_pos h3] at h2; simp at h2; exact .inr (.inr ⟨h3, h2.1⟩)
          · rw [if_neg h3] at h2; cases h2
    · intro i h1
      have hi : i < l.length := part_lt (by rw [h1]; decide)
      have := h i hi
      unfold cellOkB at this
      rw [Bool.and_eq_true, if_neg (by rw [h1]; decide), if_pos h1] at this
      have h2 := this.2; simp at h2
      exact ⟨h2.2.2.1, h2.2.2.2⟩
    · intro i h1
      have hi : i < l.length := part_lt (by rw [h1]; decide)
      have := h i hi
      unfold cellOkB at this
      rw [Bool.and_eq_true, if_neg (by rw [h1]; decide), if_neg (by rw [h1]; decide), if_pos h1] at this
      have h2 := this.2; simp at h2
      exact h2.2
  · rintro ⟨hl, h1, h2, h3⟩
    refine ⟨hl, fun i hi => ?_⟩
    have hc := h1 i hi
    unfold cellOkB
    rw [hc.1, Bool.true_and]
    rcases hc.2 with ⟨e, ew⟩ | ⟨e, ew⟩ | ⟨e, ew⟩
    · rw [if_pos e, ew]; rfl
    · have := h2 i e
      have hlt : i + 1 < l.length := part_lt (by rw [this.1]; decide)
      rw [if_neg (by rw [e]; decide), if_pos e, ew]
      simp [hlt, this.1, this.2]
    · have := h3 i e
      rw [if_neg (by rw [e]; decide), if_neg (by rw [e]; decide), if_pos e, ew]
      simp [this.1, this.2]
theorem c1_blank {s : St} (h : s.ok = true) : c1 (blankC s) := ⟨h, .inl ⟨rfl, by show widthV 32 = 1; decide⟩⟩
theorem Semi.mend {l : List Ce} (h : Semi l) : Right (mendV l) := by
  have hp : ∀ i, (atC (mendV l) i).part ≠ 0 → aloneB l i = false ∧ atC (mendV l) i = atC l i := by
    intro i hi
    rw [mendV_all, mendC] at hi ⊢
    by_cases ha : aloneB l i = true
    · rw [if_pos ha] at hi; exact absurd rfl hi
    · rw [if_neg ha]; exact ⟨by simpa using ha, rfl⟩
  refine ⟨fun i hi => ?_, fun i h1 => ?_, fun i h2 => ?_⟩
  · rw [mendV_len] at hi
    rw [mendV_all, mendC]
    split
    · exact c1_blank (h.1 i hi).1
    · exact h.1 i hi
  · obtain ⟨ha, e⟩ := hp i (by rw [h1]; decide)
    rw [e] at h1
    have hn : (atC l (i + 1)).part = 2 := by
      apply Classical.byContradiction
      intro hc
      have := (alone_iff l i).2 (.inl ⟨h1, hc⟩)
      rw [ha] at this; cases this
    have hb : aloneB l (i + 1) = false := by
      apply Classical.byContradiction
      intro hc
      rcases (alone_iff l (i + 1)).1 (by simpa using hc) with ⟨q, _⟩ | ⟨_, q⟩
      · rw [hn] at q; exact absurd q (by decide)
      · rcases q with q | q
        · omega
        · rw [Nat.add_sub_cancel] at q; exact q h1
    have e2 : atC (mendV l) (i + 1) = atC l (i + 1) := by rw [mendV_all, mendC, if_neg (by rw [hb]; decide)]
    rw [e2, e]
    exact ⟨hn, h.2 i h1 hn⟩
  · obtain ⟨ha, e⟩ := hp i (by rw [h2]; decide)
    rw [e] at h2
    have hn : ¬ (i = 0 ∨ (atC l (i - 1)).part ≠ 1) := by
      intro hc
      have := (alone_iff l i).2 (.inr ⟨h2, hc⟩)
      rw [ha] at this; cases this
    have h0 : 0 < i := by omega
    have h1 : (atC l (i - 1)).part = 1 := by
      apply Classical.byContradiction
      intro hc; exact hn (.inr hc)
    have hb : aloneB l (i - 1) = false := by
      apply Classical.byContradiction
      intro hc
      rcases (alone_iff l (i - 1)).1 (by simpa using hc) with ⟨_, q⟩ | ⟨q, _⟩
      · have : i - 1 + 1 = i := by omega
        rw [this] at q; exact q h2
      · rw [h1] at q; exact absurd q (by decide)
    have e2 : atC (mendV l) (i - 1) = atC l (i - 1) := by rw [mendV_all, mendC, if_neg (by rw [hb]; decide)]
    rw [e2]; exact ⟨h0, h1⟩
theorem Right.alone {l : List Ce} (h : Right l) (i : Nat) : aloneB l i = false := by
  apply Classical.byContradiction
  intro hc
  rcases (alone_iff l i).1 (by simpa using hc) with ⟨p, q⟩ | ⟨p, q⟩
  · exact q (h.2.1 i p).1
  · have := h.2.2 i p
    rcases q with q | q
    · omega
    · exact q this.2
theorem Right.mend {l : List Ce} (h : Right l) : mendV l = l := ext_atC _ _ (mendV_len l) fun i _ => by
  rw [mendV_all, mendC, if_neg (by rw [h.alone]; decide)]
theorem Right.c1 {l : List Ce} (h : Right l) {i : Nat} (hi : i < l.length) : c1 (atC l i) := h.1 i hi
theorem fill_at (l : List Ce) (a b : Nat) (s : St) (i : Nat) (hb : b ≤ l.length) : atC (fillUp l a b s) i = if a ≤ i ∧ i < b then blankC s else atC l i := by
  by_cases h : i < l.length
  · exact fillUp_at l a b s i h
  · rw [atC_ge (by rw [fillUp_len]; omega), if_neg (by omega), atC_ge (by omega)]
theorem Semi.fill {l : List Ce} (h : Semi l) (a b : Nat) (s : St) (hs : s.ok = true) (hb : b ≤ l.length) : Semi (fillUp l a b s) := by
  refine ⟨fun i hi => ?_, fun i h1 h2 => ?_⟩
  · rw [fillUp_len] at hi
    rw [fill_at l a b s i hb]
    split
    · exact c1_blank hs
    · exact h.1 i hi
  · rw [fill_at l a b s _ hb] at h1 h2 ⊢
    rw [fill_at l a b s _ hb]
    split at h1
    · exact absurd h1 (by simp [blankC])
    · split at h2
      · exact absurd h2 (by simp [blankC])
      · rename_i q1 q2
        rw [if_neg q2, if_neg q1]
        exact h.2 i h1 h2
theorem clearL_right {l : List Ce} (h : Right l) (a b : Nat) (s : St) (hs : s.ok = true) (hb : b ≤ l.length) : Right (clearL l a b s) := (h.semi.fill a b s hs hb).mend
theorem Semi.take {l : List Ce} (h : Semi l) (n : Nat) : Semi (l.take n) := by
  have e : ∀ i, atC (l.take n) i = if i < n then atC l i else Ce.zero := fun i => by
    by_cases hi : i < n
    · rw [if_pos hi, atC_take l n i hi]
    · rw [if_neg hi, atC_ge (by rw [List.length_take]; omega)]
  refine ⟨fun i hi => ?_, fun i h1 h2 => ?_⟩
  · rw [List.length_take] at hi
    rw [e, if_pos (by omega)]
    exact h.1 i (by omega)
  · rw [e] at h1 h2 ⊢
    rw [e]
    split at h1
    · split at h2
      · rename_i q1 q2
        rw [if_pos q2, if_pos q1]
        exact h.2 i h1 h2
      · exact absurd h2 (by decide)
    · exact absurd h1 (by decide)
theorem Semi.drop {l : List Ce} (h : Semi l) (n : Nat) : Semi (l.drop n) := by
  refine ⟨fun i hi => ?_, fun i h1 h2 => ?_⟩
  · rw [List.length_drop] at hi
    rw [atC_drop]; exact h.1 (n + i) (by omega)
  · rw [atC_drop] at h1 h2 ⊢
    rw [atC_drop]
    have := h.2 (n + i) h1 (by rw [Nat.add_assoc]; exact h2)
    rwa [Nat.add_assoc] at this
theorem app_at (l m : List Ce) (i : Nat) : atC (l ++ m) i = if i < l.length then atC l i else atC m (i - l.length) := by
  by_cases h : i < l.length
  · rw [if_pos h, atC_append_left l m i h]
  · rw [if_neg h]
    have := atC_append_right l m (i - l.length)
    rwa [show l.length + (i - l.length) = i by omega] at this
theorem Right.append {l m : List Ce} (h : Right l) (k : Right m) : Right (l ++ m) := by
  refine ⟨fun i hi => ?_, fun i h1 => ?_, fun i h2 => ?_⟩
  · rw [List.length_append] at hi
    rw [app_at]
    split
    · rename_i q; exact h.1 i q
    · exact k.1 _ (by omega)
  · rw [app_at] at h1
    split at h1
    · have := h.2.1 i h1
      have hlt : i + 1 < l.length := part_lt (by rw [this.1]; decide)
      rename_i q
      rw [app_at, app_at, if_pos hlt, if_pos q]; exact this
    · rename_i q
      have := k.2.1 _ h1
      rw [app_at, app_at, if_neg (by omega), if_neg q]
      rwa [show i + 1 - l.length = i - l.length + 1 by omega]
  · rw [app_at] at h2
    split at h2
    · rename_i q
      have := h.2.2 i h2
      rw [app_at, if_pos (by omega)]; exact this
    · rename_i q
      have := k.2.2 _ h2
      rw [app_at, if_neg (by omega)]
      refine ⟨by omega, ?_⟩
      rw [show i - 1 - l.length = i - l.length - 1 by omega]; exact this.2
theorem rowL_at (n : Nat) (s : St) (i : Nat) (h : i < n) : atC (rowL n s) i = blankC s := by
  rw [atC_lt (by simp [rowL]; exact h)]; simp [rowL]
theorem rowL_right (n : Nat) (s : St) (hs : s.ok = true) : Right (rowL n s) := by
  have e : ∀ i, (atC (rowL n s) i).part = 0 := fun i => by
    by_cases h : i < n
    · rw [rowL_at n s i h]; rfl
    · rw [atC_ge (by simp [rowL]; omega)]; rfl
  refine ⟨fun i hi => ?_, fun i h1 => ?_, fun i h1 => ?_⟩
  · rw [rowL_at n s i (by simpa [rowL] using hi)]; exact c1_blank hs
  · rw [e] at h1; exact absurd h1 (by decide)
  · rw [e] at h1; exact absurd h1 (by decide)
end Go.Proofs.YteimcepkoclpbaaDoor
namespace Go.Proofs.YteimcepkoclpbaaDoor

/-- A wide rune that lies on both sides of a place is blank. -/
def partW (l : List Ce) (p : Nat) : List Ce := if (atC l p).part = 2 then fillUp l (p - 1) (p + 1) (atC l p).st else l
theorem partW_len (l : List Ce) (p : Nat) : (partW l p).length = l.length := by unfold partW; split; exact fillUp_len _ _ _ _; rfl
theorem Right.two {l : List Ce} (h : Right l) {p : Nat} (h2 : (atC l p).part = 2) : 0 < p ∧ p < l.length ∧ (atC l (p - 1)).part = 1 ∧ (atC l p).st = (atC l (p - 1)).st := by
  have := h.2.2 p h2
  have h3 := (h.2.1 (p - 1) this.2).2
  rw [show p - 1 + 1 = p by omega] at h3
  exact ⟨this.1, part_lt (by rw [h2]; decide), this.2, h3⟩
theorem partW_at {l : List Ce} (h : Right l) (p i : Nat) : atC (partW l p) i = if (atC l p).part = 2 ∧ (i + 1 = p ∨ i = p) then blankC (atC l i).st else atC l i := by
  unfold partW
  by_cases h2 : (atC l p).part = 2
  · obtain ⟨h0, hl, h1, hst⟩ := h.two h2
    rw [if_pos h2, fill_at _ _ _ _ _ (by omega)]
    by_cases e : i + 1 = p ∨ i = p
    · rw [if_pos (by omega), if_pos ⟨h2, e⟩]
      rcases e with e | e
      · rw [hst, show p - 1 = i by omega]
      · rw [e]
    · rw [if_neg (by omega), if_neg (fun q => e q.2)]
  · rw [if_neg h2, if_neg (fun q => h2 q.1)]
theorem partW_right {l : List Ce} (h : Right l) (p : Nat) : Right (partW l p) := by
  by_cases h2 : (atC l p).part = 2
  · obtain ⟨h0, hl, hp, hst⟩ := h.two h2
    have e := partW_at h p
    refine ⟨fun i hi => ?_, fun i h1 => ?_, fun i h1 => ?_⟩
    · rw [partW_len] at hi
      rw [e]
      split
      · exact c1_blank (h.1 i hi).1
      · exact h.1 i hi
    · rw [e] at h1
      split at h1
      · exact absurd h1 (by simp [blankC])
      · rename_i q
        have hq : ¬ (i + 1 = p ∨ i = p) := fun c => q ⟨h2, c⟩
        have := h.2.1 i h1
        have hn : ¬ ((atC l p).part = 2 ∧ (i + 1 + 1 = p ∨ i + 1 = p)) := by
          rintro ⟨_, c | c⟩
          · have e1 : p - 1 = i + 1 := by omega
            rw [e1] at hp; rw [hp] at this; exact absurd this.1 (by decide)
          · exact hq (.inl c)
        rw [e, e, if_neg hn, if_neg q]
        exact this
    · rw [e] at h1
      split at h1
      · exact absurd h1 (by simp [blankC])
      · rename_i q
        have hq : ¬ (i + 1 = p ∨ i = p) := fun c => q ⟨h2, c⟩
        have := h.2.2 i h1
        have hn : ¬ ((atC l p).part = 2 ∧ (i - 1 + 1 = p ∨ i - 1 = p)) := by
          rintro ⟨_, c | c⟩
          · exact hq (.inr (by omega))
          · rw [c] at this; rw [h2] at this; exact absurd this.2 (by decide)
        rw [e, if_neg hn]
        exact this
  · unfold partW; rw [if_neg h2]; exact h
/-- What is cleared by the program's way. -/
theorem clear_way {l : List Ce} (h : Right l) (a b : Nat) (s : St) (hab : a < b) (hb : b ≤ l.length) : fillUp (partW (partW l a) b) a b s = clearL l a b s := by
  refine ext_atC _ _ (by rw [fillUp_len, partW_len, partW_len, clearL_len]) fun i hi => ?_
  rw [fillUp_len, partW_len, partW_len] at hi
  rw [fill_at _ _ _ _ _ (by rw [partW_len, partW_len]; exact hb), clearL, mendV_all, mendC]
  by_cases hin : a ≤ i ∧ i < b
  · rw [if_pos hin]
    have : ¬ aloneB (fillUp l a b s) i = true := by
      rw [alone_iff, fill_at _ _ _ _ _ hb, if_pos hin]; simp [blankC]
    rw [if_neg this, fill_at _ _ _ _ _ hb, if_pos hin]
  · rw [if_neg hin, partW_at (partW_right h a), partW_at h a b, partW_at h a i]
    have hF := fun j => fill_at l a b s j hb
    have eb : ¬ ((atC l a).part = 2 ∧ (b + 1 = a ∨ b = a)) := by omega
    rw [if_neg eb]
    have hal : aloneB (fillUp l a b s) i = true ↔ (((atC l a).part = 2 ∧ i + 1 = a) ∨ ((atC l b).part = 2 ∧ i = b)) := by
      rw [alone_iff, hF i, if_neg hin]
      constructor
      · rintro (⟨q1, q2⟩ | ⟨q1, q2⟩)
        · left
          have := (h.2.1 i q1).1
          rw [hF] at q2
          by_cases c : a ≤ i + 1 ∧ i + 1 < b
          · have : i + 1 = a := by omega
            rw [← this]; exact ⟨(h.2.1 i q1).1, rfl⟩
          · rw [if_neg c] at q2; exact absurd this q2
        · right
          have := h.2.2 i q1
          rcases q2 with q2 | q2
          · omega
          · rw [hF] at q2
            by_cases c : a ≤ i - 1 ∧ i - 1 < b
            · have : i = b := by omega
              rw [← this]; exact ⟨q1, rfl⟩
            · rw [if_neg c] at q2; exact absurd this.2 q2
      · rintro (⟨q1, q2⟩ | ⟨q1, q2⟩)
        · left
          have := h.two q1
          have e : a - 1 = i := by omega
          rw [e] at this
          refine ⟨this.2.2.1, ?_⟩
          rw [hF, if_pos (by omega)]; simp [blankC]
        · right
          rw [q2]
          refine ⟨q1, .inr ?_⟩
          rw [hF, if_pos (by omega)]; simp [blankC]
    by_cases ha : (((atC l a).part = 2 ∧ i + 1 = a) ∨ ((atC l b).part = 2 ∧ i = b))
    · rw [if_pos (hal.2 ha), hF i, if_neg hin]
      rcases ha with ⟨q1, q2⟩ | ⟨q1, q2⟩
      · have c1 : ¬ ((atC l b).part = 2 ∧ (i + 1 = b ∨ i = b)) := by omega
        rw [if_neg c1, if_pos ⟨q1, .inl q2⟩]
      · have c1 : ¬ ((atC l a).part = 2 ∧ (i + 1 = a ∨ i = a)) := by omega
        rw [if_pos ⟨q1, .inr q2⟩, if_neg c1]
    · rw [if_neg (fun c => ha (hal.1 c)), hF i, if_neg hin]
      have c1 : ¬ ((atC l b).part = 2 ∧ (i + 1 = b ∨ i = b)) := by
        rintro ⟨q1, q2⟩
        apply ha; right; exact ⟨q1, by omega⟩
      have c2 : ¬ ((atC l a).part = 2 ∧ (i + 1 = a ∨ i = a)) := by
        rintro ⟨q1, q2⟩
        apply ha; left; exact ⟨q1, by omega⟩
      rw [if_neg c1, if_neg c2]
theorem clear_none {l : List Ce} (h : Right l) (a : Nat) (s : St) : clearL l a a s = l := by rw [clearL, fillUp_zero, h.mend]
/-- Cells moved within a row: n cells that stood at p stand at q. -/
def moveL (l : List Ce) (q p n : Nat) : List Ce := genL l.length fun i => if q ≤ i ∧ i < q + n then atC l (p + (i - q)) else atC l i
theorem moveL_len (l : List Ce) (q p n : Nat) : (moveL l q p n).length = l.length := genL_len _ _
theorem moveL_at (l : List Ce) (q p n i : Nat) (h : i < l.length) : atC (moveL l q p n) i = if q ≤ i ∧ i < q + n then atC l (p + (i - q)) else atC l i := genL_at _ _ _ h
/-- The two places at which a row is parted. -/
theorem partW2_at {l : List Ce} (h : Right l) (p q i : Nat) (hpq : p ≤ q) :
    atC (partW (partW l p) q) i = if ((atC l p).part = 2 ∧ (i + 1 = p ∨ i = p)) ∨ ((atC l q).part = 2 ∧ (i + 1 = q ∨ i = q)) then blankC (atC l i).st else atC l i := by
  have hq : (atC (partW l p) q).part = 2 ↔ (atC l q).part = 2 ∧ ¬ ((atC l p).part = 2 ∧ q = p) := by
    rw [partW_at h p q]
    by_cases c : (atC l p).part = 2 ∧ (q + 1 = p ∨ q = p)
    · rw [if_pos c]
      constructor
      · intro x; exact absurd x (by simp [blankC])
      · intro x; exact absurd ⟨c.1, by omega⟩ x.2
    · rw [if_neg c]
      constructor
      · intro x; exact ⟨x, fun y => c ⟨y.1, .inr y.2⟩⟩
      · intro x; exact x.1
  rw [partW_at (partW_right h p) q i, partW_at h p i]
  by_cases c2 : (atC (partW l p) q).part = 2 ∧ (i + 1 = q ∨ i = q)
  · have c3 : ((atC l p).part = 2 ∧ (i + 1 = p ∨ i = p)) ∨ ((atC l q).part = 2 ∧ (i + 1 = q ∨ i = q)) := .inr ⟨(hq.1 c2.1).1, c2.2⟩
    rw [if_pos c2, if_pos c3]
    split <;> rfl
  · rw [if_neg c2]
    by_cases c1 : (atC l p).part = 2 ∧ (i + 1 = p ∨ i = p)
    · rw [if_pos c1, if_pos (.inl c1)]
    · rw [if_neg c1, if_neg]
      rintro (x | x)
      · exact c1 x
      · apply c2
        refine ⟨hq.2 ⟨x.1, fun y => c1 ⟨y.1, ?_⟩⟩, x.2⟩
        have := x.2; have := y.2; omega
theorem mendT {l : List Ce} (h : Right l) (p i : Nat) (hi : i < p) : atC (mendV (l.take p)) i = if (atC l p).part = 2 ∧ i + 1 = p then blankC (atC l i).st else atC l i := by
  have ht : ∀ j, atC (l.take p) j = if j < p then atC l j else Ce.zero := fun j => by
    by_cases hj : j < p
    · rw [if_pos hj, atC_take l p j hj]
    · rw [if_neg hj, atC_ge (by rw [List.length_take]; omega)]
  rw [mendV_all, mendC, ht i, if_pos hi]
  have hal : aloneB (l.take p) i = true ↔ (atC l p).part = 2 ∧ i + 1 = p := by
    rw [alone_iff, ht i, if_pos hi]
    constructor
    · rintro (⟨q1, q2⟩ | ⟨q1, q2⟩)
      · have := h.2.1 i q1
        rw [ht] at q2
        by_cases c : i + 1 < p
        · rw [if_pos c] at q2; exact absurd this.1 q2
        · have e : i + 1 = p := by omega
          rw [← e]; exact ⟨this.1, rfl⟩
      · have := h.2.2 i q1
        rcases q2 with q2 | q2
        · omega
        · rw [ht, if_pos (by omega)] at q2; exact absurd this.2 q2
    · rintro ⟨q1, q2⟩
      left
      have := h.two q1
      rw [show p - 1 = i by omega] at this
      refine ⟨this.2.2.1, ?_⟩
      rw [ht, if_neg (by omega)]; decide
  by_cases c : (atC l p).part = 2 ∧ i + 1 = p
  · rw [if_pos c, if_pos (hal.2 c)]
  · rw [if_neg c, if_neg (fun x => c (hal.1 x))]
theorem mendD {l : List Ce} (h : Right l) (p i : Nat) : atC (mendV (l.drop p)) i = if (atC l p).part = 2 ∧ i = 0 then blankC (atC l p).st else atC l (p + i) := by
  rw [mendV_all, mendC, atC_drop]
  have hal : aloneB (l.drop p) i = true ↔ (atC l p).part = 2 ∧ i = 0 := by
    rw [alone_iff, atC_drop, atC_drop]
    constructor
    · rintro (⟨q1, q2⟩ | ⟨q1, q2⟩)
      · have := h.2.1 (p + i) q1
        rw [Nat.add_assoc] at this; exact absurd this.1 q2
      · have := h.2.2 (p + i) q1
        rcases q2 with q2 | q2
        · subst q2; exact ⟨q1, rfl⟩
        · by_cases c : i = 0
          · subst c; exact ⟨q1, rfl⟩
          · rw [atC_drop, show p + (i - 1) = p + i - 1 by omega] at q2; exact absurd this.2 q2
    · rintro ⟨q1, q2⟩
      subst q2
      exact .inr ⟨q1, .inl rfl⟩
  by_cases c : (atC l p).part = 2 ∧ i = 0
  · rw [if_pos c, if_pos (hal.2 c), c.2, Nat.add_zero]
  · rw [if_neg c, if_neg (fun x => c (hal.1 x))]
theorem rowL_len (n : Nat) (s : St) : (rowL n s).length = n := by simp [rowL]
/-- What is pushed and pulled, as numbers. -/
def pushV (xs : List Ce) (p n : Nat) (s : St) : List Ce := if n = 0 then xs else mendV ((mendV (xs.take p) ++ rowL n s ++ mendV (xs.drop p)).take xs.length)
def pullV (xs : List Ce) (p n : Nat) (s : St) : List Ce := if min n (xs.length - p) = 0 then xs else mendV (xs.take p) ++ mendV (xs.drop (p + min n (xs.length - p))) ++ rowL (min n (xs.length - p)) s
theorem three_at {l : List Ce} (h : Right l) (p m : Nat) (s : St) (hp : p ≤ l.length) (i : Nat) :
    atC (mendV (l.take p) ++ rowL m s ++ mendV (l.drop p)) i =
      if i < p then (if (atC l p).part = 2 ∧ i + 1 = p then blankC (atC l i).st else atC l i)
      else if i < p + m then blankC s else (if (atC l p).part = 2 ∧ i = p + m then blankC (atC l p).st else atC l (i - m)) := by
  have h1 : (mendV (l.take p)).length = p := by rw [mendV_len, List.length_take]; omega
  rw [app_at, app_at, List.length_append, h1, rowL_len]
  by_cases c1 : i < p
  · rw [if_pos c1, if_pos (by omega), if_pos c1, mendT h p i c1]
  · rw [if_neg c1, if_neg c1]
    by_cases c2 : i < p + m
    · rw [if_pos c2, if_pos c2, rowL_at _ _ _ (by omega)]
    · rw [if_neg c2, if_neg c2, mendD h p]
      by_cases c3 : (atC l p).part = 2 ∧ i = p + m
      · rw [if_pos c3, if_pos ⟨c3.1, by omega⟩]
      · rw [if_neg c3, if_neg (fun x => c3 ⟨x.1, by omega⟩), show p + (i - (p + m)) = i - m by omega]
theorem three_right {l : List Ce} (h : Right l) (p m : Nat) (s : St) (hs : s.ok = true) : Right (mendV (l.take p) ++ rowL m s ++ mendV (l.drop p)) :=
  ((h.semi.take p).mend.append (rowL_right m s hs)).append (h.semi.drop p).mend
theorem pushV_right {l : List Ce} (h : Right l) (p n : Nat) (s : St) (hs : s.ok = true) : Right (pushV l p n s) := by
  unfold pushV
  split
  · exact h
  · exact ((three_right h p n s hs).semi.take _).mend
theorem pushV_len (l : List Ce) (p n : Nat) (s : St) : (pushV l p n s).length = l.length := by
  unfold pushV
  split
  · rfl
  · rw [mendV_len, List.length_take, List.length_append, List.length_append, mendV_len, mendV_len, rowL_len, List.length_take, List.length_drop]; omega
theorem pullV_right {l : List Ce} (h : Right l) (p n : Nat) (s : St) (hs : s.ok = true) : Right (pullV l p n s) := by
  unfold pullV
  split
  · exact h
  · exact ((h.semi.take p).mend.append (h.semi.drop _).mend).append (rowL_right _ s hs)
theorem pullV_len (l : List Ce) (p n : Nat) (s : St) (hp : p ≤ l.length) : (pullV l p n s).length = l.length := by
  unfold pullV
  split
  · rfl
  · rw [List.length_append, List.length_append, mendV_len, mendV_len, rowL_len, List.length_take, List.length_drop]; omega
theorem pushV_at {l : List Ce} (h : Right l) (p n : Nat) (s : St) (hs : s.ok = true) (hp : p < l.length) (hn : n ≠ 0) (i : Nat) (hi : i < l.length) :
    atC (pushV l p n s) i =
      if i < p then (if (atC l p).part = 2 ∧ i + 1 = p then blankC (atC l i).st else atC l i)
      else if i < p + n then blankC s
      else (if ((atC l p).part = 2 ∧ i = p + n) ∨ ((atC l (i - n)).part = 1 ∧ i + 1 = l.length) then blankC (atC l (i - n)).st else atC l (i - n)) := by
  have hR := three_right h p n s hs
  have hA := fun j => three_at h p n s (by omega : p ≤ l.length) j
  unfold pushV
  rw [if_neg hn]
  generalize mendV (l.take p) ++ rowL n s ++ mendV (l.drop p) = Z at *
  rw [mendT hR l.length i hi, hA i]
  by_cases c1 : i < p
  · rw [if_pos c1, if_pos c1]
    have : ¬ ((atC Z l.length).part = 2 ∧ i + 1 = l.length) := by omega
    rw [if_neg this]
  · rw [if_neg c1, if_neg c1]
    by_cases c2 : i < p + n
    · rw [if_pos c2, if_pos c2]
      have : ¬ ((atC Z l.length).part = 2 ∧ i + 1 = l.length) := by
        rintro ⟨q1, q2⟩
        have := hR.two q1
        rw [show l.length - 1 = i by omega, hA i, if_neg c1, if_pos c2] at this
        exact absurd this.2.2.1 (by simp [blankC])
      rw [if_neg this]
    · rw [if_neg c2, if_neg c2]
      have e : (atC Z l.length).part = 2 ∧ i + 1 = l.length ↔ (atC l (i - n)).part = 1 ∧ i + 1 = l.length ∧ ¬ ((atC l p).part = 2 ∧ i = p + n) := by
        constructor
        · rintro ⟨q1, q2⟩
          have := hR.two q1
          rw [show l.length - 1 = i by omega, hA i, if_neg c1, if_neg c2] at this
          by_cases c3 : (atC l p).part = 2 ∧ i = p + n
          · rw [if_pos c3] at this; exact absurd this.2.2.1 (by simp [blankC])
          · rw [if_neg c3] at this; exact ⟨this.2.2.1, q2, c3⟩
        · rintro ⟨q1, q2, q3⟩
          have : (atC Z i).part = 1 := by rw [hA i, if_neg c1, if_neg c2, if_neg q3]; exact q1
          have := hR.2.1 i this
          rw [q2] at this; exact ⟨this.1, q2⟩
      by_cases c3 : (atC l p).part = 2 ∧ i = p + n
      · have e2 : ¬ ((atC Z l.length).part = 2 ∧ i + 1 = l.length) := fun x => (e.1 x).2.2 c3
        rw [if_neg e2, if_pos c3, if_pos (.inl c3), show i - n = p by omega]
      · by_cases c4 : (atC l (i - n)).part = 1 ∧ i + 1 = l.length
        · have c5 : ((atC l p).part = 2 ∧ i = p + n) ∨ ((atC l (i - n)).part = 1 ∧ i + 1 = l.length) := .inr c4
          rw [if_pos (e.2 ⟨c4.1, c4.2, c3⟩), if_pos c5, if_neg c3]
        · have e2 : ¬ ((atC Z l.length).part = 2 ∧ i + 1 = l.length) := fun x => c4 ⟨(e.1 x).1, (e.1 x).2.1⟩
          rw [if_neg e2, if_neg c3, if_neg (by rintro (x | x); exact c3 x; exact c4 x)]
/-- Pushed by the program's way: m cells, at most what is there. -/
theorem push_way {l : List Ce} (h : Right l) (p n m : Nat) (s : St) (hs : s.ok = true) (hp : p < l.length) (hn : n ≠ 0) (hm : m = min n (l.length - p)) :
    fillUp (moveL (partW (partW l p) (l.length - m)) (p + m) p (l.length - m - p)) p (p + m) s = pushV l p n s := by
  refine ext_atC _ _ (by rw [fillUp_len, moveL_len, partW_len, partW_len, pushV_len]) fun i hi => ?_
  rw [fillUp_len, moveL_len, partW_len, partW_len] at hi
  have hQ : ∀ j, atC (partW (partW l p) (l.length - m)) j = _ := fun j => partW2_at h p (l.length - m) j (by omega)
  have hQl : (partW (partW l p) (l.length - m)).length = l.length := by rw [partW_len, partW_len]
  rw [fill_at _ _ _ _ _ (by rw [moveL_len, hQl]; omega), pushV_at h p n s hs hp hn i hi]
  by_cases c1 : i < p
  · rw [if_neg (by omega), if_pos c1, moveL_at _ _ _ _ _ (by rw [hQl]; exact hi), if_neg (by omega), hQ i]
    by_cases c2 : (atC l p).part = 2 ∧ i + 1 = p
    · rw [if_pos c2, if_pos (.inl ⟨c2.1, .inl c2.2⟩)]
    · have : ¬ (((atC l p).part = 2 ∧ (i + 1 = p ∨ i = p)) ∨ ((atC l (l.length - m)).part = 2 ∧ (i + 1 = l.length - m ∨ i = l.length - m))) := by
        rintro (⟨x, y⟩ | ⟨x, y⟩)
        · exact c2 ⟨x, by omega⟩
        · have e : l.length - m = p := by omega
          rw [e] at x; exact c2 ⟨x, by omega⟩
      rw [if_neg c2, if_neg this]
  · rw [if_neg c1]
    by_cases c2 : i < p + n
    · by_cases c3 : i < p + m
      · rw [if_pos ⟨by omega, c3⟩, if_pos c2]
      · omega
    · rw [if_neg c2, if_neg (by omega), moveL_at _ _ _ _ _ (by rw [hQl]; exact hi), if_pos (by omega), hQ]
      have em : m = n := by omega
      subst em
      have e1 : p + (i - (p + m)) = i - m := by omega
      rw [e1]
      have e2 : (((atC l p).part = 2 ∧ (i - m + 1 = p ∨ i - m = p)) ∨ ((atC l (l.length - m)).part = 2 ∧ (i - m + 1 = l.length - m ∨ i - m = l.length - m))) ↔ (((atC l p).part = 2 ∧ i = p + m) ∨ ((atC l (i - m)).part = 1 ∧ i + 1 = l.length)) := by
        constructor
        · rintro (⟨x, y⟩ | ⟨x, y⟩)
          · left; exact ⟨x, by omega⟩
          · right
            have e3 : i - m + 1 = l.length - m := by omega
            have := h.two x
            rw [show l.length - m - 1 = i - m by omega] at this
            exact ⟨this.2.2.1, by omega⟩
        · rintro (⟨x, y⟩ | ⟨x, y⟩)
          · left; exact ⟨x, by omega⟩
          · right
            have := h.2.1 _ x
            rw [show i - m + 1 = l.length - m by omega] at this
            exact ⟨this.1, by omega⟩
      by_cases c4 : ((atC l p).part = 2 ∧ i = p + m) ∨ ((atC l (i - m)).part = 1 ∧ i + 1 = l.length)
      · rw [if_pos c4, if_pos (e2.2 c4)]
      · rw [if_neg c4, if_neg (fun x => c4 (e2.1 x))]
theorem pullV_at {l : List Ce} (h : Right l) (p n m : Nat) (s : St) (hp : p < l.length) (hn : n ≠ 0) (hm : m = min n (l.length - p)) (i : Nat) (hi : i < l.length) :
    atC (pullV l p n s) i =
      if i < p then (if (atC l p).part = 2 ∧ i + 1 = p then blankC (atC l i).st else atC l i)
      else if i < l.length - m then (if (atC l (p + m)).part = 2 ∧ i = p then blankC (atC l (p + m)).st else atC l (i + m))
      else blankC s := by
  unfold pullV
  rw [← hm, if_neg (by omega)]
  have h1 : (mendV (l.take p)).length = p := by rw [mendV_len, List.length_take]; omega
  have h2 : (mendV (l.drop (p + m))).length = l.length - (p + m) := by rw [mendV_len, List.length_drop]
  rw [app_at, app_at, List.length_append, h1, h2]
  by_cases c1 : i < p
  · rw [if_pos c1, if_pos (by omega), if_pos c1, mendT h p i c1]
  · rw [if_neg c1, if_neg c1]
    by_cases c2 : i < l.length - m
    · rw [if_pos c2, if_pos (by omega), mendD h (p + m)]
      by_cases c3 : (atC l (p + m)).part = 2 ∧ i = p
      · rw [if_pos c3, if_pos ⟨c3.1, by omega⟩]
      · rw [if_neg c3, if_neg (fun x => c3 ⟨x.1, by omega⟩), show p + m + (i - p) = i + m by omega]
    · rw [if_neg c2, if_neg (by omega), rowL_at _ _ _ (by omega)]
theorem pull_way {l : List Ce} (h : Right l) (p n m : Nat) (s : St) (hp : p < l.length) (hn : n ≠ 0) (hm : m = min n (l.length - p)) :
    fillUp (moveL (partW (partW l p) (p + m)) p (p + m) (l.length - m - p)) (l.length - m) l.length s = pullV l p n s := by
  refine ext_atC _ _ (by rw [fillUp_len, moveL_len, partW_len, partW_len, pullV_len l p n s (by omega)]) fun i hi => ?_
  rw [fillUp_len, moveL_len, partW_len, partW_len] at hi
  have hQ : ∀ j, atC (partW (partW l p) (p + m)) j = _ := fun j => partW2_at h p (p + m) j (by omega)
  have hQl : (partW (partW l p) (p + m)).length = l.length := by rw [partW_len, partW_len]
  rw [fill_at _ _ _ _ _ (by rw [moveL_len, hQl]; exact Nat.le_refl _), pullV_at h p n m s hp hn hm i hi]
  by_cases c1 : i < p
  · rw [if_neg (by omega), if_pos c1, moveL_at _ _ _ _ _ (by rw [hQl]; exact hi), if_neg (by omega), hQ i]
    by_cases c2 : (atC l p).part = 2 ∧ i + 1 = p
    · rw [if_pos c2, if_pos (.inl ⟨c2.1, .inl c2.2⟩)]
    · have : ¬ (((atC l p).part = 2 ∧ (i + 1 = p ∨ i = p)) ∨ ((atC l (p + m)).part = 2 ∧ (i + 1 = p + m ∨ i = p + m))) := by
        rintro (⟨x, y⟩ | ⟨x, y⟩)
        · exact c2 ⟨x, by omega⟩
        · omega
      rw [if_neg c2, if_neg this]
  · rw [if_neg c1]
    by_cases c2 : i < l.length - m
    · rw [if_pos c2, if_neg (by omega), moveL_at _ _ _ _ _ (by rw [hQl]; exact hi), if_pos (by omega), hQ]
      have e1 : p + m + (i - p) = i + m := by omega
      rw [e1]
      by_cases c3 : (atC l (p + m)).part = 2 ∧ i = p
      · rw [if_pos c3, if_pos (.inr ⟨c3.1, .inr (by omega)⟩), c3.2]
      · have : ¬ (((atC l p).part = 2 ∧ (i + m + 1 = p ∨ i + m = p)) ∨ ((atC l (p + m)).part = 2 ∧ (i + m + 1 = p + m ∨ i + m = p + m))) := by
          rintro (⟨x, y⟩ | ⟨x, y⟩)
          · omega
          · exact c3 ⟨x, by omega⟩
        rw [if_neg c3, if_neg this]
    · rw [if_neg c2, if_pos (by omega)]
end Go.Proofs.YteimcepkoclpbaaDoor
