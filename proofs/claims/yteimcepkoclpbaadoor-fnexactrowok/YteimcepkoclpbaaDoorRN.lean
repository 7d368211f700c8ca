/- Right rows: what keeps them right. Plain mathematics. -/
import Derived.Test.YteimcepkoclpbaaDoorRM2
namespace Go.Proofs.YteimcepkoclpbaaDoor

theorem atC_ge {l : List Ce} {i : Nat} (h : l.length ≤ i) : atC l i = Ce.zero := by simp [atC, List.getD, List.getElem?_eq_none h]
def genL (n : Nat) (f : Nat → Ce) : List Ce := (List.range n).map f
theorem genL_len (n : Nat) (f : Nat → Ce) : (genL n f).length = n := by simp [genL]
theorem genL_at (n : Nat) (f : Nat → Ce) (i : Nat) (h : i < n) : atC (genL n f) i = f i := by
  rw [atC_lt (by rw [genL_len]; exact h)]; simp [genL]
theorem alone_iff (l : List Ce) (i : Nat) : aloneB l i = true ↔ ((atC l i).part = 1 ∧ (atC l (i + 1)).part ≠ 2) ∨ ((atC l i).part = 2 ∧ (i = 0 ∨ (atC l (i - 1)).part ≠ 1)) := by
  unfold aloneB
  by_cases h : i + 1 = l.length
  · rw [atC_ge (l := l) (i := i + 1) (by omega)]
    simp [Ce.zero, h]
  · simp [h]
theorem mendV_all (l : List Ce) (i : Nat) : atC (mendV l) i = mendC l i := by
  by_cases h : i < l.length
  · exact mendV_at l i h
  · rw [atC_ge (by rw [mendV_len]; omega), mendC, atC_ge (by omega)]
    have : ¬ aloneB l i = true := by rw [alone_iff, atC_ge (l := l) (i := i) (by omega)]; simp [Ce.zero]
    rw [if_neg this]
/-- A cell that is right by itself. -/
def c1 (c : Ce) : Prop := c.st.ok = true ∧ ((c.part = 0 ∧ widthV c.rune = 1) ∨ (c.part = 1 ∧ widthV c.rune = 2) ∨ (c.part = 2 ∧ c.rune = 0))
def Right (l : List Ce) : Prop :=
  (∀ i, i < l.length → c1 (atC l i)) ∧ (∀ i, (atC l i).part = 1 → (atC l (i + 1)).part = 2 ∧ (atC l (i + 1)).st = (atC l i).st) ∧ (∀ i, (atC l i).part = 2 → 0 < i ∧ (atC l (i - 1)).part = 1)
def Semi (l : List Ce) : Prop :=
  (∀ i, i < l.length → c1 (atC l i)) ∧ (∀ i, (atC l i).part = 1 → (atC l (i + 1)).part = 2 → (atC l (i + 1)).st = (atC l i).st)
theorem Right.semi {l : List Ce} (h : Right l) : Semi l := ⟨h.1, fun i h1 _ => (h.2.1 i h1).2⟩
theorem part_lt {l : List Ce} {i : Nat} (h : (atC l i).part ≠ 0) : i < l.length := by
  rcases Nat.lt_or_ge i l.length with h1 | h1
  · exact h1
  · rw [atC_ge h1] at h; exact absurd rfl h
theorem right_iff (l : List Ce) : rowOkB l = true ↔ (1 ≤ l.length ∧ l.length ≤ 60) ∧ Right l := by
  rw [rowOkB_iff]
  constructor
  · rintro ⟨hl, h⟩
    refine ⟨hl, ?_, ?_, ?_⟩
    · intro i hi
      have := h i hi
      unfold cellOkB at this
      rw [Bool.and_eq_true] at this
      refine ⟨this.1, ?_⟩
      have h2 := this.2
      by_cases h0 : (atC l i).part = 0
      · rw [if_pos h0] at h2; exact .inl ⟨h0, by simpa using h2⟩
      · rw [if_neg h0] at h2
        by_cases h1 : (atC l i).part = 1
        · rw [if_pos h1] at h2; simp at h2; exact .inr (.inl ⟨h1, h2.1⟩)
        · rw [if_neg h1] at h2
          by_cases h3 : (atC l i).part = 2
          · rw [if_pos h3] at h2; simp at h2; exact .inr (.inr ⟨h3, h2.1⟩)
          · rw [if_neg h3] at h2; cases h2
    · intro i h1
      have hi : i < l.length := part_lt (by rw [h1]; decide)
      have := h i hi
      unfold cellOkB at this
      rw [Bool.and_eq_true, if_neg (by rw [h1]; decide), if_pos h1] at this
      have h2 := this.2; simp at h2
      exact ⟨h2.2.2.1, h2.2.2.2⟩
    · intro i h1
      have hi : i < l.length := part_lt (by rw [h1]; decide)
      have := h i hi
      unfold cellOkB at this
      rw [Bool.and_eq_true, if_neg (by rw [h1]; decide), if_neg (by rw [h1]; decide), if_pos h1] at this
      have h2 := this.2; simp at h2
      exact h2.2
  · rintro ⟨hl, h1, h2, h3⟩
    refine ⟨hl, fun i hi => ?_⟩
    have hc := h1 i hi
    unfold cellOkB
    rw [hc.1, Bool.true_and]
    rcases hc.2 with ⟨e, ew⟩ | ⟨e, ew⟩ | ⟨e, ew⟩
    · rw [if_pos e, ew]; rfl
    · have := h2 i e
      have hlt : i + 1 < l.length := part_lt (by rw [this.1]; decide)
      rw [if_neg (by rw [e]; decide), if_pos e, ew]
      simp [hlt, this.1, this.2]
    · have := h3 i e
      rw [if_neg (by rw [e]; decide), if_neg (by rw [e]; decide), if_pos e, ew]
      simp [this.1, this.2]
theorem c1_blank {s : St} (h : s.ok = true) : c1 (blankC s) := ⟨h, .inl ⟨rfl, by show widthV 32 = 1; decide⟩⟩
theorem Semi.mend {l : List Ce} (h : Semi l) : Right (mendV l) := by
  have hp : ∀ i, (atC (mendV l) i).part ≠ 0 → aloneB l i = false ∧ atC (mendV l) i = atC l i := by
    intro i hi
    rw [mendV_all, mendC] at hi ⊢
    by_cases ha : aloneB l i = true
    · rw [if_pos ha] at hi; exact absurd rfl hi
    · rw [if_neg ha]; exact ⟨by simpa using ha, rfl⟩
  refine ⟨fun i hi => ?_, fun i h1 => ?_, fun i h2 => ?_⟩
  · rw [mendV_len] at hi
    rw [mendV_all, mendC]
    split
    · exact c1_blank (h.1 i hi).1
    · exact h.1 i hi
  · obtain ⟨ha, e⟩ := hp i (by rw [h1]; decide)
    rw [e] at h1
    have hn : (atC l (i + 1)).part = 2 := by
      apply Classical.byContradiction
      intro hc
      have := (alone_iff l i).2 (.inl ⟨h1, hc⟩)
      rw [ha] at this; cases this
    have hb : aloneB l (i + 1) = false := by
      apply Classical.byContradiction
      intro hc
      rcases (alone_iff l (i + 1)).1 (by simpa using hc) with ⟨q, _⟩ | ⟨_, q⟩
      · rw [hn] at q; exact absurd q (by decide)
      · rcases q with q | q
        · omega
        · rw [Nat.add_sub_cancel] at q; exact q h1
    have e2 : atC (mendV l) (i + 1) = atC l (i + 1) := by rw [mendV_all, mendC, if_neg (by rw [hb]; decide)]
    rw [e2, e]
    exact ⟨hn, h.2 i h1 hn⟩
  · obtain ⟨ha, e⟩ := hp i (by rw [h2]; decide)
    rw [e] at h2
    have hn : ¬ (i = 0 ∨ (atC l (i - 1)).part ≠ 1) := by
      intro hc
      have := (alone_iff l i).2 (.inr ⟨h2, hc⟩)
      rw [ha] at this; cases this
    have h0 : 0 < i := by omega
    have h1 : (atC l (i - 1)).part = 1 := by
      apply Classical.byContradiction
      intro hc; exact hn (.inr hc)
    have hb : aloneB l (i - 1) = false := by
      apply Classical.byContradiction
      intro hc
      rcases (alone_iff l (i - 1)).1 (by simpa using hc) with ⟨_, q⟩ | ⟨q, _⟩
      · have : i - 1 + 1 = i := by omega
        rw [this] at q; exact q h2
      · rw [h1] at q; exact absurd q (by decide)
    have e2 : atC (mendV l) (i - 1) = atC l (i - 1) := by rw [mendV_all, mendC, if_neg (by rw [hb]; decide)]
    rw [e2]; exact ⟨h0, h1⟩
theorem Right.alone {l : List Ce} (h : Right l) (i : Nat) : aloneB l i = false := by
  apply Classical.byContradiction
  intro hc
  rcases (alone_iff l i).1 (by simpa using hc) with ⟨p, q⟩ | ⟨p, q⟩
  · exact q (h.2.1 i p).1
  · have := h.2.2 i p
    rcases q with q | q
    · omega
    · exact q this.2
theorem Right.mend {l : List Ce} (h : Right l) : mendV l = l := ext_atC _ _ (mendV_len l) fun i _ => by
  rw [mendV_all, mendC, if_neg (by rw [h.alone]; decide)]
theorem Right.c1 {l : List Ce} (h : Right l) {i : Nat} (hi : i < l.length) : c1 (atC l i) := h.1 i hi
theorem fill_at (l : List Ce) (a b : Nat) (s : St) (i : Nat) (hb : b ≤ l.length) : atC (fillUp l a b s) i = if a ≤ i ∧ i < b then blankC s else atC l i := by
  by_cases h : i < l.length
  · exact fillUp_at l a b s i h
  · rw [atC_ge (by rw [fillUp_len]; omega), if_neg (by omega), atC_ge (by omega)]
theorem Semi.fill {l : List Ce} (h : Semi l) (a b : Nat) (s : St) (hs : s.ok = true) (hb : b ≤ l.length) : Semi (fillUp l a b s) := by
  refine ⟨fun i hi => ?_, fun i h1 h2 => ?_⟩
  · rw [fillUp_len] at hi
    rw [fill_at l a b s i hb]
    split
    · exact c1_blank hs
    · exact h.1 i hi
  · rw [fill_at l a b s _ hb] at h1 h2 ⊢
    rw [fill_at l a b s _ hb]
    split at h1
    · exact absurd h1 (by simp [blankC])
    · split at h2
      · exact absurd h2 (by simp [blankC])
      · rename_i q1 q2
        rw [if_neg q2, if_neg q1]
        exact h.2 i h1 h2
theorem clearL_right {l : List Ce} (h : Right l) (a b : Nat) (s : St) (hs : s.ok = true) (hb : b ≤ l.length) : Right (clearL l a b s) := (h.semi.fill a b s hs hb).mend
theorem Semi.take {l : List Ce} (h : Semi l) (n : Nat) : Semi (l.take n) := by
  have e : ∀ i, atC (l.take n) i = if i < n then atC l i else Ce.zero := fun i => by
    by_cases hi : i < n
    · rw [if_pos hi, atC_take l n i hi]
    · rw [if_neg hi, atC_ge (by rw [List.length_take]; omega)]
  refine ⟨fun i hi => ?_, fun i h1 h2 => ?_⟩
  · rw [List.length_take] at hi
    rw [e, if_pos (by omega)]
    exact h.1 i (by omega)
  · rw [e] at h1 h2 ⊢
    rw [e]
    split at h1
    · split at h2
      · rename_i q1 q2
        rw [if_pos q2, if_pos q1]
        exact h.2 i h1 h2
      · exact absurd h2 (by decide)
    · exact absurd h1 (by decide)
theorem Semi.drop {l : List Ce} (h : Semi l) (n : Nat) : Semi (l.drop n) := by
  refine ⟨fun i hi => ?_, fun i h1 h2 => ?_⟩
  · rw [List.length_drop] at hi
    rw [atC_drop]; exact h.1 (n + i) (by omega)
  · rw [atC_drop] at h1 h2 ⊢
    rw [atC_drop]
    have := h.2 (n + i) h1 (by rw [Nat.add_assoc]; exact h2)
    rwa [Nat.add_assoc] at this
theorem app_at (l m : List Ce) (i : Nat) : atC (l ++ m) i = if i < l.length then atC l i else atC m (i - l.length) := by
  by_cases h : i < l.length
  · rw [if_pos h, atC_append_left l m i h]
  · rw [if_neg h]
    have := atC_append_right l m (i - l.length)
    rwa [show l.length + (i - l.length) = i by omega] at this
theorem Right.append {l m : List Ce} (h : Right l) (k : Right m) : Right (l ++ m) := by
  refine ⟨fun i hi => ?_, fun i h1 => ?_, fun i h2 => ?_⟩
  · rw [List.length_append] at hi
    rw [app_at]
    split
    · rename_i q; exact h.1 i q
    · exact k.1 _ (by omega)
  · rw [app_at] at h1
    split at h1
    · have := h.2.1 i h1
      have hlt : i + 1 < l.length := part_lt (by rw [this.1]; decide)
      rename_i q
      rw [app_at, app_at, if_pos hlt, if_pos q]; exact this
    · rename_i q
      have := k.2.1 _ h1
      rw [app_at, app_at, if_neg (by omega), if_neg q]
      rwa [show i + 1 - l.length = i - l.length + 1 by omega]
  · rw [app_at] at h2
    split at h2
    · rename_i q
      have := h.2.2 i h2
      rw [app_at, if_pos (by omega)]; exact this
    · rename_i q
      have := k.2.2 _ h2
      rw [app_at, if_neg (by omega)]
      refine ⟨by omega, ?_⟩
      rw [show i - 1 - l.length = i - l.length - 1 by omega]; exact this.2
theorem rowL_at (n : Nat) (s : St) (i : Nat) (h : i < n) : atC (rowL n s) i = blankC s := by
  rw [atC_lt (by simp [rowL]; exact h)]; simp [rowL]
theorem rowL_right (n : Nat) (s : St) (hs : s.ok = true) : Right (rowL n s) := by
  have e : ∀ i, (atC (rowL n s) i).part = 0 := fun i => by
    by_cases h : i < n
    · rw [rowL_at n s i h]; rfl
    · rw [atC_ge (by simp [rowL]; omega)]; rfl
  refine ⟨fun i hi => ?_, fun i h1 => ?_, fun i h1 => ?_⟩
  · rw [rowL_at n s i (by simpa [rowL] using hi)]; exact c1_blank hs
  · rw [e] at h1; exact absurd h1 (by decide)
  · rw [e] at h1; exact absurd h1 (by decide)
end Go.Proofs.YteimcepkoclpbaaDoor
