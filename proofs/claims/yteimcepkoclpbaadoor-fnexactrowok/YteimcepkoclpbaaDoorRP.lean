/- The program's way with rows: cleared, pushed, pulled. Plain mathematics. -/
import Derived.Test.YteimcepkoclpbaaDoorRN
namespace Go.Proofs.YteimcepkoclpbaaDoor

/-- A wide rune that lies on both sides of a place is blank. -/
def partW (l : List Ce) (p : Nat) : List Ce := if (atC l p).part = 2 then fillUp l (p - 1) (p + 1) (atC l p).st else l
theorem partW_len (l : List Ce) (p : Nat) : (partW l p).length = l.length := by unfold partW; split; exact fillUp_len _ _ _ _; rfl
theorem Right.two {l : List Ce} (h : Right l) {p : Nat} (h2 : (atC l p).part = 2) : 0 < p ∧ p < l.length ∧ (atC l (p - 1)).part = 1 ∧ (atC l p).st = (atC l (p - 1)).st := by
  have := h.2.2 p h2
  have h3 := (h.2.1 (p - 1) this.2).2
  rw [show p - 1 + 1 = p by omega] at h3
  exact ⟨this.1, part_lt (by rw [h2]; decide), this.2, h3⟩
theorem partW_at {l : List Ce} (h : Right l) (p i : Nat) : atC (partW l p) i = if (atC l p).part = 2 ∧ (i + 1 = p ∨ i = p) then blankC (atC l i).st else atC l i := by
  unfold partW
  by_cases h2 : (atC l p).part = 2
  · obtain ⟨h0, hl, h1, hst⟩ := h.two h2
    rw [if_pos h2, fill_at _ _ _ _ _ (by omega)]
    by_cases e : i + 1 = p ∨ i = p
    · rw [if_pos (by omega), if_pos ⟨h2, e⟩]
      rcases e with e | e
      · rw [hst, show p - 1 = i by omega]
      · rw [e]
    · rw [if_neg (by omega), if_neg (fun q => e q.2)]
  · rw [if_neg h2, if_neg (fun q => h2 q.1)]
theorem partW_right {l : List Ce} (h : Right l) (p : Nat) : Right (partW l p) := by
  by_cases h2 : (atC l p).part = 2
  · obtain ⟨h0, hl, hp, hst⟩ := h.two h2
    have e := partW_at h p
    refine ⟨fun i hi => ?_, fun i h1 => ?_, fun i h1 => ?_⟩
    · rw [partW_len] at hi
      rw [e]
      split
      · exact c1_blank (h.1 i hi).1
      · exact h.1 i hi
    · rw [e] at h1
      split at h1
      · exact absurd h1 (by simp [blankC])
      · rename_i q
        have hq : ¬ (i + 1 = p ∨ i = p) := fun c => q ⟨h2, c⟩
        have := h.2.1 i h1
        have hn : ¬ ((atC l p).part = 2 ∧ (i + 1 + 1 = p ∨ i + 1 = p)) := by
          rintro ⟨_, c | c⟩
          · have e1 : p - 1 = i + 1 := by omega
            rw [e1] at hp; rw [hp] at this; exact absurd this.1 (by decide)
          · exact hq (.inl c)
        rw [e, e, if_neg hn, if_neg q]
        exact this
    · rw [e] at h1
      split at h1
      · exact absurd h1 (by simp [blankC])
      · rename_i q
        have hq : ¬ (i + 1 = p ∨ i = p) := fun c => q ⟨h2, c⟩
        have := h.2.2 i h1
        have hn : ¬ ((atC l p).part = 2 ∧ (i - 1 + 1 = p ∨ i - 1 = p)) := by
          rintro ⟨_, c | c⟩
          · exact hq (.inr (by omega))
          · rw [c] at this; rw [h2] at this; exact absurd this.2 (by decide)
        rw [e, if_neg hn]
        exact this
  · unfold partW; rw [if_neg h2]; exact h
/-- What is cleared by the program's way. -/
theorem clear_way {l : List Ce} (h : Right l) (a b : Nat) (s : St) (hab : a < b) (hb : b ≤ l.length) : fillUp (partW (partW l a) b) a b s = clearL l a b s := by
  refine ext_atC _ _ (by rw [fillUp_len, partW_len, partW_len, clearL_len]) fun i hi => ?_
  rw [fillUp_len, partW_len, partW_len] at hi
  rw [fill_at _ _ _ _ _ (by rw [partW_len, partW_len]; exact hb), clearL, mendV_all, mendC]
  by_cases hin : a ≤ i ∧ i < b
  · rw [if_pos hin]
    have : ¬ aloneB (fillUp l a b s) i = true := by
      rw [alone_iff, fill_at _ _ _ _ _ hb, if_pos hin]; simp [blankC]
    rw [if_neg this, fill_at _ _ _ _ _ hb, if_pos hin]
  · rw [if_neg hin, partW_at (partW_right h a), partW_at h a b, partW_at h a i]
    have hF := fun j => fill_at l a b s j hb
    have eb : ¬ ((atC l a).part = 2 ∧ (b + 1 = a ∨ b = a)) := by omega
    rw [if_neg eb]
    have hal : aloneB (fillUp l a b s) i = true ↔ (((atC l a).part = 2 ∧ i + 1 = a) ∨ ((atC l b).part = 2 ∧ i = b)) := by
      rw [alone_iff, hF i, if_neg hin]
      constructor
      · rintro (⟨q1, q2⟩ | ⟨q1, q2⟩)
        · left
          have := (h.2.1 i q1).1
          rw [hF] at q2
          by_cases c : a ≤ i + 1 ∧ i + 1 < b
          · have : i + 1 = a := by omega
            rw [← this]; exact ⟨(h.2.1 i q1).1, rfl⟩
          · rw [if_neg c] at q2; exact absurd this q2
        · right
          have := h.2.2 i q1
          rcases q2 with q2 | q2
          · omega
          · rw [hF] at q2
            by_cases c : a ≤ i - 1 ∧ i - 1 < b
            · have : i = b := by omega
              rw [← this]; exact ⟨q1, rfl⟩
            · rw [if_neg c] at q2; exact absurd this.2 q2
      · rintro (⟨q1, q2⟩ | ⟨q1, q2⟩)
        · left
          have := h.two q1
          have e : a - 1 = i := by omega
          rw [e] at this
          refine ⟨this.2.2.1, ?_⟩
          rw [hF, if_pos (by omega)]; simp [blankC]
        · right
          rw [q2]
          refine ⟨q1, .inr ?_⟩
          rw [hF, if_pos (by omega)]; simp [blankC]
    by_cases ha : (((atC l a).part = 2 ∧ i + 1 = a) ∨ ((atC l b).part = 2 ∧ i = b))
    · rw [if_pos (hal.2 ha), hF i, if_neg hin]
      rcases ha with ⟨q1, q2⟩ | ⟨q1, q2⟩
      · have c1 : ¬ ((atC l b).part = 2 ∧ (i + 1 = b ∨ i = b)) := by omega
        rw [if_neg c1, if_pos ⟨q1, .inl q2⟩]
      · have c1 : ¬ ((atC l a).part = 2 ∧ (i + 1 = a ∨ i = a)) := by omega
        rw [if_pos ⟨q1, .inr q2⟩, if_neg c1]
    · rw [if_neg (fun c => ha (hal.1 c)), hF i, if_neg hin]
      have c1 : ¬ ((atC l b).part = 2 ∧ (i + 1 = b ∨ i = b)) := by
        rintro ⟨q1, q2⟩
        apply ha; right; exact ⟨q1, by omega⟩
      have c2 : ¬ ((atC l a).part = 2 ∧ (i + 1 = a ∨ i = a)) := by
        rintro ⟨q1, q2⟩
        apply ha; left; exact ⟨q1, by omega⟩
      rw [if_neg c1, if_neg c2]
theorem clear_none {l : List Ce} (h : Right l) (a : Nat) (s : St) : clearL l a a s = l := by rw [clearL, fillUp_zero, h.mend]
/-- Cells moved within a row: n cells that stood at p stand at q. -/
def moveL (l : List Ce) (q p n : Nat) : List Ce := genL l.length fun i => if q ≤ i ∧ i < q + n then atC l (p + (i - q)) else atC l i
theorem moveL_len (l : List Ce) (q p n : Nat) : (moveL l q p n).length = l.length := genL_len _ _
theorem moveL_at (l : List Ce) (q p n i : Nat) (h : i < l.length) : atC (moveL l q p n) i = if q ≤ i ∧ i < q + n then atC l (p + (i - q)) else atC l i := genL_at _ _ _ h
/-- The two places at which a row is parted. -/
theorem partW2_at {l : List Ce} (h : Right l) (p q i : Nat) (hpq : p ≤ q) :
    atC (partW (partW l p) q) i = if ((atC l p).part = 2 ∧ (i + 1 = p ∨ i = p)) ∨ ((atC l q).part = 2 ∧ (i + 1 = q ∨ i = q)) then blankC (atC l i).st else atC l i := by
  have hq : (atC (partW l p) q).part = 2 ↔ (atC l q).part = 2 ∧ ¬ ((atC l p).part = 2 ∧ q = p) := by
    rw [partW_at h p q]
    by_cases c : (atC l p).part = 2 ∧ (q + 1 = p ∨ q = p)
    · rw [if_pos c]
      constructor
      · intro x; exact absurd x (by simp [blankC])
      · intro x; exact absurd ⟨c.1, by omega⟩ x.2
    · rw [if_neg c]
      constructor
      · intro x; exact ⟨x, fun y => c ⟨y.1, .inr y.2⟩⟩
      · intro x; exact x.1
  rw [partW_at (partW_right h p) q i, partW_at h p i]
  by_cases c2 : (atC (partW l p) q).part = 2 ∧ (i + 1 = q ∨ i = q)
  · have c3 : ((atC l p).part = 2 ∧ (i + 1 = p ∨ i = p)) ∨ ((atC l q).part = 2 ∧ (i + 1 = q ∨ i = q)) := .inr ⟨(hq.1 c2.1).1, c2.2⟩
    rw [if_pos c2, if_pos c3]
    split <;> rfl
  · rw [if_neg c2]
    by_cases c1 : (atC l p).part = 2 ∧ (i + 1 = p ∨ i = p)
    · rw [if_pos c1, if_pos (.inl c1)]
    · rw [if_neg c1, if_neg]
      rintro (x | x)
      · exact c1 x
      · apply c2
        refine ⟨hq.2 ⟨x.1, fun y => c1 ⟨y.1, ?_⟩⟩, x.2⟩
        have := x.2; have := y.2; omega
theorem mendT {l : List Ce} (h : Right l) (p i : Nat) (hi : i < p) : atC (mendV (l.take p)) i = if (atC l p).part = 2 ∧ i + 1 = p then blankC (atC l i).st else atC l i := by
  have ht : ∀ j, atC (l.take p) j = if j < p then atC l j else Ce.zero := fun j => by
    by_cases hj : j < p
    · rw [if_pos hj, atC_take l p j hj]
    · rw [if_neg hj, atC_ge (by rw [List.length_take]; omega)]
  rw [mendV_all, mendC, ht i, if_pos hi]
  have hal : aloneB (l.take p) i = true ↔ (atC l p).part = 2 ∧ i + 1 = p := by
    rw [alone_iff, ht i, if_pos hi]
    constructor
    · rintro (⟨q1, q2⟩ | ⟨q1, q2⟩)
      · have := h.2.1 i q1
        rw [ht] at q2
        by_cases c : i + 1 < p
        · rw [if_pos c] at q2; exact absurd this.1 q2
        · have e : i + 1 = p := by omega
          rw [← e]; exact ⟨this.1, rfl⟩
      · have := h.2.2 i q1
        rcases q2 with q2 | q2
        · omega
        · rw [ht, if_pos (by omega)] at q2; exact absurd this.2 q2
    · rintro ⟨q1, q2⟩
      left
      have := h.two q1
      rw [show p - 1 = i by omega] at this
      refine ⟨this.2.2.1, ?_⟩
      rw [ht, if_neg (by omega)]; decide
  by_cases c : (atC l p).part = 2 ∧ i + 1 = p
  · rw [if_pos c, if_pos (hal.2 c)]
  · rw [if_neg c, if_neg (fun x => c (hal.1 x))]
theorem mendD {l : List Ce} (h : Right l) (p i : Nat) : atC (mendV (l.drop p)) i = if (atC l p).part = 2 ∧ i = 0 then blankC (atC l p).st else atC l (p + i) := by
  rw [mendV_all, mendC, atC_drop]
  have hal : aloneB (l.drop p) i = true ↔ (atC l p).part = 2 ∧ i = 0 := by
    rw [alone_iff, atC_drop, atC_drop]
    constructor
    · rintro (⟨q1, q2⟩ | ⟨q1, q2⟩)
      · have := h.2.1 (p + i) q1
        rw [Nat.add_assoc] at this; exact absurd this.1 q2
      · have := h.2.2 (p + i) q1
        rcases q2 with q2 | q2
        · subst q2; exact ⟨q1, rfl⟩
        · by_cases c : i = 0
          · subst c; exact ⟨q1, rfl⟩
          · rw [atC_drop, show p + (i - 1) = p + i - 1 by omega] at q2; exact absurd this.2 q2
    · rintro ⟨q1, q2⟩
      subst q2
      exact .inr ⟨q1, .inl rfl⟩
  by_cases c : (atC l p).part = 2 ∧ i = 0
  · rw [if_pos c, if_pos (hal.2 c), c.2, Nat.add_zero]
  · rw [if_neg c, if_neg (fun x => c (hal.1 x))]
theorem rowL_len (n : Nat) (s : St) : (rowL n s).length = n := by simp [rowL]
/-- What is pushed and pulled, as numbers. -/
def pushV (xs : List Ce) (p n : Nat) (s : St) : List Ce := if n = 0 then xs else mendV ((mendV (xs.take p) ++ rowL n s ++ mendV (xs.drop p)).take xs.length)
def pullV (xs : List Ce) (p n : Nat) (s : St) : List Ce := if min n (xs.length - p) = 0 then xs else mendV (xs.take p) ++ mendV (xs.drop (p + min n (xs.length - p))) ++ rowL (min n (xs.length - p)) s
theorem three_at {l : List Ce} (h : Right l) (p m : Nat) (s : St) (hp : p ≤ l.length) (i : Nat) :
    atC (mendV (l.take p) ++ rowL m s ++ mendV (l.drop p)) i =
      if i < p then (if (atC l p).part = 2 ∧ i + 1 = p then blankC (atC l i).st else atC l i)
      else if i < p + m then blankC s else (if (atC l p).part = 2 ∧ i = p + m then blankC (atC l p).st else atC l (i - m)) := by
  have h1 : (mendV (l.take p)).length = p := by rw [mendV_len, List.length_take]; omega
  rw [app_at, app_at, List.length_append, h1, rowL_len]
  by_cases c1 : i < p
  · rw [if_pos c1, if_pos (by omega), if_pos c1, mendT h p i c1]
  · rw [if_neg c1, if_neg c1]
    by_cases c2 : i < p + m
    · rw [if_pos c2, if_pos c2, rowL_at _ _ _ (by omega)]
    · rw [if_neg c2, if_neg c2, mendD h p]
      by_cases c3 : (atC l p).part = 2 ∧ i = p + m
      · rw [if_pos c3, if_pos ⟨c3.1, by omega⟩]
      · rw [if_neg c3, if_neg (fun x => c3 ⟨x.1, by omega⟩), show p + (i - (p + m)) = i - m by omega]
theorem three_right {l : List Ce} (h : Right l) (p m : Nat) (s : St) (hs : s.ok = true) : Right (mendV (l.take p) ++ rowL m s ++ mendV (l.drop p)) :=
  ((h.semi.take p).mend.append (rowL_right m s hs)).append (h.semi.drop p).mend
theorem pushV_right {l : List Ce} (h : Right l) (p n : Nat) (s : St) (hs : s.ok = true) : Right (pushV l p n s) := by
  unfold pushV
  split
  · exact h
  · exact ((three_right h p n s hs).semi.take _).mend
theorem pushV_len (l : List Ce) (p n : Nat) (s : St) : (pushV l p n s).length = l.length := by
  unfold pushV
  split
  · rfl
  · rw [mendV_len, List.length_take, List.length_append, List.length_append, mendV_len, mendV_len, rowL_len, List.length_take, List.length_drop]; omega
theorem pullV_right {l : List Ce} (h : Right l) (p n : Nat) (s : St) (hs : s.ok = true) : Right (pullV l p n s) := by
  unfold pullV
  split
  · exact h
  · exact ((h.semi.take p).mend.append (h.semi.drop _).mend).append (rowL_right _ s hs)
theorem pullV_len (l : List Ce) (p n : Nat) (s : St) (hp : p ≤ l.length) : (pullV l p n s).length = l.length := by
  unfold pullV
  split
  · rfl
  · rw [List.length_append, List.length_append, mendV_len, mendV_len, rowL_len, List.length_take, List.length_drop]; omega
theorem pushV_at {l : List Ce} (h : Right l) (p n : Nat) (s : St) (hs : s.ok = true) (hp : p < l.length) (hn : n ≠ 0) (i : Nat) (hi : i < l.length) :
    atC (pushV l p n s) i =
      if i < p then (if (atC l p).part = 2 ∧ i + 1 = p then blankC (atC l i).st else atC l i)
      else if i < p + n then blankC s
      else (if ((atC l p).part = 2 ∧ i = p + n) ∨ ((atC l (i - n)).part = 1 ∧ i + 1 = l.length) then blankC (atC l (i - n)).st else atC l (i - n)) := by
  have hR := three_right h p n s hs
  have hA := fun j => three_at h p n s (by omega : p ≤ l.length) j
  unfold pushV
  rw [if_neg hn]
  generalize mendV (l.take p) ++ rowL n s ++ mendV (l.drop p) = Z at *
  rw [mendT hR l.length i hi, hA i]
  by_cases c1 : i < p
  · rw [if_pos c1, if_pos c1]
    have : ¬ ((atC Z l.length).part = 2 ∧ i + 1 = l.length) := by omega
    rw [if_neg this]
  · rw [if_neg c1, if_neg c1]
    by_cases c2 : i < p + n
    · rw [if_pos c2, if_pos c2]
      have : ¬ ((atC Z l.length).part = 2 ∧ i + 1 = l.length) := by
        rintro ⟨q1, q2⟩
        have := hR.two q1
        rw [show l.length - 1 = i by omega, hA i, if_neg c1, if_pos c2] at this
        exact absurd this.2.2.1 (by simp [blankC])
      rw [if_neg this]
    · rw [if_neg c2, if_neg c2]
      have e : (atC Z l.length).part = 2 ∧ i + 1 = l.length ↔ (atC l (i - n)).part = 1 ∧ i + 1 = l.length ∧ ¬ ((atC l p).part = 2 ∧ i = p + n) := by
        constructor
        · rintro ⟨q1, q2⟩
          have := hR.two q1
          rw [show l.length - 1 = i by omega, hA i, if_neg c1, if_neg c2] at this
          by_cases c3 : (atC l p).part = 2 ∧ i = p + n
          · rw [if_pos c3] at this; exact absurd this.2.2.1 (by simp [blankC])
          · rw [if_neg c3] at this; exact ⟨this.2.2.1, q2, c3⟩
        · rintro ⟨q1, q2, q3⟩
          have : (atC Z i).part = 1 := by rw [hA i, if_neg c1, if_neg c2, if_neg q3]; exact q1
          have := hR.2.1 i this
          rw [q2] at this; exact ⟨this.1, q2⟩
      by_cases c3 : (atC l p).part = 2 ∧ i = p + n
      · have e2 : ¬ ((atC Z l.length).part = 2 ∧ i + 1 = l.length) := fun x => (e.1 x).2.2 c3
        rw [if_neg e2, if_pos c3, if_pos (.inl c3), show i - n = p by omega]
      · by_cases c4 : (atC l (i - n)).part = 1 ∧ i + 1 = l.length
        · have c5 : ((atC l p).part = 2 ∧ i = p + n) ∨ ((atC l (i - n)).part = 1 ∧ i + 1 = l.length) := .inr c4
          rw [if_pos (e.2 ⟨c4.1, c4.2, c3⟩), if_pos c5, if_neg c3]
        · have e2 : ¬ ((atC Z l.length).part = 2 ∧ i + 1 = l.length) := fun x => c4 ⟨(e.1 x).1, (e.1 x).2.1⟩
          rw [if_neg e2, if_neg c3, if_neg (by rintro (x | x); exact c3 x; exact c4 x)]
/-- Pushed by the program's way: m cells, at most what is there. -/
theorem push_way {l : List Ce} (h : Right l) (p n m : Nat) (s : St) (hs : s.ok = true) (hp : p < l.length) (hn : n ≠ 0) (hm : m = min n (l.length - p)) :
    fillUp (moveL (partW (partW l p) (l.length - m)) (p + m) p (l.length - m - p)) p (p + m) s = pushV l p n s := by
  refine ext_atC _ _ (by rw [fillUp_len, moveL_len, partW_len, partW_len, pushV_len]) fun i hi => ?_
  rw [fillUp_len, moveL_len, partW_len, partW_len] at hi
  have hQ : ∀ j, atC (partW (partW l p) (l.length - m)) j = _ := fun j => partW2_at h p (l.length - m) j (by omega)
  have hQl : (partW (partW l p) (l.length - m)).length = l.length := by rw [partW_len, partW_len]
  rw [fill_at _ _ _ _ _ (by rw [moveL_len, hQl]; omega), pushV_at h p n s hs hp hn i hi]
  by_cases c1 : i < p
  · rw [if_neg (by omega), if_pos c1, moveL_at _ _ _ _ _ (by rw [hQl]; exact hi), if_neg (by omega), hQ i]
    by_cases c2 : (atC l p).part = 2 ∧ i + 1 = p
    · rw [if_pos c2, if_pos (.inl ⟨c2.1, .inl c2.2⟩)]
    · have : ¬ (((atC l p).part = 2 ∧ (i + 1 = p ∨ i = p)) ∨ ((atC l (l.length - m)).part = 2 ∧ (i + 1 = l.length - m ∨ i = l.length - m))) := by
        rintro (⟨x, y⟩ | ⟨x, y⟩)
        · exact c2 ⟨x, by omega⟩
        · have e : l.length - m = p := by omega
          rw [e] at x; exact c2 ⟨x, by omega⟩
      rw [if_neg c2, if_neg this]
  · rw [if_neg c1]
    by_cases c2 : i < p + n
    · by_cases c3 : i < p + m
      · rw [if_pos ⟨by omega, c3⟩, if_pos c2]
      · omega
    · rw [if_neg c2, if_neg (by omega), moveL_at _ _ _ _ _ (by rw [hQl]; exact hi), if_pos (by omega), hQ]
      have em : m = n := by omega
      subst em
      have e1 : p + (i - (p + m)) = i - m := by omega
      rw [e1]
      have e2 : (((atC l p).part = 2 ∧ (i - m + 1 = p ∨ i - m = p)) ∨ ((atC l (l.length - m)).part = 2 ∧ (i - m + 1 = l.length - m ∨ i - m = l.length - m))) ↔ (((atC l p).part = 2 ∧ i = p + m) ∨ ((atC l (i - m)).part = 1 ∧ i + 1 = l.length)) := by
        constructor
        · rintro (⟨x, y⟩ | ⟨x, y⟩)
          · left; exact ⟨x, by omega⟩
          · right
            have e3 : i - m + 1 = l.length - m := by omega
            have := h.two x
            rw [show l.length - m - 1 = i - m by omega] at this
            exact ⟨this.2.2.1, by omega⟩
        · rintro (⟨x, y⟩ | ⟨x, y⟩)
          · left; exact ⟨x, by omega⟩
          · right
            have := h.2.1 _ x
            rw [show i - m + 1 = l.length - m by omega] at this
            exact ⟨this.1, by omega⟩
      by_cases c4 : ((atC l p).part = 2 ∧ i = p + m) ∨ ((atC l (i - m)).part = 1 ∧ i + 1 = l.length)
      · rw [if_pos c4, if_pos (e2.2 c4)]
      · rw [if_neg c4, if_neg (fun x => c4 (e2.1 x))]
theorem pullV_at {l : List Ce} (h : Right l) (p n m : Nat) (s : St) (hp : p < l.length) (hn : n ≠ 0) (hm : m = min n (l.length - p)) (i : Nat) (hi : i < l.length) :
    atC (pullV l p n s) i =
      if i < p then (if (atC l p).part = 2 ∧ i + 1 = p then blankC (atC l i).st else atC l i)
      else if i < l.length - m then (if (atC l (p + m)).part = 2 ∧ i = p then blankC (atC l (p + m)).st else atC l (i + m))
      else blankC s := by
  unfold pullV
  rw [← hm, if_neg (by omega)]
  have h1 : (mendV (l.take p)).length = p := by rw [mendV_len, List.length_take]; omega
  have h2 : (mendV (l.drop (p + m))).length = l.length - (p + m) := by rw [mendV_len, List.length_drop]
  rw [app_at, app_at, List.length_append, h1, h2]
  by_cases c1 : i < p
  · rw [if_pos c1, if_pos (by omega), if_pos c1, mendT h p i c1]
  · rw [if_neg c1, if_neg c1]
    by_cases c2 : i < l.length - m
    · rw [if_pos c2, if_pos (by omega), mendD h (p + m)]
      by_cases c3 : (atC l (p + m)).part = 2 ∧ i = p
      · rw [if_pos c3, if_pos ⟨c3.1, by omega⟩]
      · rw [if_neg c3, if_neg (fun x => c3 ⟨x.1, by omega⟩), show p + m + (i - p) = i + m by omega]
    · rw [if_neg c2, if_neg (by omega), rowL_at _ _ _ (by omega)]
theorem pull_way {l : List Ce} (h : Right l) (p n m : Nat) (s : St) (hp : p < l.length) (hn : n ≠ 0) (hm : m = min n (l.length - p)) :
    fillUp (moveL (partW (partW l p) (p + m)) p (p + m) (l.length - m - p)) (l.length - m) l.length s = pullV l p n s := by
  refine ext_atC _ _ (by rw [fillUp_len, moveL_len, partW_len, partW_len, pullV_len l p n s (by omega)]) fun i hi => ?_
  rw [fillUp_len, moveL_len, partW_len, partW_len] at hi
  have hQ : ∀ j, atC (partW (partW l p) (p + m)) j = _ := fun j => partW2_at h p (p + m) j (by omega)
  have hQl : (partW (partW l p) (p + m)).length = l.length := by rw [partW_len, partW_len]
  rw [fill_at _ _ _ _ _ (by rw [moveL_len, hQl]; exact Nat.le_refl _), pullV_at h p n m s hp hn hm i hi]
  by_cases c1 : i < p
  · rw [if_neg (by omega), if_pos c1, moveL_at _ _ _ _ _ (by rw [hQl]; exact hi), if_neg (by omega), hQ i]
    by_cases c2 : (atC l p).part = 2 ∧ i + 1 = p
    · rw [if_pos c2, if_pos (.inl ⟨c2.1, .inl c2.2⟩)]
    · have : ¬ (((atC l p).part = 2 ∧ (i + 1 = p ∨ i = p)) ∨ ((atC l (p + m)).part = 2 ∧ (i + 1 = p + m ∨ i = p + m))) := by
        rintro (⟨x, y⟩ | ⟨x, y⟩)
        · exact c2 ⟨x, by omega⟩
        · omega
      rw [if_neg c2, if_neg this]
  · rw [if_neg c1]
    by_cases c2 : i < l.length - m
    · rw [if_pos c2, if_neg (by omega), moveL_at _ _ _ _ _ (by rw [hQl]; exact hi), if_pos (by omega), hQ]
      have e1 : p + m + (i - p) = i + m := by omega
      rw [e1]
      by_cases c3 : (atC l (p + m)).part = 2 ∧ i = p
      · rw [if_pos c3, if_pos (.inr ⟨c3.1, .inr (by omega)⟩), c3.2]
      · have : ¬ (((atC l p).part = 2 ∧ (i + m + 1 = p ∨ i + m = p)) ∨ ((atC l (p + m)).part = 2 ∧ (i + m + 1 = p + m ∨ i + m = p + m))) := by
          rintro (⟨x, y⟩ | ⟨x, y⟩)
          · omega
          · exact c3 ⟨x, by omega⟩
        rw [if_neg c3, if_neg this]
    · rw [if_neg c2, if_pos (by omega)]
end Go.Proofs.YteimcepkoclpbaaDoor
