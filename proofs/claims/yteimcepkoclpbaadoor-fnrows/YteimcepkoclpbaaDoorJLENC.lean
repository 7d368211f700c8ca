/- How long the answers on rows are at most. What written, cleared and blank rows are to the law of rows. Plain mathematics. -/
import Derived.Test.YteimcepkoclpbaaDoorJRC5
import Derived.Test.YteimcepkoclpbaaDoorJRM
import Derived.Test.YteimcepkoclpbaaDoorRK8
import Derived.Test.YteimcepkoclpbaaDoorJRC0
import Derived.Test.YteimcepkoclpbaaDoorRC9
namespace Go.Proofs.YteimcepkoclpbaaDoor

theorem clearedV_len (xs : List Ce) (f t : Int) (s : St) : (clearedV xs f t s).length ≤ 60 := by
  unfold clearedV
  split
  · rename_i h; rw [clearL_len]; exact ((right_iff xs).1 h.1).1.2
  · simp
theorem writtenV_len (xs : List Ce) (p r : Int) (s : St) : (writtenV xs p r s).length ≤ 60 := by
  unfold writtenV
  split
  · rename_i h; rw [writeL_len]; exact ((right_iff xs).1 h.1).1.2
  · simp
end Go.Proofs.YteimcepkoclpbaaDoor
namespace Go.Proofs.YteimcepkoclpbaaDoor

theorem blankV_yes (n : Int) (s : St) : blankV n s = [] ∨ (0 < (blankV n s).length ∧ (blankV n s).length ≤ 60 ∧ rowOkB (blankV n s) = true ∧ rowTextV (blankV n s) = ⟨#[]⟩) := by
  unfold blankV
  by_cases h : 1 ≤ n ∧ n ≤ 60 ∧ s.ok = true
  · right
    rw [if_pos h]
    have hok : rowOkB (rowL n.toNat s) = true := (right_iff _).2 ⟨by rw [rowL_len]; omega, rowL_right _ s h.2.2⟩
    refine ⟨by rw [rowL_len]; omega, by rw [rowL_len]; omega, hok, ?_⟩
    have ht : ∀ k, k ≤ n.toNat → trimN (rowL n.toNat s) k = 0 := by
      intro k
      induction k with
      | zero => intro _; rfl
      | succ k ih =>
        intro hk
        rw [trimN, rowL_at _ _ _ (by omega), if_pos (show (blankC s).rune = 32 from rfl)]
        exact ih (by omega)
    unfold rowTextV rowRunes
    rw [if_pos hok, rowL_len, ht _ (Nat.le_refl _)]
    rfl
  · left; rw [if_neg h]
theorem clear_out {l : List Ce} (h : Right l) (a b : Nat) (s : St) (hb : b ≤ l.length) (i : Nat) (hi : i + 1 < a ∨ b < i) : atC (clearL l a b s) i = atC l i := by
  have hF := fun j => fill_at l a b s j hb
  rw [clearL, mendV_all, mendC]
  have : ¬ aloneB (fillUp l a b s) i = true := by
    rw [alone_iff, hF i, if_neg (by omega)]
    rintro (⟨q1, q2⟩ | ⟨q1, q2⟩)
    · rw [hF, if_neg (by omega)] at q2
      exact q2 (h.2.1 i q1).1
    · have := h.2.2 i q1
      rcases q2 with q2 | q2
      · omega
      · rw [hF, if_neg (by omega)] at q2
        exact q2 this.2
  rw [if_neg this, hF i, if_neg (by omega)]
theorem clear_again {l : List Ce} (h : Right l) (a b : Nat) (s : St) (hs : s.ok = true) (hb : b ≤ l.length) : clearL (clearL l a b s) a b s = clearL l a b s := by
  have hR := clearL_right h a b s hs hb
  have hl := clearL_len l a b s
  have e : fillUp (clearL l a b s) a b s = clearL l a b s := ext_atC _ _ (fillUp_len _ _ _ _) fun i hi => by
    rw [fill_at _ _ _ _ _ (by omega)]
    by_cases c : a ≤ i ∧ i < b
    · rw [if_pos c, clear_in a b s hb i c.1 c.2]
    · rw [if_neg c]
  rw [clearL, e, hR.mend]
theorem clearedV_yes (M : List Ce) (f t : Int) (s : St) : clearedV M f t s = [] ∨
    ∃ a c : Nat, f = a ∧ t = c ∧ a ≤ c ∧ c ≤ M.length ∧ 1 ≤ M.length ∧ M.length ≤ 60 ∧ (clearedV M f t s).length = M.length ∧ rowOkB (clearedV M f t s) = true ∧ (∀ i, a ≤ i → i < c → atC (clearedV M f t s) i = blankC s) ∧ clearedV (clearedV M f t s) a c s = clearedV M f t s := by
  by_cases h : rowOkB M = true ∧ s.ok = true ∧ (0 ≤ f ∧ f ≤ t) ∧ t ≤ M.length
  · right
    obtain ⟨hl, hR⟩ := (right_iff M).1 h.1
    have e : clearedV M f t s = clearL M f.toNat t.toNat s := by unfold clearedV; rw [if_pos h]
    have hc : t.toNat ≤ M.length := by omega
    have hY := clearL_right hR f.toNat t.toNat s h.2.1 hc
    have hYl := clearL_len M f.toNat t.toNat s
    have hYok : rowOkB (clearL M f.toNat t.toNat s) = true := (right_iff _).2 ⟨by omega, hY⟩
    rw [e]
    refine ⟨f.toNat, t.toNat, by omega, by omega, by omega, hc, hl.1, hl.2, hYl, hYok, fun i h1 h2 => clear_in _ _ s hc i h1 h2, ?_⟩
    unfold clearedV
    rw [if_pos ⟨hYok, h.2.1, by omega, by omega⟩]
    exact clear_again hR _ _ s h.2.1 hc
  · left; unfold clearedV; rw [if_neg h]
theorem writeL_at (L : List Ce) (q : Nat) (r : Int) (s : St) (hw : widthV r ≠ 0) (hq : q + (widthV r).toNat ≤ L.length) (i : Nat) :
    atC (writeL L q r s) i = if widthV r = 2 ∧ i = q + 1 then ⟨0, s, 2⟩ else if i = q then ⟨r, s, widthV r - 1⟩ else atC (clearL L q (q + (widthV r).toNat) s) i := by
  have hb := widthV_bd r
  have hl := clearL_len L q (q + (widthV r).toNat) s
  unfold writeL
  by_cases h2 : widthV r = 2
  · rw [if_pos h2, atC_set, List.length_set, hl, atC_set, hl]
    by_cases c : i = q + 1
    · have hlt : q + 1 < L.length := by omega
      simp [h2, c, hlt]
    · by_cases d : i = q
      · have hlt : q < L.length := by omega
        simp [h2, d, hlt]
      · simp [c, d]
  · rw [if_neg h2, atC_set, hl]
    by_cases d : i = q
    · have hlt : q < L.length := by omega
      simp [h2, d, hlt]
    · simp [h2, d]
theorem writeL_right {L : List Ce} (hR : Right L) (q : Nat) (r : Int) (s : St) (hs : s.ok = true) (hw : widthV r ≠ 0) (hq : q + (widthV r).toNat ≤ L.length) : Right (writeL L q r s) := by
  have hb := widthV_bd r
  have hC := clearL_right hR q (q + (widthV r).toNat) s hs hq
  have hCl := clearL_len L q (q + (widthV r).toNat) s
  have hin := fun i h1 h2 => clear_in (l := L) q (q + (widthV r).toNat) s hq i h1 h2
  have hat := fun i => writeL_at L q r s hw hq i
  have hlen := writeL_len L q r s
  have h0 := hin q (Nat.le_refl _) (by omega)
  generalize clearL L q (q + (widthV r).toNat) s = C at *
  refine ⟨fun i hi => ?_, fun i h1 => ?_, fun i h2 => ?_⟩
  · rw [hat i]
    split
    · exact ⟨hs, .inr (.inr ⟨rfl, rfl⟩)⟩
    · split
      · rename_i h2 hi
        refine ⟨hs, ?_⟩
        by_cases e : widthV r = 2
        · exact .inr (.inl ⟨by show widthV r - 1 = 1; omega, e⟩)
        · exact .inl ⟨by show widthV r - 1 = 0; omega, by show widthV r = 1; omega⟩
      · exact hC.1 i (by omega)
  · rw [hat i] at h1
    split at h1
    · exact absurd h1 (by simp)
    · rename_i n1
      split at h1
      · rename_i e
        have hw2 : widthV r = 2 := by have : widthV r - 1 = 1 := h1; omega
        rw [hat (i + 1), if_pos ⟨hw2, by omega⟩, hat i, if_neg n1, if_pos e]
        exact ⟨rfl, rfl⟩
      · rename_i n2
        have h3 := hC.2.1 i h1
        have n3 : ¬ (i + 1 = q) := fun e => by rw [e, h0] at h3; exact absurd h3.1 (by simp [blankC])
        have n4 : ¬ (widthV r = 2 ∧ i + 1 = q + 1) := fun e => n2 (by omega)
        rw [hat (i + 1), if_neg n4, if_neg n3, hat i, if_neg n1, if_neg n2]
        exact h3
  · rw [hat i] at h2
    split at h2
    · rename_i e
      have n1 : ¬ (widthV r = 2 ∧ i - 1 = q + 1) := by omega
      refine ⟨by omega, ?_⟩
      rw [hat (i - 1), if_neg n1, if_pos (by omega)]
      show widthV r - 1 = 1
      omega
    · rename_i n1
      split at h2
      · exfalso
        have : widthV r - 1 = 2 := h2
        omega
      · rename_i n2
        have h3 := hC.2.2 i h2
        have n3 : ¬ (i - 1 = q) := fun e => by rw [e, h0] at h3; exact absurd h3.2 (by simp [blankC])
        have n4 : ¬ (widthV r = 2 ∧ i - 1 = q + 1) := fun e => by
          have := hin (q + 1) (by omega) (by omega)
          rw [e.2, this] at h3; exact absurd h3.2 (by simp [blankC])
        rw [hat (i - 1), if_neg n4, if_neg n3]
        exact h3
theorem write_again {L : List Ce} (hR : Right L) (q : Nat) (r : Int) (s : St) (hs : s.ok = true) (hw : widthV r ≠ 0) (hq : q + (widthV r).toNat ≤ L.length) : writeL (writeL L q r s) q r s = writeL L q r s := by
  have hb := widthV_bd r
  have hX := writeL_right hR q r s hs hw hq
  have hXl := writeL_len L q r s
  have hat := fun i => writeL_at L q r s hw hq i
  have hat2 := fun i => writeL_at (writeL L q r s) q r s hw (by omega) i
  have hq0 : (atC (writeL L q r s) q) = ⟨r, s, widthV r - 1⟩ := by rw [hat q, if_neg (by omega), if_pos rfl]
  have hq1 : widthV r = 2 → (atC (writeL L q r s) (q + 1)) = ⟨0, s, 2⟩ := fun h => by rw [hat (q + 1), if_pos ⟨h, rfl⟩]
  have hl2 := writeL_len (writeL L q r s) q r s
  generalize writeL L q r s = X at *
  refine ext_atC _ _ hl2 fun i hi => ?_
  rw [hat2 i]
  by_cases c1 : widthV r = 2 ∧ i = q + 1
  · rw [if_pos c1, c1.2, hq1 c1.1]
  · rw [if_neg c1]
    by_cases c2 : i = q
    · rw [if_pos c2, c2, hq0]
    · rw [if_neg c2]
      have hF := fun j => fill_at X q (q + (widthV r).toNat) s j (by omega)
      have hni : ¬ (q ≤ i ∧ i < q + (widthV r).toNat) := by omega
      rw [clearL, mendV_all, mendC]
      have : ¬ aloneB (fillUp X q (q + (widthV r).toNat) s) i = true := by
        rw [alone_iff, hF i, if_neg hni]
        rintro (⟨q1, q2⟩ | ⟨q1, q2⟩)
        · have h3 := hX.2.1 i q1
          by_cases c : q ≤ i + 1 ∧ i + 1 < q + (widthV r).toNat
          · have e : i + 1 = q := by omega
            rw [e, hq0] at h3
            have : widthV r - 1 = 2 := h3.1
            omega
          · rw [hF, if_neg c] at q2; exact q2 h3.1
        · have h3 := hX.2.2 i q1
          rcases q2 with q2 | q2
          · omega
          · by_cases c : q ≤ i - 1 ∧ i - 1 < q + (widthV r).toNat
            · by_cases e2 : widthV r = 2
              · have e : i - 1 = q + 1 := by omega
                rw [e, hq1 e2] at h3
                exact absurd h3.2 (by simp)
              · have e : i - 1 = q := by omega
                rw [e, hq0] at h3
                have : widthV r - 1 = 1 := h3.2
                omega
            · rw [hF, if_neg c] at q2; exact q2 h3.2
      rw [if_neg this, hF i, if_neg hni]
theorem writtenV_yes (L : List Ce) (p r : Int) (s : St) : writtenV L p r s = [] ∨
    ∃ q : Nat, p = q ∧ widthV r ≠ 0 ∧ q + (widthV r).toNat ≤ L.length ∧ 1 ≤ L.length ∧ L.length ≤ 60 ∧ (writtenV L p r s).length = L.length ∧ rowOkB (writtenV L p r s) = true ∧ (atC (writtenV L p r s) q).rune = r ∧ (atC (writtenV L p r s) q).st = s ∧
      (∀ i, (i + 1 < q ∨ q + (widthV r).toNat < i) → atC (writtenV L p r s) i = atC L i) ∧ writtenV (writtenV L p r s) q r s = writtenV L p r s := by
  have hb := widthV_bd r
  by_cases h : rowOkB L = true ∧ widthV r ≠ 0 ∧ (0 ≤ p ∧ p ≤ L.length - widthV r) ∧ s.ok = true
  · right
    obtain ⟨hl, hR⟩ := (right_iff L).1 h.1
    have e : writtenV L p r s = writeL L p.toNat r s := by unfold writtenV; rw [if_pos h]
    have hq : p.toNat + (widthV r).toNat ≤ L.length := by omega
    have hX := writeL_right hR p.toNat r s h.2.2.2 h.2.1 hq
    have hXl := writeL_len L p.toNat r s
    have hXok : rowOkB (writeL L p.toNat r s) = true := (right_iff _).2 ⟨by omega, hX⟩
    have hat := fun i => writeL_at L p.toNat r s h.2.1 hq i
    rw [e]
    refine ⟨p.toNat, by omega, h.2.1, hq, hl.1, hl.2, hXl, hXok, ?_, ?_, fun i hi => ?_, ?_⟩
    · rw [hat, if_neg (by omega), if_pos rfl]
    · rw [hat, if_neg (by omega), if_pos rfl]
    · rw [hat, if_neg (by omega), if_neg (by omega)]
      exact clear_out hR _ _ s hq i (by omega)
    · unfold writtenV
      rw [if_pos ⟨hXok, h.2.1, by omega, h.2.2.2⟩]
      exact write_again hR _ r s h.2.2.2 h.2.1 hq
  · left; unfold writtenV; rw [if_neg h]
end Go.Proofs.YteimcepkoclpbaaDoor
