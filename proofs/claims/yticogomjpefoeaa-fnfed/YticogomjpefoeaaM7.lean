/- Where a right text may be cut. Plain mathematics. -/
import Derived.Test.YticogomjpefoeaaText
import Derived.Test.YticogomjpefoeaaM4
namespace Go.Proofs.Yticogomjpefoeaa

def stB (x : Int) : Bool := decide (x < 128) || decide (192 ≤ x)
theorem put_starts (r : Int) (h : runeOk r = true) : ∃ b0 t, putL r = b0 :: t ∧ stB b0 = true ∧ ∀ x ∈ t, stB x = false := by
  have hb := runeOk_bd r h
  unfold putL
  by_cases h1 : r < 128
  · rw [if_pos h1]; exact ⟨r, [], rfl, by simp [stB, h1], by simp⟩
  · rw [if_neg h1]
    by_cases h2 : r < 2048
    · rw [if_pos h2]; refine ⟨_, _, rfl, by simp [stB]; omega, ?_⟩
      intro x hx; simp at hx; subst hx; simp [stB]; omega
    · rw [if_neg h2]
      by_cases h3 : r < 65536
      · rw [if_pos h3]; refine ⟨_, _, rfl, by simp [stB]; omega, ?_⟩
        intro x hx; simp at hx; rcases hx with rfl | rfl <;> (simp [stB]; omega)
      · rw [if_neg h3]; refine ⟨_, _, rfl, by simp [stB]; omega, ?_⟩
        intro x hx; simp at hx; rcases hx with rfl | rfl | rfl <;> (simp [stB]; omega)
theorem count_put (r : Int) (h : runeOk r = true) : (putL r).countP stB = 1 := by
  obtain ⟨b0, t, e, h1, h2⟩ := put_starts r h
  rw [e, List.countP_cons, h1, List.countP_eq_zero.2 (by intro x hx; rw [h2 x hx]; decide)]; rfl
theorem textL_cons (r : Int) (l : List Int) : textL (r :: l) = putL (okR r) ++ textL l := by simp [textL]
theorem count_text : ∀ l : List Int, (textL l).countP stB = l.length := by
  intro l
  induction l with
  | nil => simp [textL]
  | cons r l ih => rw [textL_cons, List.countP_append, count_put _ (okR_ok r), ih, List.length_cons]; omega
/-- A place at which a byte starts is a place between two runes. -/
theorem cut_at : ∀ (l : List Int) (i : Nat) (x : Int), (textL l)[i]? = some x → stB x = true → ∃ k, k ≤ l.length ∧ (textL l).take i = textL (l.take k) ∧ (textL l).drop i = textL (l.drop k) := by
  intro l
  induction l with
  | nil => intro i x h; simp [textL] at h
  | cons r l ih =>
    intro i x h hx
    obtain ⟨b0, t, e, h1, h2⟩ := put_starts (okR r) (okR_ok r)
    by_cases h0 : i = 0
    · subst h0; exact ⟨0, Nat.zero_le _, by simp [textL], by simp⟩
    · rw [textL_cons] at h ⊢
      by_cases hi : i < (putL (okR r)).length
      · rw [List.getElem?_append_left hi, e] at h
        obtain ⟨j, rfl⟩ : ∃ j, i = j + 1 := ⟨i - 1, by omega⟩
        rw [List.getElem?_cons_succ] at h
        have := h2 x (List.mem_of_getElem? h)
        rw [hx] at this; exact absurd this (by decide)
      · rw [List.getElem?_append_right (by omega)] at h
        obtain ⟨k, hk, ht, hd⟩ := ih _ x h hx
        refine ⟨k + 1, by simp; omega, ?_, ?_⟩
        · rw [List.take_append, List.take_of_length_le (by omega), ht, List.take_succ_cons, textL_cons]
        · rw [List.drop_append, List.drop_of_length_le (by omega), hd, List.drop_succ_cons, List.nil_append]
theorem textL_nonneg (l : List Int) : ∀ x ∈ textL l, 0 ≤ x := by
  intro x hx
  simp only [textL, List.mem_flatMap] at hx
  obtain ⟨r, _, hx⟩ := hx
  exact (putL_bd _ (okR_ok r) x hx).1
theorem textL_bd (l : List Int) : ∀ x ∈ textL l, 0 ≤ x ∧ x < 256 := by
  intro x hx
  simp only [textL, List.mem_flatMap] at hx
  obtain ⟨r, _, hx⟩ := hx
  exact putL_bd _ (okR_ok r) x hx
/-- The runes of a right text are its runes. -/
theorem runes_text : ∀ (l : List Int) (n : Nat), (textL l).length ≤ n → runesF n (textL l) = l.map okR := by
  intro l
  induction l with
  | nil => intro n _; simp [textL, runesF_nil]
  | cons r l ih =>
    intro n hn
    have hlen := putL_len (okR r)
    rw [textL_cons, List.length_append] at hn
    obtain ⟨m, rfl⟩ : ∃ m, n = m + 1 := ⟨n - 1, by omega⟩
    have hne : textL (r :: l) ≠ [] := by rw [textL_cons]; intro e; have := congrArg List.length e; simp at this; have := this.1; rw [this] at hlen; simp at hlen
    rw [runesF_step m _ hne, textL_cons, dec_put _ _ (okR_ok r)]
    simp only [Int.toNat_natCast, List.drop_left', List.map_cons]
    rw [ih m (by omega)]
theorem nums_text (l : List Int) : nums (textV l) = textL l := nums_str _ (textL_bd l)
theorem runes_of (s : ByteArray) (l : List Int) (h : nums s = textL l) : runesV s = l.map okR := by
  rw [runesV, h]
  apply runes_text
  rw [← h, nums_len]; exact Nat.le_refl _
end Go.Proofs.Yticogomjpefoeaa
