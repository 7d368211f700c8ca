/- The text of a row, with its blanks and without those at the end. Plain mathematics. -/
import Derived.Test.YteimcepkoclpbaaDoorRC9
import Derived.Test.YteimcepkoclpbaaDoorJRM
import Derived.Test.YteimcepkoclpbaaDoorTR
namespace Go.Proofs.YteimcepkoclpbaaDoor

theorem textL_app (a b : List Int) : textL (a ++ b) = textL a ++ textL b := by simp [textL]
theorem textL_byte (l : List Int) : ∀ x ∈ textL l, 0 ≤ x ∧ x < 256 := by
  intro x hx
  unfold textL at hx
  obtain ⟨r, _, hr⟩ := List.mem_flatMap.1 hx
  exact putL_bd _ (okR_ok r) x hr
theorem tN_keep (l : List Int) (n : Nat) (h : l.length = n + 1) (h2 : l.getD n 0 ≠ 32) : tN l l.length = l.length := by
  rw [h, tN, if_neg h2]
theorem tN_local (l m : List Int) : ∀ n, n ≤ l.length → tN (l ++ m) n = tN l n
  | 0, _ => rfl
  | n + 1, h => by
    have e : (l ++ m).getD n 0 = l.getD n 0 := by simp [List.getD, List.getElem?_append_left (show n < l.length by omega)]
    unfold tN
    rw [e, tN_local l m n (by omega)]
theorem putL_last (r : Int) (hr : runeOk r = true) (hne : r ≠ 32) : ∃ p x, putL r = p ++ [x] ∧ x ≠ 32 := by
  have hb := runeOk_bd r hr
  by_cases h1 : r < 128
  · exact ⟨[], r, putL_1 r h1, hne⟩
  · by_cases h2 : r < 2048
    · exact ⟨[192 + r / 64], 128 + r % 64, putL_2 r (by omega) h2, by omega⟩
    · by_cases h3 : r < 65536
      · exact ⟨[224 + r / 64 / 64, 128 + r / 64 % 64], 128 + r % 64, putL_3 r (by omega) h3, by omega⟩
      · exact ⟨[240 + r / 64 / 64 / 64, 128 + r / 64 / 64 % 64, 128 + r / 64 % 64], 128 + r % 64, putL_4 r (by omega), by omega⟩
theorem tN_last (T p : List Int) (x : Int) (hx : x ≠ 32) : tN (T ++ (p ++ [x])) (T ++ (p ++ [x])).length = (T ++ (p ++ [x])).length := by
  refine tN_keep _ (T.length + p.length) (by simp; omega) ?_
  have e : (T ++ (p ++ [x])).getD (T.length + p.length) 0 = x := by
    simp [List.getD]
  rw [e]; exact hx
theorem width_ok (r : Int) (h : widthV r ≠ 0) : runeOk r = true := by
  cases hr : runeOk r with
  | true => rfl
  | false => exact absurd (by unfold widthV; rw [if_pos (.inr (.inl hr))]) h
theorem cell_rune {c : Ce} (h : c1 c) (hp : c.part ≠ 2) : runeOk c.rune = true := by
  refine width_ok _ ?_
  rcases h.2 with ⟨_, e⟩ | ⟨_, e⟩ | ⟨e, _⟩
  · rw [e]; decide
  · rw [e]; decide
  · exact absurd e hp
theorem cell_blank {c : Ce} (h : c1 c) (hr : c.rune = 32) : c.part ≠ 2 := by
  intro hp
  rcases h.2 with ⟨e, _⟩ | ⟨e, _⟩ | ⟨_, e⟩
  · rw [e] at hp; exact absurd hp (by decide)
  · rw [e] at hp; exact absurd hp (by decide)
  · rw [e] at hr; exact absurd hr (by decide)
theorem runesUp_yes (xs : List Ce) (n : Nat) (h : (atC xs n).part = 2) : runesUp xs (n + 1) = runesUp xs n := by rw [runesUp, if_pos h]
theorem runesUp_no (xs : List Ce) (n : Nat) (h : (atC xs n).part ≠ 2) : runesUp xs (n + 1) = runesUp xs n ++ [(atC xs n).rune] := by rw [runesUp, if_neg h]
theorem trim_row {xs : List Ce} (h : Right xs) : ∀ n, n ≤ xs.length → (textL (runesUp xs n)).take (tN (textL (runesUp xs n)) (textL (runesUp xs n)).length) = textL (runesUp xs (trimN xs n)) := by
  intro n
  induction n with
  | zero => intro _; rfl
  | succ n ih =>
    intro hn
    have hc := h.1 n (by omega)
    have hstay : ∀ r, runeOk r = true → r ≠ 32 → ∀ R, runesUp xs (n + 1) = R ++ [r] → (atC xs n).rune ≠ 32 → (textL (runesUp xs (n + 1))).take (tN (textL (runesUp xs (n + 1))) (textL (runesUp xs (n + 1))).length) = textL (runesUp xs (trimN xs (n + 1))) := by
      intro r hr hne R e hx
      obtain ⟨p, x, hp, hx32⟩ := putL_last r hr hne
      have eL : textL (runesUp xs (n + 1)) = textL R ++ (p ++ [x]) := by
        rw [e, textL_app]
        have : textL [r] = p ++ [x] := by simp [textL, okR_yes r hr, hp]
        rw [this]
      have et : trimN xs (n + 1) = n + 1 := by rw [trimN, if_neg hx]
      rw [et, eL, tN_last _ _ _ hx32, List.take_length]
    by_cases h32 : (atC xs n).rune = 32
    · have hp := cell_blank hc h32
      have e : runesUp xs (n + 1) = runesUp xs n ++ [32] := by rw [runesUp_no xs n hp, h32]
      have eL : textL (runesUp xs (n + 1)) = textL (runesUp xs n) ++ [32] := by rw [e, textL_app]; rfl
      have et : trimN xs (n + 1) = trimN xs n := by rw [trimN, if_pos h32]
      rw [et, eL, ← ih (by omega)]
      generalize textL (runesUp xs n) = T
      have eg : (T ++ [(32 : Int)]).getD T.length 0 = 32 := by simp [List.getD]
      have hl : (T ++ [(32 : Int)]).length = T.length + 1 := by simp
      rw [hl, tN, if_pos eg, tN_local T [32] T.length (Nat.le_refl _), List.take_append_of_le_length (tN_le T _)]
    · by_cases hp : (atC xs n).part = 2
      · have h1 := h.2.2 n hp
        have hn1 : n - 1 + 1 = n := by omega
        have hc1 := h.1 (n - 1) (by omega)
        have hp1 : (atC xs (n - 1)).part ≠ 2 := by rw [h1.2]; decide
        have hr : runeOk (atC xs (n - 1)).rune = true := cell_rune hc1 hp1
        have hw2 : widthV (atC xs (n - 1)).rune = 2 := by
          rcases hc1.2 with ⟨e, _⟩ | ⟨_, e⟩ | ⟨e, _⟩
          · rw [h1.2] at e; exact absurd e (by decide)
          · exact e
          · exact absurd e hp1
        have hne : (atC xs (n - 1)).rune ≠ 32 := by intro e; rw [e] at hw2; exact absurd hw2 (by decide)
        refine hstay _ hr hne (runesUp xs (n - 1)) ?_ h32
        rw [runesUp_yes xs n hp]
        have := runesUp_no xs (n - 1) hp1
        rw [hn1] at this; exact this
      · exact hstay _ (cell_rune hc hp) h32 (runesUp xs n) (runesUp_no xs n hp) h32
/-- The whole text without the blanks at its end is what the specification tells. -/
theorem rowText_way {xs : List Ce} (h : rowOkB xs = true) : trimV (textV (runesUp xs xs.length)) = rowTextV xs := by
  have hR := ((right_iff xs).1 h).2
  have hn : nums (textV (runesUp xs xs.length)) = textL (runesUp xs xs.length) := nums_str _ (textL_byte _)
  have hs : (textV (runesUp xs xs.length)).size = (textL (runesUp xs xs.length)).length := by rw [← nums_len, hn]
  apply nums_inj
  unfold rowTextV
  rw [if_pos h, nums_trim, hn, hs, trim_row hR _ (Nat.le_refl _)]
  exact (nums_str _ (textL_byte _)).symm
end Go.Proofs.YteimcepkoclpbaaDoor
