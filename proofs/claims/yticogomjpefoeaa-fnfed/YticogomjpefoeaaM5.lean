/- A rune that is cut short: two ways to tell it are one. Plain mathematics on bytes. -/
import Derived.Test.YticogomjpefoeaaM3
namespace Go.Proofs.Yticogomjpefoeaa

theorem dec2_2 (b0 b1 : Int) : (dec [b0, b1]).2 = 2 ↔ 194 ≤ b0 ∧ b0 < 224 ∧ (128 ≤ b1 ∧ b1 < 192) := by
  simp only [dec]
  repeat' split
  all_goals (dsimp only; omega)
def p3 (b0 b1 : Int) : Prop := 224 ≤ b0 ∧ b0 < 240 ∧ (128 ≤ b1 ∧ b1 < 192) ∧ 32 ≤ (b0 - 224) * 64 + (b1 - 128) ∧ ((b0 - 224) * 64 + (b1 - 128) < 864 ∨ 895 < (b0 - 224) * 64 + (b1 - 128))
def p4 (b0 b1 : Int) : Prop := 240 ≤ b0 ∧ b0 < 248 ∧ (128 ≤ b1 ∧ b1 < 192) ∧ 16 ≤ (b0 - 240) * 64 + (b1 - 128) ∧ (b0 - 240) * 64 + (b1 - 128) ≤ 271
theorem dec2_3 (b0 b1 b2 : Int) : (dec [b0, b1, b2]).2 = 3 ↔ p3 b0 b1 ∧ (128 ≤ b2 ∧ b2 < 192) := by
  unfold p3
  simp only [dec, runeOk_iff]
  repeat' split
  all_goals (dsimp only; omega)
theorem dec2_4 (b0 b1 b2 b3 : Int) : (dec [b0, b1, b2, b3]).2 = 4 ↔ p4 b0 b1 ∧ (128 ≤ b2 ∧ b2 < 192) ∧ (128 ≤ b3 ∧ b3 < 192) := by
  unfold p4
  simp only [dec, runeOk_iff]
  repeat' split
  all_goals (dsimp only; omega)
theorem p3_any2 (b0 : Int) : (p3 b0 128 ∨ p3 b0 191) ↔ (224 ≤ b0 ∧ b0 < 240) := by unfold p3; omega
theorem p3_any6 (b0 : Int) : (p3 b0 128 ∨ p3 b0 160 ∨ p3 b0 144 ∨ p3 b0 191 ∨ p3 b0 159 ∨ p3 b0 143) ↔ (224 ≤ b0 ∧ b0 < 240) := by
  constructor
  · rintro (h | h | h | h | h | h) <;> (unfold p3 at h; omega)
  · intro h
    rcases (p3_any2 b0).2 h with h | h
    · exact .inl h
    · exact .inr (.inr (.inr (.inl h)))
theorem p4_any2 (b0 : Int) : (p4 b0 128 ∨ p4 b0 191) ↔ (240 ≤ b0 ∧ b0 < 245) := by unfold p4; omega
theorem p4_any6 (b0 : Int) : (p4 b0 128 ∨ p4 b0 160 ∨ p4 b0 144 ∨ p4 b0 191 ∨ p4 b0 159 ∨ p4 b0 143) ↔ (240 ≤ b0 ∧ b0 < 245) := by
  constructor
  · rintro (h | h | h | h | h | h) <;> (unfold p4 at h; omega)
  · intro h
    rcases (p4_any2 b0).2 h with h | h
    · exact .inl h
    · exact .inr (.inr (.inr (.inl h)))
theorem p3_long (b0 b1 : Int) (h : p3 b0 b1) : longV b0 = 3 := by unfold p3 at h; unfold longV; omega
theorem p4_long (b0 b1 : Int) (h : p4 b0 b1) : longV b0 = 4 := by unfold p4 at h; unfold longV; omega

theorem dec2_le (b0 : Int) (t : List Int) (hb : 0 ≤ b0) : (dec (b0 :: t)).2 ≤ 4 := by
  rcases put_dec b0 t hb with ⟨_, _, h3⟩ | ⟨h1, _⟩
  · rw [h3]; have := putL_len (dec (b0 :: t)).1; omega
  · rw [h1]; simp

end Go.Proofs.Yticogomjpefoeaa
