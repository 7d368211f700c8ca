/- What fits, told of texts. Plain mathematics. -/
import Derived.Test.YticogomjpefoeaaDoorM8
namespace Go.Proofs.YticogomjpefoeaaDoor

theorem textW_part (t u : ByteArray) (h : u.size ≤ t.size) : textW u = sumW (runesF t.size (nums u)) := by
  unfold textW runesV
  rw [runesF_fuel u.size t.size (nums u) (by rw [nums_len]; exact Nat.le_refl _) (by rw [nums_len]; exact h) (nums_nonneg u)]
theorem textW_bd (s : ByteArray) : 0 ≤ textW s ∧ textW s ≤ 2 * s.size := by
  have h := sumW_bd (runesV s)
  have := runesV_len s
  unfold textW; omega
theorem fit_facts (t : ByteArray) (n : Int) (h : 0 ≤ n) :
    textW (t.extract 0 (fitF t.size (nums t) n)) ≤ n ∧
    textW (t.extract 0 (fitF t.size (nums t) n)) + textW (t.extract (fitF t.size (nums t) n) t.size) = textW t ∧
    (fitF t.size (nums t) n < t.size → n < textW (t.extract 0 (fitF t.size (nums t) n + (getV (t.extract (fitF t.size (nums t) n) t.size)).2.toNat))) := by
  obtain ⟨h1, h2, h3⟩ := fit_all t.size t.size (nums t) n (by rw [nums_len]; exact Nat.le_refl _) (by rw [nums_len]; exact Nat.le_refl _) (nums_nonneg t) h
  rw [nums_len] at h3
  have hle := fit_le t n
  generalize fitF t.size (nums t) n = p at *
  have e1 : nums (t.extract 0 p) = (nums t).take p := by rw [nums_extract, List.drop_zero]
  have e2 : nums (t.extract p t.size) = (nums t).drop p := by rw [nums_extract, ← nums_len t, List.take_length]
  have hv := getV_dec t p
  rw [textW_part t (t.extract 0 p) (by rw [ByteArray.size_extract]; omega), textW_part t (t.extract p t.size) (by rw [ByteArray.size_extract]; omega), textW_part t t (Nat.le_refl _), e1, e2]
  refine ⟨h1, h2, fun hlt => ?_⟩
  rw [hv, textW_part t _ (by rw [ByteArray.size_extract]; omega)]
  have e3 : ∀ q, nums (t.extract 0 q) = (nums t).take q := fun q => by rw [nums_extract, List.drop_zero]
  rw [e3]
  exact h3 hlt
/-- What Fitting answers, told of the answer alone. -/
theorem fitV_facts (t : ByteArray) (n : Int) (h : 0 ≤ n ∧ n ≤ 1000) : ∃ F : ByteArray, fitV t n = F ∧ F.size ≤ t.size ∧ t.extract 0 F.size = F ∧ textW F ≤ n ∧ textW F + textW (t.extract F.size t.size) = textW t ∧
    (F.size < t.size → n < textW (t.extract 0 (F.size + (getV (t.extract F.size t.size)).2.toNat))) := by
  have hf : fitV t n = t.extract 0 (fitF t.size (nums t) n) := by unfold fitV; rw [if_neg (by omega)]
  have hle := fit_le t n
  obtain ⟨h1, h2, h3⟩ := fit_facts t n h.1
  have hs : (t.extract 0 (fitF t.size (nums t) n)).size = fitF t.size (nums t) n := by rw [ByteArray.size_extract]; omega
  exact ⟨_, hf, by rw [hs]; exact hle, by rw [hs], h1, by rw [hs]; exact h2, fun hlt => by rw [hs] at hlt ⊢; exact h3 hlt⟩
end Go.Proofs.YticogomjpefoeaaDoor
