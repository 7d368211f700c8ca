/- One byte more that is fed. Plain mathematics. -/
import Derived.Test.YticogomjpefoeaaSFeed
import Derived.Test.YticogomjpefoeaaMF
namespace Go.Proofs.Yticogomjpefoeaa

theorem feedOk_small (h : ByteArray) (hk : feedOk h = true) : h.size ≤ 3 := by
  by_cases h3 : h.size ≤ 3
  · exact h3
  · rw [feedOk_big h h3] at hk; exact absurd hk (by decide)
theorem fed_ok (h : ByteArray) (b : Int) : feedOk (fedV h b).2 = true := by
  unfold fedV
  split
  · exact feed_ok _ _ (Nat.le_refl _)
  · exact feedOk_0 _ (by decide)
theorem fed_runes (N : Nat) (h : ByteArray) (hk : feedOk h = true) (b : Int) (hb : 0 ≤ b ∧ b < 256) (rest : List Int) (hr : ∀ x ∈ rest, 0 ≤ x) (hN : h.size + 1 + rest.length ≤ N) :
    runesF N (nums h ++ b :: rest) = (fedV h b).1 ++ runesF N (nums (fedV h b).2 ++ rest) := by
  have hn1 : nums (strOfNums [b]) = [b] := nums_str [b] (by intro x hx; simp at hx; omega)
  have hn : nums (h ++ strOfNums [b]) = nums h ++ [b] := by
    have : nums (h ++ strOfNums [b]) = nums h ++ nums (strOfNums [b]) := by simp [nums, ByteArray.data_append]
    rw [this, hn1]
  have hs : (h ++ strOfNums [b]).size = h.size + 1 := by rw [← nums_len, hn, List.length_append, nums_len]; rfl
  have := feed_runes N rest hr (h ++ strOfNums [b]).size (h ++ strOfNums [b]) (Nat.le_refl _) (by omega)
  rw [hn, List.append_assoc] at this
  simp only [fedV, hk, if_true]
  exact this
end Go.Proofs.Yticogomjpefoeaa
