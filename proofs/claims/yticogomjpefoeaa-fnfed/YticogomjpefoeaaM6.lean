/- What is told of a byte that is fed, and what is held. -/
import Derived.Test.YticogomjpefoeaaFeederOk
namespace Go.Proofs.Yticogomjpefoeaa

theorem cut_size (t : ByteArray) (k : Nat) : (t.extract k t.size).size = t.size - k := by
  rw [ByteArray.size_extract]; omega
def feedF : Nat → ByteArray → List Int × ByteArray
  | 0, s => ([], s)
  | n + 1, s => if 0 < s.size ∧ feedOk s = false then ((getV s).1 :: (feedF n (s.extract (getV s).2.toNat s.size)).1, (feedF n (s.extract (getV s).2.toNat s.size)).2) else ([], s)
def feedV (s : ByteArray) : List Int × ByteArray := feedF s.size s
theorem feedF_stop (n : Nat) (s : ByteArray) (h : ¬ (0 < s.size ∧ feedOk s = false)) : feedF n s = ([], s) := by
  cases n
  · rfl
  · simp only [feedF]; rw [if_neg h]
theorem feedF_go (n : Nat) (s : ByteArray) (h : 0 < s.size ∧ feedOk s = false) : feedF (n + 1) s = ((getV s).1 :: (feedF n (s.extract (getV s).2.toNat s.size)).1, (feedF n (s.extract (getV s).2.toNat s.size)).2) := by
  simp only [feedF]; rw [if_pos h]
theorem feedF_fuel : ∀ (n m : Nat) (s : ByteArray), s.size ≤ n → s.size ≤ m → feedF n s = feedF m s := by
  intro n
  induction n with
  | zero => intro m s h _; rw [feedF_stop 0 s (by omega), feedF_stop m s (by omega)]
  | succ n ih =>
    intro m s h1 h2
    by_cases hc : 0 < s.size ∧ feedOk s = false
    · match m with
      | 0 => omega
      | m + 1 =>
        have hb := getV_bd s hc.1
        rw [feedF_go n s hc, feedF_go m s hc, ih m _ (by rw [cut_size]; omega) (by rw [cut_size]; omega)]
    · rw [feedF_stop _ s hc, feedF_stop _ s hc]
theorem feedV_stop (s : ByteArray) (h : ¬ (0 < s.size ∧ feedOk s = false)) : feedV s = ([], s) := feedF_stop _ s h
theorem feedV_go (s : ByteArray) (h0 : 0 < s.size) (h : feedOk s = false) : feedV s = ((getV s).1 :: (feedV (s.extract (getV s).2.toNat s.size)).1, (feedV (s.extract (getV s).2.toNat s.size)).2) := by
  obtain ⟨k, hk⟩ : ∃ k, s.size = k + 1 := ⟨s.size - 1, by omega⟩
  have hb := getV_bd s h0
  rw [feedV, hk, feedF_go k s ⟨h0, h⟩, ← hk]
  have e : feedF k (s.extract (getV s).2.toNat s.size) = feedV (s.extract (getV s).2.toNat s.size) := by
    apply feedF_fuel
    · rw [cut_size]; omega
    · exact Nat.le_refl _
  rw [e]
theorem feedF_len : ∀ (n : Nat) (s : ByteArray), (feedF n s).1.length ≤ n := by
  intro n
  induction n with
  | zero => intro s; simp [feedF]
  | succ n ih =>
    intro s
    by_cases hc : 0 < s.size ∧ feedOk s = false
    · rw [feedF_go n s hc]; have := ih (s.extract (getV s).2.toNat s.size); simp; omega
    · rw [feedF_stop _ s hc]; simp
theorem feedV_len (s : ByteArray) : (feedV s).1.length ≤ s.size := feedF_len _ _
theorem feedF_size : ∀ (n : Nat) (s : ByteArray), (feedF n s).2.size ≤ s.size := by
  intro n
  induction n with
  | zero => intro s; simp [feedF]
  | succ n ih =>
    intro s
    by_cases hc : 0 < s.size ∧ feedOk s = false
    · rw [feedF_go n s hc]; have := ih (s.extract (getV s).2.toNat s.size); rw [cut_size] at this; simp; omega
    · rw [feedF_stop _ s hc]; simp
theorem feedV_size (s : ByteArray) : (feedV s).2.size ≤ s.size := feedF_size _ _
end Go.Proofs.Yticogomjpefoeaa
