/- The two ways to tell a rune that is cut short are one. -/
import Derived.Test.YticogomjpefoeaaCut
import Derived.Test.YticogomjpefoeaaPart
import Derived.Test.YticogomjpefoeaaM5
namespace Go.Proofs.Yticogomjpefoeaa

theorem nums_app (a b : ByteArray) : nums (a ++ b) = nums a ++ nums b := by simp [nums, ByteArray.data_append]
theorem nums_lit (l : List UInt8) : nums ⟨l.toArray⟩ = l.map fun b => (b.toNat : Int) := by simp [nums]
theorem cut_nums (h : ByteArray) : cutB h = true ↔ ((dec (nums h ++ [128])).2 = (h.size : Int) + 1 ∨ (dec (nums h ++ [191])).2 = (h.size : Int) + 1 ∨ (dec (nums h ++ [128, 128])).2 = (h.size : Int) + 2 ∨ (dec (nums h ++ [191, 191])).2 = (h.size : Int) + 2 ∨ (dec (nums h ++ [128, 128, 128])).2 = (h.size : Int) + 3 ∨ (dec (nums h ++ [191, 191, 191])).2 = (h.size : Int) + 3) := by
  have e0 : nums T0 = [128] := rfl
  have e1 : nums T1 = [191] := rfl
  have e2 : nums T2 = [128, 128] := rfl
  have e3 : nums T3 = [191, 191] := rfl
  have e4 : nums T4 = [128, 128, 128] := rfl
  have e5 : nums T5 = [191, 191, 191] := rfl
  simp only [cutB, getV, nums_app, e0, e1, e2, e3, e4, e5, Bool.or_eq_true, beq_iff_eq, or_assoc]
theorem fill_nums (h : ByteArray) (n : Nat) : fillB h n = true ↔ ((dec (nums h ++ [128, 128, 128].take (n - h.size))).2 = n ∨ (dec (nums h ++ [160, 128, 128].take (n - h.size))).2 = n ∨ (dec (nums h ++ [144, 128, 128].take (n - h.size))).2 = n ∨ (dec (nums h ++ [191, 191, 191].take (n - h.size))).2 = n ∨ (dec (nums h ++ [159, 191, 191].take (n - h.size))).2 = n ∨ (dec (nums h ++ [143, 191, 191].take (n - h.size))).2 = n) := by
  have e0 : nums ⟨#[128, 128, 128]⟩ = [128, 128, 128] := rfl
  have e1 : nums ⟨#[160, 128, 128]⟩ = [160, 128, 128] := rfl
  have e2 : nums ⟨#[144, 128, 128]⟩ = [144, 128, 128] := rfl
  have e3 : nums ⟨#[191, 191, 191]⟩ = [191, 191, 191] := rfl
  have e4 : nums ⟨#[159, 191, 191]⟩ = [159, 191, 191] := rfl
  have e5 : nums ⟨#[143, 191, 191]⟩ = [143, 191, 191] := rfl
  simp only [fillB, getV, nums_app, nums_extract, e0, e1, e2, e3, e4, e5, List.drop_zero, Bool.or_eq_true, beq_iff_eq, or_assoc]

theorem no5 (b0 : Int) (t : List Int) (hb : 0 ≤ b0) (k : Int) (hk : 4 < k) : ¬ (dec (b0 :: t)).2 = k := by
  have := dec2_le b0 t hb; omega
theorem or6 {a b c d e f : Prop} : (a ∨ b ∨ c ∨ d ∨ e ∨ f) ↔ ((a ∨ b) ∨ (c ∨ d) ∨ (e ∨ f)) := by simp only [or_assoc]

theorem cut_1 (h : ByteArray) (b0 : Int) (hd : nums h = [b0]) (hz : h.size = 1) : cutB h = true ↔ (194 ≤ b0 ∧ b0 < 245) := by
  rw [cut_nums, hd, hz]
  simp only [List.cons_append, List.nil_append, Int.cast_ofNat_Int, Int.reduceAdd, dec2_2, dec2_3, dec2_4, Int.reduceLE, Int.reduceLT, and_true]
  rw [or6, p3_any2, p4_any2]
  omega
theorem fill_1 (h : ByteArray) (b0 : Int) (n : Nat) (hd : nums h = [b0]) (hz : h.size = 1) (hn : longV b0 = n) (h1 : 1 < n) : fillB h n = true ↔ (194 ≤ b0 ∧ b0 < 245) := by
  rw [fill_nums, hd, hz]
  have hc : n = 2 ∨ n = 3 ∨ n = 4 := by unfold longV at hn; omega
  rcases hc with rfl | rfl | rfl
  · simp only [Nat.reduceSub, List.take_succ_cons, List.take_zero, List.cons_append, List.nil_append, Int.cast_ofNat_Int, dec2_2, Int.reduceLE, Int.reduceLT, and_true]
    unfold longV at hn; omega
  · simp only [Nat.reduceSub, List.take_succ_cons, List.take_zero, List.cons_append, List.nil_append, Int.cast_ofNat_Int, dec2_3, Int.reduceLE, Int.reduceLT, and_true]
    rw [p3_any6]
    unfold longV at hn; omega
  · simp only [Nat.reduceSub, List.take_succ_cons, List.take_zero, List.cons_append, List.nil_append, Int.cast_ofNat_Int, dec2_4, Int.reduceLE, Int.reduceLT, and_true]
    rw [p4_any6]
    unfold longV at hn; omega
theorem cut_2 (h : ByteArray) (b0 b1 : Int) (hb : 0 ≤ b0) (hd : nums h = [b0, b1]) (hz : h.size = 2) : cutB h = true ↔ (p3 b0 b1 ∨ p4 b0 b1) := by
  rw [cut_nums, hd, hz]
  simp only [List.cons_append, List.nil_append, Int.cast_ofNat_Int, Int.reduceAdd, dec2_3, dec2_4, Int.reduceLE, Int.reduceLT, and_true, no5 b0 _ hb 5 (by omega), or_false, or_self]
  simp only [← or_assoc, or_self]
theorem fill_2 (h : ByteArray) (b0 b1 : Int) (n : Nat) (hd : nums h = [b0, b1]) (hz : h.size = 2) (hn : longV b0 = n) (h1 : 2 < n) : fillB h n = true ↔ (p3 b0 b1 ∨ p4 b0 b1) := by
  rw [fill_nums, hd, hz]
  have hc : n = 3 ∨ n = 4 := by unfold longV at hn; omega
  rcases hc with rfl | rfl
  · simp only [Nat.reduceSub, List.take_succ_cons, List.take_zero, List.cons_append, List.nil_append, Int.cast_ofNat_Int, dec2_3, Int.reduceLE, Int.reduceLT, and_true, or_self]
    constructor
    · exact .inl
    · rintro (h | h)
      · exact h
      · have := p4_long _ _ h; omega
  · simp only [Nat.reduceSub, List.take_succ_cons, List.take_zero, List.cons_append, List.nil_append, Int.cast_ofNat_Int, dec2_4, Int.reduceLE, Int.reduceLT, and_true, or_self]
    constructor
    · exact .inr
    · rintro (h | h)
      · have := p3_long _ _ h; omega
      · exact h
theorem cut_3 (h : ByteArray) (b0 b1 b2 : Int) (hb : 0 ≤ b0) (hd : nums h = [b0, b1, b2]) (hz : h.size = 3) : cutB h = true ↔ (p4 b0 b1 ∧ 128 ≤ b2 ∧ b2 < 192) := by
  rw [cut_nums, hd, hz]
  simp only [List.cons_append, List.nil_append, Int.cast_ofNat_Int, Int.reduceAdd, dec2_4, Int.reduceLE, Int.reduceLT, and_true, no5 b0 _ hb 5 (by omega), no5 b0 _ hb 6 (by omega), or_false, or_self]
theorem fill_3 (h : ByteArray) (b0 b1 b2 : Int) (n : Nat) (hd : nums h = [b0, b1, b2]) (hz : h.size = 3) (hn : longV b0 = n) (h1 : 3 < n) : fillB h n = true ↔ (p4 b0 b1 ∧ 128 ≤ b2 ∧ b2 < 192) := by
  rw [fill_nums, hd, hz]
  have hc : n = 4 := by unfold longV at hn; omega
  subst hc
  simp only [Nat.reduceSub, List.take_succ_cons, List.take_zero, List.cons_append, List.nil_append, Int.cast_ofNat_Int, dec2_4, Int.reduceLE, Int.reduceLT, and_true, or_self]

theorem eq_of_iff {a b : Bool} {p : Prop} (ha : a = true ↔ p) (hb : b = true ↔ p) : a = b := by rw [Bool.eq_iff_iff, ha, hb]
theorem no_of_iff {a : Bool} {p : Prop} (ha : a = true ↔ p) (hp : ¬ p) : a = false := by
  cases a
  · rfl
  · exact absurd (ha.1 rfl) hp
/-- The whole: cut short is told alike. -/
theorem short_same (h : ByteArray) (h0 : 0 < h.size) (hs : h.size ≤ 3) (n : Nat) (hn : longV ((h[0]'h0).toNat : Int) = n) :
    (n ≤ h.size → cutB h = false) ∧ (h.size < n → cutB h = fillB h n) := by
  have hl := nums_len h
  have g0 := nums_get h 0 h0
  have hbd := nums_bd h
  generalize ((h[0]'h0).toNat : Int) = x0 at *
  match hd : nums h with
  | [] => rw [hd] at hl; simp at hl; omega
  | [b0] =>
    rw [hd] at hl g0 hbd
    simp at g0
    subst g0
    have hz : h.size = 1 := by simpa using hl.symm
    have hc := cut_1 h b0 hd hz
    refine ⟨fun h1 => no_of_iff hc ?_, fun h1 => eq_of_iff hc (fill_1 h b0 n hd hz hn (by omega))⟩
    unfold longV at hn; omega
  | [b0, b1] =>
    rw [hd] at hl g0 hbd
    simp at g0
    subst g0
    have hz : h.size = 2 := by simpa using hl.symm
    have hc := cut_2 h b0 b1 (hbd b0 (by simp)).1 hd hz
    refine ⟨fun h1 => no_of_iff hc ?_, fun h1 => eq_of_iff hc (fill_2 h b0 b1 n hd hz hn (by omega))⟩
    rintro (h | h)
    · have := p3_long _ _ h; omega
    · have := p4_long _ _ h; omega
  | [b0, b1, b2] =>
    rw [hd] at hl g0 hbd
    simp at g0
    subst g0
    have hz : h.size = 3 := by simpa using hl.symm
    have hc := cut_3 h b0 b1 b2 (hbd b0 (by simp)).1 hd hz
    refine ⟨fun h1 => no_of_iff hc ?_, fun h1 => eq_of_iff hc (fill_3 h b0 b1 b2 n hd hz hn (by omega))⟩
    rintro ⟨h, _⟩
    have := p4_long _ _ h; omega
  | b0 :: b1 :: b2 :: b3 :: t => rw [hd] at hl; simp at hl; omega
end Go.Proofs.Yticogomjpefoeaa
