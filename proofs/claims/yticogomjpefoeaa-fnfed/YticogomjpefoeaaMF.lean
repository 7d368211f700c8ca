/- Bytes that are fed one by one are told as all at once. Plain mathematics. -/
import Derived.Test.YticogomjpefoeaaM6
import Derived.Test.YticogomjpefoeaaM4
namespace Go.Proofs.Yticogomjpefoeaa

/-- What begins a rune and is not all of it is cut short. -/
theorem part_cut (t : ByteArray) (c : Int) (hc : runeOk c = true) (u : List Int) (h : putL c = nums t ++ u) (h0 : 0 < t.size) (hu : u ≠ []) : t.size ≤ 3 ∧ cutB t = true := by
  have hl := congrArg List.length h
  rw [List.length_append, nums_len] at hl
  have hu' : 0 < u.length := List.length_pos_iff.2 hu
  have h4 := putL_len c
  have hb := (runeOk_iff c).1 hc
  refine ⟨by omega, ?_⟩
  have hn := nums_len t
  match hd : nums t with
  | [] => rw [hd] at hn; simp at hn; omega
  | [b0] =>
    rw [hd] at h hn
    have hz : t.size = 1 := by simpa using hn.symm
    rw [cut_1 t b0 hd hz]
    by_cases c1 : c < 128
    · rw [putL_1 c c1] at h hl; simp at hl; omega
    · by_cases c2 : c < 2048
      · rw [putL_2 c (by omega) c2] at h; simp at h; omega
      · by_cases c3 : c < 65536
        · rw [putL_3 c (by omega) c3] at h; simp at h; omega
        · rw [putL_4 c (by omega)] at h; simp at h; omega
  | [b0, b1] =>
    rw [hd] at h hn
    have hz : t.size = 2 := by simpa using hn.symm
    have hb0 : 0 ≤ b0 := nums_nonneg t b0 (by rw [hd]; simp)
    rw [cut_2 t b0 b1 hb0 hd hz]
    by_cases c1 : c < 128
    · rw [putL_1 c c1] at h hl; simp at hl; omega
    · by_cases c2 : c < 2048
      · rw [putL_2 c (by omega) c2] at h hl; simp at hl; omega
      · by_cases c3 : c < 65536
        · rw [putL_3 c (by omega) c3] at h; simp at h; left; unfold p3; omega
        · rw [putL_4 c (by omega)] at h; simp at h; right; unfold p4; omega
  | [b0, b1, b2] =>
    rw [hd] at h hn
    have hz : t.size = 3 := by simpa using hn.symm
    have hb0 : 0 ≤ b0 := nums_nonneg t b0 (by rw [hd]; simp)
    rw [cut_3 t b0 b1 b2 hb0 hd hz]
    by_cases c1 : c < 128
    · rw [putL_1 c c1] at h hl; simp at hl; omega
    · by_cases c2 : c < 2048
      · rw [putL_2 c (by omega) c2] at h hl; simp at hl; omega
      · by_cases c3 : c < 65536
        · rw [putL_3 c (by omega) c3] at h hl; simp at hl; omega
        · rw [putL_4 c (by omega)] at h; simp at h; unfold p4; omega
  | b0 :: b1 :: b2 :: b3 :: r => rw [hd] at hn; simp at hn; omega
/-- What is no Feeder's is read alike, whatever comes behind it. -/
theorem dec_more (t : ByteArray) (h0 : 0 < t.size) (hf : feedOk t = false) (rest : List Int) : dec (nums t ++ rest) = dec (nums t) := by
  have hn := nums_len t
  have hnn := nums_nonneg t
  match hd : nums t with
  | [] => rw [hd] at hn; simp at hn; omega
  | b0 :: tl =>
    have hb0 : 0 ≤ b0 := hnn b0 (by rw [hd]; simp)
    rcases put_dec b0 tl hb0 with ⟨h1, ⟨u, h2⟩, h3⟩ | ⟨h1, _⟩
    · generalize hq : dec (b0 :: tl) = q at *
      rw [h2, List.append_assoc, dec_put _ _ h1]
      ext <;> simp [h3]
    · rcases put_dec b0 (tl ++ rest) hb0 with ⟨g1, ⟨u, g2⟩, g3⟩ | ⟨g1, _⟩
      · have e : b0 :: tl ++ rest = b0 :: (tl ++ rest) := rfl
        rw [e]
        generalize hq : dec (b0 :: (tl ++ rest)) = q at *
        obtain ⟨c, k⟩ := q
        simp only at g1 g2 g3
        by_cases hle : (putL c).length ≤ (b0 :: tl).length
        · have e1 : (b0 :: tl).take (putL c).length = putL c := by
            have := congrArg (List.take (putL c).length) g2
            rw [← e, List.take_append_of_le_length hle, List.take_left] at this
            exact this
          have e2 : b0 :: tl = putL c ++ (b0 :: tl).drop (putL c).length := by
            conv => lhs; rw [← List.take_append_drop (putL c).length (b0 :: tl), e1]
          rw [e2, dec_put _ _ g1]
          ext <;> simp [g3]
        · exfalso
          have e1 : (putL c).take (b0 :: tl).length = b0 :: tl := by
            have := congrArg (List.take (b0 :: tl).length) g2
            rw [← e, List.take_left, List.take_append_of_le_length (by omega)] at this
            exact this.symm
          have e2 : putL c = nums t ++ (putL c).drop (b0 :: tl).length := by
            rw [hd]; conv => lhs; rw [← List.take_append_drop (b0 :: tl).length (putL c), e1]
          obtain ⟨q1, q2⟩ := part_cut t c g1 _ e2 h0 (by intro e; have := congrArg List.length e; rw [List.length_drop, List.length_nil] at this; omega)
          rw [feedOk_cut t h0 q1, q2] at hf
          cases hf
      · show dec (b0 :: (tl ++ rest)) = _
        rw [g1, h1]
theorem feed_ok : ∀ (n : Nat) (t : ByteArray), t.size ≤ n → feedOk (feedF n t).2 = true := by
  intro n
  induction n with
  | zero => intro t h; rw [feedF_stop 0 t (by omega)]; exact feedOk_0 t (by omega)
  | succ n ih =>
    intro t h
    by_cases hs : 0 < t.size ∧ feedOk t = false
    · rw [feedF_go n t hs]
      have hb := getV_bd t hs.1
      exact ih _ (by rw [cut_size]; omega)
    · rw [feedF_stop _ t hs]
      by_cases h0 : 0 < t.size
      · cases hf : feedOk t
        · exact absurd ⟨h0, hf⟩ hs
        · rfl
      · exact feedOk_0 t h0
/-- What is told and what is held are what is read at once. -/
theorem feed_runes (N : Nat) (rest : List Int) (hr : ∀ x ∈ rest, 0 ≤ x) : ∀ (n : Nat) (t : ByteArray), t.size ≤ n → t.size + rest.length ≤ N →
    runesF N (nums t ++ rest) = (feedF n t).1 ++ runesF N (nums (feedF n t).2 ++ rest) := by
  intro n
  induction n with
  | zero => intro t h hN; rw [feedF_stop 0 t (by omega)]; simp
  | succ n ih =>
    intro t h hN
    by_cases hs : 0 < t.size ∧ feedOk t = false
    · rw [feedF_go n t hs]
      have hb := getV_bd t hs.1
      have hne : nums t ++ rest ≠ [] := by
        intro e; have := congrArg List.length e; rw [List.length_append, nums_len, List.length_nil] at this; omega
      have hnn : ∀ x ∈ nums t ++ rest, 0 ≤ x := by
        intro x hx
        rcases List.mem_append.1 hx with hx | hx
        · exact nums_nonneg t x hx
        · exact hr x hx
      have hd := dec_more t hs.1 hs.2 rest
      obtain ⟨k, rfl⟩ : ∃ k, N = k + 1 := ⟨N - 1, by omega⟩
      rw [runesF_step k _ hne, hd]
      have e1 : (nums t ++ rest).drop (dec (nums t)).2.toNat = nums (t.extract (getV t).2.toNat t.size) ++ rest := by
        have e2 : nums (t.extract (getV t).2.toNat t.size) = (nums t).drop (getV t).2.toNat := by rw [nums_extract, ← nums_len t, List.take_length]
        rw [e2, List.drop_append_of_le_length (by rw [nums_len]; unfold getV at hb; omega)]
        rfl
      rw [e1]
      have hsz : (t.extract (getV t).2.toNat t.size).size = t.size - (getV t).2.toNat := cut_size _ _
      have := ih (t.extract (getV t).2.toNat t.size) (by omega) (by omega)
      have hf : runesF k (nums (t.extract (getV t).2.toNat t.size) ++ rest) = runesF (k + 1) (nums (t.extract (getV t).2.toNat t.size) ++ rest) := by
        apply runesF_fuel
        · rw [List.length_append, nums_len, hsz]; omega
        · rw [List.length_append, nums_len, hsz]; omega
        · intro x hx
          rcases List.mem_append.1 hx with hx | hx
          · exact nums_nonneg _ x hx
          · exact hr x hx
      rw [hf, this]
      rfl
    · rw [feedF_stop _ t hs]; rfl
end Go.Proofs.Yticogomjpefoeaa
