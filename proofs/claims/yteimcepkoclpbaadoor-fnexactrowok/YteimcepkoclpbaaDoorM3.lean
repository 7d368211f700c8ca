/- A rune got by its first byte's length, as the specification reckons it. Plain mathematics. -/
import Derived.Test.YteimcepkoclpbaaDoorM2
namespace Go.Proofs.YteimcepkoclpbaaDoor

def longV (b : Int) : Int := if b < 128 then 1 else if 192 ≤ b ∧ b < 224 then 2 else if 224 ≤ b ∧ b < 240 then 3 else if 240 ≤ b ∧ b < 248 then 4 else 0
def rV (l : List Int) : Int :=
  match l with
  | [b0] => b0
  | [b0, b1] => b0 % 32 * 64 + b1 % 64
  | [b0, b1, b2] => (b0 % 16 * 64 + b1 % 64) * 64 + b2 % 64
  | [b0, b1, b2, b3] => ((b0 % 8 * 64 + b1 % 64) * 64 + b2 % 64) * 64 + b3 % 64
  | _ => 0
theorem long_put (c : Int) (h : runeOk c = true) : ∃ b0 t, putL c = b0 :: t ∧ longV b0 = ((putL c).length : Int) ∧ rV (putL c) = c := by
  have hb := runeOk_bd c h
  unfold putL
  by_cases h1 : c < 128
  · rw [if_pos h1]; exact ⟨_, _, rfl, by simp [longV, h1], rfl⟩
  · rw [if_neg h1]
    by_cases h2 : c < 2048
    · rw [if_pos h2]; refine ⟨_, _, rfl, ?_, ?_⟩
      · unfold longV; simp only [List.length_cons, List.length_nil]; omega
      · simp only [rV]; omega
    · rw [if_neg h2]
      by_cases h3 : c < 65536
      · rw [if_pos h3]; refine ⟨_, _, rfl, ?_, ?_⟩
        · unfold longV; simp only [List.length_cons, List.length_nil]; omega
        · simp only [rV]; omega
      · rw [if_neg h3]; refine ⟨_, _, rfl, ?_, ?_⟩
        · unfold longV; simp only [List.length_cons, List.length_nil]; omega
        · simp only [rV]; omega
theorem nums_get (s : ByteArray) (i : Nat) (h : i < s.size) : (nums s)[i]? = some ((s[i]'h).toNat : Int) := by
  have h' : i < s.data.size := h
  simp only [nums, List.getElem?_map, Array.getElem?_toList, Array.getElem?_eq_getElem h', Option.map_some]
  rfl
theorem getV_short (s : ByteArray) (h : 0 < s.size) (hn : longV ((s[0]'h).toNat : Int) = 0 ∨ (s.size : Int) < longV ((s[0]'h).toNat : Int)) : getV s = (65533, 1) := by
  rcases getV_cases s h with ⟨h1, h2, _⟩ | ⟨h1, _⟩
  · exfalso
    rw [pref_iff] at h2
    obtain ⟨u, hu⟩ := h2
    rw [nums_putS _ h1] at hu
    obtain ⟨b0, t, e1, e2, _⟩ := long_put _ h1
    have g0 := nums_get s 0 h
    have hl := congrArg List.length hu
    rw [nums_len, List.length_append] at hl
    rw [hu, e1] at g0
    simp at g0
    subst g0
    have := putL_len (getV s).1
    omega
  · exact h1
theorem getV_long (s : ByteArray) (h : 0 < s.size) (n : Nat) (r : Int) (hn : longV ((s[0]'h).toNat : Int) = n) (h1 : 1 ≤ n) (hs : n ≤ s.size) (hr : rV ((nums s).take n) = r) :
    getV s = if ((putS r).toList == (s.extract 0 n).toList) = true then (r, (n : Int)) else (65533, 1) := by
  have hsz : (nums (s.extract 0 n)).length = n := by rw [nums_extract]; simp [nums_len]; omega
  by_cases hp : ((putS r).toList == (s.extract 0 n).toList) = true
  · rw [if_pos hp]
    have hq := hp
    rw [like_iff, decide_eq_true_eq] at hq
    have hk : runeOk r = true := by
      cases hk : runeOk r
      · rw [putS_no r hk] at hq
        have := congrArg List.length hq
        rw [hsz] at this
        simp [nums] at this
        omega
      · rfl
    have hz : (putS r).size = n := by rw [← nums_len, hq, hsz]
    rw [← hz]
    apply getV_of_pref s r hk
    rw [pref_iff, hq, nums_extract, List.drop_zero]
    exact ⟨_, (List.take_append_drop n _).symm⟩
  · rw [if_neg hp]
    rcases getV_cases s h with ⟨k1, k2, _⟩ | ⟨k1, _⟩
    · exfalso
      apply hp
      rw [pref_iff] at k2
      obtain ⟨u, hu⟩ := k2
      rw [nums_putS _ k1] at hu
      obtain ⟨b0, t, e1, e2, e3⟩ := long_put _ k1
      have g0 := nums_get s 0 h
      rw [hu, e1] at g0
      simp at g0
      subst g0
      have hL : (putL (getV s).1).length = n := by omega
      have ht : (nums s).take n = putL (getV s).1 := by rw [hu, ← hL]; exact List.take_left
      rw [ht, e3] at hr
      rw [like_iff, decide_eq_true_eq, ← hr, nums_putS _ k1, nums_extract, ht]; rfl
    · exact k1
theorem nums_take1 (s : ByteArray) (h : 0 < s.size) : (nums s).take 1 = [((s[0]'(by omega)).toNat : Int)] := by
  have hl := nums_len s
  have g0 := nums_get s 0 (by omega)
  match hd : nums s with
  | [] => rw [hd] at hl; simp at hl; omega
  | b0 :: t =>
    rw [hd] at g0
    simp at g0
    subst g0
    rfl
theorem nums_take2 (s : ByteArray) (h : 1 < s.size) : (nums s).take 2 = [((s[0]'(by omega)).toNat : Int), ((s[1]'(by omega)).toNat : Int)] := by
  have hl := nums_len s
  have g0 := nums_get s 0 (by omega)
  have g1 := nums_get s 1 (by omega)
  match hd : nums s with
  | [] => rw [hd] at hl; simp at hl; omega
  | [b0] => rw [hd] at hl; simp at hl; omega
  | b0 :: b1 :: t =>
    rw [hd] at g0 g1
    simp at g0 g1
    subst g0 g1
    rfl
theorem nums_take3 (s : ByteArray) (h : 2 < s.size) : (nums s).take 3 = [((s[0]'(by omega)).toNat : Int), ((s[1]'(by omega)).toNat : Int), ((s[2]'(by omega)).toNat : Int)] := by
  have hl := nums_len s
  have g0 := nums_get s 0 (by omega)
  have g1 := nums_get s 1 (by omega)
  have g2 := nums_get s 2 (by omega)
  match hd : nums s with
  | [] => rw [hd] at hl; simp at hl; omega
  | [b0] => rw [hd] at hl; simp at hl; omega
  | [b0, b1] => rw [hd] at hl; simp at hl; omega
  | b0 :: b1 :: b2 :: t =>
    rw [hd] at g0 g1 g2
    simp at g0 g1 g2
    subst g0 g1 g2
    rfl
theorem nums_take4 (s : ByteArray) (h : 3 < s.size) : (nums s).take 4 = [((s[0]'(by omega)).toNat : Int), ((s[1]'(by omega)).toNat : Int), ((s[2]'(by omega)).toNat : Int), ((s[3]'(by omega)).toNat : Int)] := by
  have hl := nums_len s
  have g0 := nums_get s 0 (by omega)
  have g1 := nums_get s 1 (by omega)
  have g2 := nums_get s 2 (by omega)
  have g3 := nums_get s 3 (by omega)
  match hd : nums s with
  | [] => rw [hd] at hl; simp at hl; omega
  | [b0] => rw [hd] at hl; simp at hl; omega
  | [b0, b1] => rw [hd] at hl; simp at hl; omega
  | [b0, b1, b2] => rw [hd] at hl; simp at hl; omega
  | b0 :: b1 :: b2 :: b3 :: t =>
    rw [hd] at g0 g1 g2 g3
    simp at g0 g1 g2 g3
    subst g0 g1 g2 g3
    rfl
end Go.Proofs.YteimcepkoclpbaaDoor
