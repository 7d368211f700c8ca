/- What stands at a text's beginning, told by its numbers. Plain mathematics. -/
import Derived.Test.YteimcepkoclpbaaDoorM1
import Derived.Laws.Strings
namespace Go.Proofs.YteimcepkoclpbaaDoor

theorem nums_inj {a b : ByteArray} (h : nums a = nums b) : a = b := by rw [← str_nums a, ← str_nums b, h]
theorem like_iff (a b : ByteArray) : (a.toList == b.toList) = decide (nums a = nums b) := by
  rw [ByteArray.toList_eq, ByteArray.toList_eq]
  by_cases h : a = b
  · subst h; simp
  · have h1 : ¬ nums a = nums b := fun e => h (nums_inj e)
    have h2 : (a.data.toList == b.data.toList) = false := by
      apply Bool.eq_false_iff.2
      intro e
      have e := eq_of_beq e
      apply h; cases a; cases b; simp at e; rw [e]
    rw [h2]; simp [h1]
theorem nums_extract (s : ByteArray) (a b : Nat) : nums (s.extract a b) = ((nums s).take b).drop a := by
  simp [nums, ByteArray.data_extract, List.drop_take]

def pref (s p : ByteArray) : Bool := decide (p.size ≤ s.size) && ((s.extract 0 p.size).toList == p.toList)
theorem pref_iff (s p : ByteArray) : pref s p = true ↔ ∃ u, nums s = nums p ++ u := by
  simp only [pref, Bool.and_eq_true, decide_eq_true_eq, like_iff, nums_extract, List.drop_zero]
  constructor
  · rintro ⟨_, h⟩
    exact ⟨(nums s).drop p.size, by rw [← h, List.take_append_drop]⟩
  · rintro ⟨u, h⟩
    have hl := congrArg List.length h
    simp only [List.length_append, nums_len] at hl
    refine ⟨by omega, ?_⟩
    rw [h, ← nums_len p, List.take_left']
    rfl

theorem putL_bd (r : Int) (h : runeOk r = true) : ∀ x ∈ putL r, 0 ≤ x ∧ x < 256 := by
  have hb := runeOk_bd r h
  intro x hx
  unfold putL at hx
  split at hx
  · simp at hx; omega
  · split at hx
    · simp at hx; omega
    · split at hx
      · simp at hx; omega
      · simp at hx; omega
theorem nums_putS (r : Int) (h : runeOk r = true) : nums (putS r) = putL r := by
  rw [putS_ok r h, nums_str _ (putL_bd r h)]
theorem putS_size (r : Int) (h : runeOk r = true) : (putS r).size = (putL r).length := by
  rw [← nums_len, nums_putS r h]
theorem putS_size4 (r : Int) : (putS r).size ≤ 4 := by
  by_cases h : runeOk r = true
  · rw [putS_size r h]; have := putL_len r; omega
  · rw [putS_no r (by simpa using h)]; decide

def getV (s : ByteArray) : Int × Int := dec (nums s)

/-- What is got is put at the beginning, or begins with none. -/
theorem getV_cases (s : ByteArray) (h : 0 < s.size) :
    (runeOk (getV s).1 = true ∧ pref s (putS (getV s).1) = true ∧ (getV s).2 = ((putS (getV s).1).size : Int)) ∨
    (getV s = (65533, 1) ∧ ∀ r, runeOk r = true → pref s (putS r) = false) := by
  have hl := nums_len s
  unfold getV
  match hn : nums s with
  | [] => rw [hn] at hl; simp at hl; omega
  | b0 :: t =>
    have hb : 0 ≤ b0 := by have := nums_bd s b0 (by rw [hn]; simp); omega
    rcases put_dec b0 t hb with ⟨h1, ⟨u, h2⟩, h3⟩ | ⟨h1, h2⟩
    · left
      refine ⟨h1, ?_, ?_⟩
      · rw [pref_iff]; exact ⟨u, by rw [nums_putS _ h1, hn]; exact h2⟩
      · rw [putS_size _ h1]; exact h3
    · by_cases hp : ∃ r, runeOk r = true ∧ pref s (putS r) = true
      · obtain ⟨r, hr, hq⟩ := hp
        rw [pref_iff] at hq
        obtain ⟨u, hu⟩ := hq
        rw [nums_putS r hr, hn] at hu
        have hd := dec_put r u hr
        rw [← hu, h1] at hd
        simp only [Prod.mk.injEq] at hd
        obtain ⟨e1, e2⟩ := hd
        subst e1
        simp [putL] at e2
      · right
        refine ⟨h1, fun r hr => ?_⟩
        cases hq : pref s (putS r)
        · rfl
        · exact absurd ⟨r, hr, hq⟩ hp
theorem getV_of_pref (s : ByteArray) (r : Int) (hr : runeOk r = true) (h : pref s (putS r) = true) : getV s = (r, ((putS r).size : Int)) := by
  rw [pref_iff] at h
  obtain ⟨u, hu⟩ := h
  unfold getV
  rw [hu, nums_putS r hr, dec_put r u hr, putS_size r hr]
theorem getV_bd (s : ByteArray) (h : 0 < s.size) : 0 ≤ (getV s).1 ∧ (getV s).1 ≤ 1114111 ∧ 1 ≤ (getV s).2 ∧ (getV s).2 ≤ 4 ∧ (getV s).2 ≤ s.size := by
  rcases getV_cases s h with ⟨h1, h2, h3⟩ | ⟨h1, _⟩
  · have hb := runeOk_bd _ h1
    have hz := putS_size _ h1
    have hL := putL_len (getV s).1
    have h4 := putS_size4 (getV s).1
    simp only [pref, Bool.and_eq_true, decide_eq_true_eq] at h2
    omega
  · rw [h1]; simp only; omega
theorem getV_decode (s : ByteArray) (h : 0 < s.size) : (((Utf8.decode s 0).1 : Nat) : Int) = (getV s).1 ∧ (((Utf8.decode s 0).2 : Nat) : Int) = (getV s).2 := by
  have := decode_dec s 0 h
  simp only [List.drop_zero, both] at this
  unfold getV
  rw [← this]; exact ⟨rfl, rfl⟩
end Go.Proofs.YteimcepkoclpbaaDoor
