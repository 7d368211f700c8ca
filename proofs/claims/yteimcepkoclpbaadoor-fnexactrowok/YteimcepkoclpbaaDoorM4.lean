/- The runes of a text, all of them. Plain mathematics. -/
import Derived.Test.YteimcepkoclpbaaDoorM3
namespace Go.Proofs.YteimcepkoclpbaaDoor

def runesF : Nat → List Int → List Int
  | 0, _ => []
  | n + 1, l => if l = [] then [] else (dec l).1 :: runesF n (l.drop (dec l).2.toNat)
def runesV (s : ByteArray) : List Int := runesF s.size (nums s)

theorem dec_pos (l : List Int) (h : l ≠ []) (hb : ∀ x ∈ l, 0 ≤ x) : 1 ≤ (dec l).2 := by
  match l with
  | [] => exact absurd rfl h
  | b0 :: t =>
    rcases put_dec b0 t (hb b0 (by simp)) with ⟨_, _, h3⟩ | ⟨h1, _⟩
    · rw [h3]; have := putL_len (dec (b0 :: t)).1; omega
    · rw [h1]; simp
theorem runesF_step (n : Nat) (l : List Int) (h : l ≠ []) : runesF (n + 1) l = (dec l).1 :: runesF n (l.drop (dec l).2.toNat) := by simp [runesF, h]
theorem runesF_nil (n : Nat) : runesF n [] = [] := by cases n <;> simp [runesF]
/-- More fuel than there are bytes changes nothing. -/
theorem runesF_fuel : ∀ (n m : Nat) (l : List Int), l.length ≤ n → l.length ≤ m → (∀ x ∈ l, 0 ≤ x) → runesF n l = runesF m l := by
  intro n
  induction n with
  | zero => intro m l h _ _; have : l = [] := List.eq_nil_of_length_eq_zero (by omega); subst this; rw [runesF_nil, runesF_nil]
  | succ n ih =>
    intro m l h1 h2 hb
    by_cases hl : l = []
    · subst hl; rw [runesF_nil, runesF_nil]
    · have hp : 0 < l.length := List.length_pos_iff.2 hl
      match m with
      | 0 => omega
      | m + 1 =>
        rw [runesF_step n l hl, runesF_step m l hl]
        have hd := dec_pos l hl hb
        congr 1
        apply ih
        · simp; omega
        · simp; omega
        · intro x hx; exact hb x (List.mem_of_mem_drop hx)
theorem nums_nonneg (s : ByteArray) : ∀ x ∈ nums s, 0 ≤ x := fun x hx => (nums_bd s x hx).1
theorem runesV_nil (s : ByteArray) (h : s.size = 0) : runesV s = [] := by
  have : nums s = [] := List.eq_nil_of_length_eq_zero (by rw [nums_len]; exact h)
  rw [runesV, this, runesF_nil]
/-- One step on what is left from a place on. -/
theorem runes_at (s : ByteArray) (pos : Nat) (h : pos < s.size) :
    runesF s.size ((nums s).drop pos) = (dec ((nums s).drop pos)).1 :: runesF s.size ((nums s).drop (pos + (dec ((nums s).drop pos)).2.toNat)) := by
  have hne : (nums s).drop pos ≠ [] := by
    intro e; have := congrArg List.length e; simp [nums_len] at this; omega
  have hnn : ∀ x ∈ (nums s).drop pos, 0 ≤ x := fun x hx => nums_nonneg s x (List.mem_of_mem_drop hx)
  have hd := dec_pos _ hne hnn
  obtain ⟨k, hk⟩ : ∃ k, s.size = k + 1 := ⟨s.size - 1, by omega⟩
  rw [hk, runesF_step k _ hne, List.drop_drop]
  congr 1
  apply runesF_fuel
  · simp [nums_len]; omega
  · simp [nums_len]; omega
  · intro x hx; exact nums_nonneg s x (List.mem_of_mem_drop hx)
theorem dec_bd (l : List Int) (h : l ≠ []) (hb : ∀ x ∈ l, 0 ≤ x) : 0 ≤ (dec l).1 ∧ (dec l).1 ≤ 1114111 ∧ 1 ≤ (dec l).2 ∧ (dec l).2 ≤ l.length := by
  match l with
  | [] => exact absurd rfl h
  | b0 :: t =>
    rcases put_dec b0 t (hb b0 (by simp)) with ⟨h1, ⟨u, h2⟩, h3⟩ | ⟨h1, _⟩
    · have hb := runeOk_bd _ h1
      have := putL_len (dec (b0 :: t)).1
      have hl := congrArg List.length h2
      rw [List.length_append] at hl
      omega
    · rw [h1]; simp; omega
theorem runesF_len : ∀ (n : Nat) (l : List Int), (∀ x ∈ l, 0 ≤ x) → (runesF n l).length ≤ l.length := by
  intro n
  induction n with
  | zero => intro l _; simp [runesF]
  | succ n ih =>
    intro l hb
    by_cases hl : l = []
    · subst hl; simp [runesF]
    · rw [runesF_step n l hl]
      have hd := dec_bd l hl hb
      have := ih (l.drop (dec l).2.toNat) (fun x hx => hb x (List.mem_of_mem_drop hx))
      simp at this ⊢
      omega
theorem runesF_bd : ∀ (n : Nat) (l : List Int), (∀ x ∈ l, 0 ≤ x) → ∀ r ∈ runesF n l, 0 ≤ r ∧ r ≤ 1114111 := by
  intro n
  induction n with
  | zero => intro l _ r hr; simp [runesF] at hr
  | succ n ih =>
    intro l hb r hr
    by_cases hl : l = []
    · subst hl; simp [runesF] at hr
    · rw [runesF_step n l hl] at hr
      have hd := dec_bd l hl hb
      rcases List.mem_cons.1 hr with rfl | hr
      · exact ⟨hd.1, hd.2.1⟩
      · exact ih _ (fun x hx => hb x (List.mem_of_mem_drop hx)) r hr
theorem runesV_len (s : ByteArray) : (runesV s).length ≤ s.size := by
  have := runesF_len s.size (nums s) (nums_nonneg s); rw [nums_len] at this; exact this
theorem runesV_bd (s : ByteArray) : ∀ r ∈ runesV s, 0 ≤ r ∧ r ≤ 1114111 := runesF_bd _ _ (nums_nonneg s)
/-- What is left behind a step of Get is the rest from there on. -/
theorem getV_dec (s : ByteArray) (pos : Nat) : getV (s.extract pos s.size) = dec ((nums s).drop pos) := by
  rw [getV, nums_extract, ← nums_len s, List.take_length]
end Go.Proofs.YteimcepkoclpbaaDoor
