/- Widths, and what fits into some cells. Plain mathematics. -/
import Derived.Test.YteimcepkoclpbaaDoorM4
namespace Go.Proofs.YteimcepkoclpbaaDoor

def widthV (r : Int) : Int :=
  if r < 32 ∨ runeOk r = false ∨ (127 ≤ r ∧ r ≤ 159) ∨ (768 ≤ r ∧ r ≤ 879) then 0
  else if (4352 ≤ r ∧ r ≤ 4447) ∨ (12288 ≤ r ∧ r ≤ 55295) ∨ (127744 ≤ r ∧ r ≤ 131071) then 2 else 1
theorem widthV_bd (r : Int) : 0 ≤ widthV r ∧ widthV r ≤ 2 := by unfold widthV; split; omega; split <;> omega
def sumW (xs : List Int) : Int := (xs.map widthV).sum
theorem sumW_nil : sumW [] = 0 := rfl
theorem sumW_cons (x : Int) (xs : List Int) : sumW (x :: xs) = widthV x + sumW xs := by simp [sumW]
theorem sumW_app (xs ys : List Int) : sumW (xs ++ ys) = sumW xs + sumW ys := by simp [sumW]
theorem sumW_bd (xs : List Int) : 0 ≤ sumW xs ∧ sumW xs ≤ 2 * xs.length := by
  induction xs with
  | nil => simp [sumW]
  | cons x xs ih => have := widthV_bd x; rw [sumW_cons]; simp only [List.length_cons]; omega
theorem sumW_take (xs : List Int) (k : Nat) (h : k < xs.length) : sumW (xs.take (k + 1)) = sumW (xs.take k) + widthV (xs.getD k 0) := by
  rw [List.take_succ_eq_append_getElem h, sumW_app]; simp [sumW, h]
def textW (s : ByteArray) : Int := sumW (runesV s)

/-- How many bytes are taken, rune by rune, while c cells are enough. -/
def fitF : Nat → List Int → Int → Nat
  | 0, _, _ => 0
  | n + 1, l, c => if l = [] ∨ c < widthV (dec l).1 then 0 else (dec l).2.toNat + fitF n (l.drop (dec l).2.toNat) (c - widthV (dec l).1)
theorem fitF_nil (n : Nat) (c : Int) : fitF n [] c = 0 := by cases n <;> simp [fitF]
theorem fitF_no (n : Nat) (l : List Int) (c : Int) (h : c < widthV (dec l).1) : fitF n l c = 0 := by cases n <;> simp [fitF, h]
theorem fitF_step (n : Nat) (l : List Int) (c : Int) (h : l ≠ []) (hc : widthV (dec l).1 ≤ c) : fitF (n + 1) l c = (dec l).2.toNat + fitF n (l.drop (dec l).2.toNat) (c - widthV (dec l).1) := by
  simp only [fitF]; rw [if_neg]; rintro (e | e); exact h e; omega
theorem fitF_fuel : ∀ (n m : Nat) (l : List Int) (c : Int), l.length ≤ n → l.length ≤ m → (∀ x ∈ l, 0 ≤ x) → fitF n l c = fitF m l c := by
  intro n
  induction n with
  | zero => intro m l c h _ _; have : l = [] := List.eq_nil_of_length_eq_zero (by omega); subst this; rw [fitF_nil, fitF_nil]
  | succ n ih =>
    intro m l c h1 h2 hb
    by_cases hl : l = []
    · subst hl; rw [fitF_nil, fitF_nil]
    · have hp : 0 < l.length := List.length_pos_iff.2 hl
      by_cases hc : c < widthV (dec l).1
      · rw [fitF_no _ _ _ hc, fitF_no _ _ _ hc]
      · match m with
        | 0 => omega
        | m + 1 =>
          rw [fitF_step n l c hl (by omega), fitF_step m l c hl (by omega)]
          have hd := dec_pos l hl hb
          congr 1
          apply ih
          · simp; omega
          · simp; omega
          · intro x hx; exact hb x (List.mem_of_mem_drop hx)
def fitV (s : ByteArray) (c : Int) : ByteArray := if c < 0 ∨ 1000 < c then ⟨#[]⟩ else s.extract 0 (fitF s.size (nums s) c)

/-- What is cut behind a part reads that part alike. -/
theorem dec_take (l : List Int) (hb : ∀ x ∈ l, 0 ≤ x) (m : Nat) (h : l ≠ []) (hm : (dec l).2 ≤ m) : dec (l.take m) = dec l := by
  match l with
  | [] => exact absurd rfl h
  | b0 :: t =>
    have hb0 := hb b0 (by simp)
    rcases put_dec b0 t hb0 with ⟨h1, ⟨u, h2⟩, h3⟩ | ⟨h1, _⟩
    · generalize hd : dec (b0 :: t) = d at *
      rw [h2, List.take_append, List.take_of_length_le (by omega), dec_put _ _ h1]
      ext <;> simp [h3]
    · have hm1 : 1 ≤ m := by rw [h1] at hm; simp only at hm; omega
      obtain ⟨m', rfl⟩ : ∃ m', m = m' + 1 := ⟨m - 1, by omega⟩
      rw [List.take_succ_cons]
      rcases put_dec b0 (t.take m') hb0 with ⟨g1, ⟨u, g2⟩, g3⟩ | ⟨g1, _⟩
      · have e : b0 :: t = putL (dec (b0 :: t.take m')).1 ++ (u ++ t.drop m') := by
          rw [← List.append_assoc, ← g2, List.cons_append, List.take_append_drop]
        have := dec_put _ (u ++ t.drop m') g1
        rw [← e] at this
        rw [this]; ext <;> simp [g3]
      · rw [g1, h1]
theorem runesF_more (n : Nat) (l : List Int) (h : l ≠ []) (hn : l.length ≤ n) (hb : ∀ x ∈ l, 0 ≤ x) : runesF n l = (dec l).1 :: runesF n (l.drop (dec l).2.toNat) := by
  have hp : 0 < l.length := List.length_pos_iff.2 h
  obtain ⟨k, rfl⟩ : ∃ k, n = k + 1 := ⟨n - 1, by omega⟩
  have hd := dec_pos l h hb
  rw [runesF_step k l h]
  congr 1
  apply runesF_fuel
  · simp; omega
  · simp; omega
  · intro x hx; exact hb x (List.mem_of_mem_drop hx)
theorem fitF_le : ∀ (n : Nat) (l : List Int) (c : Int), (∀ x ∈ l, 0 ≤ x) → fitF n l c ≤ l.length := by
  intro n
  induction n with
  | zero => intro l c _; simp [fitF]
  | succ n ih =>
    intro l c hb
    by_cases hl : l = []
    · subst hl; rw [fitF_nil]; simp
    · by_cases hc : c < widthV (dec l).1
      · rw [fitF_no _ _ _ hc]; omega
      · rw [fitF_step n l c hl (by omega)]
        have hd := dec_bd l hl hb
        have := ih (l.drop (dec l).2.toNat) (c - widthV (dec l).1) (fun x hx => hb x (List.mem_of_mem_drop hx))
        simp at this; omega
/-- What fits: it is at most c cells wide, the rest adds up to all, and a rune more is too wide. -/
theorem fit_all (N : Nat) : ∀ (n : Nat) (l : List Int) (c : Int), l.length ≤ n → l.length ≤ N → (∀ x ∈ l, 0 ≤ x) → 0 ≤ c →
    sumW (runesF N (l.take (fitF n l c))) ≤ c ∧
    sumW (runesF N (l.take (fitF n l c))) + sumW (runesF N (l.drop (fitF n l c))) = sumW (runesF N l) ∧
    (fitF n l c < l.length → c < sumW (runesF N (l.take (fitF n l c + (dec (l.drop (fitF n l c))).2.toNat)))) := by
  intro n
  induction n with
  | zero => intro l c h _ _ h0; have : l = [] := List.eq_nil_of_length_eq_zero (by omega); subst this; simp [fitF, runesF_nil, sumW_nil, h0]
  | succ n ih =>
    intro l c h hN hb h0
    by_cases hl : l = []
    · subst hl; simp [fitF_nil, runesF_nil, sumW_nil, h0]
    · have hd := dec_bd l hl hb
      have hw := widthV_bd (dec l).1
      have hp : 0 < l.length := List.length_pos_iff.2 hl
      by_cases hc : c < widthV (dec l).1
      · rw [fitF_no _ _ _ hc]
        refine ⟨by simp [runesF_nil, sumW_nil, h0], by simp [runesF_nil, sumW_nil], fun _ => ?_⟩
        rw [List.drop_zero, Nat.zero_add]
        have hne : l.take (dec l).2.toNat ≠ [] := by
          intro e; have := congrArg List.length e; rw [List.length_take, List.length_nil] at this; omega
        rw [runesF_more N _ hne (by rw [List.length_take]; omega) (fun x hx => hb x (List.mem_of_mem_take hx)), sumW_cons, dec_take l hb _ hl (by omega)]
        have := sumW_bd (runesF N ((l.take (dec l).2.toNat).drop (dec l).2.toNat))
        omega
      · rw [fitF_step n l c hl (by omega)]
        have hb' : ∀ x ∈ l.drop (dec l).2.toNat, 0 ≤ x := fun x hx => hb x (List.mem_of_mem_drop hx)
        obtain ⟨i1, i2, i3⟩ := ih (l.drop (dec l).2.toNat) (c - widthV (dec l).1) (by rw [List.length_drop]; omega) (by rw [List.length_drop]; omega) hb' (by omega)
        generalize fitF n (l.drop (dec l).2.toNat) (c - widthV (dec l).1) = p at *
        have step : ∀ q, runesF N (l.take ((dec l).2.toNat + q)) = (dec l).1 :: runesF N ((l.drop (dec l).2.toNat).take q) := by
          intro q
          have hne : l.take ((dec l).2.toNat + q) ≠ [] := by
            intro e; have := congrArg List.length e; rw [List.length_take, List.length_nil] at this; omega
          rw [runesF_more N _ hne (by rw [List.length_take]; omega) (fun x hx => hb x (List.mem_of_mem_take hx)), dec_take l hb _ hl (by omega)]
          congr 2
          rw [List.drop_take]
          congr 1; omega
        have e0 := runesF_more N l hl hN hb
        refine ⟨by rw [step, sumW_cons]; omega, ?_, fun hlt => ?_⟩
        · rw [step, sumW_cons, e0, sumW_cons, ← List.drop_drop]; omega
        · have := i3 (by rw [List.length_drop]; omega)
          rw [← List.drop_drop, Nat.add_assoc, step, sumW_cons]; omega
/-- One rune more from a place on. -/
theorem fit_go (s : ByteArray) (p : Nat) (h : p < s.size) (c : Int) (hc : widthV (dec ((nums s).drop p)).1 ≤ c) :
    fitF s.size ((nums s).drop p) c = (dec ((nums s).drop p)).2.toNat + fitF s.size ((nums s).drop (p + (dec ((nums s).drop p)).2.toNat)) (c - widthV (dec ((nums s).drop p)).1) := by
  have hne : (nums s).drop p ≠ [] := by
    intro e; have := congrArg List.length e; simp [nums_len] at this; omega
  have hnn : ∀ x ∈ (nums s).drop p, 0 ≤ x := fun x hx => nums_nonneg s x (List.mem_of_mem_drop hx)
  have hd := dec_pos _ hne hnn
  obtain ⟨k, hk⟩ : ∃ k, s.size = k + 1 := ⟨s.size - 1, by omega⟩
  rw [hk, fitF_step k _ c hne hc, List.drop_drop]
  congr 1
  apply fitF_fuel
  · simp [nums_len]; omega
  · simp [nums_len]; omega
  · intro x hx; exact nums_nonneg s x (List.mem_of_mem_drop hx)
theorem fit_end (s : ByteArray) (p : Nat) (h : s.size ≤ p) (c : Int) : fitF s.size ((nums s).drop p) c = 0 := by
  rw [List.drop_of_length_le (by rw [nums_len]; exact h), fitF_nil]
theorem fit_le (s : ByteArray) (c : Int) : fitF s.size (nums s) c ≤ s.size := by
  have := fitF_le s.size (nums s) c (nums_nonneg s); rw [nums_len] at this; exact this
end Go.Proofs.YteimcepkoclpbaaDoor
