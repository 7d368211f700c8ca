/- What stands at a text's beginning, told by its numbers. Plain mathematics. A rune got by its first byte's length, as the specification reckons it. Plain mathematics. The runes of a text, all of them. Plain mathematics. Widths, and what fits into some cells. Plain mathematics. -/
import Derived.Test.YteimcepkoclpbaaDoorJM1
import Derived.Laws.Strings
namespace Go.Proofs.YteimcepkoclpbaaDoor

theorem nums_inj {a b : ByteArray} (h : nums a = nums b) : a = b := by rw [← str_nums a, ← str_nums b, h]
theorem like_iff (a b : ByteArray) : (a.toList == b.toList) = decide (nums a = nums b) := by
  rw [ByteArray.toList_eq, ByteArray.toList_eq]
  by_cases h : a = b
  · subst h; simp
  · have h1 : ¬ nums a = nums b := fun e => h (nums_inj e)
    have h2 : (a.data.toList == b.data.toList) = false := by
      apply Bool.eq_false_iff.2
      intro e
      have e := eq_of_beq e
      apply h; cases a; cases b; simp at e; rw [e]
    rw [h2]; simp [h1]
theorem nums_extract (s : ByteArray) (a b : Nat) : nums (s.extract a b) = ((nums s).take b).drop a := by
  simp [nums, ByteArray.data_extract, List.drop_take]

def pref (s p : ByteArray) : Bool := decide (p.size ≤ s.size) && ((s.extract 0 p.size).toList == p.toList)
theorem pref_iff (s p : ByteArray) : pref s p = true ↔ ∃ u, nums s = nums p ++ u := by
  simp only [pref, Bool.and_eq_true, decide_eq_true_eq, like_iff, nums_extract, List.drop_zero]
  constructor
  · rintro ⟨_, h⟩
    exact ⟨(nums s).drop p.size, by rw [← h, List.take_append_drop]⟩
  · rintro ⟨u, h⟩
    have hl := congrArg List.length h
    simp only [List.length_append, nums_len] at hl
    refine ⟨by omega, ?_⟩
    rw [h, ← nums_len p, List.take_left']
    rfl

theorem putL_bd (r : Int) (h : runeOk r = true) : ∀ x ∈ putL r, 0 ≤ x ∧ x < 256 := by
  have hb := runeOk_bd r h
  intro x hx
  unfold putL at hx
  split at hx
  · simp at hx; omega
  · split at hx
    · simp at hx; omega
    · split at hx
      · simp at hx; omega
      · simp at hx; omega
theorem nums_putS (r : Int) (h : runeOk r = true) : nums (putS r) = putL r := by
  rw [putS_ok r h, nums_str _ (putL_bd r h)]
theorem putS_size (r : Int) (h : runeOk r = true) : (putS r).size = (putL r).length := by
  rw [← nums_len, nums_putS r h]
theorem putS_size4 (r : Int) : (putS r).size ≤ 4 := by
  by_cases h : runeOk r = true
  · rw [putS_size r h]; have := putL_len r; omega
  · rw [putS_no r (by simpa using h)]; decide

def getV (s : ByteArray) : Int × Int := dec (nums s)

/-- What is got is put at the beginning, or begins with none. -/
theorem getV_cases (s : ByteArray) (h : 0 < s.size) :
    (runeOk (getV s).1 = true ∧ pref s (putS (getV s).1) = true ∧ (getV s).2 = ((putS (getV s).1).size : Int)) ∨
    (getV s = (65533, 1) ∧ ∀ r, runeOk r = true → pref s (putS r) = false) := by
  have hl := nums_len s
  unfold getV
  match hn : nums s with
  | [] => rw [hn] at hl; simp at hl; omega
  | b0 :: t =>
    have hb : 0 ≤ b0 := by have := nums_bd s b0 (by rw [hn]; simp); omega
    rcases put_dec b0 t hb with ⟨h1, ⟨u, h2⟩, h3⟩ | ⟨h1, h2⟩
    · left
      refine ⟨h1, ?_, ?_⟩
      · rw [pref_iff]; exact ⟨u, by rw [nums_putS _ h1, hn]; exact h2⟩
      · rw [putS_size _ h1]; exact h3
    · by_cases hp : ∃ r, runeOk r = true ∧ pref s (putS r) = true
      · obtain ⟨r, hr, hq⟩ := hp
        rw [pref_iff] at hq
        obtain ⟨u, hu⟩ := hq
        rw [nums_putS r hr, hn] at hu
        have hd := dec_put r u hr
        rw [← hu, h1] at hd
        simp only [Prod.mk.injEq] at hd
        obtain ⟨e1, e2⟩ := hd
        subst e1
        simp [putL] at e2
      · right
        refine ⟨h1, fun r hr => ?_⟩
        cases hq : pref s (putS r)
        · rfl
        · exact absurd ⟨r, hr, hq⟩ hp
theorem getV_of_pref (s : ByteArray) (r : Int) (hr : runeOk r = true) (h : pref s (putS r) = true) : getV s = (r, ((putS r).size : Int)) := by
  rw [pref_iff] at h
  obtain ⟨u, hu⟩ := h
  unfold getV
  rw [hu, nums_putS r hr, dec_put r u hr, putS_size r hr]
theorem getV_bd (s : ByteArray) (h : 0 < s.size) : 0 ≤ (getV s).1 ∧ (getV s).1 ≤ 1114111 ∧ 1 ≤ (getV s).2 ∧ (getV s).2 ≤ 4 ∧ (getV s).2 ≤ s.size := by
  rcases getV_cases s h with ⟨h1, h2, h3⟩ | ⟨h1, _⟩
  · have hb := runeOk_bd _ h1
    have hz := putS_size _ h1
    have hL := putL_len (getV s).1
    have h4 := putS_size4 (getV s).1
    simp only [pref, Bool.and_eq_true, decide_eq_true_eq] at h2
    omega
  · rw [h1]; simp only; omega
theorem getV_decode (s : ByteArray) (h : 0 < s.size) : (((Utf8.decode s 0).1 : Nat) : Int) = (getV s).1 ∧ (((Utf8.decode s 0).2 : Nat) : Int) = (getV s).2 := by
  have := decode_dec s 0 h
  simp only [List.drop_zero, both] at this
  unfold getV
  rw [← this]; exact ⟨rfl, rfl⟩
end Go.Proofs.YteimcepkoclpbaaDoor
namespace Go.Proofs.YteimcepkoclpbaaDoor

def longV (b : Int) : Int := if b < 128 then 1 else if 192 ≤ b ∧ b < 224 then 2 else if 224 ≤ b ∧ b < 240 then 3 else if 240 ≤ b ∧ b < 248 then 4 else 0
def rV (l : List Int) : Int :=
  match l with
  | [b0] => b0
  | [b0, b1] => b0 % 32 * 64 + b1 % 64
  | [b0, b1, b2] => (b0 % 16 * 64 + b1 % 64) * 64 + b2 % 64
  | [b0, b1, b2, b3] => ((b0 % 8 * 64 + b1 % 64) * 64 + b2 % 64) * 64 + b3 % 64
  | _ => 0
theorem long_put (c : Int) (h : runeOk c = true) : ∃ b0 t, putL c = b0 :: t ∧ longV b0 = ((putL c).length : Int) ∧ rV (putL c) = c := by
  have hb := runeOk_bd c h
  unfold putL
  by_cases h1 : c < 128
  · rw [if_pos h1]; exact ⟨_, _, rfl, by simp [longV, h1], rfl⟩
  · rw [if_neg h1]
    by_cases h2 : c < 2048
    · rw [if_pos h2]; refine ⟨_, _, rfl, ?_, ?_⟩
      · unfold longV; simp only [List.length_cons, List.length_nil]; omega
      · simp only [rV]; omega
    · rw [if_neg h2]
      by_cases h3 : c < 65536
      · rw [if_pos h3]; refine ⟨_, _, rfl, ?_, ?_⟩
        · unfold longV; simp only [List.length_cons, List.length_nil]; omega
        · simp only [rV]; omega
      · rw [if_neg h3]; refine ⟨_, _, rfl, ?_, ?_⟩
        · unfold longV; simp only [List.length_cons, List.length_nil]; omega
        · simp only [rV]; omega
theorem nums_get (s : ByteArray) (i : Nat) (h : i < s.size) : (nums s)[i]? = some ((s[i]'h).toNat : Int) := by
  have h' : i < s.data.size := h
  simp only [nums, List.getElem?_map, Array.getElem?_toList, Array.getElem?_eq_getElem h', Option.map_some]
  rfl
theorem getV_short (s : ByteArray) (h : 0 < s.size) (hn : longV ((s[0]'h).toNat : Int) = 0 ∨ (s.size : Int) < longV ((s[0]'h).toNat : Int)) : getV s = (65533, 1) := by
  rcases getV_cases s h with ⟨h1, h2, _⟩ | ⟨h1, _⟩
  · exfalso
    rw [pref_iff] at h2
    obtain ⟨u, hu⟩ := h2
    rw [nums_putS _ h1] at hu
    obtain ⟨b0, t, e1, e2, _⟩ := long_put _ h1
    have g0 := nums_get s 0 h
    have hl := congrArg List.length hu
    rw [nums_len, List.length_append] at hl
    rw [hu, e1] at g0
    simp at g0
    subst g0
    have := putL_len (getV s).1
    omega
  · exact h1
theorem getV_long (s : ByteArray) (h : 0 < s.size) (n : Nat) (r : Int) (hn : longV ((s[0]'h).toNat : Int) = n) (h1 : 1 ≤ n) (hs : n ≤ s.size) (hr : rV ((nums s).take n) = r) :
    getV s = if ((putS r).toList == (s.extract 0 n).toList) = true then (r, (n : Int)) else (65533, 1) := by
  have hsz : (nums (s.extract 0 n)).length = n := by rw [nums_extract]; simp [nums_len]; omega
  by_cases hp : ((putS r).toList == (s.extract 0 n).toList) = true
  · rw [if_pos hp]
    have hq := hp
    rw [like_iff, decide_eq_true_eq] at hq
    have hk : runeOk r = true := by
      cases hk : runeOk r
      · rw [putS_no r hk] at hq
        have := congrArg List.length hq
        rw [hsz] at this
        simp [nums] at this
        omega
      · rfl
    have hz : (putS r).size = n := by rw [← nums_len, hq, hsz]
    rw [← hz]
    apply getV_of_pref s r hk
    rw [pref_iff, hq, nums_extract, List.drop_zero]
    exact ⟨_, (List.take_append_drop n _).symm⟩
  · rw [if_neg hp]
    rcases getV_cases s h with ⟨k1, k2, _⟩ | ⟨k1, _⟩
    · exfalso
      apply hp
      rw [pref_iff] at k2
      obtain ⟨u, hu⟩ := k2
      rw [nums_putS _ k1] at hu
      obtain ⟨b0, t, e1, e2, e3⟩ := long_put _ k1
      have g0 := nums_get s 0 h
      rw [hu, e1] at g0
      simp at g0
      subst g0
      have hL : (putL (getV s).1).length = n := by omega
      have ht : (nums s).take n = putL (getV s).1 := by rw [hu, ← hL]; exact List.take_left
      rw [ht, e3] at hr
      rw [like_iff, decide_eq_true_eq, ← hr, nums_putS _ k1, nums_extract, ht]; rfl
    · exact k1
theorem nums_take1 (s : ByteArray) (h : 0 < s.size) : (nums s).take 1 = [((s[0]'(by omega)).toNat : Int)] := by
  have hl := nums_len s
  have g0 := nums_get s 0 (by omega)
  match hd : nums s with
  | [] => rw [hd] at hl; simp at hl; omega
  | b0 :: t =>
    rw [hd] at g0
    simp at g0
    subst g0
    rfl
theorem nums_take2 (s : ByteArray) (h : 1 < s.size) : (nums s).take 2 = [((s[0]'(by omega)).toNat : Int), ((s[1]'(by omega)).toNat : Int)] := by
  have hl := nums_len s
  have g0 := nums_get s 0 (by omega)
  have g1 := nums_get s 1 (by omega)
  match hd : nums s with
  | [] => rw [hd] at hl; simp at hl; omega
  | [b0] => rw [hd] at hl; simp at hl; omega
  | b0 :: b1 :: t =>
    rw [hd] at g0 g1
    simp at g0 g1
    subst g0 g1
    rfl
theorem nums_take3 (s : ByteArray) (h : 2 < s.size) : (nums s).take 3 = [((s[0]'(by omega)).toNat : Int), ((s[1]'(by omega)).toNat : Int), ((s[2]'(by omega)).toNat : Int)] := by
  have hl := nums_len s
  have g0 := nums_get s 0 (by omega)
  have g1 := nums_get s 1 (by omega)
  have g2 := nums_get s 2 (by omega)
  match hd : nums s with
  | [] => rw [hd] at hl; simp at hl; omega
  | [b0] => rw [hd] at hl; simp at hl; omega
  | [b0, b1] => rw [hd] at hl; simp at hl; omega
  | b0 :: b1 :: b2 :: t =>
    rw [hd] at g0 g1 g2
    simp at g0 g1 g2
    subst g0 g1 g2
    rfl
theorem nums_take4 (s : ByteArray) (h : 3 < s.size) : (nums s).take 4 = [((s[0]'(by omega)).toNat : Int), ((s[1]'(by omega)).toNat : Int), ((s[2]'(by omega)).toNat : Int), ((s[3]'(by omega)).toNat : Int)] := by
  have hl := nums_len s
  have g0 := nums_get s 0 (by omega)
  have g1 := nums_get s 1 (by omega)
  have g2 := nums_get s 2 (by omega)
  have g3 := nums_get s 3 (by omega)
  match hd : nums s with
  | [] => rw [hd] at hl; simp at hl; omega
  | [b0] => rw [hd] at hl; simp at hl; omega
  | [b0, b1] => rw [hd] at hl; simp at hl; omega
  | [b0, b1, b2] => rw [hd] at hl; simp at hl; omega
  | b0 :: b1 :: b2 :: b3 :: t =>
    rw [hd] at g0 g1 g2 g3
    simp at g0 g1 g2 g3
    subst g0 g1 g2 g3
    rfl
end Go.Proofs.YteimcepkoclpbaaDoor
namespace Go.Proofs.YteimcepkoclpbaaDoor

def runesF : Nat → List Int → List Int
  | 0, _ => []
  | n + 1, l => if l = [] then [] else (dec l).1 :: runesF n (l.drop (dec l).2.toNat)
def runesV (s : ByteArray) : List Int := runesF s.size (nums s)

theorem dec_pos (l : List Int) (h : l ≠ []) (hb : ∀ x ∈ l, 0 ≤ x) : 1 ≤ (dec l).2 := by
  match l with
  | [] => exact absurd rfl h
  | b0 :: t =>
    rcases put_dec b0 t (hb b0 (by simp)) with ⟨_, _, h3⟩ | ⟨h1, _⟩
    · rw [h3]; have := putL_len (dec (b0 :: t)).1; omega
    · rw [h1]; simp
theorem runesF_step (n : Nat) (l : List Int) (h : l ≠ []) : runesF (n + 1) l = (dec l).1 :: runesF n (l.drop (dec l).2.toNat) := by simp [runesF, h]
theorem runesF_nil (n : Nat) : runesF n [] = [] := by cases n <;> simp [runesF]
/-- More fuel than there are bytes changes nothing. -/
theorem runesF_fuel : ∀ (n m : Nat) (l : List Int), l.length ≤ n → l.length ≤ m → (∀ x ∈ l, 0 ≤ x) → runesF n l = runesF m l := by
  intro n
  induction n with
  | zero => intro m l h _ _; have : l = [] := List.eq_nil_of_length_eq_zero (by omega); subst this; rw [runesF_nil, runesF_nil]
  | succ n ih =>
    intro m l h1 h2 hb
    by_cases hl : l = []
    · subst hl; rw [runesF_nil, runesF_nil]
    · have hp : 0 < l.length := List.length_pos_iff.2 hl
      match m with
      | 0 => omega
      | m + 1 =>
        rw [runesF_step n l hl, runesF_step m l hl]
        have hd := dec_pos l hl hb
        congr 1
        apply ih
        · simp; omega
        · simp; omega
        · intro x hx; exact hb x (List.mem_of_mem_drop hx)
theorem nums_nonneg (s : ByteArray) : ∀ x ∈ nums s, 0 ≤ x := fun x hx => (nums_bd s x hx).1
theorem runesV_nil (s : ByteArray) (h : s.size = 0) : runesV s = [] := by
  have : nums s = [] := List.eq_nil_of_length_eq_zero (by rw [nums_len]; exact h)
  rw [runesV, this, runesF_nil]
/-- One step on what is left from a place on. -/
theorem runes_at (s : ByteArray) (pos : Nat) (h : pos < s.size) :
    runesF s.size ((nums s).drop pos) = (dec ((nums s).drop pos)).1 :: runesF s.size ((nums s).drop (pos + (dec ((nums s).drop pos)).2.toNat)) := by
  have hne : (nums s).drop pos ≠ [] := by
    intro e; have := congrArg List.length e; simp [nums_len] at this; omega
  have hnn : ∀ x ∈ (nums s).drop pos, 0 ≤ x := fun x hx => nums_nonneg s x (List.mem_of_mem_drop hx)
  have hd := dec_pos _ hne hnn
  obtain ⟨k, hk⟩ : ∃ k, s.size = k + 1 := ⟨s.size - 1, by omega⟩
  rw [hk, runesF_step k _ hne, List.drop_drop]
  congr 1
  apply runesF_fuel
  · simp [nums_len]; omega
  · simp [nums_len]; omega
  · intro x hx; exact nums_nonneg s x (List.mem_of_mem_drop hx)
theorem dec_bd (l : List Int) (h : l ≠ []) (hb : ∀ x ∈ l, 0 ≤ x) : 0 ≤ (dec l).1 ∧ (dec l).1 ≤ 1114111 ∧ 1 ≤ (dec l).2 ∧ (dec l).2 ≤ l.length := by
  match l with
  | [] => exact absurd rfl h
  | b0 :: t =>
    rcases put_dec b0 t (hb b0 (by simp)) with ⟨h1, ⟨u, h2⟩, h3⟩ | ⟨h1, _⟩
    · have hb := runeOk_bd _ h1
      have := putL_len (dec (b0 :: t)).1
      have hl := congrArg List.length h2
      rw [List.length_append] at hl
      omega
    · rw [h1]; simp; omega
theorem runesF_len : ∀ (n : Nat) (l : List Int), (∀ x ∈ l, 0 ≤ x) → (runesF n l).length ≤ l.length := by
  intro n
  induction n with
  | zero => intro l _; simp [runesF]
  | succ n ih =>
    intro l hb
    by_cases hl : l = []
    · subst hl; simp [runesF]
    · rw [runesF_step n l hl]
      have hd := dec_bd l hl hb
      have := ih (l.drop (dec l).2.toNat) (fun x hx => hb x (List.mem_of_mem_drop hx))
      simp at this ⊢
      omega
theorem runesF_bd : ∀ (n : Nat) (l : List Int), (∀ x ∈ l, 0 ≤ x) → ∀ r ∈ runesF n l, 0 ≤ r ∧ r ≤ 1114111 := by
  intro n
  induction n with
  | zero => intro l _ r hr; simp [runesF] at hr
  | succ n ih =>
    intro l hb r hr
    by_cases hl : l = []
    · subst hl; simp [runesF] at hr
    · rw [runesF_step n l hl] at hr
      have hd := dec_bd l hl hb
      rcases List.mem_cons.1 hr with rfl | hr
      · exact ⟨hd.1, hd.2.1⟩
      · exact ih _ (fun x hx => hb x (List.mem_of_mem_drop hx)) r hr
theorem runesV_len (s : ByteArray) : (runesV s).length ≤ s.size := by
  have := runesF_len s.size (nums s) (nums_nonneg s); rw [nums_len] at this; exact this
theorem runesV_bd (s : ByteArray) : ∀ r ∈ runesV s, 0 ≤ r ∧ r ≤ 1114111 := runesF_bd _ _ (nums_nonneg s)
/-- What is left behind a step of Get is the rest from there on. -/
theorem getV_dec (s : ByteArray) (pos : Nat) : getV (s.extract pos s.size) = dec ((nums s).drop pos) := by
  rw [getV, nums_extract, ← nums_len s, List.take_length]
end Go.Proofs.YteimcepkoclpbaaDoor
namespace Go.Proofs.YteimcepkoclpbaaDoor

def widthV (r : Int) : Int :=
  if r < 32 ∨ runeOk r = false ∨ (127 ≤ r ∧ r ≤ 159) ∨ (768 ≤ r ∧ r ≤ 879) then 0
  else if (4352 ≤ r ∧ r ≤ 4447) ∨ (12288 ≤ r ∧ r ≤ 55295) ∨ (127744 ≤ r ∧ r ≤ 131071) then 2 else 1
theorem widthV_bd (r : Int) : 0 ≤ widthV r ∧ widthV r ≤ 2 := by unfold widthV; split; omega; split <;> omega
def sumW (xs : List Int) : Int := (xs.map widthV).sum
theorem sumW_nil : sumW [] = 0 := rfl
theorem sumW_cons (x : Int) (xs : List Int) : sumW (x :: xs) = widthV x + sumW xs := by simp [sumW]
theorem sumW_app (xs ys : List Int) : sumW (xs ++ ys) = sumW xs + sumW ys := by simp [sumW]
theorem sumW_bd (xs : List Int) : 0 ≤ sumW xs ∧ sumW xs ≤ 2 * xs.length := by
  induction xs with
  | nil => simp [sumW]
  | cons x xs ih => have := widthV_bd x; rw [sumW_cons]; simp only [List.length_cons]; omega
theorem sumW_take (xs : List Int) (k : Nat) (h : k < xs.length) : sumW (xs.take (k + 1)) = sumW (xs.take k) + widthV (xs.getD k 0) := by
  rw [List.take_succ_eq_append_getElem h, sumW_app]; simp [sumW, h]
def textW (s : ByteArray) : Int := sumW (runesV s)

/-- How many bytes are taken, rune by rune, while c cells are enough. -/
def fitF : Nat → List Int → Int → Nat
  | 0, _, _ => 0
  | n + 1, l, c => if l = [] ∨ c < widthV (dec l).1 then 0 else (dec l).2.toNat + fitF n (l.drop (dec l).2.toNat) (c - widthV (dec l).1)
theorem fitF_nil (n : Nat) (c : Int) : fitF n [] c = 0 := by cases n <;> simp [fitF]
theorem fitF_no (n : Nat) (l : List Int) (c : Int) (h : c < widthV (dec l).1) : fitF n l c = 0 := by cases n <;> simp [fitF, h]
theorem fitF_step (n : Nat) (l : List Int) (c : Int) (h : l ≠ []) (hc : widthV (dec l).1 ≤ c) : fitF (n + 1) l c = (dec l).2.toNat + fitF n (l.drop (dec l).2.toNat) (c - widthV (dec l).1) := by
  simp only [fitF]; rw [if_neg]; rintro (e | e); exact h e; omega
theorem fitF_fuel : ∀ (n m : Nat) (l : List Int) (c : Int), l.length ≤ n → l.length ≤ m → (∀ x ∈ l, 0 ≤ x) → fitF n l c = fitF m l c := by
  intro n
  induction n with
  | zero => intro m l c h _ _; have : l = [] := List.eq_nil_of_length_eq_zero (by omega); subst this; rw [fitF_nil, fitF_nil]
  | succ n ih =>
    intro m l c h1 h2 hb
    by_cases hl : l = []
    · subst hl; rw [fitF_nil, fitF_nil]
    · have hp : 0 < l.length := List.length_pos_iff.2 hl
      by_cases hc : c < widthV (dec l).1
      · rw [fitF_no _ _ _ hc, fitF_no _ _ _ hc]
      · match m with
        | 0 => omega
        | m + 1 =>
          rw [fitF_step n l c hl (by omega), fitF_step m l c hl (by omega)]
          have hd := dec_pos l hl hb
          congr 1
          apply ih
          · simp; omega
          · simp; omega
          · intro x hx; exact hb x (List.mem_of_mem_drop hx)
def fitV (s : ByteArray) (c : Int) : ByteArray := if c < 0 ∨ 1000 < c then ⟨#[]⟩ else s.extract 0 (fitF s.size (nums s) c)

/-- What is cut behind a part reads that part alike. -/
theorem dec_take (l : List Int) (hb : ∀ x ∈ l, 0 ≤ x) (m : Nat) (h : l ≠ []) (hm : (dec l).2 ≤ m) : dec (l.take m) = dec l := by
  match l with
  | [] => exact absurd rfl h
  | b0 :: t =>
    have hb0 := hb b0 (by simp)
    rcases put_dec b0 t hb0 with ⟨h1, ⟨u, h2⟩, h3⟩ | ⟨h1, _⟩
    · generalize hd : dec (b0 :: t) = d at *
      rw [h2, List.take_append, List.take_of_length_le (by omega), dec_put _ _ h1]
      ext <;> simp [h3]
    · have hm1 : 1 ≤ m := by rw [h1] at hm; simp only at hm; omega
      obtain ⟨m', rfl⟩ : ∃ m', m = m' + 1 := ⟨m - 1, by omega⟩
      rw [List.take_succ_cons]
      rcases put_dec b0 (t.take m') hb0 with ⟨g1, ⟨u, g2⟩, g3⟩ | ⟨g1, _⟩
      · have e : b0 :: t = putL (dec (b0 :: t.take m')).1 ++ (u ++ t.drop m') := by
          rw [← List.append_assoc, ← g2, List.cons_append, List.take_append_drop]
        have := dec_put _ (u ++ t.drop m') g1
        rw [← e] at this
        rw [this]; ext <;> simp [g3]
      · rw [g1, h1]
theorem runesF_more (n : Nat) (l : List Int) (h : l ≠ []) (hn : l.length ≤ n) (hb : ∀ x ∈ l, 0 ≤ x) : runesF n l = (dec l).1 :: runesF n (l.drop (dec l).2.toNat) := by
  have hp : 0 < l.length := List.length_pos_iff.2 h
  obtain ⟨k, rfl⟩ : ∃ k, n = k + 1 := ⟨n - 1, by omega⟩
  have hd := dec_pos l h hb
  rw [runesF_step k l h]
  congr 1
  apply runesF_fuel
  · simp; omega
  · simp; omega
  · intro x hx; exact hb x (List.mem_of_mem_drop hx)
theorem fitF_le : ∀ (n : Nat) (l : List Int) (c : Int), (∀ x ∈ l, 0 ≤ x) → fitF n l c ≤ l.length := by
  intro n
  induction n with
  | zero => intro l c _; simp [fitF]
  | succ n ih =>
    intro l c hb
    by_cases hl : l = []
    · subst hl; rw [fitF_nil]; simp
    · by_cases hc : c < widthV (dec l).1
      · rw [fitF_no _ _ _ hc]; omega
      · rw [fitF_step n l c hl (by omega)]
        have hd := dec_bd l hl hb
        have := ih (l.drop (dec l).2.toNat) (c - widthV (dec l).1) (fun x hx => hb x (List.mem_of_mem_drop hx))
        simp at this; omega
/-- What fits: it is at most c cells wide, the rest adds up to all, and a rune more is too wide. -/
theorem fit_all (N : Nat) : ∀ (n : Nat) (l : List Int) (c : Int), l.length ≤ n → l.length ≤ N → (∀ x ∈ l, 0 ≤ x) → 0 ≤ c →
    sumW (runesF N (l.take (fitF n l c))) ≤ c ∧
    sumW (runesF N (l.take (fitF n l c))) + sumW (runesF N (l.drop (fitF n l c))) = sumW (runesF N l) ∧
    (fitF n l c < l.length → c < sumW (runesF N (l.take (fitF n l c + (dec (l.drop (fitF n l c))).2.toNat)))) := by
  intro n
  induction n with
  | zero => intro l c h _ _ h0; have : l = [] := List.eq_nil_of_length_eq_zero (by omega); subst this; simp [fitF, runesF_nil, sumW_nil, h0]
  | succ n ih =>
    intro l c h hN hb h0
    by_cases hl : l = []
    · subst hl; simp [fitF_nil, runesF_nil, sumW_nil, h0]
    · have hd := dec_bd l hl hb
      have hw := widthV_bd (dec l).1
      have hp : 0 < l.length := List.length_pos_iff.2 hl
      by_cases hc : c < widthV (dec l).1
      · rw [fitF_no _ _ _ hc]
        refine ⟨by simp [runesF_nil, sumW_nil, h0], by simp [runesF_nil, sumW_nil], fun _ => ?_⟩
        rw [List.drop_zero, Nat.zero_add]
        have hne : l.take (dec l).2.toNat ≠ [] := by
          intro e; have := congrArg List.length e; rw [List.length_take, List.length_nil] at this; omega
        rw [runesF_more N _ hne (by rw [List.length_take]; omega) (fun x hx => hb x (List.mem_of_mem_take hx)), sumW_cons, dec_take l hb _ hl (by omega)]
        have := sumW_bd (runesF N ((l.take (dec l).2.toNat).drop (dec l).2.toNat))
        omega
      · rw [fitF_step n l c hl (by omega)]
        have hb' : ∀ x ∈ l.drop (dec l).2.toNat, 0 ≤ x := fun x hx => hb x (List.mem_of_mem_drop hx)
        obtain ⟨i1, i2, i3⟩ := ih (l.drop (dec l).2.toNat) (c - widthV (dec l).1) (by rw [List.length_drop]; omega) (by rw [List.length_drop]; omega) hb' (by omega)
        generalize fitF n (l.drop (dec l).2.toNat) (c - widthV (dec l).1) = p at *
        have step : ∀ q, runesF N (l.take ((dec l).2.toNat + q)) = (dec l).1 :: runesF N ((l.drop (dec l).2.toNat).take q) := by
          intro q
          have hne : l.take ((dec l).2.toNat + q) ≠ [] := by
            intro e; have := congrArg List.length e; rw [List.length_take, List.length_nil] at this; omega
          rw [runesF_more N _ hne (by rw [List.length_take]; omega) (fun x hx => hb x (List.mem_of_mem_take hx)), dec_take l hb _ hl (by omega)]
          congr 2
          rw [List.drop_take]
          congr 1; omega
        have e0 := runesF_more N l hl hN hb
        refine ⟨by rw [step, sumW_cons]; omega, ?_, fun hlt => ?_⟩
        · rw [step, sumW_cons, e0, sumW_cons, ← List.drop_drop]; omega
        · have := i3 (by rw [List.length_drop]; omega)
          rw [← List.drop_drop, Nat.add_assoc, step, sumW_cons]; omega
/-- One rune more from a place on. -/
theorem fit_go (s : ByteArray) (p : Nat) (h : p < s.size) (c : Int) (hc : widthV (dec ((nums s).drop p)).1 ≤ c) :
    fitF s.size ((nums s).drop p) c = (dec ((nums s).drop p)).2.toNat + fitF s.size ((nums s).drop (p + (dec ((nums s).drop p)).2.toNat)) (c - widthV (dec ((nums s).drop p)).1) := by
  have hne : (nums s).drop p ≠ [] := by
    intro e; have := congrArg List.length e; simp [nums_len] at this; omega
  have hnn : ∀ x ∈ (nums s).drop p, 0 ≤ x := fun x hx => nums_nonneg s x (List.mem_of_mem_drop hx)
  have hd := dec_pos _ hne hnn
  obtain ⟨k, hk⟩ : ∃ k, s.size = k + 1 := ⟨s.size - 1, by omega⟩
  rw [hk, fitF_step k _ c hne hc, List.drop_drop]
  congr 1
  apply fitF_fuel
  · simp [nums_len]; omega
  · simp [nums_len]; omega
  · intro x hx; exact nums_nonneg s x (List.mem_of_mem_drop hx)
theorem fit_end (s : ByteArray) (p : Nat) (h : s.size ≤ p) (c : Int) : fitF s.size ((nums s).drop p) c = 0 := by
  rw [List.drop_of_length_le (by rw [nums_len]; exact h), fitF_nil]
theorem fit_le (s : ByteArray) (c : Int) : fitF s.size (nums s) c ≤ s.size := by
  have := fitF_le s.size (nums s) c (nums_nonneg s); rw [nums_len] at this; exact this
end Go.Proofs.YteimcepkoclpbaaDoor
