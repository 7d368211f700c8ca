/- Runes as numbers: what a text's first bytes are read to. Plain mathematics, no program. Styles: their params and signs. Plain mathematics. -/
import Derived.Laws.BytesArg
import GoSem.Core.Utf8
namespace Go.Proofs.YteimcepkoclpbaaDoor

def runeOk (r : Int) : Bool := decide (0 ≤ r ∧ r ≤ 1114111 ∧ (r < 55296 ∨ 57343 < r))

theorem runeOk_is (r : Int) (b : Bool) (h : b = true ↔ (0 ≤ r ∧ r ≤ 1114111 ∧ (r < 55296 ∨ 57343 < r))) : b = runeOk r := by
  rw [Bool.eq_iff_iff, h]; simp [runeOk]
theorem runeOk_iff (r : Int) : runeOk r = true ↔ (0 ≤ r ∧ r ≤ 1114111 ∧ (r < 55296 ∨ 57343 < r)) := by simp [runeOk]
theorem runeOk_bd (r : Int) (h : runeOk r = true) : 0 ≤ r ∧ r ≤ 1114111 := by simp [runeOk] at h; omega

def putL (r : Int) : List Int :=
  if r < 128 then [r]
  else if r < 2048 then [192 + r / 64, 128 + r % 64]
  else if r < 65536 then [224 + r / 4096, 128 + r / 64 % 64, 128 + r % 64]
  else [240 + r / 262144, 128 + r / 4096 % 64, 128 + r / 64 % 64, 128 + r % 64]
def putS (r : Int) : ByteArray := if runeOk r = true then strOfNums (putL r) else ⟨#[]⟩

theorem putL_1 (r : Int) (h : r < 128) : putL r = [r] := by simp [putL, h]
theorem putL_2 (r : Int) (h0 : 128 ≤ r) (h : r < 2048) : putL r = [192 + r / 64, 128 + r % 64] := by
  rw [putL, if_neg (by omega), if_pos h]
theorem putL_3 (r : Int) (h0 : 2048 ≤ r) (h : r < 65536) : putL r = [224 + r / 64 / 64, 128 + r / 64 % 64, 128 + r % 64] := by
  rw [putL, if_neg (by omega), if_neg (by omega), if_pos h, show r / 64 / 64 = r / 4096 from by omega]
theorem putL_4 (r : Int) (h0 : 65536 ≤ r) : putL r = [240 + r / 64 / 64 / 64, 128 + r / 64 / 64 % 64, 128 + r / 64 % 64, 128 + r % 64] := by
  rw [putL, if_neg (by omega), if_neg (by omega), if_neg (by omega), show r / 64 / 64 / 64 = r / 262144 from by omega, show r / 64 / 64 = r / 4096 from by omega]
theorem putS_ok (r : Int) (h : runeOk r = true) : putS r = strOfNums (putL r) := by simp [putS, h]
theorem putS_no (r : Int) (h : runeOk r = false) : putS r = ⟨#[]⟩ := by simp [putS, h]

def dec (l : List Int) : Int × Int :=
  match l with
  | [] => (0, 0)
  | b0 :: t =>
    if b0 < 128 then (b0, 1)
    else if 192 ≤ b0 ∧ b0 < 224 then
      match t with
      | b1 :: _ => if (128 ≤ b1 ∧ b1 < 192) ∧ 128 ≤ (b0 - 192) * 64 + (b1 - 128) then ((b0 - 192) * 64 + (b1 - 128), 2) else (65533, 1)
      | _ => (65533, 1)
    else if 224 ≤ b0 ∧ b0 < 240 then
      match t with
      | b1 :: b2 :: _ => if (128 ≤ b1 ∧ b1 < 192) ∧ (128 ≤ b2 ∧ b2 < 192) ∧ 2048 ≤ (b0 - 224) * 4096 + (b1 - 128) * 64 + (b2 - 128) ∧ runeOk ((b0 - 224) * 4096 + (b1 - 128) * 64 + (b2 - 128)) = true then ((b0 - 224) * 4096 + (b1 - 128) * 64 + (b2 - 128), 3) else (65533, 1)
      | _ => (65533, 1)
    else if 240 ≤ b0 ∧ b0 < 248 then
      match t with
      | b1 :: b2 :: b3 :: _ => if (128 ≤ b1 ∧ b1 < 192) ∧ (128 ≤ b2 ∧ b2 < 192) ∧ (128 ≤ b3 ∧ b3 < 192) ∧ 65536 ≤ (b0 - 240) * 262144 + (b1 - 128) * 4096 + (b2 - 128) * 64 + (b3 - 128) ∧ runeOk ((b0 - 240) * 262144 + (b1 - 128) * 4096 + (b2 - 128) * 64 + (b3 - 128)) = true then ((b0 - 240) * 262144 + (b1 - 128) * 4096 + (b2 - 128) * 64 + (b3 - 128), 4) else (65533, 1)
      | _ => (65533, 1)
    else (65533, 1)

theorem putL_len (r : Int) : (putL r).length = 1 ∨ (putL r).length = 2 ∨ (putL r).length = 3 ∨ (putL r).length = 4 := by
  unfold putL
  split
  · simp
  · split
    · simp
    · split <;> simp

theorem dec_put (r : Int) (t : List Int) (h : runeOk r = true) : dec (putL r ++ t) = (r, ((putL r).length : Int)) := by
  have hb := (runeOk_iff r).1 h
  by_cases h1 : r < 128
  · rw [putL_1 r h1]; simp [dec, h1]
  · by_cases h2 : r < 2048
    · rw [putL, if_neg h1, if_pos h2]
      simp only [dec, List.cons_append, List.nil_append]
      rw [if_neg (by omega), if_pos (by omega), if_pos (by omega)]
      simp; omega
    · by_cases h3 : r < 65536
      · rw [putL, if_neg h1, if_neg h2, if_pos h3]
        have e : (224 + r / 4096 - 224) * 4096 + (128 + r / 64 % 64 - 128) * 64 + (128 + r % 64 - 128) = r := by omega
        simp only [dec, List.cons_append, List.nil_append]
        rw [if_neg (by omega), if_neg (by omega), if_pos (by omega), e, if_pos ⟨by omega, by omega, by omega, h⟩]
        simp
      · rw [putL, if_neg h1, if_neg h2, if_neg h3]
        have e : (240 + r / 262144 - 240) * 262144 + (128 + r / 4096 % 64 - 128) * 4096 + (128 + r / 64 % 64 - 128) * 64 + (128 + r % 64 - 128) = r := by omega
        simp only [dec, List.cons_append, List.nil_append]
        rw [if_neg (by omega), if_neg (by omega), if_neg (by omega), if_pos (by omega), e, if_pos ⟨by omega, by omega, by omega, by omega, h⟩]
        simp

/-- What is read is what stands at the beginning, or it is 65533 for one byte that begins none. -/
theorem put_dec (b0 : Int) (t : List Int) (hb : 0 ≤ b0) :
    (runeOk (dec (b0 :: t)).1 = true ∧ (∃ u, b0 :: t = putL (dec (b0 :: t)).1 ++ u) ∧ (dec (b0 :: t)).2 = ((putL (dec (b0 :: t)).1).length : Int)) ∨
    (dec (b0 :: t) = (65533, 1) ∧ 128 ≤ b0) := by
  simp only [dec]
  by_cases h1 : b0 < 128
  · rw [if_pos h1]
    left
    refine ⟨(runeOk_iff _).2 ⟨by dsimp only; omega, by dsimp only; omega, by dsimp only; omega⟩, ⟨t, by rw [putL_1 _ h1]; rfl⟩, by rw [putL_1 _ h1]; rfl⟩
  · rw [if_neg h1]
    by_cases h2 : 192 ≤ b0 ∧ b0 < 224
    · rw [if_pos h2]
      match t with
      | [] => right; exact ⟨rfl, by omega⟩
      | b1 :: t =>
        simp only
        split
        · rename_i hc
          left
          have e : putL ((b0 - 192) * 64 + (b1 - 128)) = [b0, b1] := by
            rw [putL_2 _ (by omega) (by omega)]
            congr 1
            · omega
            · congr 1; omega
          refine ⟨(runeOk_iff _).2 ⟨by dsimp only; omega, by dsimp only; omega, by dsimp only; omega⟩, ⟨t, by rw [e]; rfl⟩, by rw [e]; rfl⟩
        · right; exact ⟨rfl, by omega⟩
    · rw [if_neg h2]
      by_cases h3 : 224 ≤ b0 ∧ b0 < 240
      · rw [if_pos h3]
        match t with
        | [] => right; exact ⟨rfl, by omega⟩
        | [b1] => right; exact ⟨rfl, by omega⟩
        | b1 :: b2 :: t =>
          simp only
          split
          · rename_i hc
            left
            have e : putL ((b0 - 224) * 4096 + (b1 - 128) * 64 + (b2 - 128)) = [b0, b1, b2] := by
              rw [putL, if_neg (by omega), if_neg (by omega), if_pos (by omega)]
              congr 1
              · omega
              · congr 1
                · omega
                · congr 1; omega
            refine ⟨hc.2.2.2, ⟨t, by rw [e]; rfl⟩, by rw [e]; rfl⟩
          · right; exact ⟨rfl, by omega⟩
      · rw [if_neg h3]
        by_cases h4 : 240 ≤ b0 ∧ b0 < 248
        · rw [if_pos h4]
          match t with
          | [] => right; exact ⟨rfl, by omega⟩
          | [b1] => right; exact ⟨rfl, by omega⟩
          | [b1, b2] => right; exact ⟨rfl, by omega⟩
          | b1 :: b2 :: b3 :: t =>
            simp only
            split
            · rename_i hc
              left
              have e : putL ((b0 - 240) * 262144 + (b1 - 128) * 4096 + (b2 - 128) * 64 + (b3 - 128)) = [b0, b1, b2, b3] := by
                rw [putL, if_neg (by omega), if_neg (by omega), if_neg (by omega)]
                congr 1
                · omega
                · congr 1
                  · omega
                  · congr 1
                    · omega
                    · congr 1; omega
              refine ⟨hc.2.2.2.2, ⟨t, by rw [e]; rfl⟩, by rw [e]; rfl⟩
            · right; exact ⟨rfl, by omega⟩
        · rw [if_neg h4]; right; exact ⟨rfl, by omega⟩

def nums (s : ByteArray) : List Int := s.data.toList.map fun b => (b.toNat : Int)
theorem nums_len (s : ByteArray) : (nums s).length = s.size := by simp only [nums, List.length_map, Array.length_toList]; rfl
theorem nums_bd (s : ByteArray) : ∀ x ∈ nums s, 0 ≤ x ∧ x < 256 := by
  intro x hx
  simp only [nums, List.mem_map] at hx
  obtain ⟨b, _, rfl⟩ := hx
  have := b.toNat_lt
  omega
theorem str_nums (s : ByteArray) : strOfNums (nums s) = s := by
  cases s with | mk d =>
  simp [strOfNums, nums, Function.comp_def]
theorem nums_str (l : List Int) (h : ∀ x ∈ l, 0 ≤ x ∧ x < 256) : nums (strOfNums l) = l := by
  simp only [nums, strOfNums, List.map_map]
  conv => rhs; rw [← List.map_id l]
  apply List.map_congr_left
  intro x hx
  have := h x hx
  simp
  omega
theorem nums_at (s : ByteArray) (i : Nat) (h : i < s.size) : (nums s)[i]? = some ((s.get! i).toNat : Int) := by
  have h' : i < s.data.size := h
  simp only [nums, List.getElem?_map, ByteArray.get!, Array.getElem?_toList, Array.getElem?_eq_getElem h', Option.map_some, getElem!_pos s.data i h']

theorem valid_ok (n : Nat) : Utf8.valid (n : Int) = runeOk (n : Int) := by
  rw [Bool.eq_iff_iff, runeOk_iff]; simp [Utf8.valid]; omega
def decN (n0 n1 n2 n3 : Nat) (p1 p2 p3 : Bool) : Nat × Nat :=
  if n0 < 128 then (n0, 1)
  else if n0 / 32 == 6 && (p1 && n1 / 64 == 2) then
    if n0 % 32 * 64 + n1 % 64 ≥ 128 then (n0 % 32 * 64 + n1 % 64, 2) else (65533, 1)
  else if n0 / 16 == 14 && (p1 && n1 / 64 == 2) && (p2 && n2 / 64 == 2) then
    if n0 % 16 * 4096 + n1 % 64 * 64 + n2 % 64 ≥ 2048 && Utf8.valid (n0 % 16 * 4096 + n1 % 64 * 64 + n2 % 64 : Nat) then (n0 % 16 * 4096 + n1 % 64 * 64 + n2 % 64, 3) else (65533, 1)
  else if n0 / 8 == 30 && (p1 && n1 / 64 == 2) && (p2 && n2 / 64 == 2) && (p3 && n3 / 64 == 2) then
    if n0 % 8 * 262144 + n1 % 64 * 4096 + n2 % 64 * 64 + n3 % 64 ≥ 65536 && Utf8.valid (n0 % 8 * 262144 + n1 % 64 * 4096 + n2 % 64 * 64 + n3 % 64 : Nat) then (n0 % 8 * 262144 + n1 % 64 * 4096 + n2 % 64 * 64 + n3 % 64, 4) else (65533, 1)
  else (65533, 1)
theorem decode_N (s : ByteArray) (i : Nat) : Utf8.decode s i = decN (s.get! (i + 0)).toNat (s.get! (i + 1)).toNat (s.get! (i + 2)).toNat (s.get! (i + 3)).toNat (decide (i + 1 < s.size)) (decide (i + 2 < s.size)) (decide (i + 3 < s.size)) := rfl

def both (p : Nat × Nat) : Int × Int := ((p.1 : Int), (p.2 : Int))
theorem both_err : both (65533, 1) = (65533, 1) := rfl
set_option maxHeartbeats 1000000 in
theorem decN_1 (n0 n1 n2 n3 : Nat) : both (decN n0 n1 n2 n3 false false false) = dec [(n0 : Int)] := by
  simp only [decN, dec, Bool.false_and, Bool.and_false, Bool.false_eq_true, if_false, Bool.and_eq_true, decide_eq_true_eq, valid_ok, runeOk_iff]
  repeat' split
  all_goals first | rfl | (simp only [both, Prod.mk.injEq]; omega)
set_option maxHeartbeats 1000000 in
theorem decN_2 (n0 n1 n2 n3 : Nat) : both (decN n0 n1 n2 n3 true false false) = dec [(n0 : Int), (n1 : Int)] := by
  simp only [decN, dec, Bool.false_and, Bool.and_false, Bool.false_eq_true, if_false, Bool.true_and, Bool.and_eq_true, decide_eq_true_eq, beq_iff_eq, valid_ok, runeOk_iff]
  repeat' split
  all_goals first | rfl | (simp only [both, Prod.mk.injEq]; omega)
set_option maxHeartbeats 1000000 in
theorem decN_3 (n0 n1 n2 n3 : Nat) : both (decN n0 n1 n2 n3 true true false) = dec [(n0 : Int), (n1 : Int), (n2 : Int)] := by
  simp only [decN, dec, Bool.false_and, Bool.and_false, Bool.false_eq_true, if_false, Bool.true_and, Bool.and_eq_true, decide_eq_true_eq, beq_iff_eq, valid_ok, runeOk_iff]
  repeat' split
  all_goals first | rfl | (simp only [both, Prod.mk.injEq]; omega)
set_option maxHeartbeats 1000000 in
theorem decN_4 (n0 n1 n2 n3 : Nat) (t : List Int) : both (decN n0 n1 n2 n3 true true true) = dec ((n0 : Int) :: (n1 : Int) :: (n2 : Int) :: (n3 : Int) :: t) := by
  simp only [decN, dec, Bool.true_and, Bool.and_eq_true, decide_eq_true_eq, beq_iff_eq, valid_ok, runeOk_iff]
  repeat' split
  all_goals first | rfl | (simp only [both, Prod.mk.injEq]; omega)

theorem drop_at (s : ByteArray) (i k : Nat) (h : i + k < s.size) : ((nums s).drop i)[k]? = some ((s.get! (i + k)).toNat : Int) := by
  rw [List.getElem?_drop]; exact nums_at s (i + k) h

theorem decode_dec (s : ByteArray) (i : Nat) (h : i < s.size) : both (Utf8.decode s i) = dec ((nums s).drop i) := by
  have hl : ((nums s).drop i).length = s.size - i := by simp [nums_len]
  have h0 := drop_at s i 0 (by omega)
  have h1 := drop_at s i 1
  have h2 := drop_at s i 2
  have h3 := drop_at s i 3
  rw [decode_N]
  match hd : (nums s).drop i with
  | [] => rw [hd] at hl; simp at hl; omega
  | [b0] =>
    rw [hd] at hl h0
    simp at h0 hl
    rw [decide_eq_false (by omega), decide_eq_false (by omega), decide_eq_false (by omega), decN_1, h0]; rfl
  | [b0, b1] =>
    rw [hd] at hl h0 h1
    simp at h0 hl
    have h1 := h1 (by omega)
    simp at h1
    rw [decide_eq_true (by omega), decide_eq_false (by omega), decide_eq_false (by omega), decN_2, h0, h1]; rfl
  | [b0, b1, b2] =>
    rw [hd] at hl h0 h1 h2
    simp at h0 hl
    have h1 := h1 (by omega)
    have h2 := h2 (by omega)
    simp at h1 h2
    rw [decide_eq_true (by omega), decide_eq_true (by omega), decide_eq_false (by omega), decN_3, h0, h1, h2]; rfl
  | b0 :: b1 :: b2 :: b3 :: t =>
    rw [hd] at hl h0 h1 h2 h3
    simp at h0 hl
    have h1 := h1 (by omega)
    have h2 := h2 (by omega)
    have h3 := h3 (by omega)
    simp at h1 h2 h3
    rw [decide_eq_true (by omega), decide_eq_true (by omega), decide_eq_true (by omega), decN_4 _ _ _ _ t, h0, h1, h2, h3]; rfl
end Go.Proofs.YteimcepkoclpbaaDoor
namespace Go.Proofs.YteimcepkoclpbaaDoor

structure St where
  fore : Int
  back : Int
  bold : Bool
  under : Bool
  turned : Bool
deriving DecidableEq
def St.zero : St := ⟨0, 0, false, false, false⟩
def St.ok (s : St) : Bool := decide (0 ≤ s.fore ∧ s.fore ≤ 8 ∧ 0 ≤ s.back ∧ s.back ≤ 8)
theorem St.ok_iff (s : St) : s.ok = true ↔ 0 ≤ s.fore ∧ s.fore ≤ 8 ∧ 0 ≤ s.back ∧ s.back ≤ 8 := by simp [St.ok]
def paramV (s : St) (n : Int) : St :=
  if n = 0 then St.zero
  else if n = 1 ∨ n = 22 then { s with bold := decide (n = 1) }
  else if n = 4 ∨ n = 24 then { s with under := decide (n = 4) }
  else if n = 7 ∨ n = 27 then { s with turned := decide (n = 7) }
  else if 30 ≤ n ∧ n ≤ 37 then { s with fore := n - 29 }
  else if n = 39 then { s with fore := 0 }
  else if 40 ≤ n ∧ n ≤ 47 then { s with back := n - 39 }
  else if n = 49 then { s with back := 0 }
  else s
def styledF (s : St) (l : List Int) : St := l.foldl paramV s
def styledV (s : St) (l : List Int) : St := if s.ok = true ∧ l.length ≤ 16 then (if l = [] then St.zero else styledF s l) else St.zero
def flagV (b : Bool) (x y : Int) : Int := if b = true then x else y
def paramsL (a b : St) : List Int :=
  if b = St.zero ∧ a ≠ St.zero then [0]
  else (if a.bold = b.bold then [] else [flagV b.bold 1 22]) ++ (if a.under = b.under then [] else [flagV b.under 4 24]) ++ (if a.turned = b.turned then [] else [flagV b.turned 7 27]) ++
    (if a.fore = b.fore then [] else [flagV (decide (b.fore = 0)) 39 (29 + b.fore)]) ++ (if a.back = b.back then [] else [flagV (decide (b.back = 0)) 49 (39 + b.back)])
def paramsV (a b : St) : List Int := if a.ok = true ∧ b.ok = true then paramsL a b else []
theorem paramsL_len (a b : St) : (paramsL a b).length ≤ 5 := by
  unfold paramsL
  split
  · simp
  · simp only [List.length_append]
    have h : ∀ (p : Prop) [Decidable p] (x : Int), (if p then [] else [x]).length ≤ 1 := fun p _ x => by split <;> simp
    have h1 := h (a.bold = b.bold) (flagV b.bold 1 22)
    have h2 := h (a.under = b.under) (flagV b.under 4 24)
    have h3 := h (a.turned = b.turned) (flagV b.turned 7 27)
    have h4 := h (a.fore = b.fore) (flagV (decide (b.fore = 0)) 39 (29 + b.fore))
    have h5 := h (a.back = b.back) (flagV (decide (b.back = 0)) 49 (39 + b.back))
    omega
theorem paramsL_self (a : St) : paramsL a a = [] := by
  unfold paramsL
  rw [if_neg (by rintro ⟨h1, h2⟩; exact h2 h1)]
  simp
theorem st_ext (a b : St) (h1 : a.fore = b.fore) (h2 : a.back = b.back) (h3 : a.bold = b.bold) (h4 : a.under = b.under) (h5 : a.turned = b.turned) : a = b := by
  cases a; cases b; simp_all
theorem paramsL_nil (a b : St) (h : paramsL a b = []) : a = b := by
  unfold paramsL at h
  split at h
  · cases h
  · simp only [List.append_eq_nil_iff] at h
    obtain ⟨⟨⟨⟨h1, h2⟩, h3⟩, h4⟩, h5⟩ := h
    refine st_ext a b ?_ ?_ ?_ ?_ ?_
    · by_cases e : a.fore = b.fore
      · exact e
      · rw [if_neg e] at h4; cases h4
    · by_cases e : a.back = b.back
      · exact e
      · rw [if_neg e] at h5; cases h5
    · by_cases e : a.bold = b.bold
      · exact e
      · rw [if_neg e] at h1; cases h1
    · by_cases e : a.under = b.under
      · exact e
      · rw [if_neg e] at h2; cases h2
    · by_cases e : a.turned = b.turned
      · exact e
      · rw [if_neg e] at h3; cases h3
theorem paramsL_bd (a b : St) (hb : b.ok = true) : ∀ n ∈ paramsL a b, 0 ≤ n ∧ n ≤ 49 := by
  have h := (St.ok_iff b).1 hb
  intro n hn
  unfold paramsL at hn
  split at hn
  · simp at hn; omega
  · simp only [List.mem_append] at hn
    have hf : ∀ (p : Bool) (x y : Int), flagV p x y = x ∨ flagV p x y = y := fun p x y => by cases p <;> simp [flagV]
    have g : ∀ (p : Prop) [Decidable p] (x : Int), n ∈ (if p then [] else [x]) → n = x := fun p _ x h => by split at h <;> simp_all
    rcases hn with (((hn | hn) | hn) | hn) | hn
    · rw [g _ _ hn]; rcases hf b.bold 1 22 with e | e <;> rw [e] <;> omega
    · rw [g _ _ hn]; rcases hf b.under 4 24 with e | e <;> rw [e] <;> omega
    · rw [g _ _ hn]; rcases hf b.turned 7 27 with e | e <;> rw [e] <;> omega
    · rw [g _ _ hn]; rcases hf (decide (b.fore = 0)) 39 (29 + b.fore) with e | e <;> rw [e] <;> omega
    · rw [g _ _ hn]; rcases hf (decide (b.back = 0)) 49 (39 + b.back) with e | e <;> rw [e] <;> omega

theorem paramV_zero (s : St) : paramV s 0 = St.zero := rfl
theorem step_bold (s : St) (b : Bool) : paramV s (flagV b 1 22) = { s with bold := b } := by cases b <;> simp [paramV, flagV]
theorem step_under (s : St) (b : Bool) : paramV s (flagV b 4 24) = { s with under := b } := by cases b <;> simp [paramV, flagV]
theorem step_turned (s : St) (b : Bool) : paramV s (flagV b 7 27) = { s with turned := b } := by cases b <;> simp [paramV, flagV]
theorem step_fore (s : St) (f : Int) (h : 0 ≤ f ∧ f ≤ 8) : paramV s (flagV (decide (f = 0)) 39 (29 + f)) = { s with fore := f } := by
  by_cases e : f = 0
  · subst e; simp [paramV, flagV]
  · have e1 : flagV (decide (f = 0)) 39 (29 + f) = 29 + f := by simp [flagV, e]
    rw [e1]
    unfold paramV
    rw [if_neg (by omega), if_neg (by omega), if_neg (by omega), if_neg (by omega), if_pos (by omega)]
    congr 1; omega
theorem step_back (s : St) (f : Int) (h : 0 ≤ f ∧ f ≤ 8) : paramV s (flagV (decide (f = 0)) 49 (39 + f)) = { s with back := f } := by
  by_cases e : f = 0
  · subst e; simp [paramV, flagV]
  · have e1 : flagV (decide (f = 0)) 49 (39 + f) = 39 + f := by simp [flagV, e]
    rw [e1]
    unfold paramV
    rw [if_neg (by omega), if_neg (by omega), if_neg (by omega), if_neg (by omega), if_neg (by omega), if_neg (by omega), if_pos (by omega)]
    congr 1; omega
theorem fold_if (s s' : St) (p : Prop) [Decidable p] (n : Int) (h1 : p → s = s') (h2 : ¬ p → paramV s n = s') : (if p then [] else [n]).foldl paramV s = s' := by
  split
  · rename_i hp; exact h1 hp
  · rename_i hp; simpa using h2 hp
/-- What the params from one make of it is the other. -/
theorem styled_params (a b : St) (hb : b.ok = true) : styledF a (paramsL a b) = b := by
  have h := (St.ok_iff b).1 hb
  unfold styledF paramsL
  split
  · rename_i hz; rw [hz.1]; rfl
  · have h1 := fold_if a { a with bold := b.bold } (a.bold = b.bold) (flagV b.bold 1 22) (fun e => by rw [← e]) (fun _ => step_bold a b.bold)
    have h2 := fold_if { a with bold := b.bold } { a with bold := b.bold, under := b.under } (a.under = b.under) (flagV b.under 4 24) (fun e => by rw [← e]) (fun _ => step_under _ b.under)
    have h3 := fold_if { a with bold := b.bold, under := b.under } { a with bold := b.bold, under := b.under, turned := b.turned } (a.turned = b.turned) (flagV b.turned 7 27) (fun e => by rw [← e]) (fun _ => step_turned _ b.turned)
    have h4 := fold_if { a with bold := b.bold, under := b.under, turned := b.turned } { a with bold := b.bold, under := b.under, turned := b.turned, fore := b.fore } (a.fore = b.fore) (flagV (decide (b.fore = 0)) 39 (29 + b.fore)) (fun e => by rw [← e]) (fun _ => step_fore _ b.fore ⟨h.1, h.2.1⟩)
    have h5 := fold_if { a with bold := b.bold, under := b.under, turned := b.turned, fore := b.fore } b (a.back = b.back) (flagV (decide (b.back = 0)) 49 (39 + b.back)) (fun e => st_ext _ _ rfl e rfl rfl rfl) (fun _ => step_back _ b.back ⟨h.2.2.1, h.2.2.2⟩)
    rw [List.foldl_append, List.foldl_append, List.foldl_append, List.foldl_append, h1, h2, h3, h4, h5]
theorem paramV_ok (s : St) (n : Int) (h : s.ok = true) : (paramV s n).ok = true := by
  have hs := (St.ok_iff s).1 h
  unfold paramV
  repeat' split
  all_goals first | exact h | (rw [St.ok_iff]; simp [St.zero]; try omega)
theorem styledF_ok (l : List Int) : ∀ s : St, s.ok = true → (styledF s l).ok = true := by
  induction l with
  | nil => intro s h; exact h
  | cons n l ih => intro s h; exact ih _ (paramV_ok s n h)
theorem styledV_ok (s : St) (l : List Int) : (styledV s l).ok = true := by
  unfold styledV
  split
  · split
    · decide
    · rename_i h _; exact styledF_ok l s h.1
  · decide
/-- The digits of a number from 0 to 99. -/
def digL (n : Int) : List Int := if n < 10 then [48 + n] else [48 + n / 10, 48 + n % 10]
def sepL : List Int → List Int
  | [] => []
  | n :: l => digL n ++ l.flatMap fun m => 59 :: digL m
def signL (l : List Int) : List Int := if l = [] then [] else [27, 91] ++ sepL l ++ [109]
end Go.Proofs.YteimcepkoclpbaaDoor
