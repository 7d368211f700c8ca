/- Styles: their params and signs. Plain mathematics. -/
import Derived.Test.YteimcepkoclpbaaDoorM1
namespace Go.Proofs.YteimcepkoclpbaaDoor

structure St where
  fore : Int
  back : Int
  bold : Bool
  under : Bool
  turned : Bool
deriving DecidableEq
def St.zero : St := ⟨0, 0, false, false, false⟩
def St.ok (s : St) : Bool := decide (0 ≤ s.fore ∧ s.fore ≤ 8 ∧ 0 ≤ s.back ∧ s.back ≤ 8)
theorem St.ok_iff (s : St) : s.ok = true ↔ 0 ≤ s.fore ∧ s.fore ≤ 8 ∧ 0 ≤ s.back ∧ s.back ≤ 8 := by simp [St.ok]
def paramV (s : St) (n : Int) : St :=
  if n = 0 then St.zero
  else if n = 1 ∨ n = 22 then { s with bold := decide (n = 1) }
  else if n = 4 ∨ n = 24 then { s with under := decide (n = 4) }
  else if n = 7 ∨ n = 27 then { s with turned := decide (n = 7) }
  else if 30 ≤ n ∧ n ≤ 37 then { s with fore := n - 29 }
  else if n = 39 then { s with fore := 0 }
  else if 40 ≤ n ∧ n ≤ 47 then { s with back := n - 39 }
  else if n = 49 then { s with back := 0 }
  else s
def styledF (s : St) (l : List Int) : St := l.foldl paramV s
def styledV (s : St) (l : List Int) : St := if s.ok = true ∧ l.length ≤ 16 then (if l = [] then St.zero else styledF s l) else St.zero
def flagV (b : Bool) (x y : Int) : Int := if b = true then x else y
def paramsL (a b : St) : List Int :=
  if b = St.zero ∧ a ≠ St.zero then [0]
  else (if a.bold = b.bold then [] else [flagV b.bold 1 22]) ++ (if a.under = b.under then [] else [flagV b.under 4 24]) ++ (if a.turned = b.turned then [] else [flagV b.turned 7 27]) ++
    (if a.fore = b.fore then [] else [flagV (decide (b.fore = 0)) 39 (29 + b.fore)]) ++ (if a.back = b.back then [] else [flagV (decide (b.back = 0)) 49 (39 + b.back)])
def paramsV (a b : St) : List Int := if a.ok = true ∧ b.ok = true then paramsL a b else []
theorem paramsL_len (a b : St) : (paramsL a b).length ≤ 5 := by
  unfold paramsL
  split
  · simp
  · simp only [List.length_append]
    have h : ∀ (p : Prop) [Decidable p] (x : Int), (if p then [] else [x]).length ≤ 1 := fun p _ x => by split <;> simp
    have h1 := h (a.bold = b.bold) (flagV b.bold 1 22)
    have h2 := h (a.under = b.under) (flagV b.under 4 24)
    have h3 := h (a.turned = b.turned) (flagV b.turned 7 27)
    have h4 := h (a.fore = b.fore) (flagV (decide (b.fore = 0)) 39 (29 + b.fore))
    have h5 := h (a.back = b.back) (flagV (decide (b.back = 0)) 49 (39 + b.back))
    omega
theorem paramsL_self (a : St) : paramsL a a = [] := by
  unfold paramsL
  rw [if_neg (by rintro ⟨h1, h2⟩; exact h2 h1)]
  simp
theorem st_ext (a b : St) (h1 : a.fore = b.fore) (h2 : a.back = b.back) (h3 : a.bold = b.bold) (h4 : a.under = b.under) (h5 : a.turned = b.turned) : a = b := by
  cases a; cases b; simp_all
theorem paramsL_nil (a b : St) (h : paramsL a b = []) : a = b := by
  unfold paramsL at h
  split at h
  · cases h
  · simp only [List.append_eq_nil_iff] at h
    obtain ⟨⟨⟨⟨h1, h2⟩, h3⟩, h4⟩, h5⟩ := h
    refine st_ext a b ?_ ?_ ?_ ?_ ?_
    · by_cases e : a.fore = b.fore
      · exact e
      · rw [if_neg e] at h4; cases h4
    · by_cases e : a.back = b.back
      · exact e
      · rw [if_neg e] at h5; cases h5
    · by_cases e : a.bold = b.bold
      · exact e
      · rw [if_neg e] at h1; cases h1
    · by_cases e : a.under = b.under
      · exact e
      · rw [if_neg e] at h2; cases h2
    · by_cases e : a.turned = b.turned
      · exact e
      · rw [if_neg e] at h3; cases h3
theorem paramsL_bd (a b : St) (hb : b.ok = true) : ∀ n ∈ paramsL a b, 0 ≤ n ∧ n ≤ 49 := by
  have h := (St.ok_iff b).1 hb
  intro n hn
  unfold paramsL at hn
  split at hn
  · simp at hn; omega
  · simp only [List.mem_append] at hn
    have hf : ∀ (p : Bool) (x y : Int), flagV p x y = x ∨ flagV p x y = y := fun p x y => by cases p <;> simp [flagV]
    have g : ∀ (p : Prop) [Decidable p] (x : Int), n ∈ (if p then [] else [x]) → n = x := fun p _ x h => by split at h <;> simp_all
    rcases hn with (((hn | hn) | hn) | hn) | hn
    · rw [g _ _ hn]; rcases hf b.bold 1 22 with e | e <;> rw [e] <;> omega
    · rw [g _ _ hn]; rcases hf b.under 4 24 with e | e <;> rw [e] <;> omega
    · rw [g _ _ hn]; rcases hf b.turned 7 27 with e | e <;> rw [e] <;> omega
    · rw [g _ _ hn]; rcases hf (decide (b.fore = 0)) 39 (29 + b.fore) with e | e <;> rw [e] <;> omega
    · rw [g _ _ hn]; rcases hf (decide (b.back = 0)) 49 (39 + b.back) with e | e <;> rw [e] <;> omega

theorem paramV_zero (s : St) : paramV s 0 = St.zero := rfl
theorem step_bold (s : St) (b : Bool) : paramV s (flagV b 1 22) = { s with bold := b } := by cases b <;> simp [paramV, flagV]
theorem step_under (s : St) (b : Bool) : paramV s (flagV b 4 24) = { s with under := b } := by cases b <;> simp [paramV, flagV]
theorem step_turned (s : St) (b : Bool) : paramV s (flagV b 7 27) = { s with turned := b } := by cases b <;> simp [paramV, flagV]
theorem step_fore (s : St) (f : Int) (h : 0 ≤ f ∧ f ≤ 8) : paramV s (flagV (decide (f = 0)) 39 (29 + f)) = { s with fore := f } := by
  by_cases e : f = 0
  · subst e; simp [paramV, flagV]
  · have e1 : flagV (decide (f = 0)) 39 (29 + f) = 29 + f := by simp [flagV, e]
    rw [e1]
    unfold paramV
    rw [if_neg (by omega), if_neg (by omega), if_neg (by omega), if_neg (by omega), if_pos (by omega)]
    congr 1; omega
theorem step_back (s : St) (f : Int) (h : 0 ≤ f ∧ f ≤ 8) : paramV s (flagV (decide (f = 0)) 49 (39 + f)) = { s with back := f } := by
  by_cases e : f = 0
  · subst e; simp [paramV, flagV]
  · have e1 : flagV (decide (f = 0)) 49 (39 + f) = 39 + f := by simp [flagV, e]
    rw [e1]
    unfold paramV
    rw [if_neg (by omega), if_neg (by omega), if_neg (by omega), if_neg (by omega), if_neg (by omega), if_neg (by omega), if_pos (by omega)]
    congr 1; omega
theorem fold_if (s s' : St) (p : Prop) [Decidable p] (n : Int) (h1 : p → s = s') (h2 : ¬ p → paramV s n = s') : (if p then [] else [n]).foldl paramV s = s' := by
  split
  · rename_i hp; exact h1 hp
  · rename_i hp; simpa using h2 hp
/-- What the params from one make of it is the other. -/
theorem styled_params (a b : St) (hb : b.ok = true) : styledF a (paramsL a b) = b := by
  have h := (St.ok_iff b).1 hb
  unfold styledF paramsL
  split
  · rename_i hz; rw [hz.1]; rfl
  · have h1 := fold_if a { a with bold := b.bold } (a.bold = b.bold) (flagV b.bold 1 22) (fun e => by rw [← e]) (fun _ => step_bold a b.bold)
    have h2 := fold_if { a with bold := b.bold } { a with bold := b.bold, under := b.under } (a.under = b.under) (flagV b.under 4 24) (fun e => by rw [← e]) (fun _ => step_under _ b.under)
    have h3 := fold_if { a with bold := b.bold, under := b.under } { a with bold := b.bold, under := b.under, turned := b.turned } (a.turned = b.turned) (flagV b.turned 7 27) (fun e => by rw [← e]) (fun _ => step_turned _ b.turned)
    have h4 := fold_if { a with bold := b.bold, under := b.under, turned := b.turned } { a with bold := b.bold, under := b.under, turned := b.turned, fore := b.fore } (a.fore = b.fore) (flagV (decide (b.fore = 0)) 39 (29 + b.fore)) (fun e => by rw [← e]) (fun _ => step_fore _ b.fore ⟨h.1, h.2.1⟩)
    have h5 := fold_if { a with bold := b.bold, under := b.under, turned := b.turned, fore := b.fore } b (a.back = b.back) (flagV (decide (b.back = 0)) 49 (39 + b.back)) (fun e => st_ext _ _ rfl e rfl rfl rfl) (fun _ => step_back _ b.back ⟨h.2.2.1, h.2.2.2⟩)
    rw [List.foldl_append, List.foldl_append, List.foldl_append, List.foldl_append, h1, h2, h3, h4, h5]
theorem paramV_ok (s : St) (n : Int) (h : s.ok = true) : (paramV s n).ok = true := by
  have hs := (St.ok_iff s).1 h
  unfold paramV
  repeat' split
  all_goals first | exact h | (rw [St.ok_iff]; simp [St.zero]; try omega)
theorem styledF_ok (l : List Int) : ∀ s : St, s.ok = true → (styledF s l).ok = true := by
  induction l with
  | nil => intro s h; exact h
  | cons n l ih => intro s h; exact ih _ (paramV_ok s n h)
theorem styledV_ok (s : St) (l : List Int) : (styledV s l).ok = true := by
  unfold styledV
  split
  · split
    · decide
    · rename_i h _; exact styledF_ok l s h.1
  · decide
/-- The digits of a number from 0 to 99. -/
def digL (n : Int) : List Int := if n < 10 then [48 + n] else [48 + n / 10, 48 + n % 10]
def sepL : List Int → List Int
  | [] => []
  | n :: l => digL n ++ l.flatMap fun m => 59 :: digL m
def signL (l : List Int) : List Int := if l = [] then [] else [27, 91] ++ sepL l ++ [109]
end Go.Proofs.YteimcepkoclpbaaDoor
