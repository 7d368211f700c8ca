/- Runes as numbers: what a text's first bytes are read to. Plain mathematics, no program. Contract of l1In alone. Styles: their params and signs. Plain mathematics. A style as a value; StyleOk as the specification has it. Contract of the program's StyleOk. Contracts of the program's small functions on styles. The laws' own copy of a style. Contracts of the small functions on styles. Slices of int64 that can be read, and rows that stay. What a contract leaves, as growth. A style in memory. Contracts of Styled as the specification has it. Two styles compared. Contracts of Params as the specification has it. Contracts of Params as the specification has it: all cases. Contract of Params as the program has it: the turns. Contract of Params as the program has it: all cases. What stays while the laws on two styles run. What stands at a text's beginning, told by its numbers. Plain mathematics. Contracts of the digits as the specification has them. Contracts of Sign as the specification has it. Contract of Sign as the specification has it: all cases. strconv's small numbers. strconv.AppendInt of a number from 0 to 99 in base 10, onto a row of the call's own. What a sign's bytes are made of. Rows of cells. Plain mathematics. Widths, and what fits into some cells. Plain mathematics. Rows of cells in memory. Rows of rows in memory. A grid in a block of its own. Parsers as numbers: what a rune makes of one, and what is told of it. Plain mathematics, no program. Lists of numbers that one call owns, apart from one another; parsers and actions in memory. Contracts: the specification's tests on parsers. The walk of the program's parser: what it tells, what comes next. The walk of the program's parser: past controls, letters, parameters, a title. The laws' own helper: two lists alike. Contracts of the program's Parsed and Step: first part. Contract of spec.l1Part. A screen as numbers, and in memory. Contracts of listSign and Sign as the program has them (from 2fb1364 on). What stays while the law of Sign runs. The walk of the law of Sign. What an argument that is a style is, once it can be read. -/
import Derived.Laws.BytesArg
import GoSem.Core.Utf8
import Derived.Test.YtedbmobjhpgiiaaDoorRows
import Derived.WalkKit
import Derived.ProofKit
import Derived.OpenShut
import Derived.ShutString
import Derived.LoopN
import Derived.WalkSpells
import Derived.Deep.QuietTactic
import Derived.BigQuiet
import Derived.Deep.RegionHeld3
import Derived.Deep.DrawnRows
import Derived.Laws.StructEq
import Derived.Laws.AppendOwn
import Derived.OwnWalk
import Derived.Laws.Strings
import Derived.Lib.AppendStr
import Derived.Lib.SlBytesConst
import Derived.Laws.OwnMore
import Derived.Laws.AppendOwnNone
import Derived.Deep.MidRow
import Derived.Deep.AppendLies
import Derived.LoopTactic
import Derived.OneCell
import Derived.Deep.RegionLaw
import Derived.Deep.LoopGhost
import Derived.ChangeOld
import Derived.Below
namespace Go.Proofs.YtedbmobjhpgiiaaDoor
def runeOk (r : Int) : Bool := decide (0 ≤ r ∧ r ≤ 1114111 ∧ (r < 55296 ∨ 57343 < r))

theorem runeOk_bd (r : Int) (h : runeOk r = true) : 0 ≤ r ∧ r ≤ 1114111 := by simp [runeOk] at h; omega

def nums (s : ByteArray) : List Int := s.data.toList.map fun b => (b.toNat : Int)
theorem nums_len (s : ByteArray) : (nums s).length = s.size := by simp only [nums, List.length_map, Array.length_toList]; rfl
theorem str_nums (s : ByteArray) : strOfNums (nums s) = s := by
  cases s with | mk d =>
  simp [strOfNums, nums, Function.comp_def]
theorem nums_str (l : List Int) (h : ∀ x ∈ l, 0 ≤ x ∧ x < 256) : nums (strOfNums l) = l := by
  simp only [nums, strOfNums, List.map_map]
  conv => rhs; rw [← List.map_id l]
  apply List.map_congr_left
  intro x hx
  have := h x hx
  simp
  omega
end Go.Proofs.YtedbmobjhpgiiaaDoor
namespace Go.Proofs.YtedbmobjhpgiiaaDoor
open Go.ChangeShapes Go.WideShapes Go.ChangeAt Go.RowKit
theorem ret_bool {a b : Bool} (h : a = b) : Ending.returned (.bool a) = .returned (.bool b) := by rw [h]

theorem l1In_any (x lo hi : Int) (w : World) :
    Calls Tryd.prog 40 #[.int .i64 x, .int .i64 lo, .int .i64 hi] w fun e w' => e = .returned (.bool (decide (lo ≤ x ∧ x ≤ hi))) ∧ w' = w := by
  by_cases h1 : lo ≤ x
  · go_enter Tryd.func40, Tryd.ntmps40
    go_wp2
    go_ret
    exact ⟨ret_bool (by simp [h1]), rfl⟩
  · go_enter Tryd.func40, Tryd.ntmps40
    go_wp2
    go_ret
    exact ⟨ret_bool (by simp; omega), rfl⟩

end Go.Proofs.YtedbmobjhpgiiaaDoor
namespace Go.Proofs.YtedbmobjhpgiiaaDoor
structure St where
  fore : Int
  back : Int
  bold : Bool
  under : Bool
  turned : Bool
deriving DecidableEq
def St.zero : St := ⟨0, 0, false, false, false⟩
def St.ok (s : St) : Bool := decide (0 ≤ s.fore ∧ s.fore ≤ 8 ∧ 0 ≤ s.back ∧ s.back ≤ 8)
theorem St.ok_iff (s : St) : s.ok = true ↔ 0 ≤ s.fore ∧ s.fore ≤ 8 ∧ 0 ≤ s.back ∧ s.back ≤ 8 := by simp [St.ok]
def flagV (b : Bool) (x y : Int) : Int := if b = true then x else y
def paramsL (a b : St) : List Int :=
  if b = St.zero ∧ a ≠ St.zero then [0]
  else (if a.bold = b.bold then [] else [flagV b.bold 1 22]) ++ (if a.under = b.under then [] else [flagV b.under 4 24]) ++ (if a.turned = b.turned then [] else [flagV b.turned 7 27]) ++
    (if a.fore = b.fore then [] else [flagV (decide (b.fore = 0)) 39 (29 + b.fore)]) ++ (if a.back = b.back then [] else [flagV (decide (b.back = 0)) 49 (39 + b.back)])
def paramsV (a b : St) : List Int := if a.ok = true ∧ b.ok = true then paramsL a b else []
theorem paramsL_len (a b : St) : (paramsL a b).length ≤ 5 := by
  unfold paramsL
  split
  · simp
  · simp only [List.length_append]
    have h : ∀ (p : Prop) [Decidable p] (x : Int), (if p then [] else [x]).length ≤ 1 := fun p _ x => by split <;> simp
    have h1 := h (a.bold = b.bold) (flagV b.bold 1 22)
    have h2 := h (a.under = b.under) (flagV b.under 4 24)
    have h3 := h (a.turned = b.turned) (flagV b.turned 7 27)
    have h4 := h (a.fore = b.fore) (flagV (decide (b.fore = 0)) 39 (29 + b.fore))
    have h5 := h (a.back = b.back) (flagV (decide (b.back = 0)) 49 (39 + b.back))
    omega
theorem paramsL_self (a : St) : paramsL a a = [] := by
  unfold paramsL
  rw [if_neg (by rintro ⟨h1, h2⟩; exact h2 h1)]
  simp
theorem paramsL_bd (a b : St) (hb : b.ok = true) : ∀ n ∈ paramsL a b, 0 ≤ n ∧ n ≤ 49 := by
  have h := (St.ok_iff b).1 hb
  intro n hn
  unfold paramsL at hn
  split at hn
  · simp at hn; omega
  · simp only [List.mem_append] at hn
    have hf : ∀ (p : Bool) (x y : Int), flagV p x y = x ∨ flagV p x y = y := fun p x y => by cases p <;> simp [flagV]
    have g : ∀ (p : Prop) [Decidable p] (x : Int), n ∈ (if p then [] else [x]) → n = x := fun p _ x h => by split at h <;> simp_all
    rcases hn with (((hn | hn) | hn) | hn) | hn
    · rw [g _ _ hn]; rcases hf b.bold 1 22 with e | e <;> rw [e] <;> omega
    · rw [g _ _ hn]; rcases hf b.under 4 24 with e | e <;> rw [e] <;> omega
    · rw [g _ _ hn]; rcases hf b.turned 7 27 with e | e <;> rw [e] <;> omega
    · rw [g _ _ hn]; rcases hf (decide (b.fore = 0)) 39 (29 + b.fore) with e | e <;> rw [e] <;> omega
    · rw [g _ _ hn]; rcases hf (decide (b.back = 0)) 49 (39 + b.back) with e | e <;> rw [e] <;> omega

/-- The digits of a number from 0 to 99. -/
def digL (n : Int) : List Int := if n < 10 then [48 + n] else [48 + n / 10, 48 + n % 10]
def sepL : List Int → List Int
  | [] => []
  | n :: l => digL n ++ l.flatMap fun m => 59 :: digL m
def signL (l : List Int) : List Int := if l = [] then [] else [27, 91] ++ sepL l ++ [109]
end Go.Proofs.YtedbmobjhpgiiaaDoor
namespace Go.Proofs.YtedbmobjhpgiiaaDoor
open Go.ChangeShapes Go.WideShapes Go.ChangeAt Go.RowKit
def stV (s : St) : Value := .agg #[.int .i64 s.fore, .int .i64 s.back, .bool s.bold, .bool s.under, .bool s.turned]
set_option maxHeartbeats 400000 in
theorem specStyleOk_any (s : St) (w : World) :
    Calls Tryd.prog 16 #[stV s] w fun e w' => e = .returned (.bool s.ok) ∧ Below w.heap.size w w' := by
  obtain ⟨f, b, bo, un, tu⟩ := s
  have hok : Hid ((St.mk f b bo un tu).ok = decide (0 ≤ f ∧ f ≤ 8 ∧ 0 ≤ b ∧ b ≤ 8)) := rfl
  unfold stV
  simp only
  go_enter Tryd.func16, Tryd.ntmps16
  go_wp2_with (go_at_call 40; refine (l1In_any _ _ _ _).mono ?_; rintro e w' ⟨rfl, hw⟩; subst hw)
  all_goals
    go_ret
    refine ⟨ret_bool ?_, (Below.refl _ _).alloc (Nat.le_refl _) _⟩
    rw [hok.out]
    clear hok
    by_cases h1 : 0 ≤ f ∧ f ≤ 8
    · by_cases h2 : 0 ≤ b ∧ b ≤ 8
      · have h3 : 0 ≤ f ∧ f ≤ 8 ∧ 0 ≤ b ∧ b ≤ 8 := ⟨h1.1, h1.2, h2⟩
        simp_all
      · have h3 : ¬ (0 ≤ f ∧ f ≤ 8 ∧ 0 ≤ b ∧ b ≤ 8) := fun h => h2 h.2.2
        simp_all
        try omega
    · have h3 : ¬ (0 ≤ f ∧ f ≤ 8 ∧ 0 ≤ b ∧ b ≤ 8) := fun h => h1 ⟨h.1, h.2.1⟩
      simp_all
end Go.Proofs.YtedbmobjhpgiiaaDoor
namespace Go.Proofs.YtedbmobjhpgiiaaDoor
open Go.ChangeShapes Go.WideShapes Go.ChangeAt Go.RowKit
theorem colorOk_any (x : Int) (w : World) :
    Calls Tryd.prog 39 #[.int .i64 x] w fun e w' => e = .returned (.bool (decide (0 ≤ x ∧ x ≤ 8))) ∧ w' = w := by
  by_cases h1 : 0 ≤ x
  · go_enter Tryd.func39, Tryd.ntmps39
    go_wp2
    go_ret
    exact ⟨ret_bool (by simp [h1]), rfl⟩
  · go_enter Tryd.func39, Tryd.ntmps39
    go_wp2
    go_ret
    exact ⟨ret_bool (by simp; omega), rfl⟩
set_option maxHeartbeats 400000 in
theorem implStyleOk_any (s : St) (w : World) :
    Calls Tryd.prog 15 #[stV s] w fun e w' => e = .returned (.bool s.ok) ∧ Below w.heap.size w w' := by
  obtain ⟨f, b, bo, un, tu⟩ := s
  have hok : Hid ((St.mk f b bo un tu).ok = decide (0 ≤ f ∧ f ≤ 8 ∧ 0 ≤ b ∧ b ≤ 8)) := rfl
  unfold stV
  simp only
  go_enter Tryd.func15, Tryd.ntmps15
  go_wp2_with (go_at_call 39; refine (colorOk_any _ _).mono ?_; rintro e w' ⟨rfl, hw⟩; subst hw)
  all_goals
    go_ret
    refine ⟨ret_bool ?_, (Below.refl _ _).alloc (Nat.le_refl _) _⟩
    rw [hok.out]
    clear hok
    by_cases h1 : 0 ≤ f ∧ f ≤ 8
    · by_cases h2 : 0 ≤ b ∧ b ≤ 8
      · have h3 : 0 ≤ f ∧ f ≤ 8 ∧ 0 ≤ b ∧ b ≤ 8 := ⟨h1.1, h1.2, h2⟩
        simp_all
      · have h3 : ¬ (0 ≤ f ∧ f ≤ 8 ∧ 0 ≤ b ∧ b ≤ 8) := fun h => h2 h.2.2
        simp_all
        try omega
    · have h3 : ¬ (0 ≤ f ∧ f ≤ 8 ∧ 0 ≤ b ∧ b ≤ 8) := fun h => h1 ⟨h.1, h.2.1⟩
      simp_all
end Go.Proofs.YtedbmobjhpgiiaaDoor
namespace Go.Proofs.YtedbmobjhpgiiaaDoor
open Go.ChangeShapes Go.WideShapes Go.ChangeAt Go.RowKit
theorem flagParam_any (c : Bool) (x y : Int) (w : World) :
    Calls Tryd.prog 33 #[.bool c, .int .i64 x, .int .i64 y] w fun e w' => e = .returned (.int .i64 (flagV c x y)) ∧ w' = w := by
  cases c
  all_goals
    go_enter Tryd.func33, Tryd.ntmps33
    go_wp2
    go_ret
    exact ⟨rfl, rfl⟩
theorem colorParam_any (x k : Int) (w : World) (hx : 0 ≤ x ∧ x ≤ 8) (hk : k = 30 ∨ k = 40) :
    Calls Tryd.prog 34 #[.int .i64 x, .int .i64 k] w fun e w' => e = .returned (.int .i64 (flagV (decide (x = 0)) (k + 9) (k - 1 + x))) ∧ w' = w := by
  obtain ⟨h0, h8⟩ := hx
  have hk0 : 0 ≤ k := by omega
  have hk1 : k ≤ 40 := by omega
  by_cases h : x = 0
  · have hz : (x == 0) = true := by simp [h]
    go_enter Tryd.func34, Tryd.ntmps34
    go_wp2
    go_ret
    exact ⟨by simp [flagV, h], rfl⟩
  · have hz : (x == 0) = false := by simp [h]
    go_enter Tryd.func34, Tryd.ntmps34
    go_wp2
    go_ret
    refine ⟨?_, rfl⟩
    simp [flagV, h]
    try omega
end Go.Proofs.YtedbmobjhpgiiaaDoor
namespace Go.Proofs.YtedbmobjhpgiiaaDoor
open Go.ChangeShapes Go.WideShapes Go.ChangeAt Go.RowKit
theorem toStyle_any (s : St) (w : World) :
    Calls Tryd.prog 17 #[stV s] w fun e w' => e = .returned (stV s) ∧ Below w.heap.size w w' := by
  obtain ⟨f, b, bo, un, tu⟩ := s
  unfold stV
  simp only
  go_enter Tryd.func17, Tryd.ntmps17
  go_wp2
  refine bodyPost_ret (v := .agg #[.int .i64 f, .int .i64 b, .bool bo, .bool un, .bool tu]) (by simp [results, Tryd.results17, go_sem]) rfl ⟨rfl, ?_⟩
  exact (((Below.refl _ _).alloc (Nat.le_refl _) _).alloc (by simp) _).alloc (by simp; omega) _
end Go.Proofs.YtedbmobjhpgiiaaDoor
namespace Go.Proofs.YtedbmobjhpgiiaaDoor
open Go.ChangeShapes Go.WideShapes Go.ChangeAt Go.RowKit
theorem flag_any (c : Bool) (x y : Int) (w : World) :
    Calls Tryd.prog 45 #[.bool c, .int .i64 x, .int .i64 y] w fun e w' => e = .returned (.int .i64 (flagV c x y)) ∧ w' = w := by
  cases c
  all_goals
    go_enter Tryd.func45, Tryd.ntmps45
    go_wp2
    go_ret
    exact ⟨rfl, rfl⟩
end Go.Proofs.YtedbmobjhpgiiaaDoor
namespace Go.Proofs.YtedbmobjhpgiiaaDoor
open Go.ChangeShapes Go.WideShapes Go.ChangeAt Go.RowKit
/-- What is owned stays owned while the world only grows above. -/
theorem _root_.Go.World.ownsRow.below {w w' : World} {base : Nat} {e : TypeId} {size : Nat} {v : Value} {n : Nat} {xs : List Value} (h : w.ownsRow base e size v n xs) (hb : Below w.heap.size w w') : w'.ownsRow base e size v n xs := by
  refine ⟨h.1, ?_⟩
  rcases h.2 with h2 | ⟨g, cap, cur, hv, hbg, hg, r⟩
  · exact .inl h2
  · exact .inr ⟨g, cap, cur, hv, hbg, by rw [hb.block g (Array.getElem?_eq_some_iff.1 hg).1]; exact hg, r⟩
/-- A slice that can be read: of no element, or a row of cells that hold the numbers. -/
def SlI (w : World) (v : Value) (xs : List Int) : Prop :=
  ∃ a c, v = .slice a xs.length c ∧ (xs = [] ∨ ∃ b off, a = some ⟨b, off, none⟩ ∧ b < w.heap.size ∧ ∀ i, i < xs.length → w.cell? ⟨b, off + i, none⟩ = some (.int .i64 (xs.getD i 0)))
theorem SlI.of_own {w : World} {base : Nat} {e : TypeId} {v : Value} {xs : List Int} (h : w.ownsRow base e 1 v xs.length (xs.map (Value.int .i64))) : SlI w v xs := by
  rcases h.2 with ⟨rfl, h2⟩ | ⟨g, cap, cur, rfl, hb, hg, hr⟩
  · exact ⟨none, 0, by rw [h2], .inl (List.eq_nil_of_length_eq_zero h2)⟩
  · refine ⟨_, cap, rfl, .inr ⟨g, 0, rfl, (Array.getElem?_eq_some_iff.1 hg).1, fun i hi => ?_⟩⟩
    have := h.cellAt i (by simpa using hi)
    rw [Nat.zero_add, this]
    simp [hi]
theorem SlI.below {w w' : World} {v : Value} {xs : List Int} (h : SlI w v xs) (hb : Below w.heap.size w w') : SlI w' v xs := by
  obtain ⟨a, c, hv, h | ⟨b, off, ha, hlt, hc⟩⟩ := h
  · exact ⟨a, c, hv, .inl h⟩
  · exact ⟨a, c, hv, .inr ⟨b, off, ha, Nat.lt_of_lt_of_le hlt hb.size, fun i hi => (hb.cell (p := ⟨b, off + i, none⟩) hlt).trans (hc i hi)⟩⟩
end Go.Proofs.YtedbmobjhpgiiaaDoor
namespace Go.Proofs.YtedbmobjhpgiiaaDoor
open Go.ChangeShapes Go.WideShapes Go.ChangeAt Go.RowKit
theorem gbl {w w' : World} (h : Below w.heap.size w w') (row : Option Nat) : w.grownBy w' row := ⟨h.os, h.tape, h.output, h.size, fun k hk _ => h.block k hk⟩
theorem bal' (w : World) (o : Obj) : Below w.heap.size w (w.alloc o) := (Below.refl _ _).alloc (Nat.le_refl _) o
theorem bdr (w : World) : Below w.heap.size w w.drew := ⟨rfl, rfl, rfl, Nat.le_refl _, fun _ _ => rfl⟩
end Go.Proofs.YtedbmobjhpgiiaaDoor
namespace Go.Proofs.YtedbmobjhpgiiaaDoor
open Go.ChangeShapes Go.WideShapes Go.ChangeAt Go.RowKit
/-- A style lies in block B. -/
def StAt (w : World) (B : Nat) (s : St) : Prop :=
  B < w.heap.size ∧ (w.cell? ⟨B, 0, none⟩ = some (.int .i64 s.fore) ∧ w.cell? ⟨B, 1, none⟩ = some (.int .i64 s.back) ∧ w.cell? ⟨B, 2, none⟩ = some (.bool s.bold) ∧ w.cell? ⟨B, 3, none⟩ = some (.bool s.under) ∧ w.cell? ⟨B, 4, none⟩ = some (.bool s.turned)) ∧
    (w.frozen? ⟨B, 0, none⟩ = false ∧ w.frozen? ⟨B, 1, none⟩ = false ∧ w.frozen? ⟨B, 2, none⟩ = false ∧ w.frozen? ⟨B, 3, none⟩ = false ∧ w.frozen? ⟨B, 4, none⟩ = false)
theorem StAt.grown {w w' : World} {B : Nat} {s : St} {row : Option Nat} (h : StAt w B s) (hg : w.grownBy w' row) (hr : row ≠ some B) : StAt w' B s := by
  have hb := hg.block B h.1 (Ne.symm hr)
  have hc : ∀ k, w'.cell? ⟨B, k, none⟩ = w.cell? ⟨B, k, none⟩ := fun k => World.cell?_of_block (w := w) hb
  have hz : ∀ k, w'.frozen? ⟨B, k, none⟩ = w.frozen? ⟨B, k, none⟩ := fun k => World.frozen?_of_block (w := w) hb
  refine ⟨Nat.lt_of_lt_of_le h.1 hg.size, ?_, ?_⟩
  · rw [hc, hc, hc, hc, hc]; exact h.2.1
  · rw [hz, hz, hz, hz, hz]; exact h.2.2
theorem StAt.below {w w' : World} {B : Nat} {s : St} (h : StAt w B s) (hb : Below w.heap.size w w') : StAt w' B s := h.grown (gbl hb none) (by simp)
theorem StAt.new (w : World) (s : St) (t : TypeId) : StAt (w.alloc (.cells #[.int .i64 s.fore, .int .i64 s.back, .bool s.bold, .bool s.under, .bool s.turned] t)) w.heap.size s :=
  ⟨by simp, ⟨by simp [go_sem], by simp [go_sem], by simp [go_sem], by simp [go_sem], by simp [go_sem]⟩, ⟨by simp [go_sem], by simp [go_sem], by simp [go_sem], by simp [go_sem], by simp [go_sem]⟩⟩
/-- Another style is written there whole. -/
def putSt (w : World) (B : Nat) (s : St) : World :=
  ((((w.setCell ⟨B, 0, none⟩ (.int .i64 s.fore)).setCell ⟨B, 1, none⟩ (.int .i64 s.back)).setCell ⟨B, 2, none⟩ (.bool s.bold)).setCell ⟨B, 3, none⟩ (.bool s.under)).setCell ⟨B, 4, none⟩ (.bool s.turned)

theorem setCell_ne' (w : World) (B a b : Nat) (u : Value) (h : a ≠ b) : (w.setCell ⟨B, b, none⟩ u).cell? ⟨B, a, none⟩ = w.cell? ⟨B, a, none⟩ := by
  simp [World.setCell, World.cell?, Array.getElem?_modify]
  cases hh : w.heap[B]? with
  | none => simp
  | some o => cases o <;> simp [Ne.symm h]
theorem StAt.put {w : World} {B : Nat} {s : St} (h : StAt w B s) (s' : St) : StAt (putSt w B s') B s' := by
  obtain ⟨hlt, ⟨c0, c1, c2, c3, c4⟩, ⟨z0, z1, z2, z3, z4⟩⟩ := h
  refine ⟨by simpa [putSt] using hlt, ⟨?_, ?_, ?_, ?_, ?_⟩, ⟨?_, ?_, ?_, ?_, ?_⟩⟩
  all_goals simp only [putSt]
  · rw [setCell_ne' _ _ _ _ _ (by decide), setCell_ne' _ _ _ _ _ (by decide), setCell_ne' _ _ _ _ _ (by decide), setCell_ne' _ _ _ _ _ (by decide)]; simp [go_sem, c0]
  · rw [setCell_ne' _ _ _ _ _ (by decide), setCell_ne' _ _ _ _ _ (by decide), setCell_ne' _ _ _ _ _ (by decide)]; simp [go_sem, c1]
  · rw [setCell_ne' _ _ _ _ _ (by decide), setCell_ne' _ _ _ _ _ (by decide)]; simp [go_sem, c2]
  · rw [setCell_ne' _ _ _ _ _ (by decide)]; simp [go_sem, c3]
  · simp [go_sem, c4]
  · simp [go_sem, z0]
  · simp [go_sem, z1]
  · simp [go_sem, z2]
  · simp [go_sem, z3]
  · simp [go_sem, z4]
end Go.Proofs.YtedbmobjhpgiiaaDoor
namespace Go.Proofs.YtedbmobjhpgiiaaDoor
open Go.ChangeShapes Go.WideShapes Go.ChangeAt Go.RowKit
attribute [local go_sem ↓] Go.wp_at_zero Go.wp_at_succ
/-- What stays while a list is gone through: the style in hand, the answer's place, the list's own cell. -/
def KS (B2 B4 bb o : Nat) (n : Int) (s z : St) (w0 W : World) : Prop := StAt W B2 s ∧ StAt W B4 z ∧ (bb < w0.heap.size ∧ W.cell? ⟨bb, o, none⟩ = some (.int .i64 n)) ∧ Below w0.heap.size w0 W
theorem KS.below {B2 B4 bb o : Nat} {n : Int} {s z : St} {w0 W W' : World} (k : KS B2 B4 bb o n s z w0 W) (hb : Below W.heap.size W W') : KS B2 B4 bb o n s z w0 W' :=
  ⟨k.1.below hb, k.2.1.below hb, ⟨k.2.2.1.1, (hb.cell (p := ⟨bb, o, none⟩) (Nat.lt_of_lt_of_le k.2.2.1.1 k.2.2.2.size)).trans k.2.2.1.2⟩, k.2.2.2.trans (hb.mono k.2.2.2.size)⟩

theorem KS.all {B2 B4 bb o : Nat} {n : Int} {s z : St} {w0 W : World} (kb : KS B2 B4 bb o n s z w0 W) : W.cell? ⟨B2, 0, none⟩ = some (.int .i64 s.fore) ∧ W.cell? ⟨B2, 1, none⟩ = some (.int .i64 s.back) ∧ W.cell? ⟨B2, 2, none⟩ = some (.bool s.bold) ∧ W.cell? ⟨B2, 3, none⟩ = some (.bool s.under) ∧ W.cell? ⟨B2, 4, none⟩ = some (.bool s.turned) ∧ W.cell? ⟨bb, o, none⟩ = some (.int .i64 n) ∧ KS B2 B4 bb o n s z w0 W :=
  ⟨kb.1.2.1.1, kb.1.2.1.2.1, kb.1.2.1.2.2.1, kb.1.2.1.2.2.2.1, kb.1.2.1.2.2.2.2, kb.2.2.1.2, kb⟩

end Go.Proofs.YtedbmobjhpgiiaaDoor
namespace Go.Proofs.YtedbmobjhpgiiaaDoor
open Go.ChangeShapes Go.WideShapes Go.ChangeAt Go.RowKit
theorem st_iff (f b : Int) (bo un tu : Bool) (f' b' : Int) (bo' un' tu' : Bool) : (St.mk f b bo un tu = St.mk f' b' bo' un' tu') ↔ (f = f' ∧ b = b' ∧ bo = bo' ∧ un = un' ∧ tu = tu') := by
  constructor
  · intro e; cases e; simp
  · rintro ⟨rfl, rfl, rfl, rfl, rfl⟩; rfl
set_option maxHeartbeats 1000000 in
theorem eq_st (a b : St) (W : World) : (Op.equalIn 10000 25 (.agg #[.int .i64 a.fore, .int .i64 a.back, .bool a.bold, .bool a.under, .bool a.turned]) (.agg #[.int .i64 b.fore, .int .i64 b.back, .bool b.bold, .bool b.under, .bool b.turned])).run Tryd.prog W = .ok (decide (a = b)) W := by
  have hu := Tryd.underlying25
  have hi := Tryd.underlying2
  have hb := Tryd.underlying4
  obtain ⟨f, g, bo, un, tu⟩ := a
  obtain ⟨f', g', bo', un', tu'⟩ := b
  simp only [st_iff]
  rw [run_equalIn_struct W 9999 _ _ _ (by simp [Program.fieldsOf, hu]) (by kernel_rfl)]
  by_cases h1 : f = f' <;> by_cases h2 : g = g' <;> by_cases h3 : bo = bo' <;> by_cases h4 : un = un' <;> by_cases h5 : tu = tu' <;> simp [Program.fieldsOf, hu, hi, hb, Op.eqFields, go_sem, h1, h2, h3, h4, h5, Result.andThen]
end Go.Proofs.YtedbmobjhpgiiaaDoor
namespace Go.Proofs.YtedbmobjhpgiiaaDoor
open Go.ChangeShapes Go.WideShapes Go.ChangeAt Go.RowKit
theorem info_int64s : (Tryd.prog.info? 2).map (fun i => (i.zero, i.size, i.bytes)) = some (some (.int .i64 0), 1, 8) := by kernel_rfl
/-- Two styles in memory and a list of this call's own. -/
def PK (base A B : Nat) (a b : St) (v : Value) (L : List Int) (w0 W : World) : Prop :=
  StAt W A a ∧ StAt W B b ∧ W.ownsRow base 2 1 v L.length (L.map (Value.int .i64)) ∧ Below w0.heap.size w0 W ∧ base ≤ W.heap.size ∧ A < base ∧ B < base ∧ w0.heap.size ≤ base ∧ L.length ≤ 1000
theorem append_pk {w : World} {ops : Array Oper} {rest : List Oper} {o : Oper} {ac : Act} {Q : Exit → Act → World → Prop} (hgd : o.guard = none) (s x : Operand)
    (ho : o.op = .call { callee := .builtin .append, args := #[s, x], argTypes := #[26, 26] })
    (base A B : Nat) (a b : St) (v : Value) (L : List Int) (w0 : World) (y : Int) (hs : ac.eval s = v) (k : PK base A B a b v L w0 w) (hl : L.length < 1000)
    (g : Nat) (hg0 : w.heap.size = g) (hx : ac.eval x = .slice (some ⟨g, 0, none⟩) 1 1)
    (h : ∀ v' w', PK base A B a b v' (L ++ [y]) w0 w' → wpList Tryd.prog ops Q rest (ac.put o.dst v') w') :
    wpList Tryd.prog ops Q (o :: rest) ac (w.alloc (.cells #[.int .i64 y] 2)) := by
  subst hg0
  obtain ⟨i0, hi, hz0, hz1, hz2⟩ := info_parts info_int64s
  obtain ⟨ka, kb, ko, kw, k1, k2, k3, k4, k5⟩ := k
  have hb := bal' w (Obj.cells #[.int .i64 y] 2)
  refine wpList_append_own _ hgd s x _ ho base 2 i0 (.int .i64 0) 1 8 Tryd.underlying26 hi hz0 hz1 hz2 rfl (by decide) v L.length _ hs (ko.alloc _) ⟨w.heap.size, 0, none⟩ 1 1 [.int .i64 y] hx rfl ?_ (by intro u hu; simp at hu; subst hu; rfl) (by unfold maxLen; omega) (by omega) (by simp; omega) (fun v' w' ho' hg' _ => ?_)
  · intro j u hj
    match j, hj with
    | 0, hj => simp at hj; subst hj; simp [Addr.add]
  · have hrow : ∀ g, v.ownBlock = some g → base ≤ g := fun g e => (ko.lt g e).1
    refine h v' w' ⟨(ka.below hb).grown hg' (fun e => by have := hrow A e; omega), (kb.below hb).grown hg' (fun e => by have := hrow B e; omega), ?_, (kw.trans (hb.mono kw.size)).grown hg' (kw.trans (hb.mono kw.size)).size (fun g e => by have := hrow g e; omega), by have := hg'.size; have := hb.size; omega, k2, k3, k4, by simp; omega⟩
    rw [List.length_append, List.map_append]
    simpa using ho'

theorem pk_fin {base A B : Nat} {a b : St} {v : Value} {L : List Int} {w0 W : World} (k : PK base A B a b v L w0 W) (hp : paramsL a b = L) :
    ∃ u, Ending.returned v = .returned u ∧ Below w0.heap.size w0 W ∧ W.ownsRow w0.heap.size 2 1 u (paramsL a b).length ((paramsL a b).map (Value.int .i64)) := by
  refine ⟨v, rfl, k.2.2.2.1, ?_⟩
  rw [hp]
  obtain ⟨h1, h2⟩ := k.2.2.1
  refine ⟨h1, ?_⟩
  rcases h2 with h2 | ⟨g, cap, cur, hv, hbg, r⟩
  · exact .inl h2
  · exact .inr ⟨g, cap, cur, hv, Nat.le_trans k.2.2.2.2.2.2.2.1 hbg, r⟩
theorem beq_dec (x : Int) : (x == 0) = decide (x = 0) := by by_cases h : x = 0 <;> simp [h]
theorem pk_start (a b : St) (w : World) : PK (w.heap.size + 1 + 1) w.heap.size (w.heap.size + 1) a b (.slice (some ⟨w.heap.size + 1 + 1, 0, none⟩) 0 0) [] w ((((w.alloc (Obj.cells #[.int .i64 a.fore, .int .i64 a.back, .bool a.bold, .bool a.under, .bool a.turned] 25)).alloc (Obj.cells #[.int .i64 b.fore, .int .i64 b.back, .bool b.bold, .bool b.under, .bool b.turned] 25)).alloc (Obj.cells #[] 2)).alloc (Obj.cells #[.int .i64 0, .int .i64 0, .bool false, .bool false, .bool false] 25)) := by
  have ha := StAt.new w a 25
  have hb := StAt.new (w.alloc (Obj.cells #[.int .i64 a.fore, .int .i64 a.back, .bool a.bold, .bool a.under, .bool a.turned] 25)) b 25
  have e1 : (w.alloc (Obj.cells #[.int .i64 a.fore, .int .i64 a.back, .bool a.bold, .bool a.under, .bool a.turned] 25)).heap.size = w.heap.size + 1 := by simp
  rw [e1] at hb
  refine ⟨((ha.below (bal' _ _)).below (bal' _ _)).below (bal' _ _), (hb.below (bal' _ _)).below (bal' _ _), ?_, ((((Below.refl _ _).alloc (Nat.le_refl _) _).alloc (by simp) _).alloc (by simp; omega) _).alloc (by simp; omega) _, by simp, by omega, by omega, by omega, by simp⟩
  have ho := World.ownsRow_lit (base := w.heap.size + 1 + 1) (e := 2) (size := 1) ((w.alloc (Obj.cells #[.int .i64 a.fore, .int .i64 a.back, .bool a.bold, .bool a.under, .bool a.turned] 25)).alloc (Obj.cells #[.int .i64 b.fore, .int .i64 b.back, .bool b.bold, .bool b.under, .bool b.turned] 25)) #[] 0 (by simp) (Nat.zero_le _) rfl
  have := ho.alloc (Obj.cells #[.int .i64 0, .int .i64 0, .bool false, .bool false, .bool false] 25)
  simpa using this

set_option maxRecDepth 20000 in
set_option maxHeartbeats 16000000 in
theorem l3Params_ne (a b : St) (w : World) (hok : b.ok = true) (hz : b ≠ St.zero) :
    Calls Tryd.prog 37 #[stV a, stV b] w fun e w' => ∃ v, e = .returned v ∧ Below w.heap.size w w' ∧ w'.ownsRow w.heap.size 2 1 v (paramsL a b).length ((paramsL a b).map (Value.int .i64)) := by
  have hq : ∀ W, (Op.equalIn 10000 25 (.agg #[.int .i64 b.fore, .int .i64 b.back, .bool b.bold, .bool b.under, .bool b.turned]) (.agg #[.int .i64 0, .int .i64 0, .bool false, .bool false, .bool false])).run Tryd.prog W = .ok false W := fun W => by
    have := eq_st b St.zero W
    rw [decide_eq_false hz] at this
    exact this
  have hk0 := pk_start a b w
  obtain ⟨hf0, hf1, hg0, hg1⟩ := (St.ok_iff b).1 hok
  have HZ : Hid (¬ (b = St.zero ∧ a ≠ St.zero)) := fun h => hz h.1
  clear hok hz
  unfold stV
  cases e1 : (!a.bold == b.bold) <;> cases e2 : (!a.under == b.under) <;> cases e3 : (!a.turned == b.turned) <;> cases e4 : (a.fore != b.fore) <;> cases e5 : (a.back != b.back)
  all_goals
    go_enter Tryd.func37, Tryd.ntmps37
    go_wp2_with (first
      | (go_at_call 45; refine (flag_any _ _ _ _).mono ?_; rintro e wf ⟨rfl, hw⟩; subst hw)
      | (at_builtin; refine append_pk rfl _ _ rfl (w.heap.size + 1 + 1) w.heap.size (w.heap.size + 1) a b _ _ w _ rfl (by assumption) (by simp) _ (by simp) rfl ?_; intro v' w' hk0; have kk := hk0; obtain ⟨⟨_, ⟨c0, c1, c2, c3, c4⟩, _⟩, ⟨_, ⟨d0, d1, d2, d3, d4⟩, _⟩, _⟩ := kk))
    go_ret
    refine pk_fin hk0 ?_
    rw [paramsL, if_neg HZ.out]
    clear hk0 hq HZ
    simp at e1 e2 e3 e4 e5
    simp [e1, e2, e3, e4, e5, beq_dec]
end Go.Proofs.YtedbmobjhpgiiaaDoor
namespace Go.Proofs.YtedbmobjhpgiiaaDoor
open Go.ChangeShapes Go.WideShapes Go.ChangeAt Go.RowKit
theorem own_low {w : World} {base base' : Nat} {e : TypeId} {size : Nat} {v : Value} {n : Nat} {xs : List Value} (h : w.ownsRow base e size v n xs) (hb : base' ≤ base) : w.ownsRow base' e size v n xs := by
  refine ⟨h.1, ?_⟩
  rcases h.2 with h2 | ⟨g, cap, cur, hv, hbg, r⟩
  · exact .inl h2
  · exact .inr ⟨g, cap, cur, hv, Nat.le_trans hb hbg, r⟩
set_option maxRecDepth 20000 in
set_option maxHeartbeats 4000000 in
theorem l3Params_any (a b : St) (w : World) (hok : b.ok = true) :
    Calls Tryd.prog 37 #[stV a, stV b] w fun e w' => ∃ v, e = .returned v ∧ Below w.heap.size w w' ∧ w'.ownsRow w.heap.size 2 1 v (paramsL a b).length ((paramsL a b).map (Value.int .i64)) := by
  by_cases hz : b = St.zero
  · subst hz
    have hk0 := pk_start a St.zero w
    by_cases ha : a = St.zero
    · subst ha
      have hp := paramsL_self St.zero
      unfold stV St.zero at *
      go_enter Tryd.func37, Tryd.ntmps37
      go_wp2
      go_ret
      exact pk_fin hk0 hp
    · have hp : Hid (paramsL a St.zero = [0]) := by show _ = _; rw [paramsL, if_pos ⟨rfl, ha⟩]
      have hq : ∀ W, (Op.equalIn 10000 25 (.agg #[.int .i64 a.fore, .int .i64 a.back, .bool a.bold, .bool a.under, .bool a.turned]) (.agg #[.int .i64 0, .int .i64 0, .bool false, .bool false, .bool false])).run Tryd.prog W = .ok false W := fun W => by
        have := eq_st a St.zero W
        rw [decide_eq_false ha] at this
        exact this
      have hbl := hk0.2.2.2.1
      have hlo := hk0.2.2.2.2.1
      unfold stV St.zero at *
      go_enter Tryd.func37, Tryd.ntmps37
      go_wp2
      go_ret
      have ho := World.ownsRow_lit (base := w.heap.size) (e := 2) (size := 1) ((((w.alloc (Obj.cells #[.int .i64 a.fore, .int .i64 a.back, .bool a.bold, .bool a.under, .bool a.turned] 25)).alloc (Obj.cells #[.int .i64 0, .int .i64 0, .bool false, .bool false, .bool false] 25)).alloc (Obj.cells #[] 2)).alloc (Obj.cells #[.int .i64 0, .int .i64 0, .bool false, .bool false, .bool false] 25)) #[.int .i64 0] 1 (by simp; omega) (by decide) rfl
      refine ⟨_, rfl, hbl.trans ((bal' _ _).mono hbl.size), ?_⟩
      rw [hp.out]
      simpa using ho
  · exact l3Params_ne a b w hok hz
end Go.Proofs.YtedbmobjhpgiiaaDoor
namespace Go.Proofs.YtedbmobjhpgiiaaDoor
open Go.ChangeShapes Go.WideShapes Go.ChangeAt Go.RowKit
attribute [local go_sem ↓] eq_st
attribute [local go_sem ↓] Go.wp_at_zero Go.wp_at_succ
theorem PK.below {base A B : Nat} {a b : St} {v : Value} {L : List Int} {w0 W W' : World} (k : PK base A B a b v L w0 W) (hb : Below W.heap.size W W') : PK base A B a b v L w0 W' := by
  obtain ⟨ka, kb, ko, kw, k1, k2, k3, k4, k5⟩ := k
  exact ⟨ka.below hb, kb.below hb, ko.below hb, kw.trans (hb.mono kw.size), Nat.le_trans k1 hb.size, k2, k3, k4, k5⟩
theorem PK.cells {base A B : Nat} {a b : St} {v : Value} {L : List Int} {w0 W : World} (k : PK base A B a b v L w0 W) : W.cell? ⟨A, 0, none⟩ = some (.int .i64 a.fore) ∧ W.cell? ⟨A, 1, none⟩ = some (.int .i64 a.back) ∧ W.cell? ⟨A, 2, none⟩ = some (.bool a.bold) ∧ W.cell? ⟨A, 3, none⟩ = some (.bool a.under) ∧ W.cell? ⟨A, 4, none⟩ = some (.bool a.turned) ∧ W.cell? ⟨B, 0, none⟩ = some (.int .i64 b.fore) ∧ W.cell? ⟨B, 1, none⟩ = some (.int .i64 b.back) ∧ W.cell? ⟨B, 2, none⟩ = some (.bool b.bold) ∧ W.cell? ⟨B, 3, none⟩ = some (.bool b.under) ∧ W.cell? ⟨B, 4, none⟩ = some (.bool b.turned) ∧ PK base A B a b v L w0 W :=
  ⟨k.1.2.1.1, k.1.2.1.2.1, k.1.2.1.2.2.1, k.1.2.1.2.2.2.1, k.1.2.1.2.2.2.2, k.2.1.2.1.1, k.2.1.2.1.2.1, k.2.1.2.1.2.2.1, k.2.1.2.1.2.2.2.1, k.2.1.2.1.2.2.2.2, k⟩
theorem PK.put {base A B : Nat} {a b : St} {v : Value} {L : List Int} {w0 W W' : World} {g : Nat} (k : PK base A B a b v L w0 W) (hg : W.grownBy W' (some g)) (h1 : base < g) (h2 : ∀ q, v.ownBlock = some q → q < g) : PK base A B a b v L w0 W' := by
  obtain ⟨ka, kb, ko, kw, k1, k2, k3, k4, k5⟩ := k
  refine ⟨ka.grown hg (by simp; omega), kb.grown hg (by simp; omega), ko.kept hg ?_, kw.grown hg kw.size (fun j hj => by cases hj; omega), Nat.le_trans k1 hg.size, k2, k3, k4, k5⟩
  cases hq : v.ownBlock with
  | none => exact .inl rfl
  | some q => right; intro e; have := h2 q hq; cases e; omega
theorem turn_ix0 (x0 x1 x2 x3 x4 x5 x6 x7 x8 x9 : Value) (w : World) : (Instr.index 51 (.agg #[x0, x1, x2, x3, x4, x5, x6, x7, x8, x9]) (.int .i64 0)).run Tryd.prog w = .ok (.agg #[x0, x1]) w := by kernel_rfl
theorem turn_ix1 (x0 x1 x2 x3 x4 x5 x6 x7 x8 x9 : Value) (w : World) : (Instr.index 51 (.agg #[x0, x1, x2, x3, x4, x5, x6, x7, x8, x9]) (.int .i64 1)).run Tryd.prog w = .ok (.agg #[x2, x3]) w := by kernel_rfl
theorem turn_ix2 (x0 x1 x2 x3 x4 x5 x6 x7 x8 x9 : Value) (w : World) : (Instr.index 51 (.agg #[x0, x1, x2, x3, x4, x5, x6, x7, x8, x9]) (.int .i64 2)).run Tryd.prog w = .ok (.agg #[x4, x5]) w := by kernel_rfl
theorem turn_ix3 (x0 x1 x2 x3 x4 x5 x6 x7 x8 x9 : Value) (w : World) : (Instr.index 51 (.agg #[x0, x1, x2, x3, x4, x5, x6, x7, x8, x9]) (.int .i64 3)).run Tryd.prog w = .ok (.agg #[x6, x7]) w := by kernel_rfl
theorem turn_ix4 (x0 x1 x2 x3 x4 x5 x6 x7 x8 x9 : Value) (w : World) : (Instr.index 51 (.agg #[x0, x1, x2, x3, x4, x5, x6, x7, x8, x9]) (.int .i64 4)).run Tryd.prog w = .ok (.agg #[x8, x9]) w := by kernel_rfl
/-- The ways through a region that come to one end are one. -/
theorem wp_meet {P : Program} {c : Code} {Q : Exit → Act → World → Prop} {a : Act} {w : World} (fa : Act) (fw : World) (h : c.wp P (fun e a' w' => e = Exit.normal ∧ a' = fa ∧ w' = fw) a w) (hq : Q .normal fa fw) : c.wp P Q a w :=
  Code.wp_mono (fun _ _ _ ⟨h1, h2, h3⟩ => by rw [h1, h2, h3]; exact hq) h
def turnsV (a b : St) : List (Bool × Int) := [(!a.bold == b.bold, flagV b.bold 1 22), (!a.under == b.under, flagV b.under 4 24), (!a.turned == b.turned, flagV b.turned 7 27), (a.fore != b.fore, flagV (decide (b.fore = 0)) 39 (29 + b.fore)), (a.back != b.back, flagV (decide (b.back = 0)) 49 (39 + b.back))]
def preV (a b : St) (j : Nat) : List Int := ((turnsV a b).take j).flatMap fun t => if t.1 then [t.2] else []
theorem preV_len (a b : St) (j : Nat) : (preV a b j).length ≤ 5 := by
  have h : ∀ l : List (Bool × Int), (l.flatMap fun t => if t.1 then [t.2] else []).length ≤ l.length := by
    intro l
    induction l with
    | nil => simp
    | cons t l ih =>
      rw [List.flatMap_cons, List.length_append, List.length_cons]
      have : (if t.1 then [t.2] else []).length ≤ 1 := by split <;> simp
      omega
  have := h ((turnsV a b).take j)
  have h5 : ((turnsV a b).take j).length ≤ 5 := by rw [List.length_take]; simp [turnsV]; omega
  exact Nat.le_trans this h5
theorem preV_5 (a b : St) (h : b ≠ St.zero) : paramsL a b = preV a b 5 := by
  have q1 : ∀ (x y : Bool) (n : Int), (if x = y then [] else [n]) = if (!x == y) then [n] else [] := by intro x y n; cases x <;> cases y <;> simp
  have q2 : ∀ (x y : Int) (n : Int), (if x = y then [] else [n]) = if (x != y) then [n] else [] := by intro x y n; by_cases e : x = y <;> simp [e]
  unfold paramsL preV turnsV
  rw [if_neg (fun hh => h hh.1), q1, q1, q1, q2, q2]
  simp [List.flatMap_cons]
set_option maxRecDepth 20000 in
set_option maxHeartbeats 16000000 in
theorem implParams_ne (a b : St) (w : World) (hoa : a.ok = true) (hob : b.ok = true) (hab : a ≠ b) (hz : b ≠ St.zero) :
    Calls Tryd.prog 9 #[stV a, stV b] w fun e w' => ∃ v, e = .returned v ∧ Below w.heap.size w w' ∧ w'.ownsRow w.heap.size 2 1 v (paramsL a b).length ((paramsL a b).map (Value.int .i64)) := by
  have ha := StAt.new w a 25
  have hb := StAt.new (w.alloc (Obj.cells #[.int .i64 a.fore, .int .i64 a.back, .bool a.bold, .bool a.under, .bool a.turned] 25)) b 25
  have e1 : (w.alloc (Obj.cells #[.int .i64 a.fore, .int .i64 a.back, .bool a.bold, .bool a.under, .bool a.turned] 25)).heap.size = w.heap.size + 1 := by simp
  rw [e1] at hb
  have ho := World.ownsRow_lit (base := w.heap.size + 1 + 1) (e := 2) (size := 1) ((w.alloc (Obj.cells #[.int .i64 a.fore, .int .i64 a.back, .bool a.bold, .bool a.under, .bool a.turned] 25)).alloc (Obj.cells #[.int .i64 b.fore, .int .i64 b.back, .bool b.bold, .bool b.under, .bool b.turned] 25)) #[] 0 (by simp) (Nat.zero_le _) rfl
  have k0 : PK (w.heap.size + 1 + 1) w.heap.size (w.heap.size + 1) a b (.slice (some ⟨w.heap.size + 1 + 1, 0, none⟩) 0 0) [] w (((w.alloc (Obj.cells #[.int .i64 a.fore, .int .i64 a.back, .bool a.bold, .bool a.under, .bool a.turned] 25)).alloc (Obj.cells #[.int .i64 b.fore, .int .i64 b.back, .bool b.bold, .bool b.under, .bool b.turned] 25)).alloc (Obj.cells #[] 2)) :=
    ⟨(ha.below (bal' _ _)).below (bal' _ _), hb.below (bal' _ _), by simpa using ho, (((Below.refl _ _).alloc (Nat.le_refl _) _).alloc (by simp) _).alloc (by simp; omega) _, by simp, by omega, by omega, by omega, by simp⟩
  have hs0 : w.heap.size + 1 + 1 < (((w.alloc (Obj.cells #[.int .i64 a.fore, .int .i64 a.back, .bool a.bold, .bool a.under, .bool a.turned] 25)).alloc (Obj.cells #[.int .i64 b.fore, .int .i64 b.back, .bool b.bold, .bool b.under, .bool b.turned] 25)).alloc (Obj.cells #[] 2)).heap.size := by simp
  clear ha hb e1 ho
  have oka := implStyleOk_any a
  have okb := implStyleOk_any b
  rw [hoa] at oka
  rw [hob] at okb
  have hab' : decide (a = b) = false := decide_eq_false hab
  have hz' : decide (b = St.zero) = false := decide_eq_false hz
  have hq : ∀ W, (Op.equalIn 10000 25 (.agg #[.int .i64 b.fore, .int .i64 b.back, .bool b.bold, .bool b.under, .bool b.turned]) (.agg #[.int .i64 0, .int .i64 0, .bool false, .bool false, .bool false])).run Tryd.prog W = .ok false W := fun W => by
    have := eq_st b St.zero W
    rw [hz'] at this
    exact this
  unfold stV at *
  go_enter Tryd.func9, Tryd.ntmps9
  go_wp2_with fail
  refine (oka _).mono ?_
  rintro e w2 ⟨rfl, hb2⟩
  have k1 := k0.below hb2
  have hs1 := Nat.lt_of_lt_of_le hs0 hb2.size
  clear k0 hs0 hb2 oka
  have hc1 := k1.cells
  go_wp2_with fail
  refine (okb _).mono ?_
  rintro e w3 ⟨rfl, hb3⟩
  have k2 := k1.below hb3
  have hs2 := Nat.lt_of_lt_of_le hs1 hb3.size
  clear k1 hc1 hs1 hb3 okb
  have hc2 := k2.cells
  go_wp2
  have hS2 : ∀ q, (Value.slice (some ⟨w.heap.size + 1 + 1, 0, none⟩) 0 0).ownBlock = some q → q < w3.heap.size := fun q e => by simp [Value.ownBlock] at e; omega
  have hfa := (St.ok_iff b).1 hob
  have hF8 : 0 ≤ b.fore ∧ b.fore ≤ 8 := ⟨hfa.1, hfa.2.1⟩
  have hB8 : 0 ≤ b.back ∧ b.back ≤ 8 := ⟨hfa.2.2.1, hfa.2.2.2⟩
  have HZ : Hid (b ≠ St.zero) := hz
  clear hc2 hq hz' hab' hoa hob hab hz hfa
  refine wp_meet { tmps := #[Value.agg #[Value.int IntKind.i64 a.fore, Value.int IntKind.i64 a.back, Value.bool a.bold, Value.bool a.under, Value.bool a.turned], Value.agg #[Value.int IntKind.i64 b.fore, Value.int IntKind.i64 b.back, Value.bool b.bold, Value.bool b.under, Value.bool b.turned], Value.pointer (some { block := w.heap.size, off := 0 }), Value.pointer (some { block := w.heap.size + 1, off := 0 }), Value.slice none 0 0, Value.slice (some { block := w.heap.size + 1 + 1, off := 0 }) 0 0, Value.pointer (some { block := w3.heap.size, off := 0 }), undef, undef, Value.slice (some { block := w.heap.size + 1 + 1, off := 0 }) 0 0, Value.agg #[Value.int IntKind.i64 a.fore, Value.int IntKind.i64 a.back, Value.bool a.bold, Value.bool a.under, Value.bool a.turned], Value.bool true, Value.bool false, Value.bool false, Value.agg #[Value.int IntKind.i64 b.fore, Value.int IntKind.i64 b.back, Value.bool b.bold, Value.bool b.under, Value.bool b.turned], Value.bool true, Value.bool false, Value.bool false, Value.bool false, Value.agg #[Value.int IntKind.i64 a.fore, Value.int IntKind.i64 a.back, Value.bool a.bold, Value.bool a.under, Value.bool a.turned], Value.agg #[Value.int IntKind.i64 b.fore, Value.int IntKind.i64 b.back, Value.bool b.bold, Value.bool b.under, Value.bool b.turned], Value.bool false, Value.bool false, undef, Value.agg #[Value.int IntKind.i64 b.fore, Value.int IntKind.i64 b.back, Value.bool b.bold, Value.bool b.under, Value.bool b.turned], Value.agg #[Value.int IntKind.i64 0, Value.int IntKind.i64 0, Value.bool false, Value.bool false, Value.bool false], Value.bool false, undef, undef, undef, Value.pointer (some { block := w.heap.size, off := 2 }), Value.bool a.bold, Value.pointer (some { block := w.heap.size + 1, off := 2 }), Value.bool b.bold, Value.bool !a.bold == b.bold, Value.pointer (some { block := w.heap.size + 1, off := 2 }), Value.bool b.bold, Value.int IntKind.i64 (flagV b.bold 1 22), Value.agg #[Value.bool !a.bold == b.bold, Value.int IntKind.i64 (flagV b.bold 1 22)], Value.pointer (some { block := w.heap.size, off := 3 }), Value.bool a.under, Value.pointer (some { block := w.heap.size + 1, off := 3 }), Value.bool b.under, Value.bool !a.under == b.under, Value.pointer (some { block := w.heap.size + 1, off := 3 }), Value.bool b.under, Value.int IntKind.i64 (flagV b.under 4 24), Value.agg #[Value.bool !a.under == b.under, Value.int IntKind.i64 (flagV b.under 4 24)], Value.pointer (some { block := w.heap.size, off := 4 }), Value.bool a.turned, Value.pointer (some { block := w.heap.size + 1, off := 4 }), Value.bool b.turned, Value.bool !a.turned == b.turned, Value.pointer (some { block := w.heap.size + 1, off := 4 }), Value.bool b.turned, Value.int IntKind.i64 (flagV b.turned 7 27), Value.agg #[Value.bool !a.turned == b.turned, Value.int IntKind.i64 (flagV b.turned 7 27)], Value.pointer (some { block := w.heap.size, off := 0 }), Value.int IntKind.i64 a.fore, Value.pointer (some { block := w.heap.size + 1, off := 0 }), Value.int IntKind.i64 b.fore, Value.bool (a.fore != b.fore), Value.pointer (some { block := w.heap.size + 1, off := 0 }), Value.int IntKind.i64 b.fore, Value.int IntKind.i64 (flagV (decide (b.fore = 0)) 39 (29 + b.fore)), Value.agg #[Value.bool (a.fore != b.fore), Value.int IntKind.i64 (flagV (decide (b.fore = 0)) 39 (29 + b.fore))], Value.pointer (some { block := w.heap.size, off := 1 }), Value.int IntKind.i64 a.back, Value.pointer (some { block := w.heap.size + 1, off := 1 }), Value.int IntKind.i64 b.back, Value.bool (a.back != b.back), Value.pointer (some { block := w.heap.size + 1, off := 1 }), Value.int IntKind.i64 b.back, Value.int IntKind.i64 (flagV (decide (b.back = 0)) 49 (39 + b.back)), Value.agg #[Value.bool (a.back != b.back), Value.int IntKind.i64 (flagV (decide (b.back = 0)) 49 (39 + b.back))], Value.agg #[Value.bool !a.bold == b.bold, Value.int IntKind.i64 (flagV b.bold 1 22), Value.bool !a.under == b.under, Value.int IntKind.i64 (flagV b.under 4 24), Value.bool !a.turned == b.turned, Value.int IntKind.i64 (flagV b.turned 7 27), Value.bool (a.fore != b.fore), Value.int IntKind.i64 (flagV (decide (b.fore = 0)) 39 (29 + b.fore)), Value.bool (a.back != b.back), Value.int IntKind.i64 (flagV (decide (b.back = 0)) 49 (39 + b.back))], undef, undef, undef, undef, undef, undef, undef, undef, undef, undef, undef, undef, undef], defers := [] } ((w3.alloc (Obj.cells #[.bool (!a.bold == b.bold), .int .i64 (flagV b.bold 1 22), .bool (!a.under == b.under), .int .i64 (flagV b.under 4 24), .bool (!a.turned == b.turned), .int .i64 (flagV b.turned 7 27), .bool (a.fore != b.fore), .int .i64 (flagV (decide (b.fore = 0)) 39 (29 + b.fore)), .bool (a.back != b.back), .int .i64 (flagV (decide (b.back = 0)) 49 (39 + b.back))] 51)).drew) ?reg ?imp
  case reg =>
    go_region_held3 (fun W => W.cell? ⟨w.heap.size, 0, none⟩ = some (.int .i64 a.fore) ∧ W.cell? ⟨w.heap.size, 1, none⟩ = some (.int .i64 a.back) ∧ W.cell? ⟨w.heap.size, 2, none⟩ = some (.bool a.bold) ∧ W.cell? ⟨w.heap.size, 3, none⟩ = some (.bool a.under) ∧ W.cell? ⟨w.heap.size, 4, none⟩ = some (.bool a.turned) ∧ W.cell? ⟨w.heap.size + 1, 0, none⟩ = some (.int .i64 b.fore) ∧ W.cell? ⟨w.heap.size + 1, 1, none⟩ = some (.int .i64 b.back) ∧ W.cell? ⟨w.heap.size + 1, 2, none⟩ = some (.bool b.bold) ∧ W.cell? ⟨w.heap.size + 1, 3, none⟩ = some (.bool b.under) ∧ W.cell? ⟨w.heap.size + 1, 4, none⟩ = some (.bool b.turned) ∧ PK (w.heap.size + 1 + 1) w.heap.size (w.heap.size + 1) a b (.slice (some ⟨w.heap.size + 1 + 1, 0, none⟩) 0 0) [] w W) (first | with_reducible assumption | with_reducible exact PK.cells (PK.below k2 (bdr _)) | with_reducible exact PK.cells (PK.below (PK.below k2 (bal' _ _)) (bdr _)))
      (first
        | (go_at_call 33; refine (flagParam_any _ _ _ _).mono ?_; rintro e wf ⟨rfl, hw⟩; subst hw)
        | (go_at_call 34; refine (colorParam_any _ _ _ (by assumption) (by simp)).mono ?_; rintro e wf ⟨rfl, hw⟩; subst hw))
    all_goals exact ⟨rfl, rfl, rfl⟩
  case imp =>
    have hk := (k2.below (bal' w3 (Obj.cells #[.bool (!a.bold == b.bold), .int .i64 (flagV b.bold 1 22), .bool (!a.under == b.under), .int .i64 (flagV b.under 4 24), .bool (!a.turned == b.turned), .int .i64 (flagV b.turned 7 27), .bool (a.fore != b.fore), .int .i64 (flagV (decide (b.fore = 0)) 39 (29 + b.fore)), .bool (a.back != b.back), .int .i64 (flagV (decide (b.back = 0)) 49 (39 + b.back))] 51))).below (bdr _)
    have hp0 : preV a b 0 = [] := rfl
    clear k2 hs2 hS2 hF8 hB8
    go_wp2
    go_loopw [5, 77] (fun u i wr => ∃ j : Nat, i = .int .i64 j ∧ j ≤ 5 ∧ PK (w.heap.size + 1 + 1) w.heap.size (w.heap.size + 1) a b u (preV a b j) w wr) (fun _ i _ => 5 - (intOf i).toNat)
    case atStart => exact ⟨0, rfl, by omega, hk⟩
    case round =>
      clear hk hp0
      obtain ⟨j, rfl, hj, hk⟩ := hrel
      rcases (show j = 0 ∨ j = 1 ∨ j = 2 ∨ j = 3 ∨ j = 4 ∨ j = 5 from by omega) with rfl | rfl | rfl | rfl | rfl | rfl
      · have hix := turn_ix0
        have hl := preV_len a b 0
        have hnx : Hid (preV a b 1 = preV a b 0 ++ (if (!a.bold == b.bold) then [flagV b.bold 1 22] else [])) := by show _ = _; simp [preV, turnsV, List.flatMap_cons]
        generalize preV a b 0 = L at *
        generalize hy : flagV b.bold 1 22 = y at *
        cases e : (!a.bold == b.bold)
        · rw [e] at hnx
          have hnx' : Hid (preV a b 1 = L) := by show _ = _; rw [hnx.out]; simp
          have hkA := hk.below (bal' wr (Obj.cells #[.bool false, .int .i64 y] 49))
          clear hk hnx e hy
          go_wp2
          go_roundw
          case rel => exact ⟨1, rfl, by omega, by rw [hnx'.out]; exact hkA⟩
          case measure => simp [intOf]
        · rw [e] at hnx
          have hnx' : Hid (preV a b 1 = L ++ [y]) := by show _ = _; rw [hnx.out]; simp
          have hkA := hk.below (bal' wr (Obj.cells #[.bool true, .int .i64 y] 49))
          clear hk hnx e hy
          go_wp2_with (at_builtin; refine append_pk rfl _ _ rfl (w.heap.size + 1 + 1) w.heap.size (w.heap.size + 1) a b _ _ w _ rfl (by exact hkA) (by omega) _ (by simp) rfl ?_; intro v' w' hk0)
          go_roundw
          case rel => exact ⟨1, rfl, by omega, by rw [hnx'.out]; exact hk0⟩
          case measure => simp [intOf]
      · have hix := turn_ix1
        have hl := preV_len a b 1
        have hnx : Hid (preV a b 2 = preV a b 1 ++ (if (!a.under == b.under) then [flagV b.under 4 24] else [])) := by show _ = _; simp [preV, turnsV, List.flatMap_cons]
        generalize preV a b 1 = L at *
        generalize hy : flagV b.under 4 24 = y at *
        cases e : (!a.under == b.under)
        · rw [e] at hnx
          have hnx' : Hid (preV a b 2 = L) := by show _ = _; rw [hnx.out]; simp
          have hkA := hk.below (bal' wr (Obj.cells #[.bool false, .int .i64 y] 49))
          clear hk hnx e hy
          go_wp2
          go_roundw
          case rel => exact ⟨2, rfl, by omega, by rw [hnx'.out]; exact hkA⟩
          case measure => simp [intOf]
        · rw [e] at hnx
          have hnx' : Hid (preV a b 2 = L ++ [y]) := by show _ = _; rw [hnx.out]; simp
          have hkA := hk.below (bal' wr (Obj.cells #[.bool true, .int .i64 y] 49))
          clear hk hnx e hy
          go_wp2_with (at_builtin; refine append_pk rfl _ _ rfl (w.heap.size + 1 + 1) w.heap.size (w.heap.size + 1) a b _ _ w _ rfl (by exact hkA) (by omega) _ (by simp) rfl ?_; intro v' w' hk0)
          go_roundw
          case rel => exact ⟨2, rfl, by omega, by rw [hnx'.out]; exact hk0⟩
          case measure => simp [intOf]
      · have hix := turn_ix2
        have hl := preV_len a b 2
        have hnx : Hid (preV a b 3 = preV a b 2 ++ (if (!a.turned == b.turned) then [flagV b.turned 7 27] else [])) := by show _ = _; simp [preV, turnsV, List.flatMap_cons]
        generalize preV a b 2 = L at *
        generalize hy : flagV b.turned 7 27 = y at *
        cases e : (!a.turned == b.turned)
        · rw [e] at hnx
          have hnx' : Hid (preV a b 3 = L) := by show _ = _; rw [hnx.out]; simp
          have hkA := hk.below (bal' wr (Obj.cells #[.bool false, .int .i64 y] 49))
          clear hk hnx e hy
          go_wp2
          go_roundw
          case rel => exact ⟨3, rfl, by omega, by rw [hnx'.out]; exact hkA⟩
          case measure => simp [intOf]
        · rw [e] at hnx
          have hnx' : Hid (preV a b 3 = L ++ [y]) := by show _ = _; rw [hnx.out]; simp
          have hkA := hk.below (bal' wr (Obj.cells #[.bool true, .int .i64 y] 49))
          clear hk hnx e hy
          go_wp2_with (at_builtin; refine append_pk rfl _ _ rfl (w.heap.size + 1 + 1) w.heap.size (w.heap.size + 1) a b _ _ w _ rfl (by exact hkA) (by omega) _ (by simp) rfl ?_; intro v' w' hk0)
          go_roundw
          case rel => exact ⟨3, rfl, by omega, by rw [hnx'.out]; exact hk0⟩
          case measure => simp [intOf]
      · have hix := turn_ix3
        have hl := preV_len a b 3
        have hnx : Hid (preV a b 4 = preV a b 3 ++ (if (a.fore != b.fore) then [flagV (decide (b.fore = 0)) 39 (29 + b.fore)] else [])) := by show _ = _; simp [preV, turnsV, List.flatMap_cons]
        generalize preV a b 3 = L at *
        generalize hy : flagV (decide (b.fore = 0)) 39 (29 + b.fore) = y at *
        cases e : (a.fore != b.fore)
        · rw [e] at hnx
          have hnx' : Hid (preV a b 4 = L) := by show _ = _; rw [hnx.out]; simp
          have hkA := hk.below (bal' wr (Obj.cells #[.bool false, .int .i64 y] 49))
          clear hk hnx e hy
          go_wp2
          go_roundw
          case rel => exact ⟨4, rfl, by omega, by rw [hnx'.out]; exact hkA⟩
          case measure => simp [intOf]
        · rw [e] at hnx
          have hnx' : Hid (preV a b 4 = L ++ [y]) := by show _ = _; rw [hnx.out]; simp
          have hkA := hk.below (bal' wr (Obj.cells #[.bool true, .int .i64 y] 49))
          clear hk hnx e hy
          go_wp2_with (at_builtin; refine append_pk rfl _ _ rfl (w.heap.size + 1 + 1) w.heap.size (w.heap.size + 1) a b _ _ w _ rfl (by exact hkA) (by omega) _ (by simp) rfl ?_; intro v' w' hk0)
          go_roundw
          case rel => exact ⟨4, rfl, by omega, by rw [hnx'.out]; exact hk0⟩
          case measure => simp [intOf]
      · have hix := turn_ix4
        have hl := preV_len a b 4
        have hnx : Hid (preV a b 5 = preV a b 4 ++ (if (a.back != b.back) then [flagV (decide (b.back = 0)) 49 (39 + b.back)] else [])) := by show _ = _; simp [preV, turnsV, List.flatMap_cons]
        generalize preV a b 4 = L at *
        generalize hy : flagV (decide (b.back = 0)) 49 (39 + b.back) = y at *
        cases e : (a.back != b.back)
        · rw [e] at hnx
          have hnx' : Hid (preV a b 5 = L) := by show _ = _; rw [hnx.out]; simp
          have hkA := hk.below (bal' wr (Obj.cells #[.bool false, .int .i64 y] 49))
          clear hk hnx e hy
          go_wp2
          go_roundw
          case rel => exact ⟨5, rfl, by omega, by rw [hnx'.out]; exact hkA⟩
          case measure => simp [intOf]
        · rw [e] at hnx
          have hnx' : Hid (preV a b 5 = L ++ [y]) := by show _ = _; rw [hnx.out]; simp
          have hkA := hk.below (bal' wr (Obj.cells #[.bool true, .int .i64 y] 49))
          clear hk hnx e hy
          go_wp2_with (at_builtin; refine append_pk rfl _ _ rfl (w.heap.size + 1 + 1) w.heap.size (w.heap.size + 1) a b _ _ w _ rfl (by exact hkA) (by omega) _ (by simp) rfl ?_; intro v' w' hk0)
          go_roundw
          case rel => exact ⟨5, rfl, by omega, by rw [hnx'.out]; exact hk0⟩
          case measure => simp [intOf]
      · go_wp2
        go_ret
        exact pk_fin hk (preV_5 a b HZ.out)
end Go.Proofs.YtedbmobjhpgiiaaDoor
namespace Go.Proofs.YtedbmobjhpgiiaaDoor
open Go.ChangeShapes Go.WideShapes Go.ChangeAt Go.RowKit
attribute [local go_sem ↓] eq_st
theorem pk_zero (a b : St) (w : World) : PK (w.heap.size + 1 + 1) w.heap.size (w.heap.size + 1) a b (.slice (some ⟨w.heap.size + 1 + 1, 0, none⟩) 0 0) [] w (((w.alloc (Obj.cells #[.int .i64 a.fore, .int .i64 a.back, .bool a.bold, .bool a.under, .bool a.turned] 25)).alloc (Obj.cells #[.int .i64 b.fore, .int .i64 b.back, .bool b.bold, .bool b.under, .bool b.turned] 25)).alloc (Obj.cells #[] 2)) := by
  have ha := StAt.new w a 25
  have hb := StAt.new (w.alloc (Obj.cells #[.int .i64 a.fore, .int .i64 a.back, .bool a.bold, .bool a.under, .bool a.turned] 25)) b 25
  have e1 : (w.alloc (Obj.cells #[.int .i64 a.fore, .int .i64 a.back, .bool a.bold, .bool a.under, .bool a.turned] 25)).heap.size = w.heap.size + 1 := by simp
  rw [e1] at hb
  have ho := World.ownsRow_lit (base := w.heap.size + 1 + 1) (e := 2) (size := 1) ((w.alloc (Obj.cells #[.int .i64 a.fore, .int .i64 a.back, .bool a.bold, .bool a.under, .bool a.turned] 25)).alloc (Obj.cells #[.int .i64 b.fore, .int .i64 b.back, .bool b.bold, .bool b.under, .bool b.turned] 25)) #[] 0 (by simp) (Nat.zero_le _) rfl
  exact ⟨(ha.below (bal' _ _)).below (bal' _ _), hb.below (bal' _ _), by simpa using ho, (((Below.refl _ _).alloc (Nat.le_refl _) _).alloc (by simp) _).alloc (by simp; omega) _, by simp, by omega, by omega, by omega, by simp⟩
theorem pk_end {base A B : Nat} {a b : St} {v : Value} {L : List Int} {w0 W : World} (k : PK base A B a b v L w0 W) {N : List Int} (hp : N = L) :
    ∃ u, Ending.returned v = .returned u ∧ Below w0.heap.size w0 W ∧ W.ownsRow w0.heap.size 2 1 u N.length (N.map (Value.int .i64)) := by
  subst hp
  exact ⟨v, rfl, k.2.2.2.1, own_low k.2.2.1 k.2.2.2.2.2.2.2.1⟩
set_option maxRecDepth 20000 in
set_option maxHeartbeats 4000000 in
theorem implParams_any (a b : St) (w : World) :
    Calls Tryd.prog 9 #[stV a, stV b] w fun e w' => ∃ v, e = .returned v ∧ Below w.heap.size w w' ∧ w'.ownsRow w.heap.size 2 1 v (paramsV a b).length ((paramsV a b).map (Value.int .i64)) := by
  by_cases hmain : a.ok = true ∧ b.ok = true ∧ a ≠ b ∧ b ≠ St.zero
  · obtain ⟨h1, h2, h3, h4⟩ := hmain
    have := implParams_ne a b w h1 h2 h3 h4
    rwa [show paramsV a b = paramsL a b by unfold paramsV; rw [if_pos ⟨h1, h2⟩]]
  · have k0 := pk_zero a b w
    have oka := implStyleOk_any a
    have okb := implStyleOk_any b
    cases hoa : a.ok
    · have hp : Hid (paramsV a b = []) := by show _ = _; unfold paramsV; rw [hoa]; simp
      rw [hoa] at oka
      clear hmain okb
      unfold stV at *
      go_enter Tryd.func9, Tryd.ntmps9
      go_wp2_with fail
      refine (oka _).mono ?_
      rintro e w2 ⟨rfl, hb2⟩
      have k1 := k0.below hb2
      clear k0 hb2 oka
      go_wp2
      go_ret
      exact pk_end k1 hp.out
    · rw [hoa] at oka
      cases hob : b.ok
      · have hp : Hid (paramsV a b = []) := by show _ = _; unfold paramsV; rw [hob]; simp
        rw [hob] at okb
        clear hmain
        unfold stV at *
        go_enter Tryd.func9, Tryd.ntmps9
        go_wp2_with fail
        refine (oka _).mono ?_
        rintro e w2 ⟨rfl, hb2⟩
        have k1 := k0.below hb2
        clear k0 hb2 oka
        have hc1 := k1.cells
        go_wp2_with fail
        refine (okb _).mono ?_
        rintro e w3 ⟨rfl, hb3⟩
        have k2 := k1.below hb3
        clear k1 hc1 hb3 okb
        go_wp2
        go_ret
        exact pk_end k2 hp.out
      · rw [hob] at okb
        by_cases hab : a = b
        · have hp : Hid (paramsV a b = []) := by show _ = _; subst hab; unfold paramsV; rw [if_pos ⟨hoa, hoa⟩]; exact paramsL_self a
          have hab' : decide (a = b) = true := decide_eq_true hab
          clear hmain hab
          unfold stV at *
          go_enter Tryd.func9, Tryd.ntmps9
          go_wp2_with fail
          refine (oka _).mono ?_
          rintro e w2 ⟨rfl, hb2⟩
          have k1 := k0.below hb2
          clear k0 hb2 oka
          have hc1 := k1.cells
          go_wp2_with fail
          refine (okb _).mono ?_
          rintro e w3 ⟨rfl, hb3⟩
          have k2 := k1.below hb3
          clear k1 hc1 hb3 okb
          have hc2 := k2.cells
          go_wp2
          go_ret
          exact pk_end k2 hp.out
        · have hz : b = St.zero := Classical.byContradiction fun h => hmain ⟨hoa, hob, hab, h⟩
          have hp : Hid (paramsV a b = [] ++ [0]) := by show _ = _; subst hz; unfold paramsV; rw [if_pos ⟨hoa, hob⟩]; unfold paramsL; rw [if_pos ⟨rfl, hab⟩]; rfl
          have hab' : decide (a = b) = false := decide_eq_false hab
          have hq : ∀ W, (Op.equalIn 10000 25 (.agg #[.int .i64 b.fore, .int .i64 b.back, .bool b.bold, .bool b.under, .bool b.turned]) (.agg #[.int .i64 0, .int .i64 0, .bool false, .bool false, .bool false])).run Tryd.prog W = .ok true W := fun W => by
            have := eq_st b St.zero W
            rw [decide_eq_true hz] at this
            exact this
          clear hmain hab hz
          unfold stV at *
          go_enter Tryd.func9, Tryd.ntmps9
          go_wp2_with fail
          refine (oka _).mono ?_
          rintro e w2 ⟨rfl, hb2⟩
          have k1 := k0.below hb2
          clear k0 hb2 oka
          have hc1 := k1.cells
          go_wp2_with fail
          refine (okb _).mono ?_
          rintro e w3 ⟨rfl, hb3⟩
          have k2 := k1.below hb3
          clear k1 hc1 hb3 okb
          have hc2 := k2.cells
          go_wp2_with (at_builtin; refine append_pk rfl _ _ rfl (w.heap.size + 1 + 1) w.heap.size (w.heap.size + 1) a b _ _ w _ rfl (by exact k2) (by simp) _ (by simp) rfl ?_; intro v' w' hk0)
          go_ret
          exact pk_end hk0 hp.out
end Go.Proofs.YtedbmobjhpgiiaaDoor
namespace Go.Proofs.YtedbmobjhpgiiaaDoor
open Go.ChangeShapes Go.WideShapes Go.ChangeAt Go.RowKit
def KQ (A B : Nat) (a b : St) (w0 W : World) : Prop := StAt W A a ∧ StAt W B b ∧ Below w0.heap.size w0 W
theorem KQ.below {A B : Nat} {a b : St} {w0 W W' : World} (k : KQ A B a b w0 W) (hb : Below W.heap.size W W') : KQ A B a b w0 W' := ⟨k.1.below hb, k.2.1.below hb, k.2.2.trans (hb.mono k.2.2.size)⟩
theorem KQ.all {A B : Nat} {a b : St} {w0 W : World} (k : KQ A B a b w0 W) : W.cell? ⟨A, 0, none⟩ = some (.int .i64 a.fore) ∧ W.cell? ⟨A, 1, none⟩ = some (.int .i64 a.back) ∧ W.cell? ⟨A, 2, none⟩ = some (.bool a.bold) ∧ W.cell? ⟨A, 3, none⟩ = some (.bool a.under) ∧ W.cell? ⟨A, 4, none⟩ = some (.bool a.turned) ∧ W.cell? ⟨B, 0, none⟩ = some (.int .i64 b.fore) ∧ W.cell? ⟨B, 1, none⟩ = some (.int .i64 b.back) ∧ W.cell? ⟨B, 2, none⟩ = some (.bool b.bold) ∧ W.cell? ⟨B, 3, none⟩ = some (.bool b.under) ∧ W.cell? ⟨B, 4, none⟩ = some (.bool b.turned) ∧ KQ A B a b w0 W :=
  ⟨k.1.2.1.1, k.1.2.1.2.1, k.1.2.1.2.2.1, k.1.2.1.2.2.2.1, k.1.2.1.2.2.2.2, k.2.1.2.1.1, k.2.1.2.1.2.1, k.2.1.2.1.2.2.1, k.2.1.2.1.2.2.2.1, k.2.1.2.1.2.2.2.2, k⟩
theorem KQ.drew {A B : Nat} {a b : St} {w0 W : World} (k : KQ A B a b w0 W) : W.drew.cell? ⟨A, 0, none⟩ = some (.int .i64 a.fore) ∧ W.drew.cell? ⟨A, 1, none⟩ = some (.int .i64 a.back) ∧ W.drew.cell? ⟨A, 2, none⟩ = some (.bool a.bold) ∧ W.drew.cell? ⟨A, 3, none⟩ = some (.bool a.under) ∧ W.drew.cell? ⟨A, 4, none⟩ = some (.bool a.turned) ∧ W.drew.cell? ⟨B, 0, none⟩ = some (.int .i64 b.fore) ∧ W.drew.cell? ⟨B, 1, none⟩ = some (.int .i64 b.back) ∧ W.drew.cell? ⟨B, 2, none⟩ = some (.bool b.bold) ∧ W.drew.cell? ⟨B, 3, none⟩ = some (.bool b.under) ∧ W.drew.cell? ⟨B, 4, none⟩ = some (.bool b.turned) ∧ KQ A B a b w0 W.drew := (k.below (bdr W)).all
theorem toStyle_kq (A B : Nat) (a b s : St) (w0 W : World) (k : W.cell? ⟨A, 0, none⟩ = some (.int .i64 a.fore) ∧ W.cell? ⟨A, 1, none⟩ = some (.int .i64 a.back) ∧ W.cell? ⟨A, 2, none⟩ = some (.bool a.bold) ∧ W.cell? ⟨A, 3, none⟩ = some (.bool a.under) ∧ W.cell? ⟨A, 4, none⟩ = some (.bool a.turned) ∧ W.cell? ⟨B, 0, none⟩ = some (.int .i64 b.fore) ∧ W.cell? ⟨B, 1, none⟩ = some (.int .i64 b.back) ∧ W.cell? ⟨B, 2, none⟩ = some (.bool b.bold) ∧ W.cell? ⟨B, 3, none⟩ = some (.bool b.under) ∧ W.cell? ⟨B, 4, none⟩ = some (.bool b.turned) ∧ KQ A B a b w0 W) :
    Calls Tryd.prog 17 #[.agg #[.int .i64 s.fore, .int .i64 s.back, .bool s.bold, .bool s.under, .bool s.turned]] W fun e w' => e = .returned (.agg #[.int .i64 s.fore, .int .i64 s.back, .bool s.bold, .bool s.under, .bool s.turned]) ∧ (w'.cell? ⟨A, 0, none⟩ = some (.int .i64 a.fore) ∧ w'.cell? ⟨A, 1, none⟩ = some (.int .i64 a.back) ∧ w'.cell? ⟨A, 2, none⟩ = some (.bool a.bold) ∧ w'.cell? ⟨A, 3, none⟩ = some (.bool a.under) ∧ w'.cell? ⟨A, 4, none⟩ = some (.bool a.turned) ∧ w'.cell? ⟨B, 0, none⟩ = some (.int .i64 b.fore) ∧ w'.cell? ⟨B, 1, none⟩ = some (.int .i64 b.back) ∧ w'.cell? ⟨B, 2, none⟩ = some (.bool b.bold) ∧ w'.cell? ⟨B, 3, none⟩ = some (.bool b.under) ∧ w'.cell? ⟨B, 4, none⟩ = some (.bool b.turned) ∧ KQ A B a b w0 w') :=
  (toStyle_any s W).mono fun _ _ ⟨he, hb⟩ => ⟨he, (k.2.2.2.2.2.2.2.2.2.2.below hb).all⟩
theorem kq_start (a b : St) (w : World) (t : TypeId) : KQ w.heap.size (w.heap.size + 1) a b w ((w.alloc (Obj.cells #[.int .i64 a.fore, .int .i64 a.back, .bool a.bold, .bool a.under, .bool a.turned] t)).alloc (Obj.cells #[.int .i64 b.fore, .int .i64 b.back, .bool b.bold, .bool b.under, .bool b.turned] t)) := by
  have ha := StAt.new w a t
  have hb := StAt.new (w.alloc (Obj.cells #[.int .i64 a.fore, .int .i64 a.back, .bool a.bold, .bool a.under, .bool a.turned] t)) b t
  have e1 : (w.alloc (Obj.cells #[.int .i64 a.fore, .int .i64 a.back, .bool a.bold, .bool a.under, .bool a.turned] t)).heap.size = w.heap.size + 1 := by simp
  rw [e1] at hb
  exact ⟨ha.below (bal' _ _), hb, ((Below.refl _ _).alloc (Nat.le_refl _) _).alloc (by simp) _⟩
end Go.Proofs.YtedbmobjhpgiiaaDoor
namespace Go.Proofs.YtedbmobjhpgiiaaDoor
theorem nums_inj {a b : ByteArray} (h : nums a = nums b) : a = b := by rw [← str_nums a, ← str_nums b, h]
end Go.Proofs.YtedbmobjhpgiiaaDoor
namespace Go.Proofs.YtedbmobjhpgiiaaDoor
open Go.ChangeShapes Go.WideShapes Go.ChangeAt Go.RowKit
theorem nums_app5 (a b : ByteArray) : nums (a ++ b) = nums a ++ nums b := by simp [nums, ByteArray.data_append]
theorem empty_of_size (s : ByteArray) (h0 : 0 < s.size) : s.toList.isEmpty = false := by
  rw [ByteArray.toList_eq, List.isEmpty_eq_false_iff]; intro e; have := congrArg List.length e; simp at this; simp [this] at h0
/-- One byte turned to a text. -/
theorem conv1 {w : World} {ops : Array Oper} {rest : List Oper} {o : Oper} {ac : Act} {Q : Exit → Act → World → Prop} (hgd : o.guard = none) (x : Operand)
    (ho : o.op = .convert 22 9 x) (g : Nat) (hg : w.heap.size = g) (y : Int) (hy : 0 ≤ y ∧ y < 256) (hx : ac.eval x = .slice (some ⟨g, 0, none⟩) 1 1)
    (h : ∀ t : ByteArray, Hid (nums t = [y]) → (∀ u : ByteArray, (t ++ u).toList.isEmpty = false) → t.size = 1 → wpList Tryd.prog ops Q rest (ac.put o.dst (.string t)) (w.alloc (.cells #[.int .u8 y] 5))) :
    wpList Tryd.prog ops Q (o :: rest) ac (w.alloc (.cells #[.int .u8 y] 5)) := by
  subst hg
  have hrun := run_convert_bytes_arg (P := Tryd.prog) (w.alloc (.cells #[.int .u8 y] 5)) 22 5 Tryd.underlying22 Tryd.underlying5 w.heap.size 0 1 1 [y] rfl (by
    intro i hi
    have : i = 0 := by omega
    subst this
    rw [cell_of_row _ w.heap.size 0 _ _ (0, 0) (heap_alloc_new w _)]
    rfl) 9 Tryd.underlying9
  have hn : nums (strOfNums [y]) = [y] := nums_str [y] (by intro z hz; simp at hz; omega)
  refine wpList_plain hgd fun K hK => ?_
  unfold Oper.wp
  simp [execOp, ho, hx, hrun, Result.andThen, -World.alloc_eq]
  refine hK _ _ (h _ hn (fun u => empty_of_size _ ?_) (by rw [← nums_len, hn]; rfl))
  have := congrArg List.length (nums_app5 (strOfNums [y]) u)
  rw [nums_len, List.length_append, hn] at this
  rw [this]; simp; omega
set_option maxRecDepth 20000 in
set_option maxHeartbeats 1000000 in
theorem l3Int_1 (n : Int) (w : World) (h : 0 ≤ n ∧ n < 10) :
    Calls Tryd.prog 46 #[.int .i64 n] w fun e w' => ∃ t, e = .returned (.string t) ∧ nums t = digL n ∧ Below w.heap.size w w' := by
  obtain ⟨h0, h1⟩ := h
  have hd : Hid (digL n = [48 + n]) := by show _ = _; simp [digL]; omega
  have hm : n % 10 = n := by omega
  have hq : n / 10 = 0 := by omega
  go_enter Tryd.func46, Tryd.ntmps46
  go_wp2
  refine wp_loop_rounds 2 ?_
  rw [rounds_succ]
  go_wp2_with (refine conv1 rfl _ rfl _ rfl (48 + n) (by omega) rfl ?_; intro t ht hte hts)
  have he := hte ⟨#[]⟩
  have hn : Hid (nums (t ++ ⟨#[]⟩) = digL n) := by show _ = _; rw [nums_app5, ht.out, hd.out]; rfl
  rw [rounds_succ]
  go_wp2
  go_ret
  exact ⟨_, rfl, hn.out, (Below.refl _ _).alloc (Nat.le_refl _) _⟩
set_option maxRecDepth 20000 in
set_option maxHeartbeats 2000000 in
theorem l3Int_2 (n : Int) (w : World) (h : 10 ≤ n ∧ n < 100) :
    Calls Tryd.prog 46 #[.int .i64 n] w fun e w' => ∃ t, e = .returned (.string t) ∧ nums t = digL n ∧ Below w.heap.size w w' := by
  obtain ⟨h0, h1⟩ := h
  have hd : Hid (digL n = [48 + n / 10, 48 + n % 10]) := by show _ = _; simp [digL]; omega
  have hm0 : 0 ≤ n % 10 := by omega
  have hm1 : n % 10 < 10 := by omega
  have hq0 : 0 < n / 10 := by omega
  have hq1 : n / 10 < 10 := by omega
  have hq2 : n / 10 % 10 = n / 10 := by omega
  have hq3 : n / 10 / 10 = 0 := by omega
  generalize hq : n / 10 = q at *
  generalize hm : n % 10 = m at *
  go_enter Tryd.func46, Tryd.ntmps46
  go_wp2
  refine wp_loop_rounds 3 ?_
  rw [rounds_succ]
  go_wp2_with (refine conv1 rfl _ rfl _ rfl (48 + m) (by omega) rfl ?_; intro t ht hte hts)
  have he := hte ⟨#[]⟩
  have hs1 : (t ++ ⟨#[]⟩).size = 1 := by rw [ByteArray.size_append, hts]; rfl
  rw [rounds_succ]
  go_wp2_with (refine conv1 rfl _ rfl _ (by simp) (48 + q) (by omega) rfl ?_; intro t2 ht2 hte2 hts2)
  have he2 := hte2 (t ++ ⟨#[]⟩)
  have hn : Hid (nums (t2 ++ (t ++ ⟨#[]⟩)) = digL n) := by show _ = _; rw [nums_app5, nums_app5, ht.out, ht2.out, hd.out]; rfl
  rw [rounds_succ]
  go_wp2
  go_ret
  exact ⟨_, rfl, hn.out, ((Below.refl _ _).alloc (Nat.le_refl _) _).alloc (by simp) _⟩
theorem l3Int_any (n : Int) (w : World) (h : 0 ≤ n ∧ n < 100) :
    Calls Tryd.prog 46 #[.int .i64 n] w fun e w' => ∃ t, e = .returned (.string t) ∧ nums t = digL n ∧ Below w.heap.size w w' := by
  by_cases h1 : n < 10
  · exact l3Int_1 n w ⟨h.1, h1⟩
  · exact l3Int_2 n w ⟨by omega, h.2⟩
end Go.Proofs.YtedbmobjhpgiiaaDoor
namespace Go.Proofs.YtedbmobjhpgiiaaDoor
open Go.ChangeShapes Go.WideShapes Go.ChangeAt Go.RowKit
theorem digL_len (n : Int) : (digL n).length ≤ 2 := by unfold digL; split <;> simp
theorem sepL_snoc (l : List Int) (j : Nat) (h : j < l.length) : sepL (l.take (j + 1)) = sepL (l.take j) ++ (if j = 0 then [] else [59]) ++ digL (l.getD j 0) := by
  match l with
  | [] => simp at h
  | x :: t =>
    cases j with
    | zero => simp [sepL]
    | succ j =>
      have h' : j < t.length := by simpa using h
      simp only [List.take_succ_cons, sepL]
      rw [List.take_succ_eq_append_getElem h', List.flatMap_append]
      simp [List.getD, h']
theorem sepL_len (l : List Int) : ∀ j, j ≤ l.length → (sepL (l.take j)).length ≤ 3 * j := by
  intro j
  induction j with
  | zero => intro _; simp [sepL]
  | succ j ih =>
    intro h
    rw [sepL_snoc l j (by omega)]
    have := ih (by omega)
    have := digL_len (l.getD j 0)
    generalize digL (l.getD j 0) = D at *
    simp only [List.length_append]
    split <;> simp <;> omega
def signN (a b : St) : List Int := if a.ok = true ∧ b.ok = true then signL (paramsL a b) else []

set_option maxRecDepth 20000 in
set_option maxHeartbeats 4000000 in
theorem l3Sign_any (a b : St) (w : World) (hok : b.ok = true) :
    Calls Tryd.prog 38 #[stV a, stV b] w fun e w' => ∃ t, e = .returned (.string t) ∧ nums t = signL (paramsL a b) ∧ Below w.heap.size w w' := by
  have hall := fun W => l3Params_any a b W hok
  have hbd := paramsL_bd a b hok
  have hl5 := paramsL_len a b
  have hS : Hid (paramsL a b ≠ [] → signL (paramsL a b) = [27, 91] ++ sepL (paramsL a b) ++ [109]) := by intro h; simp [signL, h]
  have hN : Hid (paramsL a b = [] → signL (paramsL a b) = []) := by intro h; simp [signL, h]
  generalize paramsL a b = L at *
  have hbA : Below w.heap.size w ((w.alloc (Obj.cells #[.int .i64 a.fore, .int .i64 a.back, .bool a.bold, .bool a.under, .bool a.turned] 25)).alloc (Obj.cells #[.int .i64 b.fore, .int .i64 b.back, .bool b.bold, .bool b.under, .bool b.turned] 25)) := ((Below.refl _ _).alloc (Nat.le_refl _) _).alloc (by simp) _
  unfold stV at *
  go_enter Tryd.func38, Tryd.ntmps38
  go_wp2_with fail
  refine (hall _).mono ?_
  clear hall
  rintro e w2 ⟨v, rfl, hb2, ho2⟩
  have kw := hbA.trans (hb2.mono hbA.size)
  have hL := SlI.of_own ho2
  clear hbA hb2 ho2
  obtain ⟨aa, c, rfl, hr⟩ := hL
  rcases hr with rfl | ⟨bb, off, rfl, hbb, hcl⟩
  · have hn := hN.out rfl
    clear hS hN
    go_wp2
    go_ret
    exact ⟨⟨#[]⟩, rfl, hn.symm, kw⟩
  · by_cases hne : L = []
    · subst hne
      have hn := hN.out rfl
      clear hS hN hcl
      go_wp2
      go_ret
      exact ⟨⟨#[]⟩, rfl, hn.symm, kw⟩
    · have hs := hS.out hne
      have hz : ((L.length : Int) == 0) = false := by simp; exact hne
      have HS : Hid (signL L = [27, 91] ++ sepL L ++ [109]) := hs
      clear hS hN hs
      go_wp2
      go_loopw [6, 7] (fun u i wr => ∃ (j : Nat) (t : ByteArray), i = .int .i64 j ∧ j ≤ L.length ∧ u = .string t ∧ t.size ≤ 2 + 3 * j ∧ Hid (nums t = [27, 91] ++ sepL (L.take j)) ∧ Below w2.heap.size w2 wr) (fun _ i _ => L.length - (intOf i).toNat)
      case atStart => exact ⟨0, _, rfl, Nat.zero_le _, rfl, by decide, (by show _ = _; rfl), Below.refl _ _⟩
      case round =>
        obtain ⟨j, t, rfl, hj, rfl, hts, htn, kb⟩ := hrel
        by_cases hlt : j < L.length
        · have hji : (j : Int) < (L.length : Int) := by omega
          have hcj := (kb.cell (p := ⟨bb, off + j, none⟩) hbb).trans (hcl j hlt)
          have hnj := hbd (L.getD j 0) (by have e : L.getD j 0 = L[j] := by simp [List.getD, hlt]
                                           rw [e]; exact List.getElem_mem hlt)
          have hsn : Hid (sepL (L.take (j + 1)) = sepL (L.take j) ++ (if j = 0 then [] else [59]) ++ digL (L.getD j 0)) := sepL_snoc L j hlt
          have hdl := digL_len (L.getD j 0)
          have hint := fun W => l3Int_any (L.getD j 0) W ⟨hnj.1, by omega⟩
          generalize L.getD j 0 = n at *
          clear hcl
          by_cases h0 : j = 0
          · have h0i : ¬ 0 < (j : Int) := by omega
            have H0 : Hid (j = 0) := h0
            clear h0
            go_wp2_with fail
            refine (hint _).mono ?_
            clear hint
            rintro e w3 ⟨q, rfl, hq, hb3⟩
            have hqs : q.size ≤ 2 := by rw [← nums_len, hq]; exact hdl
            have HQ : Hid (nums (t ++ q) = [27, 91] ++ sepL (L.take (j + 1))) := by
              show _ = _
              rw [nums_app5, htn.out, hq, hsn.out, if_pos H0.out]; simp
            have hsz : (t ++ q).size ≤ 2 + 3 * (j + 1) := by rw [ByteArray.size_append]; omega
            have kb3 := kb.trans (hb3.mono kb.size)
            clear hq hb3 kb
            go_wp2
            go_roundw
            case rel => exact ⟨j + 1, t ++ q, by go_num, by omega, rfl, hsz, HQ, kb3⟩
            case measure => simp [intOf]; omega
          · have h0i : 0 < (j : Int) := by omega
            go_wp2_with fail
            refine (hint _).mono ?_
            clear hint
            rintro e w3 ⟨q, rfl, hq, hb3⟩
            have hqs : q.size ≤ 2 := by rw [← nums_len, hq]; exact hdl
            have HQ : Hid (nums (t ++ ⟨#[59]⟩ ++ q) = [27, 91] ++ sepL (L.take (j + 1))) := by
              show _ = _
              rw [nums_app5, nums_app5, htn.out, hq, hsn.out, if_neg h0]
              have : nums ⟨#[59]⟩ = [59] := rfl
              rw [this]; simp
            have hsz : (t ++ ⟨#[59]⟩ ++ q).size ≤ 2 + 3 * (j + 1) := by
              rw [ByteArray.size_append, ByteArray.size_append]
              have : (⟨#[59]⟩ : ByteArray).size = 1 := rfl
              omega
            have hs1 : (t ++ ⟨#[59]⟩).size ≤ 3 + 3 * j := by
              rw [ByteArray.size_append]
              have : (⟨#[59]⟩ : ByteArray).size = 1 := rfl
              omega
            have kb3 := kb.trans (hb3.mono kb.size)
            clear hq hb3 kb
            go_wp2
            go_roundw
            case rel => exact ⟨j + 1, t ++ ⟨#[59]⟩ ++ q, by go_num, by omega, rfl, hsz, HQ, kb3⟩
            case measure => simp [intOf]; omega
        · have hjn : j = L.length := by omega
          have HF : Hid (nums (t ++ ⟨#[109]⟩) = signL L) := by
            show _ = _
            have h1 := htn.out
            rw [hjn, List.take_length] at h1
            have : nums ⟨#[109]⟩ = [109] := rfl
            rw [nums_app5, h1, this, HS.out]
          clear htn hcl
          go_wp2
          go_ret
          exact ⟨_, rfl, HF.out, kw.trans (kb.mono kw.size)⟩
end Go.Proofs.YtedbmobjhpgiiaaDoor
namespace Go.Proofs.YtedbmobjhpgiiaaDoor
open Go.ChangeShapes Go.WideShapes Go.ChangeAt Go.RowKit
set_option maxRecDepth 20000 in
set_option maxHeartbeats 2000000 in
theorem specSign_any (a b : St) (w : World) :
    Calls Tryd.prog 14 #[stV a, stV b] w fun e w' => ∃ t, e = .returned (.string t) ∧ nums t = signN a b ∧ Below w.heap.size w w' := by
  have ha := StAt.new w a 25
  have hb := StAt.new (w.alloc (Obj.cells #[.int .i64 a.fore, .int .i64 a.back, .bool a.bold, .bool a.under, .bool a.turned] 25)) b 25
  have e1 : (w.alloc (Obj.cells #[.int .i64 a.fore, .int .i64 a.back, .bool a.bold, .bool a.under, .bool a.turned] 25)).heap.size = w.heap.size + 1 := by simp
  rw [e1] at hb
  have ha' := ha.below (bal' _ (Obj.cells #[.int .i64 b.fore, .int .i64 b.back, .bool b.bold, .bool b.under, .bool b.turned] 25))
  have hbA : Below w.heap.size w ((w.alloc (Obj.cells #[.int .i64 a.fore, .int .i64 a.back, .bool a.bold, .bool a.under, .bool a.turned] 25)).alloc (Obj.cells #[.int .i64 b.fore, .int .i64 b.back, .bool b.bold, .bool b.under, .bool b.turned] 25)) := ((Below.refl _ _).alloc (Nat.le_refl _) _).alloc (by simp) _
  have oka := specStyleOk_any a
  have okb := specStyleOk_any b
  have hall := fun W h => l3Sign_any a b W h
  have hno : Hid (¬ (a.ok = true ∧ b.ok = true) → signN a b = []) := by intro h; simp only [signN]; rw [if_neg h]
  have hyes : Hid ((a.ok = true ∧ b.ok = true) → signN a b = signL (paramsL a b)) := by intro h; simp only [signN]; rw [if_pos h]
  unfold stV at *
  go_enter Tryd.func14, Tryd.ntmps14
  go_wp2_with fail
  refine (oka _).mono ?_
  rintro e w2 ⟨rfl, hb2⟩
  have ka := ha'.below hb2
  have kb := hb.below hb2
  have kw := hbA.trans (hb2.mono hbA.size)
  clear ha hb e1 ha' hbA hb2 oka
  have KA : Hid (StAt w2 w.heap.size a) := ka
  have KB : Hid (StAt w2 (w.heap.size + 1) b) := kb
  obtain ⟨_, ⟨c0, c1, c2, c3, c4⟩, _⟩ := ka
  obtain ⟨_, ⟨d0, d1, d2, d3, d4⟩, _⟩ := kb
  cases hoa : a.ok
  · have hp : Hid (signN a b = []) := hno.out (by rw [hoa]; rintro ⟨h, _⟩; cases h)
    clear hno hyes hall okb
    go_wp2
    go_ret
    exact ⟨⟨#[]⟩, rfl, by rw [hp.out]; rfl, kw⟩
  · go_wp2_with fail
    refine (okb _).mono ?_
    rintro e w3 ⟨rfl, hb3⟩
    have ka3 := KA.out.below hb3
    have kb3 := KB.out.below hb3
    have kw3 := kw.trans (hb3.mono kw.size)
    clear c0 c1 c2 c3 c4 d0 d1 d2 d3 d4 KA KB kw hb3 okb
    obtain ⟨_, ⟨c0, c1, c2, c3, c4⟩, _⟩ := ka3
    obtain ⟨_, ⟨d0, d1, d2, d3, d4⟩, _⟩ := kb3
    cases hob : b.ok
    · have hp : Hid (signN a b = []) := hno.out (by rw [hob]; rintro ⟨_, h⟩; cases h)
      clear hno hyes hall
      go_wp2
      go_ret
      exact ⟨⟨#[]⟩, rfl, by rw [hp.out]; rfl, kw3⟩
    · have hp : Hid (signN a b = signL (paramsL a b)) := hyes.out ⟨hoa, hob⟩
      have hal := hall w3 hob
      clear hno hyes hall
      go_wp2_with fail
      refine hal.mono ?_
      clear hal
      rintro e w4 ⟨t, rfl, ht, hb4⟩
      have HT : Hid (nums t = signN a b) := by show _ = _; rw [hp.out]; exact ht
      clear ht
      go_wp2
      go_ret
      exact ⟨t, rfl, HT.out, kw3.trans (hb4.mono kw3.size)⟩
end Go.Proofs.YtedbmobjhpgiiaaDoor
namespace Go.Proofs.YtedbmobjhpgiiaaDoor
open Go.ChangeShapes Go.WideShapes Go.ChangeAt Go.RowKit
set_option maxRecDepth 20000 in
theorem small_1 (n : Int) (w : World) (h : 0 ≤ n ∧ n < 10) :
    Calls Tryd.prog 49 #[.int .i64 n] w fun e w' => ∃ t, e = .returned (.string t) ∧ nums t = digL n ∧ w' = w := by
  obtain ⟨h0, h1⟩ := h
  have hd : Hid (digL n = [48 + n]) := by show _ = _; simp [digL]; omega
  go_enter Tryd.func49, Tryd.ntmps49
  go_wp2
  go_ret
  refine ⟨_, rfl, ?_, rfl⟩
  rw [hd.out]
  obtain ⟨k, rfl⟩ : ∃ k : Nat, n = k := ⟨n.toNat, by omega⟩
  have hk : k < 10 := by omega
  clear hd h0 h1
  rename_i x
  clear x
  revert k
  decide +kernel
set_option maxRecDepth 20000 in
theorem small_2 (n : Int) (w : World) (h : 10 ≤ n ∧ n < 100) :
    Calls Tryd.prog 49 #[.int .i64 n] w fun e w' => ∃ t, e = .returned (.string t) ∧ nums t = digL n ∧ w' = w := by
  obtain ⟨h0, h1⟩ := h
  have hd : Hid (digL n = [48 + n / 10, 48 + n % 10]) := by show _ = _; simp [digL]; omega
  go_enter Tryd.func49, Tryd.ntmps49
  go_wp2
  go_ret
  refine ⟨_, rfl, ?_, rfl⟩
  rw [hd.out]
  obtain ⟨k, rfl⟩ : ∃ k : Nat, n = (k + 10 : Nat) := ⟨(n - 10).toNat, by omega⟩
  have hk : k < 90 := by omega
  clear hd h0 h1
  rename_i x
  clear x
  revert k
  decide +kernel
theorem small_any (n : Int) (w : World) (h : 0 ≤ n ∧ n < 100) :
    Calls Tryd.prog 49 #[.int .i64 n] w fun e w' => ∃ t, e = .returned (.string t) ∧ nums t = digL n ∧ w' = w := by
  by_cases h1 : n < 10
  · exact small_1 n w ⟨h.1, h1⟩
  · exact small_2 n w ⟨by omega, h.2⟩
end Go.Proofs.YtedbmobjhpgiiaaDoor
namespace Go.Proofs.YtedbmobjhpgiiaaDoor
open Go.ChangeShapes Go.WideShapes Go.ChangeAt Go.RowKit
theorem info_u8s : (Tryd.prog.info? 5).map (fun i => (i.zero, i.size, i.bytes)) = some (some (.int .u8 0), 1, 1) := by kernel_rfl
theorem strCells_n (s : ByteArray) : Lib.strCells s = (nums s).map (Value.int .u8) := by
  simp [Lib.strCells, nums]
/-- A row of bytes without room (what '[]byte("..")' of a constant lays): its cells can be read, no more is known. -/
def FullB (base : Nat) (v : Value) (L : List Int) (w : World) : Prop := ∃ g, v = .slice (some ⟨g, 0, none⟩) L.length L.length ∧ base ≤ g ∧ g < w.heap.size ∧ ∀ j, j < L.length → w.cell? ⟨g, j, none⟩ = some (.int .u8 (L.getD j 0))
/-- A row of this call's own, or one without room. -/
def RowB (base : Nat) (v : Value) (L : List Int) (w : World) : Prop := w.ownsRow base 5 1 v L.length (L.map (Value.int .u8)) ∨ FullB base v L w
theorem RowB.lt {base : Nat} {v : Value} {L : List Int} {w : World} (h : RowB base v L w) : ∀ g, v.ownBlock = some g → base ≤ g := by
  intro g hg
  rcases h with h | ⟨g', rfl, hb, _⟩
  · exact (h.lt g hg).1
  · simp [Value.ownBlock] at hg; omega
theorem append_full {w : World} {ops : Array Oper} {rest : List Oper} {o : Oper} {a : Act} {Q : Exit → Act → World → Prop} (hgd : o.guard = none) (sl x : Operand)
    (ho : o.op = .call { callee := .builtin .append, args := #[sl, x], argTypes := #[22, 9] })
    (base : Nat) (v : Value) (L : List Int) (hs : a.eval sl = v) (hk : FullB base v L w) (s : ByteArray) (hx : a.eval x = .string s) (h0 : 0 < s.size)
    (hl : L.length + s.size ≤ 140737488355328) (hbase : base ≤ w.heap.size)
    (h : ∀ v' w', w'.ownsRow base 5 1 v' (L.length + s.size) (L.map (Value.int .u8) ++ Lib.strCells s) → w.grownBy w' v.ownBlock → wpList Tryd.prog ops Q rest (a.put o.dst v') w') : wpList Tryd.prog ops Q (o :: rest) a w := by
  obtain ⟨i0, hi, hz0, hz1, hz2⟩ := info_parts info_u8s
  obtain ⟨g, rfl, hb, hg, hc⟩ := hk
  refine wpList_plain hgd fun K hK => ?_
  have holds : ∀ j u, (L.map (Value.int .u8))[j]? = some u → w.cell? ((⟨g, 0, none⟩ : Addr).add j) = some u := by
    intro j u hj
    have hj' : j < L.length := by have := (List.getElem?_eq_some_iff.1 hj).1; simpa using this
    have e : (⟨g, 0, none⟩ : Addr).add j = ⟨g, j, none⟩ := by unfold Addr.add; split <;> simp_all
    rw [e, hc j hj']
    simp [List.getElem?_eq_getElem hj'] at hj
    simp [← hj, List.getD, hj']
  have hr := Lib.run_append_grow_string (P := Tryd.prog) w 22 9 o.type 5 i0 (.int .u8 0) Tryd.underlying22 Tryd.underlying9 hi hz0 ⟨g, 0, none⟩ L.length L.length (L.map (Value.int .u8)) (by rw [hz1]; simp) holds s (by omega) (by omega) (by rw [hz2]; exact growslice_fits (by omega) (by omega))
  unfold Oper.wp execOp
  simp only [ho, resolve, invoke, builtin, Sem.run_bind, Sem.run_pure, Result.andThen_ok, List.map_toArray, List.map_cons, List.map_nil, hs, hx, hr]
  refine hK _ _ (h _ _ ?_ ⟨rfl, rfl, rfl, by simp, fun k hk _ => heap_alloc_old w.drew _ hk⟩)
  have hge := grownCap_ge w (L.length + s.size) L.length 5
  have hcm : grownCap w (L.length + s.size) L.length 5 ≤ maxLen := grownCap_le_maxLen w (L.length + s.size) L.length 5 (by unfold maxLen; omega)
  have hlen : (L.map (Value.int .u8) ++ Lib.strCells s).length = (L.length + s.size) * 1 := by rw [List.length_append, List.length_map, Lib.strCells_length, Nat.mul_one]
  refine ⟨hlen, .inr ⟨w.heap.size, _, _, rfl, hbase, heap_alloc_new w.drew _, hge, hcm, ?_, ?_⟩⟩
  · have hz1 : (Value.int IntKind.u8 0).cells.size = 1 := rfl
    simp only [Array.size_append, List.size_toArray, size_zeroCells, hz1, List.length_map, Lib.strCells_length]
    omega
  · simp only [Array.toList_append, List.append_assoc]
    rw [← List.append_assoc, ← hlen]
    exact List.take_left
theorem append_row {w : World} {ops : Array Oper} {rest : List Oper} {o : Oper} {a : Act} {Q : Exit → Act → World → Prop} (hgd : o.guard = none) (sl x : Operand)
    (ho : o.op = .call { callee := .builtin .append, args := #[sl, x], argTypes := #[22, 9] })
    (base : Nat) (v : Value) (L : List Int) (hs : a.eval sl = v) (hk : RowB base v L w) (s : ByteArray) (hx : a.eval x = .string s) (h0 : 0 < s.size)
    (hl : L.length + s.size ≤ 140737488355328) (hbase : base ≤ w.heap.size)
    (h : ∀ v' w', w'.ownsRow base 5 1 v' (L.length + s.size) (L.map (Value.int .u8) ++ Lib.strCells s) → w.grownBy w' v.ownBlock → wpList Tryd.prog ops Q rest (a.put o.dst v') w') : wpList Tryd.prog ops Q (o :: rest) a w := by
  rcases hk with hk | hk
  · obtain ⟨i0, hi, hz0, hz1, hz2⟩ := info_parts info_u8s
    exact Lib.wpList_append_own_string _ hgd sl x _ _ ho base _ i0 Tryd.underlying22 Tryd.underlying9 hi hz0 hz1 hz2 v L.length _ hs hk s hx (by unfold maxLen; omega) (by omega) hbase (fun v' w' h1 h2 _ => h v' w' h1 h2)
  · exact append_full hgd sl x ho base v L hs hk s hx h0 hl hbase h
set_option maxRecDepth 20000 in
set_option maxHeartbeats 1000000 in
theorem appendUint_s (base : Nat) (v : Value) (L : List Int) (n : Int) (w : World) (h : 0 ≤ n ∧ n < 100) (hown : RowB base v L w) (hl : L.length ≤ 1048576) (hb : base ≤ w.heap.size) :
    Calls Tryd.prog 48 #[v, .int .u64 n, .int .i64 10] w fun e w' => ∃ v', e = .returned v' ∧ w'.ownsRow base 5 1 v' (L ++ digL n).length ((L ++ digL n).map (Value.int .u8)) ∧ w.grownBy w' v.ownBlock := by
  obtain ⟨h0, h1⟩ := h
  have hs := fun W => small_any n W ⟨h0, h1⟩
  go_enter Tryd.func48, Tryd.ntmps48
  go_wp2_with fail
  refine (hs _).mono ?_
  rintro e w' ⟨t, rfl, ht, rfl⟩
  have hts : t.size = (digL n).length := by rw [← nums_len, ht]
  have hd2 : (digL n).length ≤ 2 := by unfold digL; split <;> simp
  have HT : Hid (nums t = digL n) := ht
  have HTS : Hid (t.size = (digL n).length) := hts
  have h2 : t.size ≤ 2 := by omega
  have hp : 0 < t.size := by rw [hts]; unfold digL; split <;> simp
  clear hs ht hts hd2
  go_wp2_with (at_builtin; refine append_row rfl _ _ rfl base v L rfl hown t rfl hp (by omega) hb ?_; intro v' w1 hown' hg')
  go_ret
  refine ⟨v', rfl, ?_, hg'⟩
  rw [strCells_n, HT.out, HTS.out, ← List.map_append, ← List.length_append] at hown'
  exact hown'
set_option maxRecDepth 20000 in
set_option maxHeartbeats 1000000 in
theorem appendInt_s (base : Nat) (v : Value) (L : List Int) (n : Int) (w : World) (h : 0 ≤ n ∧ n < 100) (hown : RowB base v L w) (hl : L.length ≤ 1048576) (hb : base ≤ w.heap.size) :
    Calls Tryd.prog 43 #[v, .int .i64 n, .int .i64 10] w fun e w' => ∃ v', e = .returned v' ∧ w'.ownsRow base 5 1 v' (L ++ digL n).length ((L ++ digL n).map (Value.int .u8)) ∧ w.grownBy w' v.ownBlock := by
  obtain ⟨h0, h1⟩ := h
  have hu := appendUint_s base v L n w ⟨h0, h1⟩ hown hl hb
  have hw : n % 18446744073709551616 = n := by omega
  go_enter Tryd.func43, Tryd.ntmps43
  go_wp2_with (first
    | (go_at_call 48; refine hu.mono ?_; rintro e w' ⟨v', rfl, ho, hg⟩)
    | (go_at_call 47; go_in))
  go_ret
  exact ⟨v', rfl, ho, hg⟩
end Go.Proofs.YtedbmobjhpgiiaaDoor
namespace Go.Proofs.YtedbmobjhpgiiaaDoor
open Go.ChangeShapes Go.WideShapes Go.ChangeAt Go.RowKit
/-- A row of bytes of this call's own. -/
def BK (base : Nat) (v : Value) (L : List Int) (w0 W : World) : Prop := W.ownsRow base 5 1 v L.length (L.map (Value.int .u8)) ∧ Below w0.heap.size w0 W ∧ base ≤ W.heap.size ∧ w0.heap.size ≤ base
theorem BK.below {base : Nat} {v : Value} {L : List Int} {w0 W W' : World} (k : BK base v L w0 W) (hb : Below W.heap.size W W') : BK base v L w0 W' :=
  ⟨k.1.below hb, k.2.1.trans (hb.mono k.2.1.size), Nat.le_trans k.2.2.1 hb.size, k.2.2.2⟩
theorem BK.own {base : Nat} {v v' : Value} {L L' : List Int} {w0 W W' : World} (k : BK base v L w0 W) (ho : W'.ownsRow base 5 1 v' L'.length (L'.map (Value.int .u8))) (hg : W.grownBy W' v.ownBlock) : BK base v' L' w0 W' :=
  ⟨ho, k.2.1.grown hg k.2.1.size (fun g e => Nat.le_trans k.2.2.2 (k.1.lt g e).1), Nat.le_trans k.2.2.1 hg.size, k.2.2.2⟩
/-- The same, or a row without room. -/
def BR (base : Nat) (v : Value) (L : List Int) (w0 W : World) : Prop := RowB base v L W ∧ Below w0.heap.size w0 W ∧ base ≤ W.heap.size ∧ w0.heap.size ≤ base
theorem BK.br {base : Nat} {v : Value} {L : List Int} {w0 W : World} (k : BK base v L w0 W) : BR base v L w0 W := ⟨.inl k.1, k.2⟩
theorem BR.own {base : Nat} {v v' : Value} {L L' : List Int} {w0 W W' : World} (k : BR base v L w0 W) (ho : W'.ownsRow base 5 1 v' L'.length (L'.map (Value.int .u8))) (hg : W.grownBy W' v.ownBlock) : BK base v' L' w0 W' :=
  ⟨ho, k.2.1.grown hg k.2.1.size (fun g e => Nat.le_trans k.2.2.2 (k.1.lt g e)), Nat.le_trans k.2.2.1 hg.size, k.2.2.2⟩
theorem append_bk {w : World} {ops : Array Oper} {rest : List Oper} {o : Oper} {ac : Act} {Q : Exit → Act → World → Prop} (hgd : o.guard = none) (s x : Operand)
    (ho : o.op = .call { callee := .builtin .append, args := #[s, x], argTypes := #[22, 22] })
    (base : Nat) (v : Value) (L : List Int) (w0 : World) (y : Int) (hs : ac.eval s = v) (k : BK base v L w0 w) (hl : L.length < 1000000)
    (g : Nat) (hg0 : w.heap.size = g) (hx : ac.eval x = .slice (some ⟨g, 0, none⟩) 1 1)
    (h : ∀ v' w', BK base v' (L ++ [y]) w0 w' → wpList Tryd.prog ops Q rest (ac.put o.dst v') w') :
    wpList Tryd.prog ops Q (o :: rest) ac (w.alloc (.cells #[.int .u8 y] 5)) := by
  subst hg0
  obtain ⟨i0, hi, hz0, hz1, hz2⟩ := info_parts info_u8s
  have kb := k.below (bal' w (Obj.cells #[.int .u8 y] 5))
  refine wpList_append_own _ hgd s x _ ho base 5 i0 (.int .u8 0) 1 1 Tryd.underlying22 hi hz0 hz1 hz2 rfl (by decide) v L.length _ hs kb.1 ⟨w.heap.size, 0, none⟩ 1 1 [.int .u8 y] hx rfl ?_ (by intro u hu; simp at hu; subst hu; rfl) (by unfold maxLen; omega) (by omega) kb.2.2.1 (fun v' w' ho' hg' _ => ?_)
  · intro j u hj
    match j, hj with
    | 0, hj => simp at hj; subst hj; simp [Addr.add]
  · refine h v' w' (kb.own ?_ hg')
    rw [List.length_append, List.map_append]
    simpa using ho'
theorem conv_bk {base : Nat} {v : Value} {L : List Int} {w0 W : World} (h : BK base v L w0 W) :
    (convert 22 9 v).run Tryd.prog W = .ok (.string (strOfNums L)) W := by
  rcases h.1.2 with ⟨rfl, h2⟩ | ⟨g, cap, cur, rfl, _⟩
  · have : L = [] := List.eq_nil_of_length_eq_zero h2
    subst this
    exact run_convert_bytes_nil W _ _ Tryd.underlying22 Tryd.underlying5 0 0 _ Tryd.underlying9
  · refine run_convert_bytes_arg W _ _ Tryd.underlying22 Tryd.underlying5 g 0 L.length cap L rfl ?_ _ Tryd.underlying9
    intro i hi
    rw [Nat.zero_add, h.1.cellAt i (by omega)]
    simp [hi]
theorem appendInt_bk (base : Nat) (v : Value) (L : List Int) (n : Int) (w0 w : World) (h : 0 ≤ n ∧ n < 100) (k : BR base v L w0 w) (hl : L.length ≤ 1048576) :
    Calls Tryd.prog 43 #[v, .int .i64 n, .int .i64 10] w fun e w' => ∃ v', e = .returned v' ∧ BK base v' (L ++ digL n) w0 w' :=
  (appendInt_s base v L n w h k.1 hl k.2.2.1).mono fun _ _ ⟨v', he, ho, hg⟩ => ⟨v', he, k.own ho hg⟩
theorem digL_bd (n : Int) (h : 0 ≤ n ∧ n < 100) : ∀ x ∈ digL n, 0 ≤ x ∧ x < 256 := by
  unfold digL
  intro x hx
  split at hx <;> simp at hx <;> omega
theorem sepL_bd (l : List Int) (h : ∀ n ∈ l, 0 ≤ n ∧ n < 100) : ∀ x ∈ sepL l, 0 ≤ x ∧ x < 256 := by
  intro x hx
  cases l with
  | nil => simp [sepL] at hx
  | cons n t =>
    simp only [sepL, List.mem_append, List.mem_flatMap, List.mem_cons] at hx
    rcases hx with hx | ⟨m, hm, rfl | hx⟩
    · exact digL_bd n (h n (by simp)) x hx
    · omega
    · exact digL_bd m (h m (by simp [hm])) x hx
theorem signN_is (a b : St) : signN a b = signL (paramsV a b) := by
  unfold signN paramsV
  split
  · rfl
  · simp [signL]
theorem paramsV_bd (a b : St) : ∀ n ∈ paramsV a b, 0 ≤ n ∧ n < 100 := by
  intro n hn
  unfold paramsV at hn
  split at hn
  · rename_i h; have := paramsL_bd a b h.2 n hn; omega
  · simp at hn
end Go.Proofs.YtedbmobjhpgiiaaDoor
namespace Go.Proofs.YtedbmobjhpgiiaaDoor
structure Ce where
  rune : Int
  st : St
  part : Int
deriving DecidableEq
def Ce.zero : Ce := ⟨0, St.zero, 0⟩
def atC (l : List Ce) (i : Nat) : Ce := l.getD i Ce.zero
end Go.Proofs.YtedbmobjhpgiiaaDoor
namespace Go.Proofs.YtedbmobjhpgiiaaDoor
def widthV (r : Int) : Int :=
  if r < 32 ∨ runeOk r = false ∨ (127 ≤ r ∧ r ≤ 159) ∨ (768 ≤ r ∧ r ≤ 879) then 0
  else if (4352 ≤ r ∧ r ≤ 4447) ∨ (12288 ≤ r ∧ r ≤ 55295) ∨ (127744 ≤ r ∧ r ≤ 131071) then 2 else 1
end Go.Proofs.YtedbmobjhpgiiaaDoor
namespace Go.Proofs.YtedbmobjhpgiiaaDoor
open Go.ChangeShapes Go.WideShapes Go.ChangeAt Go.RowKit
def CeAt (w : World) (b o : Nat) (c : Ce) : Prop :=
  w.cell? ⟨b, o, none⟩ = some (.int .i64 c.rune) ∧ w.cell? ⟨b, o + 1, none⟩ = some (.int .i64 c.st.fore) ∧ w.cell? ⟨b, o + 2, none⟩ = some (.int .i64 c.st.back) ∧ w.cell? ⟨b, o + 3, none⟩ = some (.bool c.st.bold) ∧ w.cell? ⟨b, o + 4, none⟩ = some (.bool c.st.under) ∧ w.cell? ⟨b, o + 5, none⟩ = some (.bool c.st.turned) ∧ w.cell? ⟨b, o + 6, none⟩ = some (.int .i64 c.part)
theorem CeAt.below {w w' : World} {b o : Nat} {c : Ce} (h : CeAt w b o c) (hb : Below w.heap.size w w') (hlt : b < w.heap.size) : CeAt w' b o c := by
  have e : ∀ k, w'.cell? ⟨b, k, none⟩ = w.cell? ⟨b, k, none⟩ := fun k => hb.cell (p := ⟨b, k, none⟩) hlt
  unfold CeAt
  rw [e, e, e, e, e, e, e]
  exact h
theorem CeAt.grown {w w' : World} {b o : Nat} {c : Ce} {row : Option Nat} (h : CeAt w b o c) (hg : w.grownBy w' row) (hlt : b < w.heap.size) (hr : row ≠ some b) : CeAt w' b o c := by
  have hb := hg.block b hlt (Ne.symm hr)
  have e : ∀ k, w'.cell? ⟨b, k, none⟩ = w.cell? ⟨b, k, none⟩ := fun k => World.cell?_of_block (w := w) hb
  unfold CeAt
  rw [e, e, e, e, e, e, e]
  exact h
/-- A slice of cells that can be read. -/
def SlC (w : World) (v : Value) (xs : List Ce) : Prop :=
  ∃ a c, v = .slice a xs.length c ∧ xs.length ≤ c ∧ (a = none → c = 0) ∧ (xs = [] ∨ ∃ b off, a = some ⟨b, off, none⟩ ∧ b < w.heap.size ∧ ∀ i, i < xs.length → CeAt w b (off + i * 7) (atC xs i))
theorem SlC.below {w w' : World} {v : Value} {xs : List Ce} (h : SlC w v xs) (hb : Below w.heap.size w w') : SlC w' v xs := by
  obtain ⟨a, c, hv, hc, hn, h | ⟨b, off, ha, hlt, hi⟩⟩ := h
  · exact ⟨a, c, hv, hc, hn, .inl h⟩
  · exact ⟨a, c, hv, hc, hn, .inr ⟨b, off, ha, Nat.lt_of_lt_of_le hlt hb.size, fun i h => (hi i h).below hb hlt⟩⟩
end Go.Proofs.YtedbmobjhpgiiaaDoor
namespace Go.Proofs.YtedbmobjhpgiiaaDoor
open Go.ChangeShapes Go.WideShapes Go.ChangeAt Go.RowKit
def rowV (vs : List Value) (i : Nat) : Value := vs.getD i (.slice none 0 0)
def rowX (rows : List (List Ce)) (i : Nat) : List Ce := rows.getD i []
/-- A slice of rows that can be read. -/
def SlG (w : World) (v : Value) (rows : List (List Ce)) : Prop :=
  ∃ a c vs, v = .slice a rows.length c ∧ rows.length ≤ c ∧ (a = none → c = 0) ∧ (rows = [] ∨ ∃ b off, a = some ⟨b, off, none⟩ ∧ b < w.heap.size ∧ ∀ i, i < rows.length → w.cell? ⟨b, off + i, none⟩ = some (rowV vs i)) ∧ ∀ i, i < rows.length → SlC w (rowV vs i) (rowX rows i)
theorem SlG.below {w w' : World} {v : Value} {rows : List (List Ce)} (h : SlG w v rows) (hb : Below w.heap.size w w') : SlG w' v rows := by
  obtain ⟨a, c, vs, hv, hc, hn, hr, hs⟩ := h
  refine ⟨a, c, vs, hv, hc, hn, ?_, fun i hi => (hs i hi).below hb⟩
  rcases hr with hr | ⟨b, off, ha, hlt, hi⟩
  · exact .inl hr
  · exact .inr ⟨b, off, ha, Nat.lt_of_lt_of_le hlt hb.size, fun i h => (hb.cell (p := ⟨b, off + i, none⟩) hlt).trans (hi i h)⟩
end Go.Proofs.YtedbmobjhpgiiaaDoor
namespace Go.Proofs.YtedbmobjhpgiiaaDoor
open Go.ChangeShapes Go.WideShapes Go.ChangeAt Go.RowKit
/-- A grid in a block of its own. -/
def GrN (w : World) (B : Nat) (cols : Int) (v : Value) : Prop := B < w.heap.size ∧ w.cell? ⟨B, 0, none⟩ = some (.int .i64 cols) ∧ w.cell? ⟨B, 1, none⟩ = some v
theorem GrN.new (w : World) (cols : Int) (v : Value) (t : TypeId) : GrN (w.alloc (.cells #[.int .i64 cols, v] t)) w.heap.size cols v := ⟨by simp, by simp [go_sem], by simp [go_sem]⟩
theorem GrN.below {w w' : World} {B : Nat} {cols : Int} {v : Value} (h : GrN w B cols v) (hb : Below w.heap.size w w') : GrN w' B cols v :=
  ⟨Nat.lt_of_lt_of_le h.1 hb.size, (hb.cell (p := ⟨B, 0, none⟩) h.1).trans h.2.1, (hb.cell (p := ⟨B, 1, none⟩) h.1).trans h.2.2⟩
end Go.Proofs.YtedbmobjhpgiiaaDoor
namespace Go.Proofs.YtedbmobjhpgiiaaDoor
structure Pa where
  state : Int
  params : List Int
  mark : Int
  text : List Int
structure Ac where
  kind : Int
  rune : Int
  params : List Int
  mark : Int
  text : List Int
def st0 (s : Int) : Pa := ⟨s, [], 0, []⟩
def one0 (ps : List Int) : List Int := if ps.length = 0 then [0] else ps
def digitP (ps : List Int) (d : Int) : List Int := (one0 ps).set ((one0 ps).length - 1) (min 9999 (10 * (one0 ps).getD ((one0 ps).length - 1) 0 + d))
def semiP (ps : List Int) : List Int := if (one0 ps).length < 16 then one0 ps ++ [0] else one0 ps
def acR (k r : Int) : Ac := ⟨k, r, [], 0, []⟩
def escM (r : Int) : Pa × List Ac :=
  if r = 91 then (st0 3, []) else if r = 93 then (st0 4, []) else if 48 ≤ r ∧ r ≤ 126 then (st0 1, [acR 3 r]) else (st0 1, [])
/-- Whether a list takes a rune in. -/
def takes (ps : List Int) (m r : Int) : Bool := decide (r = 63 ∧ ps.length = 0 ∧ m = 0 ∨ 48 ≤ r ∧ r ≤ 57 ∨ r = 59)
def takenP (p : Pa) (r : Int) : Pa :=
  if r = 63 ∧ p.params.length = 0 ∧ p.mark = 0 then ⟨p.state, p.params, 63, p.text⟩
  else if 48 ≤ r ∧ r ≤ 57 then ⟨p.state, digitP p.params (r - 48), p.mark, p.text⟩
  else ⟨p.state, semiP p.params, p.mark, p.text⟩
def listM (p : Pa) (r : Int) : Pa × List Ac :=
  if takes p.params p.mark r = true then (takenP p r, [])
  else if 64 ≤ r ∧ r ≤ 126 then (st0 1, [⟨4, r, p.params, p.mark, []⟩]) else (st0 1, [])
def titleM (p : Pa) (r : Int) : Pa × List Ac :=
  if r = 7 then (st0 1, [⟨5, 0, [], 0, p.text⟩])
  else if r = 27 then (⟨5, p.params, p.mark, p.text⟩, [])
  else if p.text.length < 40 then (⟨p.state, p.params, p.mark, p.text ++ [r]⟩, []) else (p, [])
def endM (p : Pa) (r : Int) : Pa × List Ac := if r = 92 then (st0 1, [⟨5, 0, [], 0, p.text⟩]) else (st0 1, [])
/-- A control that leaves the state as it is. -/
def stays (r : Int) : Bool := decide ((r < 32 ∨ r = 127) ∧ r ≠ -1 ∧ r ≠ 24 ∧ r ≠ 26 ∧ r ≠ 27)
def stepM (p : Pa) (r : Int) : Pa × List Ac :=
  if p.state = 4 then titleM p r
  else if p.state = 5 then endM p r
  else if r = 27 then (st0 2, [])
  else if r = 24 ∨ r = 26 then (st0 1, [])
  else if r < 32 ∨ r = 127 then (p, [acR 2 r])
  else if p.state = 2 then escM r
  else if p.state = 3 then listM p r
  else if 0 < widthV r then (p, [acR 1 r]) else (p, [])
def parsedM : Pa → List Int → Pa × List Ac
  | p, [] => (p, [])
  | p, r :: l => ((parsedM (stepM p r).1 l).1, (stepM p r).2 ++ (parsedM (stepM p r).1 l).2)
/-- What comes of a parser, of what is left and of what was told. -/
def Fin (p : Pa) (l : List Int) (t : List Ac) : Pa × List Ac := ((parsedM p l).1, t ++ (parsedM p l).2)
theorem Fin_cons (p : Pa) (r : Int) (l : List Int) (t : List Ac) : Fin p (r :: l) t = Fin (stepM p r).1 l (t ++ (stepM p r).2) := by simp [Fin, parsedM]
end Go.Proofs.YtedbmobjhpgiiaaDoor
namespace Go.Proofs.YtedbmobjhpgiiaaDoor
open Go.ChangeShapes Go.WideShapes Go.ChangeAt Go.RowKit
/-- A list of numbers of this call's own. -/
def OwnI (w : World) (base : Nat) (v : Value) (xs : List Int) : Prop := w.ownsRow base 2 1 v xs.length (xs.map (Value.int .i64))
theorem OwnI.below {w w' : World} {base : Nat} {v : Value} {xs : List Int} (h : OwnI w base v xs) (hb : Below w.heap.size w w') : OwnI w' base v xs := World.ownsRow.below h hb
theorem OwnI.kept {w w' : World} {base : Nat} {v : Value} {xs : List Int} {row : Option Nat} (h : OwnI w base v xs) (hg : w.grownBy w' row) (hne : v.ownBlock = none ∨ v.ownBlock ≠ row) : OwnI w' base v xs := World.ownsRow.kept (show w.ownsRow _ _ _ _ _ _ from h) hg hne
theorem OwnI.lt {w : World} {base : Nat} {v : Value} {xs : List Int} (h : OwnI w base v xs) : ∀ g, v.ownBlock = some g → base ≤ g ∧ g < w.heap.size := fun g e => World.ownsRow.lt h g e
theorem OwnI.sl {w : World} {base : Nat} {v : Value} {xs : List Int} (h : OwnI w base v xs) : SlI w v xs := SlI.of_own h
/-- Two slices over no common block. -/
def ApV (u v : Value) : Prop := ∀ g, u.ownBlock = some g → v.ownBlock ≠ some g
theorem ApV.symm {u v : Value} (h : ApV u v) : ApV v u := fun g e1 e2 => h g e2 e1
/-- Lists of numbers of this call's own, no two over one block. -/
def LiOk (w : World) (base : Nat) (L : List (Value × List Int)) : Prop := (∀ p ∈ L, OwnI w base p.1 p.2) ∧ L.Pairwise fun p q => ApV p.1 q.1
theorem LiOk.below {w w' : World} {base : Nat} {L : List (Value × List Int)} (h : LiOk w base L) (hb : Below w.heap.size w w') : LiOk w' base L := ⟨fun p hp => (h.1 p hp).below hb, h.2⟩
theorem LiOk.nil (w : World) (base : Nat) : LiOk w base [] := ⟨fun _ h => absurd h (List.not_mem_nil), List.Pairwise.nil⟩
theorem LiOk.head {w : World} {base : Nat} {x : Value × List Int} {L : List (Value × List Int)} (h : LiOk w base (x :: L)) : OwnI w base x.1 x.2 := h.1 x (List.mem_cons_self)
/-- One list more, over a block that is new. -/
theorem LiOk.new {w w' : World} {base : Nat} {L : List (Value × List Int)} (h : LiOk w base L) (hb : Below w.heap.size w w') {v : Value} {xs : List Int} (ho : OwnI w' base v xs) (hn : ∀ g, v.ownBlock = some g → w.heap.size ≤ g) : LiOk w' base ((v, xs) :: L) :=
  ⟨fun p hp => by
    rcases List.mem_cons.1 hp with rfl | hp
    · exact ho
    · exact (h.1 p hp).below hb, List.Pairwise.cons (fun q hq g e1 e2 => by have := hn g e1; have := ((h.1 q hq).lt g e2).2; omega) h.2⟩
/-- What is not among them changes. -/
theorem LiOk.kept {w w' : World} {base : Nat} {L : List (Value × List Int)} {row : Option Nat} (h : LiOk w base L) (hg : w.grownBy w' row) (hne : ∀ p ∈ L, p.1.ownBlock = none ∨ p.1.ownBlock ≠ row) : LiOk w' base L :=
  ⟨fun p hp => (h.1 p hp).kept hg (hne p hp), h.2⟩
/-- An action with the values of its lists. -/
structure Ax where
  a : Ac
  pv : Value
  tv : Value
def PaC (w : World) (B : Nat) (s : Int) (pv : Value) (m : Int) (tv : Value) : Prop :=
  B < w.heap.size ∧ (w.cell? ⟨B, 0, none⟩ = some (.int .i64 s) ∧ w.cell? ⟨B, 1, none⟩ = some pv ∧ w.cell? ⟨B, 2, none⟩ = some (.int .i64 m) ∧ w.cell? ⟨B, 3, none⟩ = some tv) ∧
    (w.frozen? ⟨B, 0, none⟩ = false ∧ w.frozen? ⟨B, 1, none⟩ = false ∧ w.frozen? ⟨B, 2, none⟩ = false ∧ w.frozen? ⟨B, 3, none⟩ = false)
theorem PaC.grown {w w' : World} {B : Nat} {s m : Int} {pv tv : Value} {row : Option Nat} (h : PaC w B s pv m tv) (hg : w.grownBy w' row) (hr : row ≠ some B) : PaC w' B s pv m tv := by
  have hb := hg.block B h.1 (Ne.symm hr)
  have hc : ∀ k, w'.cell? ⟨B, k, none⟩ = w.cell? ⟨B, k, none⟩ := fun k => World.cell?_of_block (w := w) hb
  have hz : ∀ k, w'.frozen? ⟨B, k, none⟩ = w.frozen? ⟨B, k, none⟩ := fun k => World.frozen?_of_block (w := w) hb
  refine ⟨Nat.lt_of_lt_of_le h.1 hg.size, ?_, ?_⟩
  · rw [hc, hc, hc, hc]; exact h.2.1
  · rw [hz, hz, hz, hz]; exact h.2.2
theorem PaC.below {w w' : World} {B : Nat} {s m : Int} {pv tv : Value} (h : PaC w B s pv m tv) (hb : Below w.heap.size w w') : PaC w' B s pv m tv := h.grown (gbl hb none) (by simp)
theorem PaC.new (w : World) (s m : Int) (pv tv : Value) (t : TypeId) : PaC (w.alloc (.cells #[.int .i64 s, pv, .int .i64 m, tv] t)) w.heap.size s pv m tv :=
  ⟨by simp, ⟨by simp [go_sem], by simp [go_sem], by simp [go_sem], by simp [go_sem]⟩, ⟨by simp [go_sem], by simp [go_sem], by simp [go_sem], by simp [go_sem]⟩⟩
end Go.Proofs.YtedbmobjhpgiiaaDoor
namespace Go.Proofs.YtedbmobjhpgiiaaDoor
open Go.ChangeShapes Go.WideShapes Go.ChangeAt Go.RowKit
theorem SlI.cons {w : World} {v : Value} {xs : List Int} (h : SlI w v xs) : ∃ a c, v = .slice a xs.length c ∧ ∀ j, j < xs.length → ∃ b off, a = some ⟨b, off, none⟩ ∧ w.cell? ⟨b, off + j, none⟩ = some (.int .i64 (xs.getD j 0)) := by
  obtain ⟨a, c, hv, h | ⟨b, off, ha, hlt, hc⟩⟩ := h
  · exact ⟨a, c, hv, fun j hj => by rw [h] at hj; simp at hj⟩
  · exact ⟨a, c, hv, fun j hj => ⟨b, off, ha, hc j hj⟩⟩
end Go.Proofs.YtedbmobjhpgiiaaDoor
namespace Go.Proofs.YtedbmobjhpgiiaaDoor
open Go.ChangeShapes Go.WideShapes Go.ChangeAt Go.RowKit
/-- A slice that can be read and cut at its head. -/
def SlL (w : World) (v : Value) (xs : List Int) : Prop :=
  ∃ a c, v = .slice a xs.length c ∧ xs.length ≤ c ∧ (xs = [] ∨ ∃ b off, a = some ⟨b, off, none⟩ ∧ b < w.heap.size ∧ ∀ i, i < xs.length → w.cell? ⟨b, off + i, none⟩ = some (.int .i64 (xs.getD i 0)))
theorem SlL.sl {w : World} {v : Value} {xs : List Int} (h : SlL w v xs) : SlI w v xs := by
  obtain ⟨a, c, hv, _, hr⟩ := h
  exact ⟨a, c, hv, hr⟩
theorem SlL.below {w w' : World} {v : Value} {xs : List Int} (h : SlL w v xs) (hb : Below w.heap.size w w') : SlL w' v xs := by
  obtain ⟨a, c, hv, hc0, h | ⟨b, off, ha, hlt, hc⟩⟩ := h
  · exact ⟨a, c, hv, hc0, .inl h⟩
  · exact ⟨a, c, hv, hc0, .inr ⟨b, off, ha, Nat.lt_of_lt_of_le hlt hb.size, fun i hi => (hb.cell (p := ⟨b, off + i, none⟩) hlt).trans (hc i hi)⟩⟩
theorem SlL.of_own {w : World} {base : Nat} {v : Value} {xs : List Int} (h : OwnI w base v xs) : SlL w v xs := by
  rcases h.2 with ⟨rfl, h2⟩ | ⟨g, cap, cur, rfl, hb, hg, hn, hr⟩
  · exact ⟨none, 0, by rw [h2], by omega, .inl (List.eq_nil_of_length_eq_zero h2)⟩
  · refine ⟨_, cap, rfl, hn, .inr ⟨g, 0, rfl, (Array.getElem?_eq_some_iff.1 hg).1, fun i hi => ?_⟩⟩
    have := World.ownsRow.cellAt h i (by omega)
    rw [Nat.zero_add, this]
    simp [hi]
end Go.Proofs.YtedbmobjhpgiiaaDoor
namespace Go.Proofs.YtedbmobjhpgiiaaDoor
open Go.ChangeShapes Go.WideShapes Go.ChangeAt Go.RowKit
def Runes6 (l : List Int) : Prop := ∀ x ∈ l, runeOk x = true
theorem Runes6.head {r : Int} {l : List Int} (h : Runes6 (r :: l)) : 0 ≤ r ∧ r ≤ 1114111 := runeOk_bd r (h r (List.mem_cons_self))
def acs (X : List Ax) : List Ac := X.map (·.a)
/-- The rune that comes next, of which nothing is done yet. -/
def NextR (p q : Pa) (l l' : List Int) (X X' : List Ax) (r : Int) : Prop :=
  (r = -1 ∧ l' = [] ∧ Fin p l (acs X) = Fin q [] (acs X')) ∨ (0 ≤ r ∧ runeOk r = true ∧ l'.length < l.length ∧ Fin p l (acs X) = Fin q (r :: l') (acs X'))
def Room (l l' : List Int) (X X' : List Ax) (r : Int) : Prop := (r = -1 → X'.length + l'.length ≤ X.length + l.length) ∧ (r ≠ -1 → X'.length + l'.length < X.length + l.length) ∧ Runes6 l'
theorem NextR.end {p q : Pa} {l l' : List Int} {X X' : List Ax} (h : NextR p q l l' X X' (-1)) : l' = [] ∧ Fin p l (acs X) = Fin q [] (acs X') := by
  rcases h with ⟨_, h⟩ | ⟨h0, _⟩
  · exact h
  · omega
theorem NextR.more {p q : Pa} {l l' : List Int} {X X' : List Ax} {r : Int} (h : NextR p q l l' X X' r) (hr : r ≠ -1) : 0 ≤ r ∧ runeOk r = true ∧ l'.length < l.length ∧ Fin p l (acs X) = Fin q (r :: l') (acs X') := by
  rcases h with ⟨h, _⟩ | h
  · exact absurd h hr
  · exact h
theorem NextR.trans {p q q2 : Pa} {l l' l2 : List Int} {X X' X2 : List Ax} {r r2 : Int} (h : NextR p q l l' X X' r) (hR : Room l l' X X' r) (h1 : r ≠ -1) {Y : List Ax} (hs : (stepM q r).1 = q2) (ha : acs Y = acs X' ++ (stepM q r).2) (hY : Y.length ≤ X'.length + 1) {q3 : Pa}
    (k : NextR q2 q3 l' l2 Y X2 r2) (kR : Room l' l2 Y X2 r2) : NextR p q3 l l2 X X2 r2 ∧ Room l l2 X X2 r2 := by
  obtain ⟨h0, hk, hlt, he⟩ := h.more h1
  rw [Fin_cons, hs, ← ha] at he
  obtain ⟨_, hR2, hR3⟩ := hR
  have hR2 := hR2 h1
  obtain ⟨k1, k2, k3⟩ := kR
  refine ⟨?_, fun e => by have := k1 e; omega, fun e => by have := k2 e; omega, k3⟩
  rcases k with ⟨a, b, c⟩ | ⟨a, b, c, d⟩
  · exact .inl ⟨a, b, he.trans c⟩
  · exact .inr ⟨a, b, by omega, he.trans d⟩
end Go.Proofs.YtedbmobjhpgiiaaDoor
namespace Go.Proofs.YtedbmobjhpgiiaaDoor
open Go.ChangeShapes Go.WideShapes Go.ChangeAt Go.RowKit
/-- A slice whose cells hold these values, one a place: what append takes its news from. -/
def ReadsRow (w : World) (u : Value) (news : List Value) : Prop :=
  (u = .slice none 0 0 ∧ news = []) ∨ ∃ ad c, u = .slice (some ad) news.length c ∧ ∀ j x, news[j]? = some x → w.cell? (ad.add j) = some x
theorem ReadsRow.of_own {w : World} {base : Nat} {e : TypeId} {v : Value} {n : Nat} {xs : List Value} (h : w.ownsRow base e 1 v n xs) : ReadsRow w v xs := by
  have hl : xs.length = n := by simpa using h.1
  rcases h.2 with ⟨rfl, rfl⟩ | ⟨g, cap, cur, hv, _⟩
  · exact .inl ⟨rfl, List.eq_nil_of_length_eq_zero hl⟩
  · exact .inr ⟨⟨g, 0, none⟩, cap, by rw [hv, hl], h.cells (by rw [hv]; rfl)⟩
theorem ReadsRow.below {w w' : World} {u : Value} {news : List Value} (h : ReadsRow w u news) (hb : Below w.heap.size w w') : ReadsRow w' u news := by
  rcases h with h | ⟨ad, c, hu, hc⟩
  · exact .inl h
  · refine .inr ⟨ad, c, hu, fun j x hx => ?_⟩
    have h1 := hc j x hx
    exact (hb.cell (World.block_lt_of_cell? w _ h1)).trans h1
end Go.Proofs.YtedbmobjhpgiiaaDoor
namespace Go.Proofs.YtedbmobjhpgiiaaDoor
open Go.ChangeShapes Go.WideShapes Go.ChangeAt Go.RowKit
/-- A slice that can be read, cut and copied. -/
def SlN (w : World) (v : Value) (xs : List Int) : Prop :=
  ∃ a c, v = .slice a xs.length c ∧ xs.length ≤ c ∧ (a = none → c = 0) ∧ (xs = [] ∨ ∃ b off, a = some ⟨b, off, none⟩ ∧ b < w.heap.size ∧ ∀ i, i < xs.length → w.cell? ⟨b, off + i, none⟩ = some (.int .i64 (xs.getD i 0)))
theorem SlN.l {w : World} {v : Value} {xs : List Int} (h : SlN w v xs) : SlL w v xs := by
  obtain ⟨a, c, hv, hc, _, hr⟩ := h
  exact ⟨a, c, hv, hc, hr⟩
theorem SlN.below {w w' : World} {v : Value} {xs : List Int} (h : SlN w v xs) (hb : Below w.heap.size w w') : SlN w' v xs := by
  obtain ⟨a, c, hv, hc0, hn, h | ⟨b, off, ha, hlt, hc⟩⟩ := h
  · exact ⟨a, c, hv, hc0, hn, .inl h⟩
  · exact ⟨a, c, hv, hc0, hn, .inr ⟨b, off, ha, Nat.lt_of_lt_of_le hlt hb.size, fun i hi => (hb.cell (p := ⟨b, off + i, none⟩) hlt).trans (hc i hi)⟩⟩
theorem SlN.of_own {w : World} {base : Nat} {v : Value} {xs : List Int} (h : OwnI w base v xs) : SlN w v xs := by
  rcases h.2 with ⟨rfl, h2⟩ | ⟨g, cap, cur, rfl, hb, hg, hn, hr⟩
  · exact ⟨none, 0, by rw [h2], by omega, fun _ => rfl, .inl (List.eq_nil_of_length_eq_zero h2)⟩
  · refine ⟨_, cap, rfl, hn, (fun e => by cases e), .inr ⟨g, 0, rfl, (Array.getElem?_eq_some_iff.1 hg).1, fun i hi => ?_⟩⟩
    have := World.ownsRow.cellAt h i (by omega)
    rw [Nat.zero_add, this]
    simp [hi]
/-- Four cells of a parser are written. -/
def putP (w : World) (B : Nat) (s : Int) (pv : Value) (m : Int) (tv : Value) : World := (((w.setCell ⟨B, 0, none⟩ (.int .i64 s)).setCell ⟨B, 1, none⟩ pv).setCell ⟨B, 2, none⟩ (.int .i64 m)).setCell ⟨B, 3, none⟩ tv
theorem PaC.put {w : World} {B : Nat} {s m : Int} {pv tv : Value} (h : PaC w B s pv m tv) (s' m' : Int) (pv' tv' : Value) : PaC (putP w B s' pv' m' tv') B s' pv' m' tv' := by
  obtain ⟨hlt, ⟨c0, c1, c2, c3⟩, ⟨z0, z1, z2, z3⟩⟩ := h
  refine ⟨by simpa [putP] using hlt, ⟨?_, ?_, ?_, ?_⟩, ⟨?_, ?_, ?_, ?_⟩⟩
  all_goals simp only [putP]
  · simp [go_sem, c0]
  · simp [go_sem, c1]
  · simp [go_sem, c2]
  · simp [go_sem, c3]
  all_goals simp [go_sem, z0, z1, z2, z3]
end Go.Proofs.YtedbmobjhpgiiaaDoor
namespace Go.Proofs.YtedbmobjhpgiiaaDoor
open Go.ChangeShapes Go.WideShapes Go.ChangeAt Go.RowKit
def FillAt (g : Nat) (w : World) : Prop :=
  g < w.heap.size ∧ w.cell? ⟨g, 1, none⟩ = some (.string ({ data := #[160, 128, 128] } : ByteArray)) ∧ w.cell? ⟨g, 2, none⟩ = some (.string ({ data := #[144, 128, 128] } : ByteArray)) ∧ w.cell? ⟨g, 3, none⟩ = some (.string ({ data := #[191, 191, 191] } : ByteArray)) ∧ w.cell? ⟨g, 4, none⟩ = some (.string ({ data := #[159, 191, 191] } : ByteArray)) ∧ w.cell? ⟨g, 5, none⟩ = some (.string ({ data := #[143, 191, 191] } : ByteArray))
theorem FillAt.below {g : Nat} {w w' : World} (h : FillAt g w) (hb : Below w.heap.size w w') : FillAt g w' := by
  obtain ⟨hg, q1, q2, q3, q4, q5⟩ := h
  exact ⟨Nat.lt_of_lt_of_le hg hb.size, (hb.cell (p := ⟨g, 1, none⟩) hg).trans q1, (hb.cell (p := ⟨g, 2, none⟩) hg).trans q2, (hb.cell (p := ⟨g, 3, none⟩) hg).trans q3, (hb.cell (p := ⟨g, 4, none⟩) hg).trans q4, (hb.cell (p := ⟨g, 5, none⟩) hg).trans q5⟩
end Go.Proofs.YtedbmobjhpgiiaaDoor
namespace Go.Proofs.YtedbmobjhpgiiaaDoor
open Go.ChangeShapes Go.WideShapes Go.ChangeAt Go.RowKit
structure Te where
  gc : Int
  g : List (List Ce)
  oc : Int
  o : List (List Ce)
  row : Int
  col : Int
  st : St
  top : Int
  bot : Int
  full : Bool
  wrap : Bool
  away : Bool
  hid : Bool
  sr : Int
  sc : Int
  ss : St
  ti : List Int
  pa : Pa
  fe : ByteArray
/-- The values of its lists. -/
structure Tv where
  g : Value
  o : Value
  ti : Value
  pp : Value
  pt : Value
def teCs (t : Te) (v : Tv) : Array Value := #[.int .i64 t.gc, v.g, .int .i64 t.oc, v.o, .int .i64 t.row, .int .i64 t.col, .int .i64 t.st.fore, .int .i64 t.st.back, .bool t.st.bold, .bool t.st.under, .bool t.st.turned, .int .i64 t.top, .int .i64 t.bot, .bool t.full, .bool t.wrap, .bool t.away, .bool t.hid, .int .i64 t.sr, .int .i64 t.sc, .int .i64 t.ss.fore, .int .i64 t.ss.back, .bool t.ss.bold, .bool t.ss.under, .bool t.ss.turned, v.ti, .int .i64 t.pa.state, v.pp, .int .i64 t.pa.mark, v.pt, .string t.fe]
/-- A screen's block, whole. -/
def TeB (w : World) (B : Nat) (T : TypeId) (t : Te) (v : Tv) : Prop := w.heap[B]? = some (.cells (teCs t v) T (0, 0))
theorem TeB.lt {w : World} {B : Nat} {T : TypeId} {t : Te} {v : Tv} (h : TeB w B T t v) : B < w.heap.size := (Array.getElem?_eq_some_iff.1 h).1
theorem TeB.kept {w w' : World} {B : Nat} {T : TypeId} {t : Te} {v : Tv} {row : Option Nat} (h : TeB w B T t v) (hg : w.grownBy w' row) (hne : row ≠ some B) : TeB w' B T t v := by
  unfold TeB
  rw [hg.block B h.lt (Ne.symm hne)]
  exact h
theorem TeB.below {w w' : World} {B : Nat} {T : TypeId} {t : Te} {v : Tv} (h : TeB w B T t v) (hb : Below w.heap.size w w') : TeB w' B T t v := h.kept (gbl hb none) (by simp)
theorem TeB.new (w : World) (T : TypeId) (t : Te) (v : Tv) : TeB (w.alloc (.cells (teCs t v) T)) w.heap.size T t v := heap_alloc_new w _
theorem TeB.cells {w : World} {B : Nat} {T : TypeId} {t : Te} {v : Tv} (h : TeB w B T t v) :
    w.cell? ⟨B, 0, none⟩ = some (.int .i64 t.gc) ∧ w.cell? ⟨B, 1, none⟩ = some (v.g) ∧ w.cell? ⟨B, 2, none⟩ = some (.int .i64 t.oc) ∧ w.cell? ⟨B, 3, none⟩ = some (v.o) ∧ w.cell? ⟨B, 4, none⟩ = some (.int .i64 t.row) ∧ w.cell? ⟨B, 5, none⟩ = some (.int .i64 t.col) ∧ w.cell? ⟨B, 6, none⟩ = some (.int .i64 t.st.fore) ∧ w.cell? ⟨B, 7, none⟩ = some (.int .i64 t.st.back) ∧ w.cell? ⟨B, 8, none⟩ = some (.bool t.st.bold) ∧ w.cell? ⟨B, 9, none⟩ = some (.bool t.st.under) ∧ w.cell? ⟨B, 10, none⟩ = some (.bool t.st.turned) ∧ w.cell? ⟨B, 11, none⟩ = some (.int .i64 t.top) ∧ w.cell? ⟨B, 12, none⟩ = some (.int .i64 t.bot) ∧ w.cell? ⟨B, 13, none⟩ = some (.bool t.full) ∧ w.cell? ⟨B, 14, none⟩ = some (.bool t.wrap) ∧ w.cell? ⟨B, 15, none⟩ = some (.bool t.away) ∧ w.cell? ⟨B, 16, none⟩ = some (.bool t.hid) ∧ w.cell? ⟨B, 17, none⟩ = some (.int .i64 t.sr) ∧ w.cell? ⟨B, 18, none⟩ = some (.int .i64 t.sc) ∧ w.cell? ⟨B, 19, none⟩ = some (.int .i64 t.ss.fore) ∧ w.cell? ⟨B, 20, none⟩ = some (.int .i64 t.ss.back) ∧ w.cell? ⟨B, 21, none⟩ = some (.bool t.ss.bold) ∧ w.cell? ⟨B, 22, none⟩ = some (.bool t.ss.under) ∧ w.cell? ⟨B, 23, none⟩ = some (.bool t.ss.turned) ∧ w.cell? ⟨B, 24, none⟩ = some (v.ti) ∧ w.cell? ⟨B, 25, none⟩ = some (.int .i64 t.pa.state) ∧ w.cell? ⟨B, 26, none⟩ = some (v.pp) ∧ w.cell? ⟨B, 27, none⟩ = some (.int .i64 t.pa.mark) ∧ w.cell? ⟨B, 28, none⟩ = some (v.pt) ∧ w.cell? ⟨B, 29, none⟩ = some (.string t.fe) := by
  refine ⟨?_, ?_, ?_, ?_, ?_, ?_, ?_, ?_, ?_, ?_, ?_, ?_, ?_, ?_, ?_, ?_, ?_, ?_, ?_, ?_, ?_, ?_, ?_, ?_, ?_, ?_, ?_, ?_, ?_, ?_⟩ <;> (rw [cell_of_row w B _ _ _ (0, 0) h]; rfl)
/-- A screen whose lists can be read. -/
def SlT (w : World) (t : Te) (v : Tv) : Prop := SlG w v.g t.g ∧ SlG w v.o t.o ∧ SlN w v.ti t.ti ∧ SlN w v.pp t.pa.params ∧ SlN w v.pt t.pa.text
theorem SlT.below {w w' : World} {t : Te} {v : Tv} (h : SlT w t v) (hb : Below w.heap.size w w') : SlT w' t v := ⟨h.1.below hb, h.2.1.below hb, h.2.2.1.below hb, h.2.2.2.1.below hb, h.2.2.2.2.below hb⟩
end Go.Proofs.YtedbmobjhpgiiaaDoor
namespace Go.Proofs.YtedbmobjhpgiiaaDoor
open Go.ChangeShapes Go.WideShapes Go.ChangeAt Go.RowKit
set_option maxHeartbeats 4000000 in
set_option maxRecDepth 20000 in
theorem listSign_any (last : Int) (hla : 0 ≤ last ∧ last < 256) (v : Value) (L : List Int) (w : World) (hL : SlI w v L) (hne : L ≠ []) (hl5 : L.length ≤ 5) (hbd : ∀ n ∈ L, 0 ≤ n ∧ n < 100) :
    Calls Tryd.prog 35 #[.int .u8 last, v] w fun e w' => ∃ t, e = .returned (.string t) ∧ nums t = [27, 91] ++ sepL L ++ [last] ∧ Below w.heap.size w w' := by
  have HB : Hid (∀ x ∈ [27, 91] ++ sepL L ++ [last], (0 : Int) ≤ x ∧ x < 256) := by
    show ∀ x ∈ _, _
    intro x hx
    simp only [List.mem_append, List.mem_cons, List.not_mem_nil, or_false] at hx
    rcases hx with ((rfl | rfl) | hx) | rfl
    · omega
    · omega
    · exact sepL_bd L hbd x hx
    · exact hla
  obtain ⟨aa, c, rfl, hr⟩ := hL
  rcases hr with rfl | ⟨bb, off, rfl, hbb, hcl⟩
  · exact absurd rfl hne
  have k0 : BR w.heap.size (.slice (some ⟨w.heap.size, 0, none⟩) 2 2) [27, 91] w (w.alloc (Obj.cells #[.int .u8 27, .int .u8 91] 5 (2, 3))) := by
    refine ⟨.inr ⟨_, rfl, Nat.le_refl _, by simp, fun j hj => ?_⟩, bal' _ _, by simp, Nat.le_refl _⟩
    match j, hj with
    | 0, _ => rw [cell_of_row _ w.heap.size 0 _ _ (2, 3) (heap_alloc_new w _)]; rfl
    | 1, _ => rw [cell_of_row _ w.heap.size 1 _ _ (2, 3) (heap_alloc_new w _)]; rfl
    | j + 2, hj => exact absurd hj (by simp)
  have kc := fun (w : World) (C : Array Value) (n c : Nat) => Lib.run_convert_bytes_const (P := Tryd.prog) w 22 5 C n c Tryd.underlying22 Tryd.underlying5
  clear hla
  go_enter Tryd.func35, Tryd.ntmps35
  go_wp2
  go_loopw [5, 6, 7, 12] (fun u _ _ i wr => ∃ (j : Nat), i = .int .i64 j ∧ j ≤ L.length ∧ BR w.heap.size u ([27, 91] ++ sepL (L.take j)) w wr ∧ (0 < j → BK w.heap.size u ([27, 91] ++ sepL (L.take j)) w wr)) (fun _ _ _ i _ => L.length - (intOf i).toNat)
  case atStart => exact ⟨0, rfl, Nat.zero_le _, k0, fun h => absurd h (Nat.lt_irrefl 0)⟩
  case round =>
    clear k0 kc
    obtain ⟨j, rfl, hj, hk, hk0⟩ := hrel
    by_cases hlt : j < L.length
    · have hji : (j : Int) < (L.length : Int) := by omega
      have hcj := (hk.2.1.cell (p := ⟨bb, off + j, none⟩) hbb).trans (hcl j hlt)
      have hnj := hbd (L.getD j 0) (by have e : L.getD j 0 = L[j] := by simp [List.getD, hlt]
                                       rw [e]; exact List.getElem_mem hlt)
      have hsn : Hid ([27, 91] ++ sepL (L.take (j + 1)) = ([27, 91] ++ sepL (L.take j)) ++ (if j = 0 then [] else [59]) ++ digL (L.getD j 0)) := by show _ = _; rw [sepL_snoc L j hlt]; simp
      have hlen : ([27, 91] ++ sepL (L.take j)).length ≤ 2 + 3 * j := by have := sepL_len L j (by omega); simp; omega
      have hint := fun v T W hk hl => appendInt_bk w.heap.size v T (L.getD j 0) w W ⟨hnj.1, by omega⟩ hk hl
      generalize L.getD j 0 = n at *
      generalize [27, 91] ++ sepL (L.take j) = T at *
      clear hcl
      by_cases h0 : j = 0
      · have h0i : ¬ 0 < (j : Int) := by omega
        have hsn' : Hid ([27, 91] ++ sepL (L.take (j + 1)) = T ++ digL n) := by show _ = _; rw [hsn.out, if_pos h0]; simp
        clear h0 hsn hk0
        go_wp2_with fail
        refine (hint _ _ _ hk (by omega)).mono ?_
        clear hint
        rintro e w3 ⟨v', rfl, hk3⟩
        clear hk
        go_wp2
        go_roundw
        case rel => exact ⟨j + 1, by go_num, by omega, by rw [hsn'.out]; exact hk3.br, fun _ => by rw [hsn'.out]; exact hk3⟩
        case measure => simp [intOf]; omega
      · have h0i : 0 < (j : Int) := by omega
        have hsn' : Hid ([27, 91] ++ sepL (L.take (j + 1)) = (T ++ [59]) ++ digL n) := by show _ = _; rw [hsn.out, if_neg h0]
        have hkk := hk0 (by omega)
        clear h0 hsn hk0
        go_wp2_with (at_builtin; refine append_bk rfl _ _ rfl w.heap.size _ _ w _ rfl (by exact hkk) (by omega) _ (by simp) rfl ?_; intro v1 w1 hk1)
        refine (hint _ _ _ hk1.br (by simp; omega)).mono ?_
        clear hint
        rintro e w3 ⟨v', rfl, hk3⟩
        clear hk hkk hk1
        go_wp2
        go_roundw
        case rel => exact ⟨j + 1, by go_num, by omega, by rw [hsn'.out]; exact hk3.br, fun _ => by rw [hsn'.out]; exact hk3⟩
        case measure => simp [intOf]; omega
    · have hjn : j = L.length := by omega
      have hji : ¬ (j : Int) < (L.length : Int) := by omega
      have hlen := sepL_len L j (by omega)
      have hkk := hk0 (by have := List.length_pos_iff.2 hne; omega)
      rw [hjn, List.take_length] at hkk hlen
      clear hk hk0
      have hl2 : ([27, 91] ++ sepL L).length < 1000000 := by simp; omega
      have HF : Hid (nums (strOfNums (([27, 91] ++ sepL L) ++ [last])) = [27, 91] ++ sepL L ++ [last]) := by show _ = _; rw [nums_str _ HB.out]
      clear hcl hlen HB
      go_wp2_with (at_builtin; refine append_bk rfl _ _ rfl w.heap.size _ _ w _ rfl (by exact hkk) (by omega) _ (by simp) rfl ?_; intro v1 w1 hk1; have hcv := conv_bk hk1)
      go_ret
      exact ⟨_, rfl, HF.out, hk1.2.1⟩
set_option maxHeartbeats 4000000 in
set_option maxRecDepth 20000 in
theorem implSign_any (a b : St) (w : World) :
    Calls Tryd.prog 10 #[stV a, stV b] w fun e w' => ∃ t, e = .returned (.string t) ∧ nums t = signN a b ∧ Below w.heap.size w w' := by
  rw [signN_is]
  have hall := fun W => implParams_any a b W
  have hbd := paramsV_bd a b
  have hl5 : (paramsV a b).length ≤ 5 := by unfold paramsV; split; exact paramsL_len a b; simp
  have hS : Hid (paramsV a b ≠ [] → signL (paramsV a b) = [27, 91] ++ sepL (paramsV a b) ++ [109]) := by intro h; simp [signL, h]
  have hN : Hid (paramsV a b = [] → signL (paramsV a b) = []) := by intro h; simp [signL, h]
  generalize paramsV a b = L at *
  have hls := fun v W (h : SlI W v L) (hne : L ≠ []) => listSign_any 109 (by decide) v L W h hne hl5 hbd
  have hbA : Below w.heap.size w ((w.alloc (Obj.cells #[.int .i64 a.fore, .int .i64 a.back, .bool a.bold, .bool a.under, .bool a.turned] 25)).alloc (Obj.cells #[.int .i64 b.fore, .int .i64 b.back, .bool b.bold, .bool b.under, .bool b.turned] 25)) := ((Below.refl _ _).alloc (Nat.le_refl _) _).alloc (by simp) _
  clear hbd
  unfold stV at *
  go_enter Tryd.func10, Tryd.ntmps10
  go_wp2_with fail
  refine (hall _).mono ?_
  clear hall
  rintro e w2 ⟨v, rfl, hb2, ho2⟩
  have kw := hbA.trans (hb2.mono hbA.size)
  have hL := SlI.of_own ho2
  clear hbA hb2 ho2
  obtain ⟨aa, c, rfl, _⟩ := id hL
  by_cases hne : L = []
  · have hn := hN.out hne
    subst hne
    clear hS hN hls
    go_wp2
    go_ret
    exact ⟨⟨#[]⟩, rfl, hn.symm, kw⟩
  · have hs := hS.out hne
    have hz : ((L.length : Int) == 0) = false := by simp; exact hne
    replace hs : Hid (signL L = [27, 91] ++ sepL L ++ [109]) := hs
    replace hls := hls _ w2 hL hne
    replace hne := (show Hid _ from hne)
    clear hS hN hL
    go_wp2_with fail
    refine hls.mono ?_
    rintro e w3 ⟨t, rfl, ht, hb⟩
    replace ht := (show Hid _ from ht)
    go_wp2
    go_ret
    exact ⟨t, rfl, by rw [hs.out]; exact ht.out, kw.trans (hb.mono kw.size)⟩
end Go.Proofs.YtedbmobjhpgiiaaDoor
namespace Go.Proofs.YtedbmobjhpgiiaaDoor
open Go.ChangeShapes Go.WideShapes Go.ChangeAt Go.RowKit
theorem specSign_kq (A B : Nat) (a b : St) (w0 W : World) (k : W.cell? ⟨A, 0, none⟩ = some (.int .i64 a.fore) ∧ W.cell? ⟨A, 1, none⟩ = some (.int .i64 a.back) ∧ W.cell? ⟨A, 2, none⟩ = some (.bool a.bold) ∧ W.cell? ⟨A, 3, none⟩ = some (.bool a.under) ∧ W.cell? ⟨A, 4, none⟩ = some (.bool a.turned) ∧ W.cell? ⟨B, 0, none⟩ = some (.int .i64 b.fore) ∧ W.cell? ⟨B, 1, none⟩ = some (.int .i64 b.back) ∧ W.cell? ⟨B, 2, none⟩ = some (.bool b.bold) ∧ W.cell? ⟨B, 3, none⟩ = some (.bool b.under) ∧ W.cell? ⟨B, 4, none⟩ = some (.bool b.turned) ∧ KQ A B a b w0 W) :
    Calls Tryd.prog 14 #[.agg #[.int .i64 a.fore, .int .i64 a.back, .bool a.bold, .bool a.under, .bool a.turned], .agg #[.int .i64 b.fore, .int .i64 b.back, .bool b.bold, .bool b.under, .bool b.turned]] W fun e w' => ∃ t, e = .returned (.string t) ∧ Hid (nums t = signN a b) ∧ (w'.cell? ⟨A, 0, none⟩ = some (.int .i64 a.fore) ∧ w'.cell? ⟨A, 1, none⟩ = some (.int .i64 a.back) ∧ w'.cell? ⟨A, 2, none⟩ = some (.bool a.bold) ∧ w'.cell? ⟨A, 3, none⟩ = some (.bool a.under) ∧ w'.cell? ⟨A, 4, none⟩ = some (.bool a.turned) ∧ w'.cell? ⟨B, 0, none⟩ = some (.int .i64 b.fore) ∧ w'.cell? ⟨B, 1, none⟩ = some (.int .i64 b.back) ∧ w'.cell? ⟨B, 2, none⟩ = some (.bool b.bold) ∧ w'.cell? ⟨B, 3, none⟩ = some (.bool b.under) ∧ w'.cell? ⟨B, 4, none⟩ = some (.bool b.turned) ∧ KQ A B a b w0 w') :=
  (specSign_any a b W).mono fun _ _ ⟨t, he, ht, hb⟩ => ⟨t, he, ht, (k.2.2.2.2.2.2.2.2.2.2.below hb).all⟩
theorem implSign_kq (A B : Nat) (a b : St) (w0 W : World) (k : W.cell? ⟨A, 0, none⟩ = some (.int .i64 a.fore) ∧ W.cell? ⟨A, 1, none⟩ = some (.int .i64 a.back) ∧ W.cell? ⟨A, 2, none⟩ = some (.bool a.bold) ∧ W.cell? ⟨A, 3, none⟩ = some (.bool a.under) ∧ W.cell? ⟨A, 4, none⟩ = some (.bool a.turned) ∧ W.cell? ⟨B, 0, none⟩ = some (.int .i64 b.fore) ∧ W.cell? ⟨B, 1, none⟩ = some (.int .i64 b.back) ∧ W.cell? ⟨B, 2, none⟩ = some (.bool b.bold) ∧ W.cell? ⟨B, 3, none⟩ = some (.bool b.under) ∧ W.cell? ⟨B, 4, none⟩ = some (.bool b.turned) ∧ KQ A B a b w0 W) :
    Calls Tryd.prog 10 #[.agg #[.int .i64 a.fore, .int .i64 a.back, .bool a.bold, .bool a.under, .bool a.turned], .agg #[.int .i64 b.fore, .int .i64 b.back, .bool b.bold, .bool b.under, .bool b.turned]] W fun e w' => ∃ t, e = .returned (.string t) ∧ Hid (nums t = signN a b) ∧ (w'.cell? ⟨A, 0, none⟩ = some (.int .i64 a.fore) ∧ w'.cell? ⟨A, 1, none⟩ = some (.int .i64 a.back) ∧ w'.cell? ⟨A, 2, none⟩ = some (.bool a.bold) ∧ w'.cell? ⟨A, 3, none⟩ = some (.bool a.under) ∧ w'.cell? ⟨A, 4, none⟩ = some (.bool a.turned) ∧ w'.cell? ⟨B, 0, none⟩ = some (.int .i64 b.fore) ∧ w'.cell? ⟨B, 1, none⟩ = some (.int .i64 b.back) ∧ w'.cell? ⟨B, 2, none⟩ = some (.bool b.bold) ∧ w'.cell? ⟨B, 3, none⟩ = some (.bool b.under) ∧ w'.cell? ⟨B, 4, none⟩ = some (.bool b.turned) ∧ KQ A B a b w0 w') :=
  (implSign_any a b W).mono fun _ _ ⟨t, he, ht, hb⟩ => ⟨t, he, ht, (k.2.2.2.2.2.2.2.2.2.2.below hb).all⟩
end Go.Proofs.YtedbmobjhpgiiaaDoor
namespace Go.Proofs.YtedbmobjhpgiiaaDoor
open Go.ChangeShapes Go.WideShapes Go.ChangeAt Go.RowKit
attribute [local go_sem ↓] Go.wp_at_zero Go.wp_at_succ
set_option maxHeartbeats 4000000 in
set_option maxRecDepth 20000 in
theorem walk_FnExactSign (w : World) (a b : St) :
    Calls Tryd.prog 4 #[stV a, stV b] w fun e w' => e = .returned (.bool true) ∧ Below w.heap.size w w' := by
  have k0 := kq_start a b w 36
  unfold stV
  go_enter Tryd.func4, Tryd.ntmps4
  go_wp2
  generalize (w.alloc (Obj.cells #[.int .i64 a.fore, .int .i64 a.back, .bool a.bold, .bool a.under, .bool a.turned] 36)).alloc (Obj.cells #[.int .i64 b.fore, .int .i64 b.back, .bool b.bold, .bool b.under, .bool b.turned] 36) = W0 at *
  go_region_held3 (fun W => W.cell? ⟨w.heap.size, 0, none⟩ = some (.int .i64 a.fore) ∧ W.cell? ⟨w.heap.size, 1, none⟩ = some (.int .i64 a.back) ∧ W.cell? ⟨w.heap.size, 2, none⟩ = some (.bool a.bold) ∧ W.cell? ⟨w.heap.size, 3, none⟩ = some (.bool a.under) ∧ W.cell? ⟨w.heap.size, 4, none⟩ = some (.bool a.turned) ∧ W.cell? ⟨w.heap.size + 1, 0, none⟩ = some (.int .i64 b.fore) ∧ W.cell? ⟨w.heap.size + 1, 1, none⟩ = some (.int .i64 b.back) ∧ W.cell? ⟨w.heap.size + 1, 2, none⟩ = some (.bool b.bold) ∧ W.cell? ⟨w.heap.size + 1, 3, none⟩ = some (.bool b.under) ∧ W.cell? ⟨w.heap.size + 1, 4, none⟩ = some (.bool b.turned) ∧ KQ w.heap.size (w.heap.size + 1) a b w W) (first | assumption | exact k0.drew)
    (first
      | (go_at_call 17; refine (toStyle_kq w.heap.size (w.heap.size + 1) a b _ w _ (by assumption)).mono ?_; rintro e wk ⟨rfl, hk⟩)
      | (go_at_call 14; refine (specSign_kq w.heap.size (w.heap.size + 1) a b w _ (by assumption)).mono ?_; rintro e wk ⟨t1, rfl, ht1, hk⟩))
  have kq := hk.2.2.2.2.2.2.2.2.2.2
  clear hk
  go_wp2
  go_region_held3 (fun W => W.cell? ⟨w.heap.size, 0, none⟩ = some (.int .i64 a.fore) ∧ W.cell? ⟨w.heap.size, 1, none⟩ = some (.int .i64 a.back) ∧ W.cell? ⟨w.heap.size, 2, none⟩ = some (.bool a.bold) ∧ W.cell? ⟨w.heap.size, 3, none⟩ = some (.bool a.under) ∧ W.cell? ⟨w.heap.size, 4, none⟩ = some (.bool a.turned) ∧ W.cell? ⟨w.heap.size + 1, 0, none⟩ = some (.int .i64 b.fore) ∧ W.cell? ⟨w.heap.size + 1, 1, none⟩ = some (.int .i64 b.back) ∧ W.cell? ⟨w.heap.size + 1, 2, none⟩ = some (.bool b.bold) ∧ W.cell? ⟨w.heap.size + 1, 3, none⟩ = some (.bool b.under) ∧ W.cell? ⟨w.heap.size + 1, 4, none⟩ = some (.bool b.turned) ∧ KQ w.heap.size (w.heap.size + 1) a b w W) (first | assumption | exact kq.drew)
    (first
      | (go_at_call 17; refine (toStyle_kq w.heap.size (w.heap.size + 1) a b _ w _ (by assumption)).mono ?_; rintro e wk ⟨rfl, hk⟩)
      | (go_at_call 10; refine (implSign_kq w.heap.size (w.heap.size + 1) a b w _ (by assumption)).mono ?_; rintro e wk ⟨t2, rfl, ht2, hk⟩))
  have he : t2 = t1 := nums_inj (ht2.out.trans ht1.out.symm)
  subst he
  have kz := hk.2.2.2.2.2.2.2.2.2.2.2.2
  clear hk kq ht1 ht2
  go_wp2
  go_ret
  exact ⟨rfl, kz⟩
end Go.Proofs.YtedbmobjhpgiiaaDoor
namespace Go.Proofs.YtedbmobjhpgiiaaDoor
open Go.ChangeShapes Go.WideShapes Go.ChangeAt Go.RowKit
set_option maxRecDepth 20000 in
theorem style_view {H : Type} {enc : TypeId × Value → H} {w : World} {base b0 : Nat} {spare : Nat → Bool} {held : Bool} {r : Reach} {v : Value} {d : DataW H} {p : List MemPlace} (hv : Value.okWide Tryd.prog w r b0 36 v) (h : DataW.Trod enc Tryd.prog w base spare held 36 v d p) :
    ∃ s : St, v = stV s := by
  obtain ⟨cs, rfl, hsz⟩ := okWide_struct Tryd.underlying36 hv
  obtain ⟨fuel, hf⟩ := h
  obtain ⟨xs, n, _, _, hl, hlen, hfs⟩ := DataW.trod_struct Tryd.underlying36 hf
  have e : Tryd.prog.cellsOf 36 = 5 := by kernel_rfl
  have ei : Tryd.prog.cellsOf 2 = 1 := by kernel_rfl
  have eb : Tryd.prog.cellsOf 4 = 1 := by kernel_rfl
  obtain ⟨l⟩ := cs
  match l, hsz.trans e, xs, hlen with
  | [c0, c1, c2, c3, c4], _, [x0, x1, x2, x3, x4], _ =>
    have h0 := hfs 0 _ rfl
    have h1 := hfs 1 _ rfl
    have h2 := hfs 2 _ rfl
    have h3 := hfs 3 _ rfl
    have h4 := hfs 4 _ rfl
    simp [Value.cells, ei, eb] at h0 h1 h2 h3 h4
    obtain ⟨k0, q0, _, _⟩ := DataW.trod_int Tryd.underlying2 h0
    obtain ⟨k1, q1, _, _⟩ := DataW.trod_int Tryd.underlying2 h1
    obtain ⟨k2, q2, _⟩ := DataW.trod_bool Tryd.underlying4 h2
    obtain ⟨k3, q3, _⟩ := DataW.trod_bool Tryd.underlying4 h3
    obtain ⟨k4, q4, _⟩ := DataW.trod_bool Tryd.underlying4 h4
    simp at q0 q1 q2 q3 q4
    subst q0; subst q1; subst q2; subst q3; subst q4
    exact ⟨⟨k0, k1, k2, k3, k4⟩, rfl⟩
end Go.Proofs.YtedbmobjhpgiiaaDoor
