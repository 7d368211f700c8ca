/- Runes as numbers: what a text's first bytes are read to. Plain mathematics, no program. Contract of l1In alone. Contracts of the rune functions. What stands at a text's beginning, told by its numbers. Plain mathematics. A rune got by its first byte's length, as the specification reckons it. Plain mathematics. Widths, and what fits into some cells. Plain mathematics. Contracts of Width. Contract of the program's Width: its table lies in a package's variable. The table of the program's Width as the row lists it: what lies in memory. Styles: their params and signs. Plain mathematics. Rows of cells. Plain mathematics. A style as a value; StyleOk as the specification has it. Slices of int64 that can be read, and rows that stay. What a contract leaves, as growth. A style in memory. Rows of cells in memory. What an argument that is a row of cells is, once it can be read. Contracts of the specification's blank rows. Rows of rows in memory. Right rows. Plain mathematics. Grids. Plain mathematics. A grid in a block of its own. What an argument that is a grid is, once it can be read. Parsers as numbers: what a rune makes of one, and what is told of it. Plain mathematics, no program. Lists of numbers that one call owns, apart from one another; parsers and actions in memory. Contracts: the specification's tests on parsers. The walk of the program's parser: what it tells, what comes next. The laws' own helper that copies a list of int64. The walk of the program's parser: past controls, letters, parameters, a title. The walk of the program's parser: from state to state. -/
import Derived.Laws.BytesArg
import GoSem.Core.Utf8
import Derived.Test.YtlmnhlfklbgjdaaGreatDoorRows
import Derived.WalkKit
import Derived.ProofKit
import Derived.OpenShut
import Derived.ShutString
import Derived.LoopN
import Derived.Laws.Strings
import Derived.Laws.Rows
import Derived.WalkMore
import Derived.LaidMore
import Derived.OpenVars
import Derived.ChangeVars
import Derived.Deep.Strs
import Derived.Stop.Joined
import Derived.WalkSpells
import Derived.Deep.QuietTactic
import Derived.BigQuiet
import Derived.Laws.OwnMore
import Derived.Laws.AppendOwn
import Derived.OwnWalk
import Derived.Laws.AppendOwnNone
import Derived.Deep.MidRow
import Derived.ChangeOld
import Derived.Below
import Derived.Deep.Slices
import Derived.Deep.AppendLies
import Derived.LoopTactic
import Derived.Deep.RegionHeld3
import Derived.OneCell
import Derived.Deep.RegionLaw
import Derived.Deep.LoopGhost
import Derived.ScopeJumps
import Derived.Deep.RegionWith
namespace Go.Proofs.YtlmnhlfklbgjdaaGreatDoor
def runeOk (r : Int) : Bool := decide (0 ≤ r ∧ r ≤ 1114111 ∧ (r < 55296 ∨ 57343 < r))

theorem runeOk_is (r : Int) (b : Bool) (h : b = true ↔ (0 ≤ r ∧ r ≤ 1114111 ∧ (r < 55296 ∨ 57343 < r))) : b = runeOk r := by
  rw [Bool.eq_iff_iff, h]; simp [runeOk]
theorem runeOk_iff (r : Int) : runeOk r = true ↔ (0 ≤ r ∧ r ≤ 1114111 ∧ (r < 55296 ∨ 57343 < r)) := by simp [runeOk]
theorem runeOk_bd (r : Int) (h : runeOk r = true) : 0 ≤ r ∧ r ≤ 1114111 := by simp [runeOk] at h; omega

def putL (r : Int) : List Int :=
  if r < 128 then [r]
  else if r < 2048 then [192 + r / 64, 128 + r % 64]
  else if r < 65536 then [224 + r / 4096, 128 + r / 64 % 64, 128 + r % 64]
  else [240 + r / 262144, 128 + r / 4096 % 64, 128 + r / 64 % 64, 128 + r % 64]
def putS (r : Int) : ByteArray := if runeOk r = true then strOfNums (putL r) else ⟨#[]⟩

theorem putL_1 (r : Int) (h : r < 128) : putL r = [r] := by simp [putL, h]
theorem putL_2 (r : Int) (h0 : 128 ≤ r) (h : r < 2048) : putL r = [192 + r / 64, 128 + r % 64] := by
  rw [putL, if_neg (by omega), if_pos h]
theorem putL_3 (r : Int) (h0 : 2048 ≤ r) (h : r < 65536) : putL r = [224 + r / 64 / 64, 128 + r / 64 % 64, 128 + r % 64] := by
  rw [putL, if_neg (by omega), if_neg (by omega), if_pos h, show r / 64 / 64 = r / 4096 from by omega]
theorem putL_4 (r : Int) (h0 : 65536 ≤ r) : putL r = [240 + r / 64 / 64 / 64, 128 + r / 64 / 64 % 64, 128 + r / 64 % 64, 128 + r % 64] := by
  rw [putL, if_neg (by omega), if_neg (by omega), if_neg (by omega), show r / 64 / 64 / 64 = r / 262144 from by omega, show r / 64 / 64 = r / 4096 from by omega]
theorem putS_ok (r : Int) (h : runeOk r = true) : putS r = strOfNums (putL r) := by simp [putS, h]
theorem putS_no (r : Int) (h : runeOk r = false) : putS r = ⟨#[]⟩ := by simp [putS, h]

def dec (l : List Int) : Int × Int :=
  match l with
  | [] => (0, 0)
  | b0 :: t =>
    if b0 < 128 then (b0, 1)
    else if 192 ≤ b0 ∧ b0 < 224 then
      match t with
      | b1 :: _ => if (128 ≤ b1 ∧ b1 < 192) ∧ 128 ≤ (b0 - 192) * 64 + (b1 - 128) then ((b0 - 192) * 64 + (b1 - 128), 2) else (65533, 1)
      | _ => (65533, 1)
    else if 224 ≤ b0 ∧ b0 < 240 then
      match t with
      | b1 :: b2 :: _ => if (128 ≤ b1 ∧ b1 < 192) ∧ (128 ≤ b2 ∧ b2 < 192) ∧ 2048 ≤ (b0 - 224) * 4096 + (b1 - 128) * 64 + (b2 - 128) ∧ runeOk ((b0 - 224) * 4096 + (b1 - 128) * 64 + (b2 - 128)) = true then ((b0 - 224) * 4096 + (b1 - 128) * 64 + (b2 - 128), 3) else (65533, 1)
      | _ => (65533, 1)
    else if 240 ≤ b0 ∧ b0 < 248 then
      match t with
      | b1 :: b2 :: b3 :: _ => if (128 ≤ b1 ∧ b1 < 192) ∧ (128 ≤ b2 ∧ b2 < 192) ∧ (128 ≤ b3 ∧ b3 < 192) ∧ 65536 ≤ (b0 - 240) * 262144 + (b1 - 128) * 4096 + (b2 - 128) * 64 + (b3 - 128) ∧ runeOk ((b0 - 240) * 262144 + (b1 - 128) * 4096 + (b2 - 128) * 64 + (b3 - 128)) = true then ((b0 - 240) * 262144 + (b1 - 128) * 4096 + (b2 - 128) * 64 + (b3 - 128), 4) else (65533, 1)
      | _ => (65533, 1)
    else (65533, 1)

theorem putL_len (r : Int) : (putL r).length = 1 ∨ (putL r).length = 2 ∨ (putL r).length = 3 ∨ (putL r).length = 4 := by
  unfold putL
  split
  · simp
  · split
    · simp
    · split <;> simp

theorem dec_put (r : Int) (t : List Int) (h : runeOk r = true) : dec (putL r ++ t) = (r, ((putL r).length : Int)) := by
  have hb := (runeOk_iff r).1 h
  by_cases h1 : r < 128
  · rw [putL_1 r h1]; simp [dec, h1]
  · by_cases h2 : r < 2048
    · rw [putL, if_neg h1, if_pos h2]
      simp only [dec, List.cons_append, List.nil_append]
      rw [if_neg (by omega), if_pos (by omega), if_pos (by omega)]
      simp; omega
    · by_cases h3 : r < 65536
      · rw [putL, if_neg h1, if_neg h2, if_pos h3]
        have e : (224 + r / 4096 - 224) * 4096 + (128 + r / 64 % 64 - 128) * 64 + (128 + r % 64 - 128) = r := by omega
        simp only [dec, List.cons_append, List.nil_append]
        rw [if_neg (by omega), if_neg (by omega), if_pos (by omega), e, if_pos ⟨by omega, by omega, by omega, h⟩]
        simp
      · rw [putL, if_neg h1, if_neg h2, if_neg h3]
        have e : (240 + r / 262144 - 240) * 262144 + (128 + r / 4096 % 64 - 128) * 4096 + (128 + r / 64 % 64 - 128) * 64 + (128 + r % 64 - 128) = r := by omega
        simp only [dec, List.cons_append, List.nil_append]
        rw [if_neg (by omega), if_neg (by omega), if_neg (by omega), if_pos (by omega), e, if_pos ⟨by omega, by omega, by omega, by omega, h⟩]
        simp

/-- What is read is what stands at the beginning, or it is 65533 for one byte that begins none. -/
theorem put_dec (b0 : Int) (t : List Int) (hb : 0 ≤ b0) :
    (runeOk (dec (b0 :: t)).1 = true ∧ (∃ u, b0 :: t = putL (dec (b0 :: t)).1 ++ u) ∧ (dec (b0 :: t)).2 = ((putL (dec (b0 :: t)).1).length : Int)) ∨
    (dec (b0 :: t) = (65533, 1) ∧ 128 ≤ b0) := by
  simp only [dec]
  by_cases h1 : b0 < 128
  · rw [if_pos h1]
    left
    refine ⟨(runeOk_iff _).2 ⟨by dsimp only; omega, by dsimp only; omega, by dsimp only; omega⟩, ⟨t, by rw [putL_1 _ h1]; rfl⟩, by rw [putL_1 _ h1]; rfl⟩
  · rw [if_neg h1]
    by_cases h2 : 192 ≤ b0 ∧ b0 < 224
    · rw [if_pos h2]
      match t with
      | [] => right; exact ⟨rfl, by omega⟩
      | b1 :: t =>
        simp only
        split
        · rename_i hc
          left
          have e : putL ((b0 - 192) * 64 + (b1 - 128)) = [b0, b1] := by
            rw [putL_2 _ (by omega) (by omega)]
            congr 1
            · omega
            · congr 1; omega
          refine ⟨(runeOk_iff _).2 ⟨by dsimp only; omega, by dsimp only; omega, by dsimp only; omega⟩, ⟨t, by rw [e]; rfl⟩, by rw [e]; rfl⟩
        · right; exact ⟨rfl, by omega⟩
    · rw [if_neg h2]
      by_cases h3 : 224 ≤ b0 ∧ b0 < 240
      · rw [if_pos h3]
        match t with
        | [] => right; exact ⟨rfl, by omega⟩
        | [b1] => right; exact ⟨rfl, by omega⟩
        | b1 :: b2 :: t =>
          simp only
          split
          · rename_i hc
            left
            have e : putL ((b0 - 224) * 4096 + (b1 - 128) * 64 + (b2 - 128)) = [b0, b1, b2] := by
              rw [putL, if_neg (by omega), if_neg (by omega), if_pos (by omega)]
              congr 1
              · omega
              · congr 1
                · omega
                · congr 1; omega
            refine ⟨hc.2.2.2, ⟨t, by rw [e]; rfl⟩, by rw [e]; rfl⟩
          · right; exact ⟨rfl, by omega⟩
      · rw [if_neg h3]
        by_cases h4 : 240 ≤ b0 ∧ b0 < 248
        · rw [if_pos h4]
          match t with
          | [] => right; exact ⟨rfl, by omega⟩
          | [b1] => right; exact ⟨rfl, by omega⟩
          | [b1, b2] => right; exact ⟨rfl, by omega⟩
          | b1 :: b2 :: b3 :: t =>
            simp only
            split
            · rename_i hc
              left
              have e : putL ((b0 - 240) * 262144 + (b1 - 128) * 4096 + (b2 - 128) * 64 + (b3 - 128)) = [b0, b1, b2, b3] := by
                rw [putL, if_neg (by omega), if_neg (by omega), if_neg (by omega)]
                congr 1
                · omega
                · congr 1
                  · omega
                  · congr 1
                    · omega
                    · congr 1; omega
              refine ⟨hc.2.2.2.2, ⟨t, by rw [e]; rfl⟩, by rw [e]; rfl⟩
            · right; exact ⟨rfl, by omega⟩
        · rw [if_neg h4]; right; exact ⟨rfl, by omega⟩

def nums (s : ByteArray) : List Int := s.data.toList.map fun b => (b.toNat : Int)
theorem nums_len (s : ByteArray) : (nums s).length = s.size := by simp only [nums, List.length_map, Array.length_toList]; rfl
theorem nums_bd (s : ByteArray) : ∀ x ∈ nums s, 0 ≤ x ∧ x < 256 := by
  intro x hx
  simp only [nums, List.mem_map] at hx
  obtain ⟨b, _, rfl⟩ := hx
  have := b.toNat_lt
  omega
theorem str_nums (s : ByteArray) : strOfNums (nums s) = s := by
  cases s with | mk d =>
  simp [strOfNums, nums, Function.comp_def]
theorem nums_str (l : List Int) (h : ∀ x ∈ l, 0 ≤ x ∧ x < 256) : nums (strOfNums l) = l := by
  simp only [nums, strOfNums, List.map_map]
  conv => rhs; rw [← List.map_id l]
  apply List.map_congr_left
  intro x hx
  have := h x hx
  simp
  omega
theorem nums_at (s : ByteArray) (i : Nat) (h : i < s.size) : (nums s)[i]? = some ((s.get! i).toNat : Int) := by
  have h' : i < s.data.size := h
  simp only [nums, List.getElem?_map, ByteArray.get!, Array.getElem?_toList, Array.getElem?_eq_getElem h', Option.map_some, getElem!_pos s.data i h']

theorem valid_ok (n : Nat) : Utf8.valid (n : Int) = runeOk (n : Int) := by
  rw [Bool.eq_iff_iff, runeOk_iff]; simp [Utf8.valid]; omega
def decN (n0 n1 n2 n3 : Nat) (p1 p2 p3 : Bool) : Nat × Nat :=
  if n0 < 128 then (n0, 1)
  else if n0 / 32 == 6 && (p1 && n1 / 64 == 2) then
    if n0 % 32 * 64 + n1 % 64 ≥ 128 then (n0 % 32 * 64 + n1 % 64, 2) else (65533, 1)
  else if n0 / 16 == 14 && (p1 && n1 / 64 == 2) && (p2 && n2 / 64 == 2) then
    if n0 % 16 * 4096 + n1 % 64 * 64 + n2 % 64 ≥ 2048 && Utf8.valid (n0 % 16 * 4096 + n1 % 64 * 64 + n2 % 64 : Nat) then (n0 % 16 * 4096 + n1 % 64 * 64 + n2 % 64, 3) else (65533, 1)
  else if n0 / 8 == 30 && (p1 && n1 / 64 == 2) && (p2 && n2 / 64 == 2) && (p3 && n3 / 64 == 2) then
    if n0 % 8 * 262144 + n1 % 64 * 4096 + n2 % 64 * 64 + n3 % 64 ≥ 65536 && Utf8.valid (n0 % 8 * 262144 + n1 % 64 * 4096 + n2 % 64 * 64 + n3 % 64 : Nat) then (n0 % 8 * 262144 + n1 % 64 * 4096 + n2 % 64 * 64 + n3 % 64, 4) else (65533, 1)
  else (65533, 1)
theorem decode_N (s : ByteArray) (i : Nat) : Utf8.decode s i = decN (s.get! (i + 0)).toNat (s.get! (i + 1)).toNat (s.get! (i + 2)).toNat (s.get! (i + 3)).toNat (decide (i + 1 < s.size)) (decide (i + 2 < s.size)) (decide (i + 3 < s.size)) := rfl

def both (p : Nat × Nat) : Int × Int := ((p.1 : Int), (p.2 : Int))
set_option maxHeartbeats 1000000 in
theorem decN_1 (n0 n1 n2 n3 : Nat) : both (decN n0 n1 n2 n3 false false false) = dec [(n0 : Int)] := by
  simp only [decN, dec, Bool.false_and, Bool.and_false, Bool.false_eq_true, if_false, Bool.and_eq_true, decide_eq_true_eq, valid_ok, runeOk_iff]
  repeat' split
  all_goals first | rfl | (simp only [both, Prod.mk.injEq]; omega)
set_option maxHeartbeats 1000000 in
theorem decN_2 (n0 n1 n2 n3 : Nat) : both (decN n0 n1 n2 n3 true false false) = dec [(n0 : Int), (n1 : Int)] := by
  simp only [decN, dec, Bool.false_and, Bool.and_false, Bool.false_eq_true, if_false, Bool.true_and, Bool.and_eq_true, decide_eq_true_eq, beq_iff_eq, valid_ok, runeOk_iff]
  repeat' split
  all_goals first | rfl | (simp only [both, Prod.mk.injEq]; omega)
set_option maxHeartbeats 1000000 in
theorem decN_3 (n0 n1 n2 n3 : Nat) : both (decN n0 n1 n2 n3 true true false) = dec [(n0 : Int), (n1 : Int), (n2 : Int)] := by
  simp only [decN, dec, Bool.false_and, Bool.and_false, Bool.false_eq_true, if_false, Bool.true_and, Bool.and_eq_true, decide_eq_true_eq, beq_iff_eq, valid_ok, runeOk_iff]
  repeat' split
  all_goals first | rfl | (simp only [both, Prod.mk.injEq]; omega)
set_option maxHeartbeats 1000000 in
theorem decN_4 (n0 n1 n2 n3 : Nat) (t : List Int) : both (decN n0 n1 n2 n3 true true true) = dec ((n0 : Int) :: (n1 : Int) :: (n2 : Int) :: (n3 : Int) :: t) := by
  simp only [decN, dec, Bool.true_and, Bool.and_eq_true, decide_eq_true_eq, beq_iff_eq, valid_ok, runeOk_iff]
  repeat' split
  all_goals first | rfl | (simp only [both, Prod.mk.injEq]; omega)

theorem drop_at (s : ByteArray) (i k : Nat) (h : i + k < s.size) : ((nums s).drop i)[k]? = some ((s.get! (i + k)).toNat : Int) := by
  rw [List.getElem?_drop]; exact nums_at s (i + k) h

theorem decode_dec (s : ByteArray) (i : Nat) (h : i < s.size) : both (Utf8.decode s i) = dec ((nums s).drop i) := by
  have hl : ((nums s).drop i).length = s.size - i := by simp [nums_len]
  have h0 := drop_at s i 0 (by omega)
  have h1 := drop_at s i 1
  have h2 := drop_at s i 2
  have h3 := drop_at s i 3
  rw [decode_N]
  match hd : (nums s).drop i with
  | [] => rw [hd] at hl; simp at hl; omega
  | [b0] =>
    rw [hd] at hl h0
    simp at h0 hl
    rw [decide_eq_false (by omega), decide_eq_false (by omega), decide_eq_false (by omega), decN_1, h0]; rfl
  | [b0, b1] =>
    rw [hd] at hl h0 h1
    simp at h0 hl
    have h1 := h1 (by omega)
    simp at h1
    rw [decide_eq_true (by omega), decide_eq_false (by omega), decide_eq_false (by omega), decN_2, h0, h1]; rfl
  | [b0, b1, b2] =>
    rw [hd] at hl h0 h1 h2
    simp at h0 hl
    have h1 := h1 (by omega)
    have h2 := h2 (by omega)
    simp at h1 h2
    rw [decide_eq_true (by omega), decide_eq_true (by omega), decide_eq_false (by omega), decN_3, h0, h1, h2]; rfl
  | b0 :: b1 :: b2 :: b3 :: t =>
    rw [hd] at hl h0 h1 h2 h3
    simp at h0 hl
    have h1 := h1 (by omega)
    have h2 := h2 (by omega)
    have h3 := h3 (by omega)
    simp at h1 h2 h3
    rw [decide_eq_true (by omega), decide_eq_true (by omega), decide_eq_true (by omega), decN_4 _ _ _ _ t, h0, h1, h2, h3]; rfl
end Go.Proofs.YtlmnhlfklbgjdaaGreatDoor
namespace Go.Proofs.YtlmnhlfklbgjdaaGreatDoor
open Go.ChangeShapes Go.WideShapes Go.ChangeAt Go.RowKit
theorem ret_bool {a b : Bool} (h : a = b) : Ending.returned (.bool a) = .returned (.bool b) := by rw [h]

theorem l1In_any (x lo hi : Int) (w : World) :
    Calls Tryz.prog 45 #[.int .i64 x, .int .i64 lo, .int .i64 hi] w fun e w' => e = .returned (.bool (decide (lo ≤ x ∧ x ≤ hi))) ∧ w' = w := by
  by_cases h1 : lo ≤ x
  · go_enter Tryz.func45, Tryz.ntmps45
    go_wp2
    go_ret
    exact ⟨ret_bool (by simp [h1]), rfl⟩
  · go_enter Tryz.func45, Tryz.ntmps45
    go_wp2
    go_ret
    exact ⟨ret_bool (by simp; omega), rfl⟩

end Go.Proofs.YtlmnhlfklbgjdaaGreatDoor
namespace Go.Proofs.YtlmnhlfklbgjdaaGreatDoor
open Go.ChangeShapes Go.WideShapes Go.ChangeAt Go.RowKit
theorem implRuneOk_any (r : Int) (w : World) :
    Calls Tryz.prog 135 #[.int .i64 r] w fun e w' => e = .returned (.bool (runeOk r)) ∧ w' = w := by
  go_enter Tryz.func135, Tryz.ntmps135
  go_wp2
  all_goals
    go_ret
    exact ⟨ret_bool (runeOk_is _ _ (by simp <;> omega)), rfl⟩

set_option maxHeartbeats 400000 in
theorem specRuneOk_any (r : Int) (w : World) :
    Calls Tryz.prog 90 #[.int .i64 r] w fun e w' => e = .returned (.bool (runeOk r)) ∧ w' = w := by
  go_enter Tryz.func90, Tryz.ntmps90
  go_wp2_with (go_at_call 45; refine (l1In_any _ _ _ _).mono ?_; rintro e w' ⟨rfl, rfl⟩)
  all_goals
    go_ret
    exact ⟨ret_bool (runeOk_is _ _ (by simp <;> omega)), rfl⟩

end Go.Proofs.YtlmnhlfklbgjdaaGreatDoor
namespace Go.Proofs.YtlmnhlfklbgjdaaGreatDoor
theorem nums_inj {a b : ByteArray} (h : nums a = nums b) : a = b := by rw [← str_nums a, ← str_nums b, h]
theorem like_iff (a b : ByteArray) : (a.toList == b.toList) = decide (nums a = nums b) := by
  rw [ByteArray.toList_eq, ByteArray.toList_eq]
  by_cases h : a = b
  · subst h; simp
  · have h1 : ¬ nums a = nums b := fun e => h (nums_inj e)
    have h2 : (a.data.toList == b.data.toList) = false := by
      apply Bool.eq_false_iff.2
      intro e
      have e := eq_of_beq e
      apply h; cases a; cases b; simp at e; rw [e]
    rw [h2]; simp [h1]
theorem nums_extract (s : ByteArray) (a b : Nat) : nums (s.extract a b) = ((nums s).take b).drop a := by
  simp [nums, ByteArray.data_extract, List.drop_take]

def pref (s p : ByteArray) : Bool := decide (p.size ≤ s.size) && ((s.extract 0 p.size).toList == p.toList)
theorem pref_iff (s p : ByteArray) : pref s p = true ↔ ∃ u, nums s = nums p ++ u := by
  simp only [pref, Bool.and_eq_true, decide_eq_true_eq, like_iff, nums_extract, List.drop_zero]
  constructor
  · rintro ⟨_, h⟩
    exact ⟨(nums s).drop p.size, by rw [← h, List.take_append_drop]⟩
  · rintro ⟨u, h⟩
    have hl := congrArg List.length h
    simp only [List.length_append, nums_len] at hl
    refine ⟨by omega, ?_⟩
    rw [h, ← nums_len p, List.take_left']
    rfl

theorem putL_bd (r : Int) (h : runeOk r = true) : ∀ x ∈ putL r, 0 ≤ x ∧ x < 256 := by
  have hb := runeOk_bd r h
  intro x hx
  unfold putL at hx
  split at hx
  · simp at hx; omega
  · split at hx
    · simp at hx; omega
    · split at hx
      · simp at hx; omega
      · simp at hx; omega
theorem nums_putS (r : Int) (h : runeOk r = true) : nums (putS r) = putL r := by
  rw [putS_ok r h, nums_str _ (putL_bd r h)]
theorem putS_size (r : Int) (h : runeOk r = true) : (putS r).size = (putL r).length := by
  rw [← nums_len, nums_putS r h]
theorem putS_size4 (r : Int) : (putS r).size ≤ 4 := by
  by_cases h : runeOk r = true
  · rw [putS_size r h]; have := putL_len r; omega
  · rw [putS_no r (by simpa using h)]; decide

def getV (s : ByteArray) : Int × Int := dec (nums s)

/-- What is got is put at the beginning, or begins with none. -/
theorem getV_cases (s : ByteArray) (h : 0 < s.size) :
    (runeOk (getV s).1 = true ∧ pref s (putS (getV s).1) = true ∧ (getV s).2 = ((putS (getV s).1).size : Int)) ∨
    (getV s = (65533, 1) ∧ ∀ r, runeOk r = true → pref s (putS r) = false) := by
  have hl := nums_len s
  unfold getV
  match hn : nums s with
  | [] => rw [hn] at hl; simp at hl; omega
  | b0 :: t =>
    have hb : 0 ≤ b0 := by have := nums_bd s b0 (by rw [hn]; simp); omega
    rcases put_dec b0 t hb with ⟨h1, ⟨u, h2⟩, h3⟩ | ⟨h1, h2⟩
    · left
      refine ⟨h1, ?_, ?_⟩
      · rw [pref_iff]; exact ⟨u, by rw [nums_putS _ h1, hn]; exact h2⟩
      · rw [putS_size _ h1]; exact h3
    · by_cases hp : ∃ r, runeOk r = true ∧ pref s (putS r) = true
      · obtain ⟨r, hr, hq⟩ := hp
        rw [pref_iff] at hq
        obtain ⟨u, hu⟩ := hq
        rw [nums_putS r hr, hn] at hu
        have hd := dec_put r u hr
        rw [← hu, h1] at hd
        simp only [Prod.mk.injEq] at hd
        obtain ⟨e1, e2⟩ := hd
        subst e1
        simp [putL] at e2
      · right
        refine ⟨h1, fun r hr => ?_⟩
        cases hq : pref s (putS r)
        · rfl
        · exact absurd ⟨r, hr, hq⟩ hp
theorem getV_of_pref (s : ByteArray) (r : Int) (hr : runeOk r = true) (h : pref s (putS r) = true) : getV s = (r, ((putS r).size : Int)) := by
  rw [pref_iff] at h
  obtain ⟨u, hu⟩ := h
  unfold getV
  rw [hu, nums_putS r hr, dec_put r u hr, putS_size r hr]
theorem getV_bd (s : ByteArray) (h : 0 < s.size) : 0 ≤ (getV s).1 ∧ (getV s).1 ≤ 1114111 ∧ 1 ≤ (getV s).2 ∧ (getV s).2 ≤ 4 ∧ (getV s).2 ≤ s.size := by
  rcases getV_cases s h with ⟨h1, h2, h3⟩ | ⟨h1, _⟩
  · have hb := runeOk_bd _ h1
    have hz := putS_size _ h1
    have hL := putL_len (getV s).1
    have h4 := putS_size4 (getV s).1
    simp only [pref, Bool.and_eq_true, decide_eq_true_eq] at h2
    omega
  · rw [h1]; simp only; omega
theorem getV_decode (s : ByteArray) (h : 0 < s.size) : (((Utf8.decode s 0).1 : Nat) : Int) = (getV s).1 ∧ (((Utf8.decode s 0).2 : Nat) : Int) = (getV s).2 := by
  have := decode_dec s 0 h
  simp only [List.drop_zero, both] at this
  unfold getV
  rw [← this]; exact ⟨rfl, rfl⟩
end Go.Proofs.YtlmnhlfklbgjdaaGreatDoor
namespace Go.Proofs.YtlmnhlfklbgjdaaGreatDoor
def longV (b : Int) : Int := if b < 128 then 1 else if 192 ≤ b ∧ b < 224 then 2 else if 224 ≤ b ∧ b < 240 then 3 else if 240 ≤ b ∧ b < 248 then 4 else 0
def rV (l : List Int) : Int :=
  match l with
  | [b0] => b0
  | [b0, b1] => b0 % 32 * 64 + b1 % 64
  | [b0, b1, b2] => (b0 % 16 * 64 + b1 % 64) * 64 + b2 % 64
  | [b0, b1, b2, b3] => ((b0 % 8 * 64 + b1 % 64) * 64 + b2 % 64) * 64 + b3 % 64
  | _ => 0
theorem long_put (c : Int) (h : runeOk c = true) : ∃ b0 t, putL c = b0 :: t ∧ longV b0 = ((putL c).length : Int) ∧ rV (putL c) = c := by
  have hb := runeOk_bd c h
  unfold putL
  by_cases h1 : c < 128
  · rw [if_pos h1]; exact ⟨_, _, rfl, by simp [longV, h1], rfl⟩
  · rw [if_neg h1]
    by_cases h2 : c < 2048
    · rw [if_pos h2]; refine ⟨_, _, rfl, ?_, ?_⟩
      · unfold longV; simp only [List.length_cons, List.length_nil]; omega
      · simp only [rV]; omega
    · rw [if_neg h2]
      by_cases h3 : c < 65536
      · rw [if_pos h3]; refine ⟨_, _, rfl, ?_, ?_⟩
        · unfold longV; simp only [List.length_cons, List.length_nil]; omega
        · simp only [rV]; omega
      · rw [if_neg h3]; refine ⟨_, _, rfl, ?_, ?_⟩
        · unfold longV; simp only [List.length_cons, List.length_nil]; omega
        · simp only [rV]; omega
theorem nums_get (s : ByteArray) (i : Nat) (h : i < s.size) : (nums s)[i]? = some ((s[i]'h).toNat : Int) := by
  have h' : i < s.data.size := h
  simp only [nums, List.getElem?_map, Array.getElem?_toList, Array.getElem?_eq_getElem h', Option.map_some]
  rfl
theorem getV_short (s : ByteArray) (h : 0 < s.size) (hn : longV ((s[0]'h).toNat : Int) = 0 ∨ (s.size : Int) < longV ((s[0]'h).toNat : Int)) : getV s = (65533, 1) := by
  rcases getV_cases s h with ⟨h1, h2, _⟩ | ⟨h1, _⟩
  · exfalso
    rw [pref_iff] at h2
    obtain ⟨u, hu⟩ := h2
    rw [nums_putS _ h1] at hu
    obtain ⟨b0, t, e1, e2, _⟩ := long_put _ h1
    have g0 := nums_get s 0 h
    have hl := congrArg List.length hu
    rw [nums_len, List.length_append] at hl
    rw [hu, e1] at g0
    simp at g0
    subst g0
    have := putL_len (getV s).1
    omega
  · exact h1
theorem getV_long (s : ByteArray) (h : 0 < s.size) (n : Nat) (r : Int) (hn : longV ((s[0]'h).toNat : Int) = n) (h1 : 1 ≤ n) (hs : n ≤ s.size) (hr : rV ((nums s).take n) = r) :
    getV s = if ((putS r).toList == (s.extract 0 n).toList) = true then (r, (n : Int)) else (65533, 1) := by
  have hsz : (nums (s.extract 0 n)).length = n := by rw [nums_extract]; simp [nums_len]; omega
  by_cases hp : ((putS r).toList == (s.extract 0 n).toList) = true
  · rw [if_pos hp]
    have hq := hp
    rw [like_iff, decide_eq_true_eq] at hq
    have hk : runeOk r = true := by
      cases hk : runeOk r
      · rw [putS_no r hk] at hq
        have := congrArg List.length hq
        rw [hsz] at this
        simp [nums] at this
        omega
      · rfl
    have hz : (putS r).size = n := by rw [← nums_len, hq, hsz]
    rw [← hz]
    apply getV_of_pref s r hk
    rw [pref_iff, hq, nums_extract, List.drop_zero]
    exact ⟨_, (List.take_append_drop n _).symm⟩
  · rw [if_neg hp]
    rcases getV_cases s h with ⟨k1, k2, _⟩ | ⟨k1, _⟩
    · exfalso
      apply hp
      rw [pref_iff] at k2
      obtain ⟨u, hu⟩ := k2
      rw [nums_putS _ k1] at hu
      obtain ⟨b0, t, e1, e2, e3⟩ := long_put _ k1
      have g0 := nums_get s 0 h
      rw [hu, e1] at g0
      simp at g0
      subst g0
      have hL : (putL (getV s).1).length = n := by omega
      have ht : (nums s).take n = putL (getV s).1 := by rw [hu, ← hL]; exact List.take_left
      rw [ht, e3] at hr
      rw [like_iff, decide_eq_true_eq, ← hr, nums_putS _ k1, nums_extract, ht]; rfl
    · exact k1
theorem nums_take1 (s : ByteArray) (h : 0 < s.size) : (nums s).take 1 = [((s[0]'(by omega)).toNat : Int)] := by
  have hl := nums_len s
  have g0 := nums_get s 0 (by omega)
  match hd : nums s with
  | [] => rw [hd] at hl; simp at hl; omega
  | b0 :: t =>
    rw [hd] at g0
    simp at g0
    subst g0
    rfl
theorem nums_take2 (s : ByteArray) (h : 1 < s.size) : (nums s).take 2 = [((s[0]'(by omega)).toNat : Int), ((s[1]'(by omega)).toNat : Int)] := by
  have hl := nums_len s
  have g0 := nums_get s 0 (by omega)
  have g1 := nums_get s 1 (by omega)
  match hd : nums s with
  | [] => rw [hd] at hl; simp at hl; omega
  | [b0] => rw [hd] at hl; simp at hl; omega
  | b0 :: b1 :: t =>
    rw [hd] at g0 g1
    simp at g0 g1
    subst g0 g1
    rfl
theorem nums_take3 (s : ByteArray) (h : 2 < s.size) : (nums s).take 3 = [((s[0]'(by omega)).toNat : Int), ((s[1]'(by omega)).toNat : Int), ((s[2]'(by omega)).toNat : Int)] := by
  have hl := nums_len s
  have g0 := nums_get s 0 (by omega)
  have g1 := nums_get s 1 (by omega)
  have g2 := nums_get s 2 (by omega)
  match hd : nums s with
  | [] => rw [hd] at hl; simp at hl; omega
  | [b0] => rw [hd] at hl; simp at hl; omega
  | [b0, b1] => rw [hd] at hl; simp at hl; omega
  | b0 :: b1 :: b2 :: t =>
    rw [hd] at g0 g1 g2
    simp at g0 g1 g2
    subst g0 g1 g2
    rfl
theorem nums_take4 (s : ByteArray) (h : 3 < s.size) : (nums s).take 4 = [((s[0]'(by omega)).toNat : Int), ((s[1]'(by omega)).toNat : Int), ((s[2]'(by omega)).toNat : Int), ((s[3]'(by omega)).toNat : Int)] := by
  have hl := nums_len s
  have g0 := nums_get s 0 (by omega)
  have g1 := nums_get s 1 (by omega)
  have g2 := nums_get s 2 (by omega)
  have g3 := nums_get s 3 (by omega)
  match hd : nums s with
  | [] => rw [hd] at hl; simp at hl; omega
  | [b0] => rw [hd] at hl; simp at hl; omega
  | [b0, b1] => rw [hd] at hl; simp at hl; omega
  | [b0, b1, b2] => rw [hd] at hl; simp at hl; omega
  | b0 :: b1 :: b2 :: b3 :: t =>
    rw [hd] at g0 g1 g2 g3
    simp at g0 g1 g2 g3
    subst g0 g1 g2 g3
    rfl
end Go.Proofs.YtlmnhlfklbgjdaaGreatDoor
namespace Go.Proofs.YtlmnhlfklbgjdaaGreatDoor
def widthV (r : Int) : Int :=
  if r < 32 ∨ runeOk r = false ∨ (127 ≤ r ∧ r ≤ 159) ∨ (768 ≤ r ∧ r ≤ 879) then 0
  else if (4352 ≤ r ∧ r ≤ 4447) ∨ (12288 ≤ r ∧ r ≤ 55295) ∨ (127744 ≤ r ∧ r ≤ 131071) then 2 else 1
end Go.Proofs.YtlmnhlfklbgjdaaGreatDoor
namespace Go.Proofs.YtlmnhlfklbgjdaaGreatDoor
open Go.ChangeShapes Go.WideShapes Go.ChangeAt Go.RowKit
theorem ret_i {a b : Int} (h : a = b) : Ending.returned (.int .i64 a) = .returned (.int .i64 b) := by rw [h]
set_option maxHeartbeats 1000000 in
theorem specWidth_any (r : Int) (w : World) :
    Calls Tryz.prog 123 #[.int .i64 r] w fun e w' => e = .returned (.int .i64 (widthV r)) ∧ w' = w := by
  by_cases hr : runeOk r = true
  · have hb := (runeOk_iff r).1 hr
    have hw : Hid (widthV r = if r < 32 ∨ (127 ≤ r ∧ r ≤ 159) ∨ (768 ≤ r ∧ r ≤ 879) then 0 else if (4352 ≤ r ∧ r ≤ 4447) ∨ (12288 ≤ r ∧ r ≤ 55295) ∨ (127744 ≤ r ∧ r ≤ 131071) then 2 else 1) := by show _ = _; simp [widthV, hr]
    go_enter Tryz.func123, Tryz.ntmps123
    go_wp2_with (first | (go_at_call 90; refine (specRuneOk_any _ _).mono ?_; rw [hr]; rintro e w' ⟨rfl, rfl⟩) | (go_at_call 45; refine (l1In_any _ _ _ _).mono ?_; rintro e w' ⟨rfl, rfl⟩))
    all_goals
      go_ret
      refine ⟨ret_i ?_, rfl⟩
      rw [hw.out]
      clear hw hr
      (try simp at *)
      omega
  · have hr : runeOk r = false := by simpa using hr
    have hw : Hid (widthV r = 0) := by show _ = _; simp [widthV, hr]
    go_enter Tryz.func123, Tryz.ntmps123
    go_wp2_with (first | (go_at_call 90; refine (specRuneOk_any _ _).mono ?_; rw [hr]; rintro e w' ⟨rfl, rfl⟩) | (go_at_call 45; refine (l1In_any _ _ _ _).mono ?_; rintro e w' ⟨rfl, rfl⟩))
    all_goals
      go_ret
      exact ⟨ret_i hw.out.symm, rfl⟩
end Go.Proofs.YtlmnhlfklbgjdaaGreatDoor
namespace Go.Proofs.YtlmnhlfklbgjdaaGreatDoor
open Go.ChangeShapes Go.WideShapes Go.ChangeAt Go.RowKit
def spansC : Array Value := #[.int .i64 0, .int .i64 31, .int .i64 0, .int .i64 127, .int .i64 159, .int .i64 0, .int .i64 768, .int .i64 879, .int .i64 0, .int .i64 4352, .int .i64 4447, .int .i64 2, .int .i64 12288, .int .i64 55295, .int .i64 2, .int .i64 127744, .int .i64 131071, .int .i64 2]
/-- The table lies where the program lays it. -/
def SpansAt (w : World) : Prop := ∃ t fr, w.heap[0]? = some (.cells spansC t fr)
theorem SpansAt.below {B : Nat} {w w' : World} (h : SpansAt w) (hb : Below B w w') (hB : 0 < B) : SpansAt w' := by
  obtain ⟨t, fr, h⟩ := h
  exact ⟨t, fr, by rw [hb.block _ hB]; exact h⟩
theorem SpansAt.lt {w : World} (h : SpansAt w) : 0 < w.heap.size := by
  obtain ⟨t, fr, h⟩ := h
  exact (Array.getElem?_eq_some_iff.1 h).1

theorem span_0 : ∀ w, (Instr.index 203 (.agg #[.int .i64 0, .int .i64 31, .int .i64 0, .int .i64 127, .int .i64 159, .int .i64 0, .int .i64 768, .int .i64 879, .int .i64 0, .int .i64 4352, .int .i64 4447, .int .i64 2, .int .i64 12288, .int .i64 55295, .int .i64 2, .int .i64 127744, .int .i64 131071, .int .i64 2]) (.int .i64 0)).run Tryz.prog w = .ok (.agg #[.int .i64 0, .int .i64 31, .int .i64 0]) w := fun _ => by kernel_rfl
theorem span_1 : ∀ w, (Instr.index 203 (.agg #[.int .i64 0, .int .i64 31, .int .i64 0, .int .i64 127, .int .i64 159, .int .i64 0, .int .i64 768, .int .i64 879, .int .i64 0, .int .i64 4352, .int .i64 4447, .int .i64 2, .int .i64 12288, .int .i64 55295, .int .i64 2, .int .i64 127744, .int .i64 131071, .int .i64 2]) (.int .i64 1)).run Tryz.prog w = .ok (.agg #[.int .i64 127, .int .i64 159, .int .i64 0]) w := fun _ => by kernel_rfl
theorem span_2 : ∀ w, (Instr.index 203 (.agg #[.int .i64 0, .int .i64 31, .int .i64 0, .int .i64 127, .int .i64 159, .int .i64 0, .int .i64 768, .int .i64 879, .int .i64 0, .int .i64 4352, .int .i64 4447, .int .i64 2, .int .i64 12288, .int .i64 55295, .int .i64 2, .int .i64 127744, .int .i64 131071, .int .i64 2]) (.int .i64 2)).run Tryz.prog w = .ok (.agg #[.int .i64 768, .int .i64 879, .int .i64 0]) w := fun _ => by kernel_rfl
theorem span_3 : ∀ w, (Instr.index 203 (.agg #[.int .i64 0, .int .i64 31, .int .i64 0, .int .i64 127, .int .i64 159, .int .i64 0, .int .i64 768, .int .i64 879, .int .i64 0, .int .i64 4352, .int .i64 4447, .int .i64 2, .int .i64 12288, .int .i64 55295, .int .i64 2, .int .i64 127744, .int .i64 131071, .int .i64 2]) (.int .i64 3)).run Tryz.prog w = .ok (.agg #[.int .i64 4352, .int .i64 4447, .int .i64 2]) w := fun _ => by kernel_rfl
theorem span_4 : ∀ w, (Instr.index 203 (.agg #[.int .i64 0, .int .i64 31, .int .i64 0, .int .i64 127, .int .i64 159, .int .i64 0, .int .i64 768, .int .i64 879, .int .i64 0, .int .i64 4352, .int .i64 4447, .int .i64 2, .int .i64 12288, .int .i64 55295, .int .i64 2, .int .i64 127744, .int .i64 131071, .int .i64 2]) (.int .i64 4)).run Tryz.prog w = .ok (.agg #[.int .i64 12288, .int .i64 55295, .int .i64 2]) w := fun _ => by kernel_rfl
theorem span_5 : ∀ w, (Instr.index 203 (.agg #[.int .i64 0, .int .i64 31, .int .i64 0, .int .i64 127, .int .i64 159, .int .i64 0, .int .i64 768, .int .i64 879, .int .i64 0, .int .i64 4352, .int .i64 4447, .int .i64 2, .int .i64 12288, .int .i64 55295, .int .i64 2, .int .i64 127744, .int .i64 131071, .int .i64 2]) (.int .i64 5)).run Tryz.prog w = .ok (.agg #[.int .i64 127744, .int .i64 131071, .int .i64 2]) w := fun _ => by kernel_rfl
set_option maxHeartbeats 1000000 in
theorem implWidth_1b (r : Int) (w : World) (hr : runeOk r = true) (hs : SpansAt w) (h0 : r ≤ 31) :
    Calls Tryz.prog 172 #[.int .i64 r] w fun e w' => e = .returned (.int .i64 0) ∧ Below w.heap.size w w' := by
  have hb := (runeOk_iff r).1 hr
  obtain ⟨tt, fr, hg⟩ := hs
  go_enter Tryz.func172, Tryz.ntmps172
  go_wp2
  go_step3
  go_wp2_with (go_at_call 135; refine (implRuneOk_any _ _).mono ?_; rw [hr]; rintro e w' ⟨rfl, hw⟩; subst hw)
  go_step3
  go_wp2_with (refine wpList_load_row rfl 203 _ rfl 0 rfl tt _ fr _ hg Tryz.underlying203 rfl (by kernel_rfl) ?_)
  unfold spansC
  have i0 := span_0
  have i1 := span_1
  have i2 := span_2
  have i3 := span_3
  have i4 := span_4
  have i5 := span_5
  refine wp_loop_rounds 1 ?_
  rw [rounds_succ]
  go_wp2
  rw [Exit.noGoto_ret]
  go_ret
  exact ⟨rfl, (by repeat (first | exact Below.refl _ _ | refine Below.alloc ?_ (by simp <;> omega) _))⟩
set_option maxHeartbeats 1000000 in
theorem implWidth_2a (r : Int) (w : World) (hr : runeOk r = true) (hs : SpansAt w) (h0 : 31 < r) (h1 : r < 127) :
    Calls Tryz.prog 172 #[.int .i64 r] w fun e w' => e = .returned (.int .i64 1) ∧ Below w.heap.size w w' := by
  have hb := (runeOk_iff r).1 hr
  obtain ⟨tt, fr, hg⟩ := hs
  go_enter Tryz.func172, Tryz.ntmps172
  go_wp2
  go_step3
  go_wp2_with (go_at_call 135; refine (implRuneOk_any _ _).mono ?_; rw [hr]; rintro e w' ⟨rfl, hw⟩; subst hw)
  go_step3
  go_wp2_with (refine wpList_load_row rfl 203 _ rfl 0 rfl tt _ fr _ hg Tryz.underlying203 rfl (by kernel_rfl) ?_)
  unfold spansC
  have i0 := span_0
  have i1 := span_1
  have i2 := span_2
  have i3 := span_3
  have i4 := span_4
  have i5 := span_5
  refine wp_loop_rounds 2 ?_
  rw [rounds_succ]
  go_wp2
  rw [rounds_succ]
  go_wp2
  rw [Exit.noGoto_ret]
  go_ret
  exact ⟨rfl, (by repeat (first | exact Below.refl _ _ | refine Below.alloc ?_ (by simp <;> omega) _))⟩
set_option maxHeartbeats 1000000 in
theorem implWidth_2b (r : Int) (w : World) (hr : runeOk r = true) (hs : SpansAt w) (h0 : 127 ≤ r) (h1 : r ≤ 159) :
    Calls Tryz.prog 172 #[.int .i64 r] w fun e w' => e = .returned (.int .i64 0) ∧ Below w.heap.size w w' := by
  have hb := (runeOk_iff r).1 hr
  obtain ⟨tt, fr, hg⟩ := hs
  go_enter Tryz.func172, Tryz.ntmps172
  go_wp2
  go_step3
  go_wp2_with (go_at_call 135; refine (implRuneOk_any _ _).mono ?_; rw [hr]; rintro e w' ⟨rfl, hw⟩; subst hw)
  go_step3
  go_wp2_with (refine wpList_load_row rfl 203 _ rfl 0 rfl tt _ fr _ hg Tryz.underlying203 rfl (by kernel_rfl) ?_)
  unfold spansC
  have i0 := span_0
  have i1 := span_1
  have i2 := span_2
  have i3 := span_3
  have i4 := span_4
  have i5 := span_5
  refine wp_loop_rounds 2 ?_
  rw [rounds_succ]
  go_wp2
  rw [rounds_succ]
  go_wp2
  rw [Exit.noGoto_ret]
  go_ret
  exact ⟨rfl, (by repeat (first | exact Below.refl _ _ | refine Below.alloc ?_ (by simp <;> omega) _))⟩
set_option maxHeartbeats 1000000 in
theorem implWidth_3a (r : Int) (w : World) (hr : runeOk r = true) (hs : SpansAt w) (h0 : 159 < r) (h1 : r < 768) :
    Calls Tryz.prog 172 #[.int .i64 r] w fun e w' => e = .returned (.int .i64 1) ∧ Below w.heap.size w w' := by
  have hb := (runeOk_iff r).1 hr
  obtain ⟨tt, fr, hg⟩ := hs
  go_enter Tryz.func172, Tryz.ntmps172
  go_wp2
  go_step3
  go_wp2_with (go_at_call 135; refine (implRuneOk_any _ _).mono ?_; rw [hr]; rintro e w' ⟨rfl, hw⟩; subst hw)
  go_step3
  go_wp2_with (refine wpList_load_row rfl 203 _ rfl 0 rfl tt _ fr _ hg Tryz.underlying203 rfl (by kernel_rfl) ?_)
  unfold spansC
  have i0 := span_0
  have i1 := span_1
  have i2 := span_2
  have i3 := span_3
  have i4 := span_4
  have i5 := span_5
  refine wp_loop_rounds 3 ?_
  rw [rounds_succ]
  go_wp2
  rw [rounds_succ]
  go_wp2
  rw [rounds_succ]
  go_wp2
  rw [Exit.noGoto_ret]
  go_ret
  exact ⟨rfl, (by repeat (first | exact Below.refl _ _ | refine Below.alloc ?_ (by simp <;> omega) _))⟩
set_option maxHeartbeats 1000000 in
theorem implWidth_3b (r : Int) (w : World) (hr : runeOk r = true) (hs : SpansAt w) (h0 : 768 ≤ r) (h1 : r ≤ 879) :
    Calls Tryz.prog 172 #[.int .i64 r] w fun e w' => e = .returned (.int .i64 0) ∧ Below w.heap.size w w' := by
  have hb := (runeOk_iff r).1 hr
  obtain ⟨tt, fr, hg⟩ := hs
  go_enter Tryz.func172, Tryz.ntmps172
  go_wp2
  go_step3
  go_wp2_with (go_at_call 135; refine (implRuneOk_any _ _).mono ?_; rw [hr]; rintro e w' ⟨rfl, hw⟩; subst hw)
  go_step3
  go_wp2_with (refine wpList_load_row rfl 203 _ rfl 0 rfl tt _ fr _ hg Tryz.underlying203 rfl (by kernel_rfl) ?_)
  unfold spansC
  have i0 := span_0
  have i1 := span_1
  have i2 := span_2
  have i3 := span_3
  have i4 := span_4
  have i5 := span_5
  refine wp_loop_rounds 3 ?_
  rw [rounds_succ]
  go_wp2
  rw [rounds_succ]
  go_wp2
  rw [rounds_succ]
  go_wp2
  rw [Exit.noGoto_ret]
  go_ret
  exact ⟨rfl, (by repeat (first | exact Below.refl _ _ | refine Below.alloc ?_ (by simp <;> omega) _))⟩
set_option maxHeartbeats 1000000 in
theorem implWidth_4a (r : Int) (w : World) (hr : runeOk r = true) (hs : SpansAt w) (h0 : 879 < r) (h1 : r < 4352) :
    Calls Tryz.prog 172 #[.int .i64 r] w fun e w' => e = .returned (.int .i64 1) ∧ Below w.heap.size w w' := by
  have hb := (runeOk_iff r).1 hr
  obtain ⟨tt, fr, hg⟩ := hs
  go_enter Tryz.func172, Tryz.ntmps172
  go_wp2
  go_step3
  go_wp2_with (go_at_call 135; refine (implRuneOk_any _ _).mono ?_; rw [hr]; rintro e w' ⟨rfl, hw⟩; subst hw)
  go_step3
  go_wp2_with (refine wpList_load_row rfl 203 _ rfl 0 rfl tt _ fr _ hg Tryz.underlying203 rfl (by kernel_rfl) ?_)
  unfold spansC
  have i0 := span_0
  have i1 := span_1
  have i2 := span_2
  have i3 := span_3
  have i4 := span_4
  have i5 := span_5
  refine wp_loop_rounds 4 ?_
  rw [rounds_succ]
  go_wp2
  rw [rounds_succ]
  go_wp2
  rw [rounds_succ]
  go_wp2
  rw [rounds_succ]
  go_wp2
  rw [Exit.noGoto_ret]
  go_ret
  exact ⟨rfl, (by repeat (first | exact Below.refl _ _ | refine Below.alloc ?_ (by simp <;> omega) _))⟩
set_option maxHeartbeats 1000000 in
theorem implWidth_4b (r : Int) (w : World) (hr : runeOk r = true) (hs : SpansAt w) (h0 : 4352 ≤ r) (h1 : r ≤ 4447) :
    Calls Tryz.prog 172 #[.int .i64 r] w fun e w' => e = .returned (.int .i64 2) ∧ Below w.heap.size w w' := by
  have hb := (runeOk_iff r).1 hr
  obtain ⟨tt, fr, hg⟩ := hs
  go_enter Tryz.func172, Tryz.ntmps172
  go_wp2
  go_step3
  go_wp2_with (go_at_call 135; refine (implRuneOk_any _ _).mono ?_; rw [hr]; rintro e w' ⟨rfl, hw⟩; subst hw)
  go_step3
  go_wp2_with (refine wpList_load_row rfl 203 _ rfl 0 rfl tt _ fr _ hg Tryz.underlying203 rfl (by kernel_rfl) ?_)
  unfold spansC
  have i0 := span_0
  have i1 := span_1
  have i2 := span_2
  have i3 := span_3
  have i4 := span_4
  have i5 := span_5
  refine wp_loop_rounds 4 ?_
  rw [rounds_succ]
  go_wp2
  rw [rounds_succ]
  go_wp2
  rw [rounds_succ]
  go_wp2
  rw [rounds_succ]
  go_wp2
  rw [Exit.noGoto_ret]
  go_ret
  exact ⟨rfl, (by repeat (first | exact Below.refl _ _ | refine Below.alloc ?_ (by simp <;> omega) _))⟩
set_option maxHeartbeats 1000000 in
theorem implWidth_5a (r : Int) (w : World) (hr : runeOk r = true) (hs : SpansAt w) (h0 : 4447 < r) (h1 : r < 12288) :
    Calls Tryz.prog 172 #[.int .i64 r] w fun e w' => e = .returned (.int .i64 1) ∧ Below w.heap.size w w' := by
  have hb := (runeOk_iff r).1 hr
  obtain ⟨tt, fr, hg⟩ := hs
  go_enter Tryz.func172, Tryz.ntmps172
  go_wp2
  go_step3
  go_wp2_with (go_at_call 135; refine (implRuneOk_any _ _).mono ?_; rw [hr]; rintro e w' ⟨rfl, hw⟩; subst hw)
  go_step3
  go_wp2_with (refine wpList_load_row rfl 203 _ rfl 0 rfl tt _ fr _ hg Tryz.underlying203 rfl (by kernel_rfl) ?_)
  unfold spansC
  have i0 := span_0
  have i1 := span_1
  have i2 := span_2
  have i3 := span_3
  have i4 := span_4
  have i5 := span_5
  refine wp_loop_rounds 5 ?_
  rw [rounds_succ]
  go_wp2
  rw [rounds_succ]
  go_wp2
  rw [rounds_succ]
  go_wp2
  rw [rounds_succ]
  go_wp2
  rw [rounds_succ]
  go_wp2
  rw [Exit.noGoto_ret]
  go_ret
  exact ⟨rfl, (by repeat (first | exact Below.refl _ _ | refine Below.alloc ?_ (by simp <;> omega) _))⟩
set_option maxHeartbeats 1000000 in
theorem implWidth_5b (r : Int) (w : World) (hr : runeOk r = true) (hs : SpansAt w) (h0 : 12288 ≤ r) (h1 : r ≤ 55295) :
    Calls Tryz.prog 172 #[.int .i64 r] w fun e w' => e = .returned (.int .i64 2) ∧ Below w.heap.size w w' := by
  have hb := (runeOk_iff r).1 hr
  obtain ⟨tt, fr, hg⟩ := hs
  go_enter Tryz.func172, Tryz.ntmps172
  go_wp2
  go_step3
  go_wp2_with (go_at_call 135; refine (implRuneOk_any _ _).mono ?_; rw [hr]; rintro e w' ⟨rfl, hw⟩; subst hw)
  go_step3
  go_wp2_with (refine wpList_load_row rfl 203 _ rfl 0 rfl tt _ fr _ hg Tryz.underlying203 rfl (by kernel_rfl) ?_)
  unfold spansC
  have i0 := span_0
  have i1 := span_1
  have i2 := span_2
  have i3 := span_3
  have i4 := span_4
  have i5 := span_5
  refine wp_loop_rounds 5 ?_
  rw [rounds_succ]
  go_wp2
  rw [rounds_succ]
  go_wp2
  rw [rounds_succ]
  go_wp2
  rw [rounds_succ]
  go_wp2
  rw [rounds_succ]
  go_wp2
  rw [Exit.noGoto_ret]
  go_ret
  exact ⟨rfl, (by repeat (first | exact Below.refl _ _ | refine Below.alloc ?_ (by simp <;> omega) _))⟩
set_option maxHeartbeats 1000000 in
theorem implWidth_6a (r : Int) (w : World) (hr : runeOk r = true) (hs : SpansAt w) (h0 : 55295 < r) (h1 : r < 127744) :
    Calls Tryz.prog 172 #[.int .i64 r] w fun e w' => e = .returned (.int .i64 1) ∧ Below w.heap.size w w' := by
  have hb := (runeOk_iff r).1 hr
  obtain ⟨tt, fr, hg⟩ := hs
  go_enter Tryz.func172, Tryz.ntmps172
  go_wp2
  go_step3
  go_wp2_with (go_at_call 135; refine (implRuneOk_any _ _).mono ?_; rw [hr]; rintro e w' ⟨rfl, hw⟩; subst hw)
  go_step3
  go_wp2_with (refine wpList_load_row rfl 203 _ rfl 0 rfl tt _ fr _ hg Tryz.underlying203 rfl (by kernel_rfl) ?_)
  unfold spansC
  have i0 := span_0
  have i1 := span_1
  have i2 := span_2
  have i3 := span_3
  have i4 := span_4
  have i5 := span_5
  refine wp_loop_rounds 6 ?_
  rw [rounds_succ]
  go_wp2
  rw [rounds_succ]
  go_wp2
  rw [rounds_succ]
  go_wp2
  rw [rounds_succ]
  go_wp2
  rw [rounds_succ]
  go_wp2
  rw [rounds_succ]
  go_wp2
  rw [Exit.noGoto_ret]
  go_ret
  exact ⟨rfl, (by repeat (first | exact Below.refl _ _ | refine Below.alloc ?_ (by simp <;> omega) _))⟩
set_option maxHeartbeats 1000000 in
theorem implWidth_6b (r : Int) (w : World) (hr : runeOk r = true) (hs : SpansAt w) (h0 : 127744 ≤ r) (h1 : r ≤ 131071) :
    Calls Tryz.prog 172 #[.int .i64 r] w fun e w' => e = .returned (.int .i64 2) ∧ Below w.heap.size w w' := by
  have hb := (runeOk_iff r).1 hr
  obtain ⟨tt, fr, hg⟩ := hs
  go_enter Tryz.func172, Tryz.ntmps172
  go_wp2
  go_step3
  go_wp2_with (go_at_call 135; refine (implRuneOk_any _ _).mono ?_; rw [hr]; rintro e w' ⟨rfl, hw⟩; subst hw)
  go_step3
  go_wp2_with (refine wpList_load_row rfl 203 _ rfl 0 rfl tt _ fr _ hg Tryz.underlying203 rfl (by kernel_rfl) ?_)
  unfold spansC
  have i0 := span_0
  have i1 := span_1
  have i2 := span_2
  have i3 := span_3
  have i4 := span_4
  have i5 := span_5
  refine wp_loop_rounds 6 ?_
  rw [rounds_succ]
  go_wp2
  rw [rounds_succ]
  go_wp2
  rw [rounds_succ]
  go_wp2
  rw [rounds_succ]
  go_wp2
  rw [rounds_succ]
  go_wp2
  rw [rounds_succ]
  go_wp2
  rw [Exit.noGoto_ret]
  go_ret
  exact ⟨rfl, (by repeat (first | exact Below.refl _ _ | refine Below.alloc ?_ (by simp <;> omega) _))⟩
set_option maxHeartbeats 1000000 in
theorem implWidth_7a (r : Int) (w : World) (hr : runeOk r = true) (hs : SpansAt w) (h0 : 131071 < r) :
    Calls Tryz.prog 172 #[.int .i64 r] w fun e w' => e = .returned (.int .i64 1) ∧ Below w.heap.size w w' := by
  have hb := (runeOk_iff r).1 hr
  obtain ⟨tt, fr, hg⟩ := hs
  go_enter Tryz.func172, Tryz.ntmps172
  go_wp2
  go_step3
  go_wp2_with (go_at_call 135; refine (implRuneOk_any _ _).mono ?_; rw [hr]; rintro e w' ⟨rfl, hw⟩; subst hw)
  go_step3
  go_wp2_with (refine wpList_load_row rfl 203 _ rfl 0 rfl tt _ fr _ hg Tryz.underlying203 rfl (by kernel_rfl) ?_)
  unfold spansC
  have i0 := span_0
  have i1 := span_1
  have i2 := span_2
  have i3 := span_3
  have i4 := span_4
  have i5 := span_5
  refine wp_loop_rounds 7 ?_
  rw [rounds_succ]
  go_wp2
  rw [rounds_succ]
  go_wp2
  rw [rounds_succ]
  go_wp2
  rw [rounds_succ]
  go_wp2
  rw [rounds_succ]
  go_wp2
  rw [rounds_succ]
  go_wp2
  rw [rounds_succ]
  go_wp2
  rw [Exit.noGoto_ret]
  go_ret
  exact ⟨rfl, (by repeat (first | exact Below.refl _ _ | refine Below.alloc ?_ (by simp <;> omega) _))⟩

theorem implWidth_no (r : Int) (w : World) (hr : runeOk r = false) :
    Calls Tryz.prog 172 #[.int .i64 r] w fun e w' => e = .returned (.int .i64 0) ∧ Below w.heap.size w w' := by
  go_enter Tryz.func172, Tryz.ntmps172
  go_wp2
  go_step3
  go_wp2_with (go_at_call 135; refine (implRuneOk_any _ _).mono ?_; rw [hr]; rintro e w' ⟨rfl, hw⟩; subst hw)
  rw [Exit.noGoto_ret]
  go_ret
  exact ⟨rfl, Below.refl _ _⟩

theorem implWidth_any (r : Int) (w : World) (hs : SpansAt w) :
    Calls Tryz.prog 172 #[.int .i64 r] w fun e w' => e = .returned (.int .i64 (widthV r)) ∧ Below w.heap.size w w' := by
  by_cases hr : runeOk r = true
  · have hb := (runeOk_iff r).1 hr
    have hw : widthV r = if r < 32 ∨ (127 ≤ r ∧ r ≤ 159) ∨ (768 ≤ r ∧ r ≤ 879) then 0 else if (4352 ≤ r ∧ r ≤ 4447) ∨ (12288 ≤ r ∧ r ≤ 55295) ∨ (127744 ≤ r ∧ r ≤ 131071) then 2 else 1 := by simp [widthV, hr]
    have key : ∀ c : Int, widthV r = c → (Calls Tryz.prog 172 #[.int .i64 r] w fun e w' => e = .returned (.int .i64 c) ∧ Below w.heap.size w w') → Calls Tryz.prog 172 #[.int .i64 r] w fun e w' => e = .returned (.int .i64 (widthV r)) ∧ Below w.heap.size w w' := fun c e h => by rw [e]; exact h
    by_cases h1 : r ≤ 31
    · exact key 0 (by rw [hw]; omega) (implWidth_1b r w hr hs h1)
    by_cases a2 : r < 127
    · exact key 1 (by rw [hw]; omega) (implWidth_2a r w hr hs (by omega) a2)
    by_cases b2 : r ≤ 159
    · exact key 0 (by rw [hw]; omega) (implWidth_2b r w hr hs (by omega) b2)
    by_cases a3 : r < 768
    · exact key 1 (by rw [hw]; omega) (implWidth_3a r w hr hs (by omega) a3)
    by_cases b3 : r ≤ 879
    · exact key 0 (by rw [hw]; omega) (implWidth_3b r w hr hs (by omega) b3)
    by_cases a4 : r < 4352
    · exact key 1 (by rw [hw]; omega) (implWidth_4a r w hr hs (by omega) a4)
    by_cases b4 : r ≤ 4447
    · exact key 2 (by rw [hw]; omega) (implWidth_4b r w hr hs (by omega) b4)
    by_cases a5 : r < 12288
    · exact key 1 (by rw [hw]; omega) (implWidth_5a r w hr hs (by omega) a5)
    by_cases b5 : r ≤ 55295
    · exact key 2 (by rw [hw]; omega) (implWidth_5b r w hr hs (by omega) b5)
    by_cases a6 : r < 127744
    · exact key 1 (by rw [hw]; omega) (implWidth_6a r w hr hs (by omega) a6)
    by_cases b6 : r ≤ 131071
    · exact key 2 (by rw [hw]; omega) (implWidth_6b r w hr hs (by omega) b6)
    exact key 1 (by rw [hw]; omega) (implWidth_7a r w hr hs (by omega))
  · have hr : runeOk r = false := by simpa using hr
    have e : widthV r = 0 := by simp [widthV, hr]
    rw [e]
    exact implWidth_no r w hr
end Go.Proofs.YtlmnhlfklbgjdaaGreatDoor
namespace Go.Proofs.YtlmnhlfklbgjdaaGreatDoor
open Go.ChangeShapes Go.WideShapes Go.ChangeAt Go.WideElems Go.RowKit
theorem gSpans : Tryz.prog.globalNamed "loop.example/g00215/impl.spans" = some 0 := by kernel_rfl
theorem tSpans : (Tryz.prog.globals[0]?).map (·.type) = some 203 := by kernel_rfl
theorem c_i64 : Tryz.prog.cellsOf 2 = 1 := by kernel_rfl
theorem c_span : Tryz.prog.cellsOf 202 = 3 := by kernel_rfl
theorem c_spans : Tryz.prog.cellsOf 203 = 18 := by kernel_rfl

section
variable {H : Type} {enc : TypeId × Value → H} {w : World} {base : Nat} {spare : Nat → Bool} {held : Bool}
set_option maxRecDepth 20000 in
theorem span_open {fuel : Nat} {cs : List Value} {a b c : Int} {p : List MemPlace}
    (h : DataW.trod enc Tryz.prog w base spare held fuel 202 cs = some (.agg [.lit (.int .i64 a), .lit (.int .i64 b), .lit (.int .i64 c)], p)) : cs = [.int .i64 a, .int .i64 b, .int .i64 c] := by
  obtain ⟨y0, y1, y2, n, e, hl, h0, h1, h2⟩ := Go.Deep.trod_struct3 Tryz.underlying202 h
  rw [c_span] at hl
  simp only [Prod.mk.injEq, DataW.agg.injEq, List.cons.injEq, and_true] at e
  obtain ⟨⟨e0, e1, e2⟩, _⟩ := e
  match cs, hl with
  | [x0, x1, x2], _ =>
    obtain ⟨k0, q0, r0, _⟩ := DataW.trod_int Tryz.underlying2 h0
    obtain ⟨k1, q1, r1, _⟩ := DataW.trod_int Tryz.underlying2 h1
    obtain ⟨k2, q2, r2, _⟩ := DataW.trod_int Tryz.underlying2 h2
    subst r0; subst r1; subst r2
    simp only [DataW.lit.injEq, Lit.int.injEq, true_and] at e0 e1 e2
    subst e0; subst e1; subst e2
    rw [c_i64] at q0 q1 q2
    simp at q0 q1 q2
    subst q0; subst q1; subst q2
    rfl
set_option maxRecDepth 20000 in
theorem spans_open {fuel : Nat} {cs : List Value} {p : List MemPlace}
    (h : DataW.trod enc Tryz.prog w base spare held fuel 203 cs = some (Rows.laid_loop_example_g00215_impl_spans, p)) : cs = spansC.toList := by
  obtain ⟨xs, m, rfl, e, hl, hn, hel⟩ := DataW.trod_array Tryz.underlying203 h
  rw [c_spans] at hl
  simp only [Rows.laid_loop_example_g00215_impl_spans, Prod.mk.injEq, DataW.agg.injEq] at e
  obtain ⟨e, _⟩ := e
  match xs, hn with
  | [x0, x1, x2, x3, x4, x5], _ =>
    simp only [List.map_cons, List.map_nil, List.cons.injEq, and_true] at e
    obtain ⟨e0, e1, e2, e3, e4, e5⟩ := e
    have go : ∀ (i : Nat) (x : DataW H × List MemPlace) (a b c : Int), i < 6 → [x0, x1, x2, x3, x4, x5][i]? = some x → DataW.agg [.lit (.int .i64 a), .lit (.int .i64 b), .lit (.int .i64 c)] = x.1 → (cs.drop (i * 3)).take 3 = [.int .i64 a, .int .i64 b, .int .i64 c] := by
      intro i x a b c hi hx he
      have := hel i hi
      rw [c_span, hx] at this
      obtain ⟨x1, x2⟩ := x
      simp only at he
      rw [← he] at this
      exact span_open this
    have g0 := go 0 x0 _ _ _ (by decide) rfl e0
    have g1 := go 1 x1 _ _ _ (by decide) rfl e1
    have g2 := go 2 x2 _ _ _ (by decide) rfl e2
    have g3 := go 3 x3 _ _ _ (by decide) rfl e3
    have g4 := go 4 x4 _ _ _ (by decide) rfl e4
    have g5 := go 5 x5 _ _ _ (by decide) rfl e5
    match cs, hl with
    | [a0, a1, a2, a3, a4, a5, a6, a7, a8, a9, b0, b1, b2, b3, b4, b5, b6, b7], _ =>
      simp at g0 g1 g2 g3 g4 g5
      simp [spansC, g0, g1, g2, g3, g4, g5]
end
end Go.Proofs.YtlmnhlfklbgjdaaGreatDoor
namespace Go.Proofs.YtlmnhlfklbgjdaaGreatDoor
structure St where
  fore : Int
  back : Int
  bold : Bool
  under : Bool
  turned : Bool
deriving DecidableEq
def St.zero : St := ⟨0, 0, false, false, false⟩
def St.ok (s : St) : Bool := decide (0 ≤ s.fore ∧ s.fore ≤ 8 ∧ 0 ≤ s.back ∧ s.back ≤ 8)
theorem St.ok_iff (s : St) : s.ok = true ↔ 0 ≤ s.fore ∧ s.fore ≤ 8 ∧ 0 ≤ s.back ∧ s.back ≤ 8 := by simp [St.ok]
def flagV (b : Bool) (x y : Int) : Int := if b = true then x else y
def paramsL (a b : St) : List Int :=
  if b = St.zero ∧ a ≠ St.zero then [0]
  else (if a.bold = b.bold then [] else [flagV b.bold 1 22]) ++ (if a.under = b.under then [] else [flagV b.under 4 24]) ++ (if a.turned = b.turned then [] else [flagV b.turned 7 27]) ++
    (if a.fore = b.fore then [] else [flagV (decide (b.fore = 0)) 39 (29 + b.fore)]) ++ (if a.back = b.back then [] else [flagV (decide (b.back = 0)) 49 (39 + b.back)])
def paramsV (a b : St) : List Int := if a.ok = true ∧ b.ok = true then paramsL a b else []
theorem paramsL_len (a b : St) : (paramsL a b).length ≤ 5 := by
  unfold paramsL
  split
  · simp
  · simp only [List.length_append]
    have h : ∀ (p : Prop) [Decidable p] (x : Int), (if p then [] else [x]).length ≤ 1 := fun p _ x => by split <;> simp
    have h1 := h (a.bold = b.bold) (flagV b.bold 1 22)
    have h2 := h (a.under = b.under) (flagV b.under 4 24)
    have h3 := h (a.turned = b.turned) (flagV b.turned 7 27)
    have h4 := h (a.fore = b.fore) (flagV (decide (b.fore = 0)) 39 (29 + b.fore))
    have h5 := h (a.back = b.back) (flagV (decide (b.back = 0)) 49 (39 + b.back))
    omega
theorem paramsL_self (a : St) : paramsL a a = [] := by
  unfold paramsL
  rw [if_neg (by rintro ⟨h1, h2⟩; exact h2 h1)]
  simp
theorem paramsL_bd (a b : St) (hb : b.ok = true) : ∀ n ∈ paramsL a b, 0 ≤ n ∧ n ≤ 49 := by
  have h := (St.ok_iff b).1 hb
  intro n hn
  unfold paramsL at hn
  split at hn
  · simp at hn; omega
  · simp only [List.mem_append] at hn
    have hf : ∀ (p : Bool) (x y : Int), flagV p x y = x ∨ flagV p x y = y := fun p x y => by cases p <;> simp [flagV]
    have g : ∀ (p : Prop) [Decidable p] (x : Int), n ∈ (if p then [] else [x]) → n = x := fun p _ x h => by split at h <;> simp_all
    rcases hn with (((hn | hn) | hn) | hn) | hn
    · rw [g _ _ hn]; rcases hf b.bold 1 22 with e | e <;> rw [e] <;> omega
    · rw [g _ _ hn]; rcases hf b.under 4 24 with e | e <;> rw [e] <;> omega
    · rw [g _ _ hn]; rcases hf b.turned 7 27 with e | e <;> rw [e] <;> omega
    · rw [g _ _ hn]; rcases hf (decide (b.fore = 0)) 39 (29 + b.fore) with e | e <;> rw [e] <;> omega
    · rw [g _ _ hn]; rcases hf (decide (b.back = 0)) 49 (39 + b.back) with e | e <;> rw [e] <;> omega

/-- The digits of a number from 0 to 99. -/
def digL (n : Int) : List Int := if n < 10 then [48 + n] else [48 + n / 10, 48 + n % 10]
def sepL : List Int → List Int
  | [] => []
  | n :: l => digL n ++ l.flatMap fun m => 59 :: digL m
def signL (l : List Int) : List Int := if l = [] then [] else [27, 91] ++ sepL l ++ [109]
end Go.Proofs.YtlmnhlfklbgjdaaGreatDoor
namespace Go.Proofs.YtlmnhlfklbgjdaaGreatDoor
structure Ce where
  rune : Int
  st : St
  part : Int
deriving DecidableEq
def Ce.zero : Ce := ⟨0, St.zero, 0⟩
def blankC (s : St) : Ce := ⟨32, s, 0⟩
def atC (l : List Ce) (i : Nat) : Ce := l.getD i Ce.zero
theorem atC_lt {l : List Ce} {i : Nat} (h : i < l.length) : atC l i = l[i] := by simp [atC, List.getD, h]
theorem atC_append_left (l m : List Ce) (i : Nat) (h : i < l.length) : atC (l ++ m) i = atC l i := by
  simp [atC, List.getD, List.getElem?_append_left h]
theorem atC_append_right (l m : List Ce) (i : Nat) : atC (l ++ m) (l.length + i) = atC m i := by
  simp [atC, List.getD, List.getElem?_append_right]
theorem atC_set (l : List Ce) (j i : Nat) (c : Ce) : atC (l.set j c) i = if i = j ∧ j < l.length then c else atC l i := by
  simp only [atC, List.getD, List.getElem?_set]
  by_cases h : j = i
  · subst h
    by_cases h2 : j < l.length
    · simp [h2]
    · simp [h2]
  · rw [if_neg h, if_neg (fun e => h e.1.symm)]
theorem ext_atC (l m : List Ce) (hl : l.length = m.length) (h : ∀ i, i < l.length → atC l i = atC m i) : l = m := by
  apply List.ext_getElem hl
  intro i h1 h2
  have := h i h1
  rwa [atC_lt h1, atC_lt h2] at this
theorem atC_take (l : List Ce) (n i : Nat) (h : i < n) : atC (l.take n) i = atC l i := by simp [atC, List.getD, h]
theorem atC_drop (l : List Ce) (n i : Nat) : atC (l.drop n) i = atC l (n + i) := by simp [atC, List.getD, List.getElem?_drop]

/-- A half that stands alone. -/
def aloneB (l : List Ce) (i : Nat) : Bool :=
  ((atC l i).part == 1 && (decide (i + 1 = l.length) || (atC l (i + 1)).part != 2)) || ((atC l i).part == 2 && (decide (i = 0) || (atC l (i - 1)).part != 1))
end Go.Proofs.YtlmnhlfklbgjdaaGreatDoor
namespace Go.Proofs.YtlmnhlfklbgjdaaGreatDoor
open Go.ChangeShapes Go.WideShapes Go.ChangeAt Go.RowKit
def stV (s : St) : Value := .agg #[.int .i64 s.fore, .int .i64 s.back, .bool s.bold, .bool s.under, .bool s.turned]
set_option maxHeartbeats 400000 in
theorem specStyleOk_any (s : St) (w : World) :
    Calls Tryz.prog 46 #[stV s] w fun e w' => e = .returned (.bool s.ok) ∧ Below w.heap.size w w' := by
  obtain ⟨f, b, bo, un, tu⟩ := s
  have hok : Hid ((St.mk f b bo un tu).ok = decide (0 ≤ f ∧ f ≤ 8 ∧ 0 ≤ b ∧ b ≤ 8)) := rfl
  unfold stV
  simp only
  go_enter Tryz.func46, Tryz.ntmps46
  go_wp2_with (go_at_call 45; refine (l1In_any _ _ _ _).mono ?_; rintro e w' ⟨rfl, hw⟩; subst hw)
  all_goals
    go_ret
    refine ⟨ret_bool ?_, (Below.refl _ _).alloc (Nat.le_refl _) _⟩
    rw [hok.out]
    clear hok
    by_cases h1 : 0 ≤ f ∧ f ≤ 8
    · by_cases h2 : 0 ≤ b ∧ b ≤ 8
      · have h3 : 0 ≤ f ∧ f ≤ 8 ∧ 0 ≤ b ∧ b ≤ 8 := ⟨h1.1, h1.2, h2⟩
        simp_all
      · have h3 : ¬ (0 ≤ f ∧ f ≤ 8 ∧ 0 ≤ b ∧ b ≤ 8) := fun h => h2 h.2.2
        simp_all
        try omega
    · have h3 : ¬ (0 ≤ f ∧ f ≤ 8 ∧ 0 ≤ b ∧ b ≤ 8) := fun h => h1 ⟨h.1, h.2.1⟩
      simp_all
end Go.Proofs.YtlmnhlfklbgjdaaGreatDoor
namespace Go.Proofs.YtlmnhlfklbgjdaaGreatDoor
open Go.ChangeShapes Go.WideShapes Go.ChangeAt Go.RowKit
/-- What is owned stays owned while the world only grows above. -/
theorem _root_.Go.World.ownsRow.below {w w' : World} {base : Nat} {e : TypeId} {size : Nat} {v : Value} {n : Nat} {xs : List Value} (h : w.ownsRow base e size v n xs) (hb : Below w.heap.size w w') : w'.ownsRow base e size v n xs := by
  refine ⟨h.1, ?_⟩
  rcases h.2 with h2 | ⟨g, cap, cur, hv, hbg, hg, r⟩
  · exact .inl h2
  · exact .inr ⟨g, cap, cur, hv, hbg, by rw [hb.block g (Array.getElem?_eq_some_iff.1 hg).1]; exact hg, r⟩
/-- A slice that can be read: of no element, or a row of cells that hold the numbers. -/
def SlI (w : World) (v : Value) (xs : List Int) : Prop :=
  ∃ a c, v = .slice a xs.length c ∧ (xs = [] ∨ ∃ b off, a = some ⟨b, off, none⟩ ∧ b < w.heap.size ∧ ∀ i, i < xs.length → w.cell? ⟨b, off + i, none⟩ = some (.int .i64 (xs.getD i 0)))
theorem SlI.of_own {w : World} {base : Nat} {e : TypeId} {v : Value} {xs : List Int} (h : w.ownsRow base e 1 v xs.length (xs.map (Value.int .i64))) : SlI w v xs := by
  rcases h.2 with ⟨rfl, h2⟩ | ⟨g, cap, cur, rfl, hb, hg, hr⟩
  · exact ⟨none, 0, by rw [h2], .inl (List.eq_nil_of_length_eq_zero h2)⟩
  · refine ⟨_, cap, rfl, .inr ⟨g, 0, rfl, (Array.getElem?_eq_some_iff.1 hg).1, fun i hi => ?_⟩⟩
    have := h.cellAt i (by simpa using hi)
    rw [Nat.zero_add, this]
    simp [hi]
theorem SlI.below {w w' : World} {v : Value} {xs : List Int} (h : SlI w v xs) (hb : Below w.heap.size w w') : SlI w' v xs := by
  obtain ⟨a, c, hv, h | ⟨b, off, ha, hlt, hc⟩⟩ := h
  · exact ⟨a, c, hv, .inl h⟩
  · exact ⟨a, c, hv, .inr ⟨b, off, ha, Nat.lt_of_lt_of_le hlt hb.size, fun i hi => (hb.cell (p := ⟨b, off + i, none⟩) hlt).trans (hc i hi)⟩⟩
theorem SlI.drewN {w : World} {v : Value} {xs : List Int} (h : SlI w v xs) (n : Nat) : SlI (w.drewN n) v xs := h

end Go.Proofs.YtlmnhlfklbgjdaaGreatDoor
namespace Go.Proofs.YtlmnhlfklbgjdaaGreatDoor
open Go.ChangeShapes Go.WideShapes Go.ChangeAt Go.RowKit
theorem gbl {w w' : World} (h : Below w.heap.size w w') (row : Option Nat) : w.grownBy w' row := ⟨h.os, h.tape, h.output, h.size, fun k hk _ => h.block k hk⟩
theorem setCell_gr (w : World) (B o : Nat) (u : Value) : w.grownBy (w.setCell ⟨B, o, none⟩ u) (some B) :=
  ⟨rfl, rfl, rfl, by simp, fun k _ hk => heap_setCell_other w ⟨B, o, none⟩ k _ (fun e => hk (by simp [e]))⟩
theorem grown_tr {a b c : World} {row : Option Nat} (h : a.grownBy b row) (k : b.grownBy c row) : a.grownBy c row :=
  ⟨k.os.trans h.os, k.tape.trans h.tape, k.output.trans h.output, Nat.le_trans h.size k.size, fun i hi hr => (k.block i (Nat.lt_of_lt_of_le hi h.size) hr).trans (h.block i hi hr)⟩
theorem bal' (w : World) (o : Obj) : Below w.heap.size w (w.alloc o) := (Below.refl _ _).alloc (Nat.le_refl _) o
theorem bdr (w : World) : Below w.heap.size w w.drew := ⟨rfl, rfl, rfl, Nat.le_refl _, fun _ _ => rfl⟩
end Go.Proofs.YtlmnhlfklbgjdaaGreatDoor
namespace Go.Proofs.YtlmnhlfklbgjdaaGreatDoor
open Go.ChangeShapes Go.WideShapes Go.ChangeAt Go.RowKit
/-- A style lies in block B. -/
def StAt (w : World) (B : Nat) (s : St) : Prop :=
  B < w.heap.size ∧ (w.cell? ⟨B, 0, none⟩ = some (.int .i64 s.fore) ∧ w.cell? ⟨B, 1, none⟩ = some (.int .i64 s.back) ∧ w.cell? ⟨B, 2, none⟩ = some (.bool s.bold) ∧ w.cell? ⟨B, 3, none⟩ = some (.bool s.under) ∧ w.cell? ⟨B, 4, none⟩ = some (.bool s.turned)) ∧
    (w.frozen? ⟨B, 0, none⟩ = false ∧ w.frozen? ⟨B, 1, none⟩ = false ∧ w.frozen? ⟨B, 2, none⟩ = false ∧ w.frozen? ⟨B, 3, none⟩ = false ∧ w.frozen? ⟨B, 4, none⟩ = false)
theorem StAt.grown {w w' : World} {B : Nat} {s : St} {row : Option Nat} (h : StAt w B s) (hg : w.grownBy w' row) (hr : row ≠ some B) : StAt w' B s := by
  have hb := hg.block B h.1 (Ne.symm hr)
  have hc : ∀ k, w'.cell? ⟨B, k, none⟩ = w.cell? ⟨B, k, none⟩ := fun k => World.cell?_of_block (w := w) hb
  have hz : ∀ k, w'.frozen? ⟨B, k, none⟩ = w.frozen? ⟨B, k, none⟩ := fun k => World.frozen?_of_block (w := w) hb
  refine ⟨Nat.lt_of_lt_of_le h.1 hg.size, ?_, ?_⟩
  · rw [hc, hc, hc, hc, hc]; exact h.2.1
  · rw [hz, hz, hz, hz, hz]; exact h.2.2
theorem StAt.below {w w' : World} {B : Nat} {s : St} (h : StAt w B s) (hb : Below w.heap.size w w') : StAt w' B s := h.grown (gbl hb none) (by simp)
theorem StAt.new (w : World) (s : St) (t : TypeId) : StAt (w.alloc (.cells #[.int .i64 s.fore, .int .i64 s.back, .bool s.bold, .bool s.under, .bool s.turned] t)) w.heap.size s :=
  ⟨by simp, ⟨by simp [go_sem], by simp [go_sem], by simp [go_sem], by simp [go_sem], by simp [go_sem]⟩, ⟨by simp [go_sem], by simp [go_sem], by simp [go_sem], by simp [go_sem], by simp [go_sem]⟩⟩
/-- Another style is written there whole. -/
def putSt (w : World) (B : Nat) (s : St) : World :=
  ((((w.setCell ⟨B, 0, none⟩ (.int .i64 s.fore)).setCell ⟨B, 1, none⟩ (.int .i64 s.back)).setCell ⟨B, 2, none⟩ (.bool s.bold)).setCell ⟨B, 3, none⟩ (.bool s.under)).setCell ⟨B, 4, none⟩ (.bool s.turned)

theorem setCell_ne' (w : World) (B a b : Nat) (u : Value) (h : a ≠ b) : (w.setCell ⟨B, b, none⟩ u).cell? ⟨B, a, none⟩ = w.cell? ⟨B, a, none⟩ := by
  simp [World.setCell, World.cell?, Array.getElem?_modify]
  cases hh : w.heap[B]? with
  | none => simp
  | some o => cases o <;> simp [Ne.symm h]
theorem StAt.put {w : World} {B : Nat} {s : St} (h : StAt w B s) (s' : St) : StAt (putSt w B s') B s' := by
  obtain ⟨hlt, ⟨c0, c1, c2, c3, c4⟩, ⟨z0, z1, z2, z3, z4⟩⟩ := h
  refine ⟨by simpa [putSt] using hlt, ⟨?_, ?_, ?_, ?_, ?_⟩, ⟨?_, ?_, ?_, ?_, ?_⟩⟩
  all_goals simp only [putSt]
  · rw [setCell_ne' _ _ _ _ _ (by decide), setCell_ne' _ _ _ _ _ (by decide), setCell_ne' _ _ _ _ _ (by decide), setCell_ne' _ _ _ _ _ (by decide)]; simp [go_sem, c0]
  · rw [setCell_ne' _ _ _ _ _ (by decide), setCell_ne' _ _ _ _ _ (by decide), setCell_ne' _ _ _ _ _ (by decide)]; simp [go_sem, c1]
  · rw [setCell_ne' _ _ _ _ _ (by decide), setCell_ne' _ _ _ _ _ (by decide)]; simp [go_sem, c2]
  · rw [setCell_ne' _ _ _ _ _ (by decide)]; simp [go_sem, c3]
  · simp [go_sem, c4]
  · simp [go_sem, z0]
  · simp [go_sem, z1]
  · simp [go_sem, z2]
  · simp [go_sem, z3]
  · simp [go_sem, z4]
end Go.Proofs.YtlmnhlfklbgjdaaGreatDoor
namespace Go.Proofs.YtlmnhlfklbgjdaaGreatDoor
open Go.ChangeShapes Go.WideShapes Go.ChangeAt Go.RowKit
def ceL (c : Ce) : List Value := [.int .i64 c.rune, .int .i64 c.st.fore, .int .i64 c.st.back, .bool c.st.bold, .bool c.st.under, .bool c.st.turned, .int .i64 c.part]
def ceV (c : Ce) : Value := .agg #[.int .i64 c.rune, .int .i64 c.st.fore, .int .i64 c.st.back, .bool c.st.bold, .bool c.st.under, .bool c.st.turned, .int .i64 c.part]
def CeAt (w : World) (b o : Nat) (c : Ce) : Prop :=
  w.cell? ⟨b, o, none⟩ = some (.int .i64 c.rune) ∧ w.cell? ⟨b, o + 1, none⟩ = some (.int .i64 c.st.fore) ∧ w.cell? ⟨b, o + 2, none⟩ = some (.int .i64 c.st.back) ∧ w.cell? ⟨b, o + 3, none⟩ = some (.bool c.st.bold) ∧ w.cell? ⟨b, o + 4, none⟩ = some (.bool c.st.under) ∧ w.cell? ⟨b, o + 5, none⟩ = some (.bool c.st.turned) ∧ w.cell? ⟨b, o + 6, none⟩ = some (.int .i64 c.part)
theorem CeAt.below {w w' : World} {b o : Nat} {c : Ce} (h : CeAt w b o c) (hb : Below w.heap.size w w') (hlt : b < w.heap.size) : CeAt w' b o c := by
  have e : ∀ k, w'.cell? ⟨b, k, none⟩ = w.cell? ⟨b, k, none⟩ := fun k => hb.cell (p := ⟨b, k, none⟩) hlt
  unfold CeAt
  rw [e, e, e, e, e, e, e]
  exact h
theorem CeAt.grown {w w' : World} {b o : Nat} {c : Ce} {row : Option Nat} (h : CeAt w b o c) (hg : w.grownBy w' row) (hlt : b < w.heap.size) (hr : row ≠ some b) : CeAt w' b o c := by
  have hb := hg.block b hlt (Ne.symm hr)
  have e : ∀ k, w'.cell? ⟨b, k, none⟩ = w.cell? ⟨b, k, none⟩ := fun k => World.cell?_of_block (w := w) hb
  unfold CeAt
  rw [e, e, e, e, e, e, e]
  exact h
/-- A slice of cells that can be read. -/
def SlC (w : World) (v : Value) (xs : List Ce) : Prop :=
  ∃ a c, v = .slice a xs.length c ∧ xs.length ≤ c ∧ (a = none → c = 0) ∧ (xs = [] ∨ ∃ b off, a = some ⟨b, off, none⟩ ∧ b < w.heap.size ∧ ∀ i, i < xs.length → CeAt w b (off + i * 7) (atC xs i))
theorem SlC.below {w w' : World} {v : Value} {xs : List Ce} (h : SlC w v xs) (hb : Below w.heap.size w w') : SlC w' v xs := by
  obtain ⟨a, c, hv, hc, hn, h | ⟨b, off, ha, hlt, hi⟩⟩ := h
  · exact ⟨a, c, hv, hc, hn, .inl h⟩
  · exact ⟨a, c, hv, hc, hn, .inr ⟨b, off, ha, Nat.lt_of_lt_of_le hlt hb.size, fun i h => (hi i h).below hb hlt⟩⟩
/-- A slice of cells that this call owns. -/
def OwnC (w : World) (base : Nat) (v : Value) (xs : List Ce) : Prop := w.ownsRow base 75 7 v xs.length (xs.flatMap ceL)
theorem flat_len (xs : List Ce) : (xs.flatMap ceL).length = xs.length * 7 := by
  induction xs with
  | nil => rfl
  | cons c xs ih => rw [List.flatMap_cons, List.length_append, ih, List.length_cons]; simp [ceL]; omega
theorem flat_get (xs : List Ce) : ∀ (i k : Nat), i < xs.length → k < 7 → (xs.flatMap ceL)[i * 7 + k]? = (ceL (atC xs i))[k]? := by
  induction xs with
  | nil => intro i k h; simp at h
  | cons c xs ih =>
    intro i k h hk
    rw [List.flatMap_cons]
    cases i with
    | zero =>
      rw [List.getElem?_append_left (by simp [ceL]; omega)]
      simp [atC]
    | succ i =>
      have hl : (ceL c).length = 7 := rfl
      rw [List.getElem?_append_right (by rw [hl]; omega), hl]
      have e : (i + 1) * 7 + k - 7 = i * 7 + k := by omega
      rw [e, ih i k (by simpa using h) hk]
      simp [atC]
theorem OwnC.at {w : World} {base g n cap : Nat} {xs : List Ce} (h : OwnC w base (.slice (some ⟨g, 0, none⟩) n cap) xs) (hn : xs.length = n) (i : Nat) (hi : i < n) : CeAt w g (i * 7) (atC xs i) := by
  subst hn
  have hc : ∀ k, k < 7 → w.cell? ⟨g, i * 7 + k, none⟩ = (ceL (atC xs i))[k]? := fun k hk => by
    rw [h.cellAt (i * 7 + k) (by omega), flat_get xs i k hi hk]
  exact ⟨hc 0 (by omega), hc 1 (by omega), hc 2 (by omega), hc 3 (by omega), hc 4 (by omega), hc 5 (by omega), hc 6 (by omega)⟩
theorem OwnC.shape {w : World} {base : Nat} {v : Value} {xs : List Ce} (h : OwnC w base v xs) : (v = .slice none 0 0 ∧ xs = []) ∨ ∃ g cap, v = .slice (some ⟨g, 0, none⟩) xs.length cap ∧ base ≤ g ∧ g < w.heap.size ∧ xs.length ≤ cap := by
  rcases h.2 with ⟨h1, h2⟩ | ⟨g, cap, cur, hv, hb, hg, hn, _⟩
  · exact .inl ⟨h1, List.eq_nil_of_length_eq_zero h2⟩
  · exact .inr ⟨g, cap, hv, hb, (Array.getElem?_eq_some_iff.1 hg).1, hn⟩
theorem SlC.of_own {w : World} {base : Nat} {v : Value} {xs : List Ce} (h : OwnC w base v xs) : SlC w v xs := by
  rcases h.shape with ⟨rfl, rfl⟩ | ⟨g, cap, rfl, hb, hg, hn⟩
  · exact ⟨none, 0, rfl, Nat.le_refl _, fun _ => rfl, .inl rfl⟩
  · exact ⟨_, cap, rfl, hn, (fun h => by cases h), .inr ⟨g, 0, rfl, hg, fun i hi => by rw [Nat.zero_add]; exact h.at rfl i hi⟩⟩
theorem OwnC.below {w w' : World} {base : Nat} {v : Value} {xs : List Ce} (h : OwnC w base v xs) (hb : Below w.heap.size w w') : OwnC w' base v xs := World.ownsRow.below (show w.ownsRow _ _ _ _ _ _ from h) hb
theorem OwnC.low {w : World} {base base' : Nat} {v : Value} {xs : List Ce} (h : OwnC w base v xs) (hb : base' ≤ base) : OwnC w base' v xs := by
  refine ⟨h.1, ?_⟩
  rcases h.2 with h2 | ⟨g, cap, cur, hv, hbg, r⟩
  · exact .inl h2
  · exact .inr ⟨g, cap, cur, hv, Nat.le_trans hb hbg, r⟩
theorem OwnC.lt {w : World} {base : Nat} {v : Value} {xs : List Ce} (h : OwnC w base v xs) : ∀ g, v.ownBlock = some g → base ≤ g ∧ g < w.heap.size := World.ownsRow.lt (show w.ownsRow _ _ _ _ _ _ from h)
/-- One cell is written whole. -/
def putCe (w : World) (g o : Nat) (c : Ce) : World :=
  ((((((w.setCell ⟨g, o, none⟩ (.int .i64 c.rune)).setCell ⟨g, o + 1, none⟩ (.int .i64 c.st.fore)).setCell ⟨g, o + 2, none⟩ (.int .i64 c.st.back)).setCell ⟨g, o + 3, none⟩ (.bool c.st.bold)).setCell ⟨g, o + 4, none⟩ (.bool c.st.under)).setCell ⟨g, o + 5, none⟩ (.bool c.st.turned)).setCell ⟨g, o + 6, none⟩ (.int .i64 c.part)
theorem flat_set (xs : List Ce) (c : Ce) : ∀ i, i < xs.length → ((((((((xs.flatMap ceL).set (i * 7) (.int .i64 c.rune)).set (i * 7 + 1) (.int .i64 c.st.fore)).set (i * 7 + 2) (.int .i64 c.st.back)).set (i * 7 + 3) (.bool c.st.bold)).set (i * 7 + 4) (.bool c.st.under)).set (i * 7 + 5) (.bool c.st.turned)).set (i * 7 + 6) (.int .i64 c.part)) = (xs.set i c).flatMap ceL := by
  induction xs with
  | nil => intro i h; simp at h
  | cons d xs ih =>
    intro i h
    cases i with
    | zero => simp [ceL]
    | succ i =>
      have e : ∀ k, (i + 1) * 7 + k = (i * 7 + k) + 7 := fun k => by omega
      have e0 : (i + 1) * 7 = (i * 7) + 7 := by omega
      rw [e 1, e 2, e 3, e 4, e 5, e 6, e0]
      have hs : ∀ (m : Nat) (u : Value) (l : List Value), ((ceL d ++ l).set (m + 7) u) = ceL d ++ l.set m u := fun m u l => by
        rw [List.set_append, if_neg (by simp [ceL])]
        simp [ceL]
      rw [List.flatMap_cons, hs, hs, hs, hs, hs, hs, hs, ih i (by simpa using h), List.set_cons_succ, List.flatMap_cons]
theorem OwnC.put {w : World} {base g n cap : Nat} {xs : List Ce} (h : OwnC w base (.slice (some ⟨g, 0, none⟩) n cap) xs) (hn : xs.length = n) (i : Nat) (hi : i < n) (c : Ce) :
    OwnC (putCe w g (i * 7) c) base (.slice (some ⟨g, 0, none⟩) n cap) (xs.set i c) ∧ w.grownBy (putCe w g (i * 7) c) (some g) := by
  subst hn
  have h0 := World.ownsRow.stored h (i * 7) (.int .i64 c.rune)
  have h1 := World.ownsRow.stored h0.1 (i * 7 + 1) (.int .i64 c.st.fore)
  have h2 := World.ownsRow.stored h1.1 (i * 7 + 2) (.int .i64 c.st.back)
  have h3 := World.ownsRow.stored h2.1 (i * 7 + 3) (.bool c.st.bold)
  have h4 := World.ownsRow.stored h3.1 (i * 7 + 4) (.bool c.st.under)
  have h5 := World.ownsRow.stored h4.1 (i * 7 + 5) (.bool c.st.turned)
  have h6 := World.ownsRow.stored h5.1 (i * 7 + 6) (.int .i64 c.part)
  refine ⟨?_, grown_tr (grown_tr (grown_tr (grown_tr (grown_tr (grown_tr h0.2 h1.2) h2.2) h3.2) h4.2) h5.2) h6.2⟩
  have := h6.1
  rw [flat_set xs c i hi] at this
  unfold OwnC putCe
  rw [List.length_set]
  exact this
theorem OwnC.frozen {w : World} {base g n cap : Nat} {xs : List Ce} (h : OwnC w base (.slice (some ⟨g, 0, none⟩) n cap) xs) (hn : xs.length = n) (j : Nat) : w.frozen? ⟨g, j, none⟩ = false := by
  subst hn
  exact World.ownsRow.frozenAt h j
theorem info_cell : (Tryz.prog.info? 75).map (fun i => (i.zero, i.size, i.bytes)) = some (some (ceV Ce.zero), 7, 40) := by kernel_rfl
end Go.Proofs.YtlmnhlfklbgjdaaGreatDoor
namespace Go.Proofs.YtlmnhlfklbgjdaaGreatDoor
open Go.ChangeShapes Go.WideShapes Go.ChangeAt Go.RowKit
section
instance : Inhabited Ce := ⟨Ce.zero⟩
variable {H : Type} {enc : TypeId × Value → H} {w : World} {base : Nat} {spare : Nat → Bool} {held : Bool}
set_option maxRecDepth 20000 in
theorem style_cs {fuel : Nat} {cs : List Value} {x : DataW H × List MemPlace} (hf : DataW.trod enc Tryz.prog w base spare held fuel 50 cs = some x) :
    ∃ s : St, cs = [.int .i64 s.fore, .int .i64 s.back, .bool s.bold, .bool s.under, .bool s.turned] := by
  obtain ⟨xs, n, _, _, hl, hlen, hfs⟩ := DataW.trod_struct Tryz.underlying50 hf
  have e : Tryz.prog.cellsOf 50 = 5 := by kernel_rfl
  have ei : Tryz.prog.cellsOf 2 = 1 := by kernel_rfl
  have eb : Tryz.prog.cellsOf 4 = 1 := by kernel_rfl
  match cs, hl.trans e, xs, hlen with
  | [c0, c1, c2, c3, c4], _, [x0, x1, x2, x3, x4], _ =>
    have h0 := hfs 0 _ rfl
    have h1 := hfs 1 _ rfl
    have h2 := hfs 2 _ rfl
    have h3 := hfs 3 _ rfl
    have h4 := hfs 4 _ rfl
    simp [ei, eb] at h0 h1 h2 h3 h4
    obtain ⟨k0, q0, _, _⟩ := DataW.trod_int Tryz.underlying2 h0
    obtain ⟨k1, q1, _, _⟩ := DataW.trod_int Tryz.underlying2 h1
    obtain ⟨k2, q2, _⟩ := DataW.trod_bool Tryz.underlying4 h2
    obtain ⟨k3, q3, _⟩ := DataW.trod_bool Tryz.underlying4 h3
    obtain ⟨k4, q4, _⟩ := DataW.trod_bool Tryz.underlying4 h4
    simp at q0 q1 q2 q3 q4
    subst q0; subst q1; subst q2; subst q3; subst q4
    exact ⟨⟨k0, k1, k2, k3, k4⟩, rfl⟩
set_option maxRecDepth 20000 in
theorem cell_cs {fuel : Nat} {cs : List Value} {x : DataW H × List MemPlace} (hf : DataW.trod enc Tryz.prog w base spare held fuel 185 cs = some x) :
    ∃ c : Ce, cs = ceL c := by
  obtain ⟨xs, n, _, _, hl, hlen, hfs⟩ := DataW.trod_struct Tryz.underlying185 hf
  have e : Tryz.prog.cellsOf 185 = 7 := by kernel_rfl
  have es : Tryz.prog.cellsOf 50 = 5 := by kernel_rfl
  have ei : Tryz.prog.cellsOf 2 = 1 := by kernel_rfl
  match cs, hl.trans e, xs, hlen with
  | [c0, c1, c2, c3, c4, c5, c6], _, [x0, x1, x2], _ =>
    have h0 := hfs 0 _ rfl
    have h1 := hfs 1 _ rfl
    have h2 := hfs 2 _ rfl
    simp [ei, es] at h0 h1 h2
    obtain ⟨k0, q0, _, _⟩ := DataW.trod_int Tryz.underlying2 h0
    obtain ⟨s, q1⟩ := style_cs h1
    obtain ⟨k2, q2, _, _⟩ := DataW.trod_int Tryz.underlying2 h2
    simp at q0 q1 q2
    obtain ⟨r1, r2, r3, r4, r5⟩ := q1
    subst q0; subst r1; subst r2; subst r3; subst r4; subst r5; subst q2
    exact ⟨⟨k0, s, k2⟩, rfl⟩
end
end Go.Proofs.YtlmnhlfklbgjdaaGreatDoor
namespace Go.Proofs.YtlmnhlfklbgjdaaGreatDoor
open Go.ChangeShapes Go.WideShapes Go.ChangeAt Go.RowKit
theorem l4Blank_any (s : St) (w : World) :
    Calls Tryz.prog 88 #[stV s] w fun e w' => e = .returned (ceV (blankC s)) ∧ Below w.heap.size w w' := by
  obtain ⟨f, b, bo, un, tu⟩ := s
  unfold stV
  simp only
  go_enter Tryz.func88, Tryz.ntmps88
  go_wp2
  exact bodyPost_ret (v := .agg #[.int .i64 32, .int .i64 f, .int .i64 b, .bool bo, .bool un, .bool tu, .int .i64 0]) (by simp [results, Tryz.results88, go_sem]) rfl ⟨rfl, ((Below.refl _ _).alloc (Nat.le_refl _) _).alloc (by simp) _⟩
/-- A row of this call's own beside what stays. -/
def OC (base : Nat) (v : Value) (L : List Ce) (w0 W : World) : Prop := OwnC W base v L ∧ Below w0.heap.size w0 W ∧ base ≤ W.heap.size ∧ w0.heap.size ≤ base
theorem OC.below {base : Nat} {v : Value} {L : List Ce} {w0 W W' : World} (k : OC base v L w0 W) (hb : Below W.heap.size W W') : OC base v L w0 W' :=
  ⟨k.1.below hb, k.2.1.trans (hb.mono k.2.1.size), Nat.le_trans k.2.2.1 hb.size, k.2.2.2⟩
theorem OC.own {base : Nat} {v v' : Value} {L L' : List Ce} {w0 W W' : World} (k : OC base v L w0 W) (ho : OwnC W' base v' L') (hg : W.grownBy W' v.ownBlock) : OC base v' L' w0 W' :=
  ⟨ho, k.2.1.grown hg k.2.1.size (fun g e => Nat.le_trans k.2.2.2 (k.1.lt g e).1), Nat.le_trans k.2.2.1 hg.size, k.2.2.2⟩
theorem StAt.own {W W' : World} {B base : Nat} {s : St} {v : Value} {L : List Ce} (h : StAt W B s) (k : OwnC W base v L) (hB : B < base) (hg : W.grownBy W' v.ownBlock) : StAt W' B s :=
  h.grown hg (fun e => by have := (k.lt B e).1; omega)
end Go.Proofs.YtlmnhlfklbgjdaaGreatDoor
namespace Go.Proofs.YtlmnhlfklbgjdaaGreatDoor
open Go.ChangeShapes Go.WideShapes Go.ChangeAt Go.RowKit
def rowV (vs : List Value) (i : Nat) : Value := vs.getD i (.slice none 0 0)
def rowX (rows : List (List Ce)) (i : Nat) : List Ce := rows.getD i []
theorem rowV_lt {vs : List Value} {i : Nat} (h : i < vs.length) : rowV vs i = vs[i] := by simp [rowV, List.getD, h]
theorem rowX_lt {rows : List (List Ce)} {i : Nat} (h : i < rows.length) : rowX rows i = rows[i] := by simp [rowX, List.getD, h]
theorem rowV_get {vs : List Value} {i : Nat} (h : i < vs.length) : vs[i]? = some (rowV vs i) := by rw [rowV_lt h]; exact List.getElem?_eq_getElem h
theorem rowV_snoc (vs : List Value) (r : Value) (i : Nat) : rowV (vs ++ [r]) i = if i < vs.length then rowV vs i else if i = vs.length then r else .slice none 0 0 := by
  unfold rowV
  by_cases h : i < vs.length
  · rw [if_pos h]; simp [List.getD, List.getElem?_append_left h]
  · rw [if_neg h]
    by_cases e : i = vs.length
    · rw [if_pos e, e]; simp [List.getD]
    · rw [if_neg e]
      have : (vs ++ [r])[i]? = none := List.getElem?_eq_none (by simp; omega)
      simp [List.getD, this]
/-- A slice of rows that can be read. -/
def SlG (w : World) (v : Value) (rows : List (List Ce)) : Prop :=
  ∃ a c vs, v = .slice a rows.length c ∧ rows.length ≤ c ∧ (a = none → c = 0) ∧ (rows = [] ∨ ∃ b off, a = some ⟨b, off, none⟩ ∧ b < w.heap.size ∧ ∀ i, i < rows.length → w.cell? ⟨b, off + i, none⟩ = some (rowV vs i)) ∧ ∀ i, i < rows.length → SlC w (rowV vs i) (rowX rows i)
theorem SlG.below {w w' : World} {v : Value} {rows : List (List Ce)} (h : SlG w v rows) (hb : Below w.heap.size w w') : SlG w' v rows := by
  obtain ⟨a, c, vs, hv, hc, hn, hr, hs⟩ := h
  refine ⟨a, c, vs, hv, hc, hn, ?_, fun i hi => (hs i hi).below hb⟩
  rcases hr with hr | ⟨b, off, ha, hlt, hi⟩
  · exact .inl hr
  · exact .inr ⟨b, off, ha, Nat.lt_of_lt_of_le hlt hb.size, fun i h => (hb.cell (p := ⟨b, off + i, none⟩) hlt).trans (hi i h)⟩
/-- A slice of rows that this call owns, each row in a block of its own below B. -/
def OwnG (w : World) (base B : Nat) (v : Value) (rows : List (List Ce)) : Prop :=
  ∃ vs : List Value, vs.length = rows.length ∧ w.ownsRow base 72 1 v rows.length vs ∧ (∀ i, i < rows.length → OwnC w base (rowV vs i) (rowX rows i)) ∧
    (∀ i, i < rows.length → ∀ g, (rowV vs i).ownBlock = some g → g < B) ∧ (∀ i j, i < j → j < rows.length → ∀ g, (rowV vs i).ownBlock = some g → (rowV vs j).ownBlock ≠ some g)
theorem OwnG.below {w w' : World} {base B : Nat} {v : Value} {rows : List (List Ce)} (h : OwnG w base B v rows) (hb : Below w.heap.size w w') : OwnG w' base B v rows := by
  obtain ⟨vs, hl, ho, hr, hB, hd⟩ := h
  exact ⟨vs, hl, World.ownsRow.below ho hb, fun i hi => (hr i hi).below hb, hB, hd⟩
theorem OwnG.low {w : World} {base base' B : Nat} {v : Value} {rows : List (List Ce)} (h : OwnG w base B v rows) (hb : base' ≤ base) : OwnG w base' B v rows := by
  obtain ⟨vs, hl, ho, hr, hB, hd⟩ := h
  refine ⟨vs, hl, ⟨ho.1, ?_⟩, fun i hi => (hr i hi).low hb, hB, hd⟩
  rcases ho.2 with h2 | ⟨g, cap, cur, hv, hbg, r⟩
  · exact .inl h2
  · exact .inr ⟨g, cap, cur, hv, Nat.le_trans hb hbg, r⟩
theorem OwnG.shape {w : World} {base B : Nat} {v : Value} {rows : List (List Ce)} (h : OwnG w base B v rows) : (v = .slice none 0 0 ∧ rows = []) ∨ ∃ g cap, v = .slice (some ⟨g, 0, none⟩) rows.length cap ∧ base ≤ g ∧ g < w.heap.size ∧ rows.length ≤ cap := by
  obtain ⟨vs, hl, ho, _⟩ := h
  rcases ho.2 with ⟨h1, h2⟩ | ⟨g, cap, cur, hv, hb, hg, hn, _⟩
  · exact .inl ⟨h1, List.eq_nil_of_length_eq_zero h2⟩
  · exact .inr ⟨g, cap, hv, hb, (Array.getElem?_eq_some_iff.1 hg).1, hn⟩
theorem SlG.of_own {w : World} {base B : Nat} {v : Value} {rows : List (List Ce)} (h : OwnG w base B v rows) : SlG w v rows := by
  obtain ⟨vs, hl, ho, hr, hB, hd⟩ := h
  rcases ho.2 with ⟨h1, h2⟩ | ⟨g, cap, cur, hv, hb, hg, hn, _, _, ht⟩
  · have : rows = [] := List.eq_nil_of_length_eq_zero h2
    subst this
    exact ⟨none, 0, vs, h1, Nat.le_refl _, fun _ => rfl, .inl rfl, fun i hi => absurd hi (Nat.not_lt_zero i)⟩
  · subst hv
    refine ⟨_, cap, vs, rfl, hn, (fun e => by cases e), .inr ⟨g, 0, rfl, (Array.getElem?_eq_some_iff.1 hg).1, fun i hi => ?_⟩, fun i hi => SlC.of_own (hr i hi)⟩
    rw [Nat.zero_add, World.ownsRow.cellAt ho i (by omega), rowV_get (by omega)]
/-- The outer block is none of the rows' blocks. -/
theorem outer_apart {w : World} {base base' n : Nat} {v r : Value} {vs : List Value} {xs : List Ce} (ho : w.ownsRow base 72 1 v n vs) (hr : OwnC w base' r xs) : r.ownBlock = none ∨ r.ownBlock ≠ v.ownBlock := by
  rcases ho.2 with ⟨h1, _⟩ | ⟨g, cap, cur, hv, _, hg, _⟩
  · cases hb : r.ownBlock with
    | none => exact .inl rfl
    | some q => right; rw [h1]; simp [Value.ownBlock]
  · rcases hr.2 with ⟨h1, _⟩ | ⟨g', cap', cur', hv', _, hg', _⟩
    · left; rw [h1]; rfl
    · right
      rw [hv, hv']
      intro e
      simp only [Value.ownBlock, Option.some.injEq] at e
      subst e
      rw [hg] at hg'
      simp only [Option.some.injEq, Obj.cells.injEq] at hg'
      exact absurd hg'.2.1 (by decide)
theorem OwnC.kept {w w' : World} {base : Nat} {r : Value} {xs : List Ce} {row : Option Nat} (h : OwnC w base r xs) (hg : w.grownBy w' row) (hne : r.ownBlock = none ∨ r.ownBlock ≠ row) : OwnC w' base r xs := World.ownsRow.kept (show w.ownsRow _ _ _ _ _ _ from h) hg hne
theorem info_row : (Tryz.prog.info? 72).map (fun i => (i.zero, i.size, i.bytes)) = some (some (.slice none 0 0), 1, 24) := by kernel_rfl
theorem under_rows : Tryz.prog.underlying 24 = some (.slice 72) := by kernel_rfl
end Go.Proofs.YtlmnhlfklbgjdaaGreatDoor
namespace Go.Proofs.YtlmnhlfklbgjdaaGreatDoor
def cellOkB (l : List Ce) (i : Nat) : Bool :=
  (atC l i).st.ok && (if (atC l i).part = 0 then decide (widthV (atC l i).rune = 1)
    else if (atC l i).part = 1 then decide (widthV (atC l i).rune = 2) && (decide (i + 1 < l.length) && (decide ((atC l (i + 1)).part = 2) && decide ((atC l (i + 1)).st = (atC l i).st)))
    else if (atC l i).part = 2 then decide ((atC l i).rune = 0) && (decide (0 < i) && decide ((atC l (i - 1)).part = 1))
    else false)
def rowOkB (l : List Ce) : Bool := decide (1 ≤ l.length ∧ l.length ≤ 60) && (List.range l.length).all (cellOkB l)
theorem rowOkB_no (l : List Ce) (i : Nat) (hi : i < l.length) (h : cellOkB l i = false) : rowOkB l = false := by
  unfold rowOkB
  have : (List.range l.length).all (cellOkB l) = false := by
    rw [List.all_eq_false]
    exact ⟨i, List.mem_range.2 hi, by simp [h]⟩
  rw [this, Bool.and_false]
theorem rowOkB_len (l : List Ce) (h : ¬ (1 ≤ l.length ∧ l.length ≤ 60)) : rowOkB l = false := by
  unfold rowOkB
  rw [decide_eq_false h, Bool.false_and]
theorem rowOkB_yes (l : List Ce) (h : 1 ≤ l.length ∧ l.length ≤ 60) (ha : ∀ i, i < l.length → cellOkB l i = true) : rowOkB l = true := by
  unfold rowOkB
  rw [decide_eq_true h, Bool.true_and, List.all_eq_true]
  exact fun i hi => ha i (List.mem_range.1 hi)
theorem rowOkB_iff (l : List Ce) : rowOkB l = true ↔ (1 ≤ l.length ∧ l.length ≤ 60) ∧ ∀ i, i < l.length → cellOkB l i = true := by
  constructor
  · intro h
    unfold rowOkB at h
    rw [Bool.and_eq_true, decide_eq_true_eq, List.all_eq_true] at h
    exact ⟨h.1, fun i hi => h.2 i (List.mem_range.2 hi)⟩
  · rintro ⟨h1, h2⟩; exact rowOkB_yes l h1 h2
end Go.Proofs.YtlmnhlfklbgjdaaGreatDoor
namespace Go.Proofs.YtlmnhlfklbgjdaaGreatDoor
def fitB (cols : Int) (r : List Ce) : Bool := decide ((r.length : Int) = cols) && rowOkB r
def gridOkB (cols : Int) (rows : List (List Ce)) : Bool := decide (1 ≤ cols ∧ cols ≤ 60) && (decide (1 ≤ rows.length ∧ rows.length ≤ 30) && rows.all (fitB cols))
theorem gridOk_cols {cols : Int} {rows : List (List Ce)} (h : ¬ (1 ≤ cols ∧ cols ≤ 60)) : gridOkB cols rows = false := by
  unfold gridOkB; rw [decide_eq_false h, Bool.false_and]
theorem gridOk_len {cols : Int} {rows : List (List Ce)} (h : ¬ (1 ≤ rows.length ∧ rows.length ≤ 30)) : gridOkB cols rows = false := by
  unfold gridOkB; rw [decide_eq_false h, Bool.false_and, Bool.and_false]
theorem gridOk_iff (cols : Int) (rows : List (List Ce)) : gridOkB cols rows = true ↔ (1 ≤ cols ∧ cols ≤ 60) ∧ (1 ≤ rows.length ∧ rows.length ≤ 30) ∧ ∀ i, i < rows.length → fitB cols (rows.getD i []) = true := by
  unfold gridOkB
  rw [Bool.and_eq_true, Bool.and_eq_true, decide_eq_true_eq, decide_eq_true_eq, List.all_eq_true]
  constructor
  · rintro ⟨h1, h2, h3⟩
    refine ⟨h1, h2, fun i hi => h3 _ ?_⟩
    have : rows.getD i [] = rows[i] := by simp [List.getD, hi]
    rw [this]; exact List.getElem_mem hi
  · rintro ⟨h1, h2, h3⟩
    refine ⟨h1, h2, fun r hr => ?_⟩
    obtain ⟨i, hi, e⟩ := List.getElem_of_mem hr
    have := h3 i hi
    have e2 : rows.getD i [] = rows[i] := by simp [List.getD, hi]
    rw [e2, e] at this; exact this
theorem gridOk_no {cols : Int} {rows : List (List Ce)} {i : Nat} (hi : i < rows.length) (h : fitB cols (rows.getD i []) = false) : gridOkB cols rows = false := by
  cases hg : gridOkB cols rows with
  | false => rfl
  | true =>
    have := ((gridOk_iff cols rows).1 hg).2.2 i hi
    rw [h] at this; cases this
end Go.Proofs.YtlmnhlfklbgjdaaGreatDoor
namespace Go.Proofs.YtlmnhlfklbgjdaaGreatDoor
open Go.ChangeShapes Go.WideShapes Go.ChangeAt Go.RowKit
def gridV (cols : Int) (v : Value) : Value := .agg #[.int .i64 cols, v]
/-- A grid in a block of its own. -/
def GrN (w : World) (B : Nat) (cols : Int) (v : Value) : Prop := B < w.heap.size ∧ w.cell? ⟨B, 0, none⟩ = some (.int .i64 cols) ∧ w.cell? ⟨B, 1, none⟩ = some v
theorem GrN.new (w : World) (cols : Int) (v : Value) (t : TypeId) : GrN (w.alloc (.cells #[.int .i64 cols, v] t)) w.heap.size cols v := ⟨by simp, by simp [go_sem], by simp [go_sem]⟩
theorem GrN.below {w w' : World} {B : Nat} {cols : Int} {v : Value} (h : GrN w B cols v) (hb : Below w.heap.size w w') : GrN w' B cols v :=
  ⟨Nat.lt_of_lt_of_le h.1 hb.size, (hb.cell (p := ⟨B, 0, none⟩) h.1).trans h.2.1, (hb.cell (p := ⟨B, 1, none⟩) h.1).trans h.2.2⟩
end Go.Proofs.YtlmnhlfklbgjdaaGreatDoor
namespace Go.Proofs.YtlmnhlfklbgjdaaGreatDoor
open Go.ChangeShapes Go.WideShapes Go.ChangeAt Go.RowKit
section
variable {H : Type} {enc : TypeId × Value → H} {w : World} {base : Nat} {spare : Nat → Bool} {held : Bool}
set_option maxRecDepth 20000 in
theorem cells_tr {fuel : Nat} {cs : List Value} {y : DataW H × List MemPlace} (hf : DataW.trod enc Tryz.prog w base spare held fuel 159 cs = some y) :
    ∃ (v : Value) (xs : List Ce), cs = [v] ∧ SlC w v xs ∧ xs.length ≤ maxLen := by
  have e : Tryz.prog.cellsOf 185 = 7 := by kernel_rfl
  rcases Go.Deep.open_slice Tryz.underlying159 hf with ⟨hcs, _⟩ | ⟨x, len, cap, m, n, D, Pl, hcs, _, hl, hm, hmm, _, hx⟩
  · exact ⟨_, [], hcs, ⟨none, 0, rfl, Nat.le_refl _, fun _ => rfl, .inl rfl⟩, by simp⟩
  · have hlm : len ≤ m := by rw [hmm]; split <;> omega
    rw [e] at hx
    obtain ⟨f, hfc⟩ := Go.Deep.choose_lt (α := Ce) (n := len) (p := fun i q => w.cells? base (x.add (i * 7)) 7 = some (ceL q)) (fun i hi => by
      obtain ⟨cs', h1, h2⟩ := hx i (by omega)
      obtain ⟨q, rfl⟩ := cell_cs h2
      exact ⟨q, h1⟩)
    have hlen : ((List.range len).map f).length = len := by simp
    refine ⟨_, (List.range len).map f, hcs, ⟨some x, cap, by rw [hlen], by rw [hlen]; exact hl, (fun h => by cases h), ?_⟩, by rw [hlen]; omega⟩
    by_cases h0 : len = 0
    · left; subst h0; rfl
    · right
      have hc : ∀ i, i < len → ∀ k, k < 7 → w.cell? ((x.add (i * 7)).add k) = (ceL (f i))[k]? := fun i hi k hk => by
        obtain ⟨_, hl7, hcell⟩ := World.cells?_some (hfc i hi)
        exact hcell k hk
      obtain ⟨b, off, spot⟩ := x
      have h1 := hc 0 (by omega) 0 (by decide)
      have hspot : spot = none := by
        have h1' : w.cell? ((⟨b, off, spot⟩ : Addr).add 0) = some (.int .i64 (f 0).rune) := by simpa [Addr.add, ceL] using h1
        simpa [Addr.add] using World.cell?_spot h1'
      subst hspot
      refine ⟨b, off, rfl, ?_, fun i hi => ?_⟩
      · have h1' : w.cell? ((⟨b, off, none⟩ : Addr).add 0) = some (.int .i64 (f 0).rune) := by simpa [Addr.add, ceL] using h1
        exact World.block_lt_of_cell? w _ h1'
      · rw [hlen] at hi
        have ef : atC ((List.range len).map f) i = f i := by simp [atC, hi]
        rw [ef]
        have g := fun k hk => hc i hi k hk
        have ea : ∀ k, (((⟨b, off, none⟩ : Addr).add (i * 7)).add k) = ⟨b, off + i * 7 + k, none⟩ := fun k => by rw [Addr.add_mid, Addr.add_mid]
        simp only [ea] at g
        exact ⟨by simpa [ceL] using g 0 (by decide), by simpa [ceL] using g 1 (by decide), by simpa [ceL] using g 2 (by decide), by simpa [ceL] using g 3 (by decide), by simpa [ceL] using g 4 (by decide), by simpa [ceL] using g 5 (by decide), by simpa [ceL] using g 6 (by decide)⟩
set_option maxRecDepth 20000 in
theorem rows_tr {fuel : Nat} {cs : List Value} {y : DataW H × List MemPlace} (hf : DataW.trod enc Tryz.prog w base spare held fuel 47 cs = some y) :
    ∃ (v : Value) (rows : List (List Ce)), cs = [v] ∧ SlG w v rows ∧ rows.length ≤ maxLen ∧ ∀ i, i < rows.length → (rowX rows i).length ≤ maxLen := by
  have e : Tryz.prog.cellsOf 159 = 1 := by kernel_rfl
  rcases Go.Deep.open_slice1 Tryz.underlying47 e hf with ⟨hcs, _⟩ | ⟨x, len, cap, m, n, V, D, Pl, hcs, _, hl, hm, hmm, _, hx⟩
  · exact ⟨_, [], hcs, ⟨none, 0, [], rfl, Nat.le_refl _, fun _ => rfl, .inl rfl, fun i h => absurd h (Nat.not_lt_zero i)⟩, by simp, fun i h => absurd h (Nat.not_lt_zero i)⟩
  · have hlm : len ≤ m := by rw [hmm]; split <;> omega
    obtain ⟨f, hfc⟩ := Go.Deep.choose_lt (α := List Ce) (n := len) (p := fun i xs => SlC w (V i) xs ∧ xs.length ≤ maxLen) (fun i hi => by
      obtain ⟨h1, h2⟩ := hx i (by omega)
      obtain ⟨v, xs, hv, hs, hle⟩ := cells_tr h2
      simp at hv
      subst hv
      exact ⟨xs, hs, hle⟩)
    have hlen : ((List.range len).map f).length = len := by simp
    have hvl : ((List.range len).map V).length = len := by simp
    have hX : ∀ i, i < len → rowX ((List.range len).map f) i = f i := fun i hi => by simp [rowX, List.getD, hi]
    have hV : ∀ i, i < len → rowV ((List.range len).map V) i = V i := fun i hi => by simp [rowV, List.getD, hi]
    refine ⟨_, (List.range len).map f, hcs, ⟨some x, cap, (List.range len).map V, by rw [hlen], by rw [hlen]; exact hl, (fun h => by cases h), ?_, fun i hi => ?_⟩, by rw [hlen]; omega, fun i hi => ?_⟩
    · by_cases h0 : len = 0
      · left; subst h0; rfl
      · right
        obtain ⟨b, off, spot⟩ := x
        have h1 := (hx 0 (by omega)).1
        have h1c : w.cell? ⟨b, off, spot⟩ = some (V 0) := by
          have : (⟨b, off, spot⟩ : Addr).add 0 = ⟨b, off, spot⟩ := by unfold Addr.add; split <;> simp_all
          rwa [this] at h1
        have hspot : spot = none := World.cell?_spot h1c
        subst hspot
        refine ⟨b, off, rfl, World.block_lt_of_cell? w _ h1c, fun i hi => ?_⟩
        rw [hlen] at hi
        rw [hV i hi, ← (hx i (by omega)).1, Addr.add_mid]
    · rw [hlen] at hi
      rw [hV i hi, hX i hi]
      exact (hfc i hi).1
    · rw [hlen] at hi
      rw [hX i hi]
      exact (hfc i hi).2
end
end Go.Proofs.YtlmnhlfklbgjdaaGreatDoor
namespace Go.Proofs.YtlmnhlfklbgjdaaGreatDoor
structure Pa where
  state : Int
  params : List Int
  mark : Int
  text : List Int
structure Ac where
  kind : Int
  rune : Int
  params : List Int
  mark : Int
  text : List Int
def st0 (s : Int) : Pa := ⟨s, [], 0, []⟩
def one0 (ps : List Int) : List Int := if ps.length = 0 then [0] else ps
def digitP (ps : List Int) (d : Int) : List Int := (one0 ps).set ((one0 ps).length - 1) (min 9999 (10 * (one0 ps).getD ((one0 ps).length - 1) 0 + d))
def semiP (ps : List Int) : List Int := if (one0 ps).length < 16 then one0 ps ++ [0] else one0 ps
def acR (k r : Int) : Ac := ⟨k, r, [], 0, []⟩
def escM (r : Int) : Pa × List Ac :=
  if r = 91 then (st0 3, []) else if r = 93 then (st0 4, []) else if 48 ≤ r ∧ r ≤ 126 then (st0 1, [acR 3 r]) else (st0 1, [])
/-- Whether a list takes a rune in. -/
def takes (ps : List Int) (m r : Int) : Bool := decide (r = 63 ∧ ps.length = 0 ∧ m = 0 ∨ 48 ≤ r ∧ r ≤ 57 ∨ r = 59)
def takenP (p : Pa) (r : Int) : Pa :=
  if r = 63 ∧ p.params.length = 0 ∧ p.mark = 0 then ⟨p.state, p.params, 63, p.text⟩
  else if 48 ≤ r ∧ r ≤ 57 then ⟨p.state, digitP p.params (r - 48), p.mark, p.text⟩
  else ⟨p.state, semiP p.params, p.mark, p.text⟩
def listM (p : Pa) (r : Int) : Pa × List Ac :=
  if takes p.params p.mark r = true then (takenP p r, [])
  else if 64 ≤ r ∧ r ≤ 126 then (st0 1, [⟨4, r, p.params, p.mark, []⟩]) else (st0 1, [])
def titleM (p : Pa) (r : Int) : Pa × List Ac :=
  if r = 7 then (st0 1, [⟨5, 0, [], 0, p.text⟩])
  else if r = 27 then (⟨5, p.params, p.mark, p.text⟩, [])
  else if p.text.length < 40 then (⟨p.state, p.params, p.mark, p.text ++ [r]⟩, []) else (p, [])
def endM (p : Pa) (r : Int) : Pa × List Ac := if r = 92 then (st0 1, [⟨5, 0, [], 0, p.text⟩]) else (st0 1, [])
/-- A control that leaves the state as it is. -/
def stays (r : Int) : Bool := decide ((r < 32 ∨ r = 127) ∧ r ≠ -1 ∧ r ≠ 24 ∧ r ≠ 26 ∧ r ≠ 27)
def stepM (p : Pa) (r : Int) : Pa × List Ac :=
  if p.state = 4 then titleM p r
  else if p.state = 5 then endM p r
  else if r = 27 then (st0 2, [])
  else if r = 24 ∨ r = 26 then (st0 1, [])
  else if r < 32 ∨ r = 127 then (p, [acR 2 r])
  else if p.state = 2 then escM r
  else if p.state = 3 then listM p r
  else if 0 < widthV r then (p, [acR 1 r]) else (p, [])
def parsedM : Pa → List Int → Pa × List Ac
  | p, [] => (p, [])
  | p, r :: l => ((parsedM (stepM p r).1 l).1, (stepM p r).2 ++ (parsedM (stepM p r).1 l).2)
/-- What comes of a parser, of what is left and of what was told. -/
def Fin (p : Pa) (l : List Int) (t : List Ac) : Pa × List Ac := ((parsedM p l).1, t ++ (parsedM p l).2)
theorem Fin_cons (p : Pa) (r : Int) (l : List Int) (t : List Ac) : Fin p (r :: l) t = Fin (stepM p r).1 l (t ++ (stepM p r).2) := by simp [Fin, parsedM]
/-- Whether a list's numbers are all runes. -/
def runesB (l : List Int) : Bool := l.all runeOk
def paramsB (l : List Int) : Bool := l.all (fun x => decide (0 ≤ x ∧ x ≤ 9999))
def okV (p : Pa) : Bool := decide (1 ≤ p.state ∧ p.state ≤ 5 ∧ p.params.length ≤ 16 ∧ (p.mark = 0 ∨ p.mark = 63) ∧ p.text.length ≤ 40 ∧ (p.state = 3 ∨ p.params.length = 0 ∧ p.mark = 0) ∧ (4 ≤ p.state ∨ p.text.length = 0)) && runesB p.text && paramsB p.params
theorem runesB_at {l : List Int} (h : runesB l = true) (i : Nat) (hi : i < l.length) : runeOk (l.getD i 0) = true := by
  have : l.getD i 0 = l[i] := by simp [List.getD, hi]
  rw [this]; exact List.all_eq_true.1 h _ (List.getElem_mem hi)
theorem runesB_no {l : List Int} (i : Nat) (hi : i < l.length) (h : runeOk (l.getD i 0) = false) : runesB l = false := by
  rw [Bool.eq_false_iff]; intro hh
  rw [runesB_at hh i hi] at h; cases h
theorem runesB_yes {l : List Int} (h : ∀ i, i < l.length → runeOk (l.getD i 0) = true) : runesB l = true := by
  refine List.all_eq_true.2 fun x hx => ?_
  obtain ⟨i, hi, rfl⟩ := List.getElem_of_mem hx
  have := h i hi
  simpa [List.getD, hi] using this
theorem paramsB_at {l : List Int} (h : paramsB l = true) (i : Nat) (hi : i < l.length) : 0 ≤ l.getD i 0 ∧ l.getD i 0 ≤ 9999 := by
  have : l.getD i 0 = l[i] := by simp [List.getD, hi]
  rw [this]; exact of_decide_eq_true (List.all_eq_true.1 h _ (List.getElem_mem hi))
theorem paramsB_no {l : List Int} (i : Nat) (hi : i < l.length) (h : ¬ (0 ≤ l.getD i 0 ∧ l.getD i 0 ≤ 9999)) : paramsB l = false := by
  rw [Bool.eq_false_iff]; intro hh
  exact h (paramsB_at hh i hi)
theorem paramsB_yes {l : List Int} (h : ∀ i, i < l.length → 0 ≤ l.getD i 0 ∧ l.getD i 0 ≤ 9999) : paramsB l = true := by
  refine List.all_eq_true.2 fun x hx => decide_eq_true ?_
  obtain ⟨i, hi, rfl⟩ := List.getElem_of_mem hx
  have := h i hi
  simpa [List.getD, hi] using this
end Go.Proofs.YtlmnhlfklbgjdaaGreatDoor
namespace Go.Proofs.YtlmnhlfklbgjdaaGreatDoor
open Go.ChangeShapes Go.WideShapes Go.ChangeAt Go.RowKit
theorem own_low' {w : World} {base base' : Nat} {e : TypeId} {size : Nat} {v : Value} {n : Nat} {xs : List Value} (h : w.ownsRow base e size v n xs) (hb : base' ≤ base) : w.ownsRow base' e size v n xs := by
  refine ⟨h.1, ?_⟩
  rcases h.2 with h2 | ⟨g, cap, cur, hv, hbg, r⟩
  · exact .inl h2
  · exact .inr ⟨g, cap, cur, hv, Nat.le_trans hb hbg, r⟩
/-- A list of numbers of this call's own. -/
def OwnI (w : World) (base : Nat) (v : Value) (xs : List Int) : Prop := w.ownsRow base 2 1 v xs.length (xs.map (Value.int .i64))
theorem OwnI.below {w w' : World} {base : Nat} {v : Value} {xs : List Int} (h : OwnI w base v xs) (hb : Below w.heap.size w w') : OwnI w' base v xs := World.ownsRow.below h hb
theorem OwnI.kept {w w' : World} {base : Nat} {v : Value} {xs : List Int} {row : Option Nat} (h : OwnI w base v xs) (hg : w.grownBy w' row) (hne : v.ownBlock = none ∨ v.ownBlock ≠ row) : OwnI w' base v xs := World.ownsRow.kept (show w.ownsRow _ _ _ _ _ _ from h) hg hne
theorem OwnI.low {w : World} {base base' : Nat} {v : Value} {xs : List Int} (h : OwnI w base v xs) (hb : base' ≤ base) : OwnI w base' v xs := own_low' h hb
theorem OwnI.lt {w : World} {base : Nat} {v : Value} {xs : List Int} (h : OwnI w base v xs) : ∀ g, v.ownBlock = some g → base ≤ g ∧ g < w.heap.size := fun g e => World.ownsRow.lt h g e
theorem OwnI.sl {w : World} {base : Nat} {v : Value} {xs : List Int} (h : OwnI w base v xs) : SlI w v xs := SlI.of_own h
theorem OwnI.shape {w : World} {base : Nat} {v : Value} {xs : List Int} (h : OwnI w base v xs) : ∃ a n c, v = .slice a n c := by
  obtain ⟨a, c, hv, _⟩ := h.sl
  exact ⟨a, _, c, hv⟩
/-- Two slices over no common block. -/
def ApV (u v : Value) : Prop := ∀ g, u.ownBlock = some g → v.ownBlock ≠ some g
theorem ApV.symm {u v : Value} (h : ApV u v) : ApV v u := fun g e1 e2 => h g e2 e1
/-- Lists of numbers of this call's own, no two over one block. -/
def LiOk (w : World) (base : Nat) (L : List (Value × List Int)) : Prop := (∀ p ∈ L, OwnI w base p.1 p.2) ∧ L.Pairwise fun p q => ApV p.1 q.1
theorem LiOk.below {w w' : World} {base : Nat} {L : List (Value × List Int)} (h : LiOk w base L) (hb : Below w.heap.size w w') : LiOk w' base L := ⟨fun p hp => (h.1 p hp).below hb, h.2⟩
theorem LiOk.low {w : World} {base base' : Nat} {L : List (Value × List Int)} (h : LiOk w base L) (hb : base' ≤ base) : LiOk w base' L := ⟨fun p hp => (h.1 p hp).low hb, h.2⟩
theorem LiOk.perm {w : World} {base : Nat} {L M : List (Value × List Int)} (h : LiOk w base L) (hp : L.Perm M) : LiOk w base M :=
  ⟨fun _ hm => h.1 _ (hp.mem_iff.2 hm), (hp.pairwise_iff (fun {_ _} h => ApV.symm h)).1 h.2⟩
theorem LiOk.sub {w : World} {base : Nat} {L M : List (Value × List Int)} (h : LiOk w base L) (hp : M.Sublist L) : LiOk w base M :=
  ⟨fun _ hm => h.1 _ (hp.subset hm), h.2.sublist hp⟩
theorem LiOk.nil (w : World) (base : Nat) : LiOk w base [] := ⟨fun _ h => absurd h (List.not_mem_nil), List.Pairwise.nil⟩
theorem LiOk.tail {w : World} {base : Nat} {x : Value × List Int} {L : List (Value × List Int)} (h : LiOk w base (x :: L)) : LiOk w base L := h.sub (List.sublist_cons_self _ _)
theorem LiOk.head {w : World} {base : Nat} {x : Value × List Int} {L : List (Value × List Int)} (h : LiOk w base (x :: L)) : OwnI w base x.1 x.2 := h.1 x (List.mem_cons_self)
/-- One list more, over a block that is new. -/
theorem LiOk.new {w w' : World} {base : Nat} {L : List (Value × List Int)} (h : LiOk w base L) (hb : Below w.heap.size w w') {v : Value} {xs : List Int} (ho : OwnI w' base v xs) (hn : ∀ g, v.ownBlock = some g → w.heap.size ≤ g) : LiOk w' base ((v, xs) :: L) :=
  ⟨fun p hp => by
    rcases List.mem_cons.1 hp with rfl | hp
    · exact ho
    · exact (h.1 p hp).below hb, List.Pairwise.cons (fun q hq g e1 e2 => by have := hn g e1; have := ((h.1 q hq).lt g e2).2; omega) h.2⟩
/-- What is not among them changes. -/
theorem LiOk.kept {w w' : World} {base : Nat} {L : List (Value × List Int)} {row : Option Nat} (h : LiOk w base L) (hg : w.grownBy w' row) (hne : ∀ p ∈ L, p.1.ownBlock = none ∨ p.1.ownBlock ≠ row) : LiOk w' base L :=
  ⟨fun p hp => (h.1 p hp).kept hg (hne p hp), h.2⟩
/-- No list of numbers lies in a block of another kind. -/
theorem OwnI.not_block {w : World} {base : Nat} {v : Value} {xs : List Int} (h : OwnI w base v xs) {B : Nat} {cs : Array Value} {t : TypeId} {fr : Nat × Nat} (hB : w.heap[B]? = some (.cells cs t fr)) (ht : t ≠ 2) : v.ownBlock ≠ some B := by
  intro e
  rcases h.2 with ⟨hv, _⟩ | ⟨g, cap, cur, hv, _, hg, _⟩
  · rw [hv] at e; simp [Value.ownBlock] at e
  · rw [hv] at e
    simp only [Value.ownBlock, Option.some.injEq] at e
    subst e
    rw [hB] at hg
    simp only [Option.some.injEq, Obj.cells.injEq] at hg
    exact ht hg.2.1

/-- An action with the values of its lists. -/
structure Ax where
  a : Ac
  pv : Value
  tv : Value
def axC (x : Ax) : List Value := [.int .i64 x.a.kind, .int .i64 x.a.rune, x.pv, .int .i64 x.a.mark, x.tv]
def axL (x : Ax) : List (Value × List Int) := [(x.pv, x.a.params), (x.tv, x.a.text)]
/-- A list of actions of this call's own: its row alone. -/
def OwnX (w : World) (base : Nat) (v : Value) (X : List Ax) : Prop := w.ownsRow base 129 5 v X.length (X.flatMap axC)
theorem OwnX.below {w w' : World} {base : Nat} {v : Value} {X : List Ax} (h : OwnX w base v X) (hb : Below w.heap.size w w') : OwnX w' base v X := World.ownsRow.below h hb
theorem OwnX.kept {w w' : World} {base : Nat} {v : Value} {X : List Ax} {row : Option Nat} (h : OwnX w base v X) (hg : w.grownBy w' row) (hne : v.ownBlock = none ∨ v.ownBlock ≠ row) : OwnX w' base v X := World.ownsRow.kept (show w.ownsRow _ _ _ _ _ _ from h) hg hne
theorem OwnX.low {w : World} {base base' : Nat} {v : Value} {X : List Ax} (h : OwnX w base v X) (hb : base' ≤ base) : OwnX w base' v X := own_low' h hb
theorem OwnX.lt {w : World} {base : Nat} {v : Value} {X : List Ax} (h : OwnX w base v X) : ∀ g, v.ownBlock = some g → base ≤ g ∧ g < w.heap.size := fun g e => World.ownsRow.lt h g e
theorem OwnX.shape {w : World} {base : Nat} {v : Value} {X : List Ax} (h : OwnX w base v X) : ∃ a c, v = .slice a X.length c := by
  rcases h.2 with ⟨hv, hn⟩ | ⟨g, cap, cur, hv, _⟩
  · exact ⟨none, 0, by rw [hv, hn]⟩
  · exact ⟨_, cap, hv⟩
theorem OwnX.not_block {w : World} {base : Nat} {v : Value} {X : List Ax} (h : OwnX w base v X) {B : Nat} {cs : Array Value} {t : TypeId} {fr : Nat × Nat} (hB : w.heap[B]? = some (.cells cs t fr)) (ht : t ≠ 129) : v.ownBlock ≠ some B := by
  intro e
  rcases h.2 with ⟨hv, _⟩ | ⟨g, cap, cur, hv, _, hg, _⟩
  · rw [hv] at e; simp [Value.ownBlock] at e
  · rw [hv] at e
    simp only [Value.ownBlock, Option.some.injEq] at e
    subst e
    rw [hB] at hg
    simp only [Option.some.injEq, Obj.cells.injEq] at hg
    exact ht hg.2.1
/-- The lists of actions, one behind the other. -/
def axLs (X : List Ax) : List (Value × List Int) := X.flatMap axL
/-- A parser's and actions' memory of this call's own. -/
def AnsOk (w : World) (base : Nat) (pv tv : Value) (p : Pa) (av : Value) (A : List Ac) : Prop :=
  ∃ X : List Ax, X.map (·.a) = A ∧ OwnX w base av X ∧ LiOk w base ((pv, p.params) :: (tv, p.text) :: axLs X)
theorem AnsOk.below {w w' : World} {base : Nat} {pv tv av : Value} {p : Pa} {A : List Ac} (h : AnsOk w base pv tv p av A) (hb : Below w.heap.size w w') : AnsOk w' base pv tv p av A := by
  obtain ⟨X, h1, h2, h3⟩ := h
  exact ⟨X, h1, h2.below hb, h3.below hb⟩
theorem AnsOk.low {w : World} {base base' : Nat} {pv tv av : Value} {p : Pa} {A : List Ac} (h : AnsOk w base pv tv p av A) (hb : base' ≤ base) : AnsOk w base' pv tv p av A := by
  obtain ⟨X, h1, h2, h3⟩ := h
  exact ⟨X, h1, h2.low hb, h3.low hb⟩
/-- A parser in a block of its own. -/
def paV (p : Pa) (pv tv : Value) : Value := .agg #[.int .i64 p.state, pv, .int .i64 p.mark, tv]
def PaC (w : World) (B : Nat) (s : Int) (pv : Value) (m : Int) (tv : Value) : Prop :=
  B < w.heap.size ∧ (w.cell? ⟨B, 0, none⟩ = some (.int .i64 s) ∧ w.cell? ⟨B, 1, none⟩ = some pv ∧ w.cell? ⟨B, 2, none⟩ = some (.int .i64 m) ∧ w.cell? ⟨B, 3, none⟩ = some tv) ∧
    (w.frozen? ⟨B, 0, none⟩ = false ∧ w.frozen? ⟨B, 1, none⟩ = false ∧ w.frozen? ⟨B, 2, none⟩ = false ∧ w.frozen? ⟨B, 3, none⟩ = false)
theorem PaC.grown {w w' : World} {B : Nat} {s m : Int} {pv tv : Value} {row : Option Nat} (h : PaC w B s pv m tv) (hg : w.grownBy w' row) (hr : row ≠ some B) : PaC w' B s pv m tv := by
  have hb := hg.block B h.1 (Ne.symm hr)
  have hc : ∀ k, w'.cell? ⟨B, k, none⟩ = w.cell? ⟨B, k, none⟩ := fun k => World.cell?_of_block (w := w) hb
  have hz : ∀ k, w'.frozen? ⟨B, k, none⟩ = w.frozen? ⟨B, k, none⟩ := fun k => World.frozen?_of_block (w := w) hb
  refine ⟨Nat.lt_of_lt_of_le h.1 hg.size, ?_, ?_⟩
  · rw [hc, hc, hc, hc]; exact h.2.1
  · rw [hz, hz, hz, hz]; exact h.2.2
theorem PaC.below {w w' : World} {B : Nat} {s m : Int} {pv tv : Value} (h : PaC w B s pv m tv) (hb : Below w.heap.size w w') : PaC w' B s pv m tv := h.grown (gbl hb none) (by simp)
theorem PaC.new (w : World) (s m : Int) (pv tv : Value) (t : TypeId) : PaC (w.alloc (.cells #[.int .i64 s, pv, .int .i64 m, tv] t)) w.heap.size s pv m tv :=
  ⟨by simp, ⟨by simp [go_sem], by simp [go_sem], by simp [go_sem], by simp [go_sem]⟩, ⟨by simp [go_sem], by simp [go_sem], by simp [go_sem], by simp [go_sem]⟩⟩
end Go.Proofs.YtlmnhlfklbgjdaaGreatDoor
namespace Go.Proofs.YtlmnhlfklbgjdaaGreatDoor
open Go.ChangeShapes Go.WideShapes Go.ChangeAt Go.RowKit
theorem SlI.cons {w : World} {v : Value} {xs : List Int} (h : SlI w v xs) : ∃ a c, v = .slice a xs.length c ∧ ∀ j, j < xs.length → ∃ b off, a = some ⟨b, off, none⟩ ∧ w.cell? ⟨b, off + j, none⟩ = some (.int .i64 (xs.getD j 0)) := by
  obtain ⟨a, c, hv, h | ⟨b, off, ha, hlt, hc⟩⟩ := h
  · exact ⟨a, c, hv, fun j hj => by rw [h] at hj; simp at hj⟩
  · exact ⟨a, c, hv, fun j hj => ⟨b, off, ha, hc j hj⟩⟩
theorem SlI.shp {w : World} {v : Value} {xs : List Int} (h : SlI w v xs) : ∃ a c, v = .slice a xs.length c := by
  obtain ⟨a, c, hv, _⟩ := h
  exact ⟨a, c, hv⟩
set_option maxRecDepth 20000 in
set_option maxHeartbeats 1000000 in
theorem specRunes6_any (v : Value) (xs : List Int) (most : Nat) (w : World) (hv : SlI w v xs) (_hl : xs.length ≤ 1073741824) (_hm : most ≤ 1073741824) :
    Calls Tryz.prog 47 #[v, .int .i64 most] w fun e w' => e = .returned (.bool (decide (xs.length ≤ most) && runesB xs)) ∧ w' = w := by
  obtain ⟨a, c, rfl, hc⟩ := hv.cons
  clear hv
  by_cases h : most < xs.length
  · have hi : (most : Int) < (xs.length : Int) := by omega
    have hV : Hid ((decide (xs.length ≤ most) && runesB xs) = false) := by show _ = _; rw [decide_eq_false (by omega), Bool.false_and]
    clear hc
    go_enter Tryz.func47, Tryz.ntmps47
    go_wp2
    go_ret
    exact ⟨by rw [hV.out]; rfl, rfl⟩
  · have hi : ¬ (most : Int) < (xs.length : Int) := by omega
    have hV : Hid ((decide (xs.length ≤ most) && runesB xs) = runesB xs) := by show _ = _; rw [decide_eq_true (by omega), Bool.true_and]
    rw [hV.out]
    clear hV
    go_enter Tryz.func47, Tryz.ntmps47
    go_wp2
    go_loop [5] (fun i => ∃ j : Nat, i = .int .i64 j ∧ j ≤ xs.length ∧ Hid (∀ k, k < j → runeOk (xs.getD k 0) = true)) (fun i => xs.length - (intOf i).toNat)
    case atStart => exact ⟨0, rfl, Nat.zero_le _, (fun k hk => absurd hk (Nat.not_lt_zero k))⟩
    case round =>
      obtain ⟨j, rfl, hj, hall⟩ := hrel
      by_cases hlt : j < xs.length
      · have hji : (j : Int) < (xs.length : Int) := by omega
        have hj0 : (0 : Int) ≤ (j : Int) := by omega
        obtain ⟨b, off, rfl, hcj⟩ := hc j hlt
        have hno : runeOk (xs.getD j 0) = false → Hid (runesB xs = false) := fun h => runesB_no j hlt h
        have hstep : runeOk (xs.getD j 0) = true → Hid (∀ k, k < j + 1 → runeOk (xs.getD k 0) = true) := fun h => (show ∀ k, k < j + 1 → runeOk (xs.getD k 0) = true from fun k hk => by
          by_cases e : k = j
          · rw [e]; exact h
          · exact hall.out k (by omega))
        have hok := specRuneOk_any (xs.getD j 0) w
        clear hc hall
        generalize xs.getD j 0 = x at *
        generalize runeOk x = ok at *
        go_wp2_with fail
        refine hok.mono ?_
        rintro e w2 ⟨rfl, hw⟩
        subst hw
        clear hok
        cases ok
        · have hV := hno rfl
          clear hno hstep
          go_wp2
          go_ret
          exact ⟨by rw [hV.out]; rfl, rfl⟩
        · have hall2 := hstep rfl
          clear hno hstep
          go_wp2
          go_round
          case rel => exact ⟨j + 1, by go_num, by omega, hall2⟩
          case measure => simp [intOf]; omega
      · have hjn : j = xs.length := by omega
        have hji : ¬ (j : Int) < (xs.length : Int) := by omega
        have hV : Hid (runesB xs = true) := runesB_yes (by rw [← hjn]; exact hall.out)
        clear hc hall
        subst hjn
        go_wp2
        go_ret
        exact ⟨by rw [hV.out]; rfl, rfl⟩
set_option maxHeartbeats 4000000 in
set_option maxRecDepth 20000 in
theorem specParserOk_m0 (s : Int) (ps ts : List Int) (pv tv : Value) (w : World) (hp : SlI w pv ps) (ht : SlI w tv ts) (hpl : ps.length ≤ 1073741824) (htl : ts.length ≤ 1073741824)
    (h1a : 1 ≤ s) (h1b : s ≤ 5) (h2 : ps.length ≤ 16) (hrt : (decide (ts.length ≤ 40) && runesB ts) = true) :
    Calls Tryz.prog 48 #[paV ⟨s, ps, 0, ts⟩ pv tv] w fun e w' => e = .returned (.bool (paramsB ps && (decide (s = 3) || decide (ps.length = 0) && decide ((0 : Int) = 0)) && (decide (4 ≤ s) || decide (ts.length = 0)))) ∧ Below w.heap.size w w' := by
  have hb0 := bal' w (Obj.cells #[.int .i64 s, pv, .int .i64 0, tv] 31)
  have hP := PaC.new w s 0 pv tv 31
  have hp1 := hp.below hb0
  have ht1 := ht.below hb0
  have hR1 := specRunes6_any tv ts 40 _ ht1 htl (by decide)
  rw [hrt] at hR1
  obtain ⟨pa, pc, rfl, hpc⟩ := hp1.cons
  obtain ⟨ta, tc, rfl⟩ := ht1.shp
  have h2i : ¬ (16 : Int) < (ps.length : Int) := by omega
  obtain ⟨rv, hrv⟩ : ∃ rv, Hid (rv = (paramsB ps && (decide (s = 3) || decide (ps.length = 0) && decide ((0 : Int) = 0)) && (decide (4 ≤ s) || decide (ts.length = 0)))) := ⟨_, rfl⟩
  rw [← hrv.out]
  unfold paV
  obtain ⟨_, ⟨c0, c1, c2, c3⟩, _⟩ := id hP
  clear hP hp ht hp1 ht1 hrt hpl htl
  go_enter Tryz.func48, Tryz.ntmps48
  go_wp2_with (first | (go_at_call 45; refine (l1In_any _ _ _ _).mono ?_; rintro e w' ⟨rfl, rfl⟩) | (go_at_call 47; refine hR1.mono ?_; rintro e w' ⟨rfl, rfl⟩))
  clear hR1
  go_loop [3] (fun i => ∃ j : Nat, i = .int .i64 j ∧ j ≤ ps.length ∧ Hid (∀ k, k < j → 0 ≤ ps.getD k 0 ∧ ps.getD k 0 ≤ 9999)) (fun i => ps.length - (intOf i).toNat)
  case atStart => exact ⟨0, rfl, Nat.zero_le _, (fun k hk => absurd hk (Nat.not_lt_zero k))⟩
  case round =>
    obtain ⟨j, rfl, hj, hall⟩ := hrel
    by_cases hlt : j < ps.length
    · have hji : (j : Int) < (ps.length : Int) := by omega
      have hj0 : (0 : Int) ≤ (j : Int) := by omega
      obtain ⟨b, off, rfl, hcj⟩ := hpc j hlt
      have hno : ¬ (0 ≤ ps.getD j 0 ∧ ps.getD j 0 ≤ 9999) → Hid (paramsB ps = false) := fun h => paramsB_no j hlt h
      have hstep : (0 ≤ ps.getD j 0 ∧ ps.getD j 0 ≤ 9999) → Hid (∀ k, k < j + 1 → 0 ≤ ps.getD k 0 ∧ ps.getD k 0 ≤ 9999) := fun h => (show ∀ k, k < j + 1 → 0 ≤ ps.getD k 0 ∧ ps.getD k 0 ≤ 9999 from fun k hk => by
        by_cases e : k = j
        · rw [e]; exact h
        · exact hall.out k (by omega))
      have hin := fun W => l1In_any (ps.getD j 0) 0 9999 W
      clear hpc hall
      generalize ps.getD j 0 = x at *
      by_cases hx : 0 ≤ x ∧ x ≤ 9999
      · have hall2 := hstep hx
        rw [decide_eq_true hx] at hin
        clear hno hstep hx
        go_wp2_with (go_at_call 45; refine (hin _).mono ?_; rintro e w' ⟨rfl, rfl⟩)
        go_round
        case rel => exact ⟨j + 1, by go_num, by omega, hall2⟩
        case measure => simp [intOf]; omega
      · have hV : Hid (rv = false) := by show _ = _; rw [hrv.out, (hno hx).out, Bool.false_and, Bool.false_and]
        rw [decide_eq_false hx] at hin
        clear hno hstep hx
        go_wp2_with (go_at_call 45; refine (hin _).mono ?_; rintro e w' ⟨rfl, rfl⟩)
        go_ret
        exact ⟨by rw [hV.out]; rfl, hb0⟩
    · have hjn : j = ps.length := by omega
      have hji : ¬ (j : Int) < (ps.length : Int) := by omega
      have hV : Hid (paramsB ps = true) := paramsB_yes (by rw [← hjn]; exact hall.out)
      have hr1 : Hid (rv = ((decide (s = 3) || decide (ps.length = 0) && decide ((0 : Int) = 0)) && (decide (4 ≤ s) || decide (ts.length = 0)))) := by show _ = _; rw [hrv.out, hV.out, Bool.true_and]; try simp
      clear hpc hall hjn hrv hV
      generalize ps.length = np at *
      generalize ts.length = nt at *
      by_cases q1 : s = 3
      · subst q1
        by_cases q3 : nt = 0
        · subst q3
          have hv : Hid (rv = true) := by show _ = _; rw [hr1.out]; rfl
          clear hr1
          go_wp2
          go_ret
          exact ⟨by rw [hv.out]; first | rfl | simp [*], hb0⟩
        · have q3i : ((nt : Int) == 0) = false := by simp; omega
          have hv : Hid (rv = false) := by show _ = _; rw [hr1.out, decide_eq_false q3]; rfl
          clear hr1 q3
          go_wp2
          go_ret
          exact ⟨by rw [hv.out]; first | rfl | simp [*], hb0⟩
      · have q1i : (s == 3) = false := by simp [q1]
        have hr2 : Hid (rv = ((decide (np = 0) && decide ((0 : Int) = 0)) && (decide (4 ≤ s) || decide (nt = 0)))) := by show _ = _; rw [hr1.out, decide_eq_false q1, Bool.false_or]
        clear hr1 q1
        by_cases q2 : np = 0
        · subst q2
          by_cases q4 : 4 ≤ s
          · have hv : Hid (rv = decide ((0 : Int) = 0)) := by show _ = _; rw [hr2.out, decide_eq_true q4]; rfl
            clear hr2
            go_wp2
            go_ret
            exact ⟨by rw [hv.out]; first | rfl | simp [*], hb0⟩
          · have q4i : s < 4 := by omega
            have q4b : decide (4 ≤ s) = false := decide_eq_false q4
            by_cases q3 : nt = 0
            · subst q3
              have hv : Hid (rv = decide ((0 : Int) = 0)) := by show _ = _; rw [hr2.out, decide_eq_false q4]; rfl
              clear hr2 q4
              go_wp2
              go_ret
              exact ⟨by rw [hv.out]; first | rfl | simp [*], hb0⟩
            · have q3i : ((nt : Int) == 0) = false := by simp; omega
              have hv : Hid (rv = false) := by show _ = _; rw [hr2.out, decide_eq_false q4, decide_eq_false q3]; rfl
              clear hr2 q3 q4
              go_wp2
              go_ret
              exact ⟨by rw [hv.out]; first | rfl | simp [*], hb0⟩
        · have q2i : ((np : Int) == 0) = false := by simp; omega
          have hv : Hid (rv = false) := by show _ = _; rw [hr2.out, decide_eq_false q2]; rfl
          clear hr2 q2
          by_cases q4 : 4 ≤ s
          · go_wp2
            go_ret
            exact ⟨by rw [hv.out]; first | rfl | simp [*], hb0⟩
          · have q4i : s < 4 := by omega
            have q4b : decide (4 ≤ s) = false := decide_eq_false q4
            by_cases q3 : nt = 0
            · subst q3
              go_wp2
              go_ret
              exact ⟨by rw [hv.out]; first | rfl | simp [*], hb0⟩
            · have q3i : ((nt : Int) == 0) = false := by simp; omega
              clear q3
              go_wp2
              go_ret
              exact ⟨by rw [hv.out]; first | rfl | simp [*], hb0⟩
set_option maxHeartbeats 4000000 in
set_option maxRecDepth 20000 in
theorem specParserOk_m63 (s : Int) (ps ts : List Int) (pv tv : Value) (w : World) (hp : SlI w pv ps) (ht : SlI w tv ts) (hpl : ps.length ≤ 1073741824) (htl : ts.length ≤ 1073741824)
    (h1a : 1 ≤ s) (h1b : s ≤ 5) (h2 : ps.length ≤ 16) (hrt : (decide (ts.length ≤ 40) && runesB ts) = true) :
    Calls Tryz.prog 48 #[paV ⟨s, ps, 63, ts⟩ pv tv] w fun e w' => e = .returned (.bool (paramsB ps && (decide (s = 3) || decide (ps.length = 0) && decide ((63 : Int) = 0)) && (decide (4 ≤ s) || decide (ts.length = 0)))) ∧ Below w.heap.size w w' := by
  have hb0 := bal' w (Obj.cells #[.int .i64 s, pv, .int .i64 63, tv] 31)
  have hP := PaC.new w s 63 pv tv 31
  have hp1 := hp.below hb0
  have ht1 := ht.below hb0
  have hR1 := specRunes6_any tv ts 40 _ ht1 htl (by decide)
  rw [hrt] at hR1
  obtain ⟨pa, pc, rfl, hpc⟩ := hp1.cons
  obtain ⟨ta, tc, rfl⟩ := ht1.shp
  have h2i : ¬ (16 : Int) < (ps.length : Int) := by omega
  obtain ⟨rv, hrv⟩ : ∃ rv, Hid (rv = (paramsB ps && (decide (s = 3) || decide (ps.length = 0) && decide ((63 : Int) = 0)) && (decide (4 ≤ s) || decide (ts.length = 0)))) := ⟨_, rfl⟩
  rw [← hrv.out]
  unfold paV
  obtain ⟨_, ⟨c0, c1, c2, c3⟩, _⟩ := id hP
  clear hP hp ht hp1 ht1 hrt hpl htl
  go_enter Tryz.func48, Tryz.ntmps48
  go_wp2_with (first | (go_at_call 45; refine (l1In_any _ _ _ _).mono ?_; rintro e w' ⟨rfl, rfl⟩) | (go_at_call 47; refine hR1.mono ?_; rintro e w' ⟨rfl, rfl⟩))
  clear hR1
  go_loop [3] (fun i => ∃ j : Nat, i = .int .i64 j ∧ j ≤ ps.length ∧ Hid (∀ k, k < j → 0 ≤ ps.getD k 0 ∧ ps.getD k 0 ≤ 9999)) (fun i => ps.length - (intOf i).toNat)
  case atStart => exact ⟨0, rfl, Nat.zero_le _, (fun k hk => absurd hk (Nat.not_lt_zero k))⟩
  case round =>
    obtain ⟨j, rfl, hj, hall⟩ := hrel
    by_cases hlt : j < ps.length
    · have hji : (j : Int) < (ps.length : Int) := by omega
      have hj0 : (0 : Int) ≤ (j : Int) := by omega
      obtain ⟨b, off, rfl, hcj⟩ := hpc j hlt
      have hno : ¬ (0 ≤ ps.getD j 0 ∧ ps.getD j 0 ≤ 9999) → Hid (paramsB ps = false) := fun h => paramsB_no j hlt h
      have hstep : (0 ≤ ps.getD j 0 ∧ ps.getD j 0 ≤ 9999) → Hid (∀ k, k < j + 1 → 0 ≤ ps.getD k 0 ∧ ps.getD k 0 ≤ 9999) := fun h => (show ∀ k, k < j + 1 → 0 ≤ ps.getD k 0 ∧ ps.getD k 0 ≤ 9999 from fun k hk => by
        by_cases e : k = j
        · rw [e]; exact h
        · exact hall.out k (by omega))
      have hin := fun W => l1In_any (ps.getD j 0) 0 9999 W
      clear hpc hall
      generalize ps.getD j 0 = x at *
      by_cases hx : 0 ≤ x ∧ x ≤ 9999
      · have hall2 := hstep hx
        rw [decide_eq_true hx] at hin
        clear hno hstep hx
        go_wp2_with (go_at_call 45; refine (hin _).mono ?_; rintro e w' ⟨rfl, rfl⟩)
        go_round
        case rel => exact ⟨j + 1, by go_num, by omega, hall2⟩
        case measure => simp [intOf]; omega
      · have hV : Hid (rv = false) := by show _ = _; rw [hrv.out, (hno hx).out, Bool.false_and, Bool.false_and]
        rw [decide_eq_false hx] at hin
        clear hno hstep hx
        go_wp2_with (go_at_call 45; refine (hin _).mono ?_; rintro e w' ⟨rfl, rfl⟩)
        go_ret
        exact ⟨by rw [hV.out]; rfl, hb0⟩
    · have hjn : j = ps.length := by omega
      have hji : ¬ (j : Int) < (ps.length : Int) := by omega
      have hV : Hid (paramsB ps = true) := paramsB_yes (by rw [← hjn]; exact hall.out)
      have hr1 : Hid (rv = ((decide (s = 3) || decide (ps.length = 0) && decide ((63 : Int) = 0)) && (decide (4 ≤ s) || decide (ts.length = 0)))) := by show _ = _; rw [hrv.out, hV.out, Bool.true_and]; try simp
      clear hpc hall hjn hrv hV
      generalize ps.length = np at *
      generalize ts.length = nt at *
      by_cases q1 : s = 3
      · subst q1
        by_cases q3 : nt = 0
        · subst q3
          have hv : Hid (rv = true) := by show _ = _; rw [hr1.out]; rfl
          clear hr1
          go_wp2
          go_ret
          exact ⟨by rw [hv.out]; first | rfl | simp [*], hb0⟩
        · have q3i : ((nt : Int) == 0) = false := by simp; omega
          have hv : Hid (rv = false) := by show _ = _; rw [hr1.out, decide_eq_false q3]; rfl
          clear hr1 q3
          go_wp2
          go_ret
          exact ⟨by rw [hv.out]; first | rfl | simp [*], hb0⟩
      · have q1i : (s == 3) = false := by simp [q1]
        have hr2 : Hid (rv = ((decide (np = 0) && decide ((63 : Int) = 0)) && (decide (4 ≤ s) || decide (nt = 0)))) := by show _ = _; rw [hr1.out, decide_eq_false q1, Bool.false_or]
        clear hr1 q1
        by_cases q2 : np = 0
        · subst q2
          by_cases q4 : 4 ≤ s
          · have hv : Hid (rv = decide ((63 : Int) = 0)) := by show _ = _; rw [hr2.out, decide_eq_true q4]; rfl
            clear hr2
            go_wp2
            go_ret
            exact ⟨by rw [hv.out]; first | rfl | simp [*], hb0⟩
          · have q4i : s < 4 := by omega
            have q4b : decide (4 ≤ s) = false := decide_eq_false q4
            by_cases q3 : nt = 0
            · subst q3
              have hv : Hid (rv = decide ((63 : Int) = 0)) := by show _ = _; rw [hr2.out, decide_eq_false q4]; rfl
              clear hr2 q4
              go_wp2
              go_ret
              exact ⟨by rw [hv.out]; first | rfl | simp [*], hb0⟩
            · have q3i : ((nt : Int) == 0) = false := by simp; omega
              have hv : Hid (rv = false) := by show _ = _; rw [hr2.out, decide_eq_false q4, decide_eq_false q3]; rfl
              clear hr2 q3 q4
              go_wp2
              go_ret
              exact ⟨by rw [hv.out]; first | rfl | simp [*], hb0⟩
        · have q2i : ((np : Int) == 0) = false := by simp; omega
          have hv : Hid (rv = false) := by show _ = _; rw [hr2.out, decide_eq_false q2]; rfl
          clear hr2 q2
          by_cases q4 : 4 ≤ s
          · go_wp2
            go_ret
            exact ⟨by rw [hv.out]; first | rfl | simp [*], hb0⟩
          · have q4i : s < 4 := by omega
            have q4b : decide (4 ≤ s) = false := decide_eq_false q4
            by_cases q3 : nt = 0
            · subst q3
              go_wp2
              go_ret
              exact ⟨by rw [hv.out]; first | rfl | simp [*], hb0⟩
            · have q3i : ((nt : Int) == 0) = false := by simp; omega
              clear q3
              go_wp2
              go_ret
              exact ⟨by rw [hv.out]; first | rfl | simp [*], hb0⟩
set_option maxHeartbeats 4000000 in
set_option maxRecDepth 20000 in
theorem specParserOk_any (p : Pa) (pv tv : Value) (w : World) (hp : SlI w pv p.params) (ht : SlI w tv p.text) (hpl : p.params.length ≤ 1073741824) (htl : p.text.length ≤ 1073741824) :
    Calls Tryz.prog 48 #[paV p pv tv] w fun e w' => e = .returned (.bool (okV p)) ∧ Below w.heap.size w w' := by
  obtain ⟨s, ps, m, ts⟩ := p
  have hb0 := bal' w (Obj.cells #[.int .i64 s, pv, .int .i64 m, tv] 31)
  have hP := PaC.new w s m pv tv 31
  have hp1 := hp.below hb0
  have ht1 := ht.below hb0
  have hR := fun W h => specRunes6_any tv ts 40 W h htl (by decide)
  obtain ⟨pa, pc, rfl, hpc⟩ := hp1.cons
  obtain ⟨ta, tc, rfl⟩ := ht1.shp
  simp only at *
  have hval : ∀ b, b = (decide (1 ≤ s ∧ s ≤ 5) && decide (ps.length ≤ 16) && decide (m = 0 ∨ m = 63) && (decide (ts.length ≤ 40) && runesB ts) && paramsB ps && (decide (s = 3) || decide (ps.length = 0) && decide (m = 0)) && (decide (4 ≤ s) || decide (ts.length = 0))) → Hid (okV ⟨s, ps, m, ts⟩ = b) := fun b h => by
    show _ = _
    rw [h]
    unfold okV
    rw [Bool.eq_iff_iff]
    simp only [Bool.and_eq_true, Bool.or_eq_true, decide_eq_true_eq]
    constructor
    · rintro ⟨⟨⟨a1, a2, a3, a4, a5, a6, a7⟩, a8⟩, a9⟩; exact ⟨⟨⟨⟨⟨⟨⟨a1, a2⟩, a3⟩, a4⟩, a5, a8⟩, a9⟩, a6⟩, a7⟩
    · rintro ⟨⟨⟨⟨⟨⟨⟨a1, a2⟩, a3⟩, a4⟩, a5, a8⟩, a9⟩, a6⟩, a7⟩; exact ⟨⟨⟨a1, a2, a3, a4, a5, a6, a7⟩, a8⟩, a9⟩
  unfold paV at *
  obtain ⟨_, ⟨c0, c1, c2, c3⟩, _⟩ := id hP
  clear hP hp1
  have hR1 := hR _ ht1
  clear hR ht1
  generalize hrt0 : (decide (ts.length ≤ 40) && runesB ts) = rt at *
  by_cases h1 : 1 ≤ s ∧ s ≤ 5
  · obtain ⟨h1a, h1b⟩ := h1
    by_cases h2 : ps.length ≤ 16
    · have h2i : ¬ (16 : Int) < (ps.length : Int) := by omega
      by_cases h3 : m = 0 ∨ m = 63
      · have hm : ∃ x : Bool, (m != 0) = x := ⟨_, rfl⟩
        cases rt
        · have hV := hval false (by simp)
          clear hval hpc
          go_enter Tryz.func48, Tryz.ntmps48
          rcases h3 with rfl | rfl
          all_goals
            go_wp2_with (first | (go_at_call 45; refine (l1In_any _ _ _ _).mono ?_; rintro e w' ⟨rfl, rfl⟩) | (go_at_call 47; refine hR1.mono ?_; rintro e w' ⟨rfl, rfl⟩))
            go_ret
            exact ⟨by rw [hV.out]; rfl, hb0⟩
        · have hv2 : ∀ b, b = (paramsB ps && (decide (s = 3) || decide (ps.length = 0) && decide (m = 0)) && (decide (4 ≤ s) || decide (ts.length = 0))) → Hid (okV ⟨s, ps, m, ts⟩ = b) := fun b h => hval b (by rw [h, decide_eq_true (show 1 ≤ s ∧ s ≤ 5 from ⟨h1a, h1b⟩), decide_eq_true h2, decide_eq_true h3]; try simp)
          have hrt : (decide (ts.length ≤ 40) && runesB ts) = true := hrt0.symm ▸ rfl
          rcases h3 with rfl | rfl
          · exact (specParserOk_m0 s ps ts _ _ w hp ht hpl htl h1a h1b h2 hrt).mono fun _ _ ⟨he, hb⟩ => ⟨by rw [he, (hv2 _ rfl).out], hb⟩
          · exact (specParserOk_m63 s ps ts _ _ w hp ht hpl htl h1a h1b h2 hrt).mono fun _ _ ⟨he, hb⟩ => ⟨by rw [he, (hv2 _ rfl).out], hb⟩
      · have hV := hval false (by rw [decide_eq_false h3]; simp)
        have h3a : ¬ m = 0 := fun e => h3 (.inl e)
        have h3b : ¬ m = 63 := fun e => h3 (.inr e)
        clear hval hpc h3
        go_enter Tryz.func48, Tryz.ntmps48
        go_wp2_with (go_at_call 45; refine (l1In_any _ _ _ _).mono ?_; rintro e w' ⟨rfl, rfl⟩)
        all_goals go_ret
        exact ⟨by rw [hV.out]; rfl, hb0⟩
    · have h2i : (16 : Int) < (ps.length : Int) := by omega
      have hV := hval false (by rw [decide_eq_false h2]; simp)
      clear hval hpc
      go_enter Tryz.func48, Tryz.ntmps48
      go_wp2_with (go_at_call 45; refine (l1In_any _ _ _ _).mono ?_; rintro e w' ⟨rfl, rfl⟩)
      go_ret
      exact ⟨by rw [hV.out]; rfl, hb0⟩
  · have hV := hval false (by rw [decide_eq_false h1]; simp)
    have h1i : Hid ((decide (1 ≤ s ∧ s ≤ 5)) = false) := decide_eq_false h1
    clear hval hpc
    have hin := fun W => l1In_any s 1 5 W
    rw [h1i.out] at hin
    clear h1
    go_enter Tryz.func48, Tryz.ntmps48
    go_wp2_with (go_at_call 45; refine (hin _).mono ?_; rintro e w' ⟨rfl, rfl⟩)
    go_ret
    exact ⟨by rw [hV.out]; rfl, hb0⟩
end Go.Proofs.YtlmnhlfklbgjdaaGreatDoor
namespace Go.Proofs.YtlmnhlfklbgjdaaGreatDoor
open Go.ChangeShapes Go.WideShapes Go.ChangeAt Go.RowKit
/-- A slice that can be read and cut at its head. -/
def SlL (w : World) (v : Value) (xs : List Int) : Prop :=
  ∃ a c, v = .slice a xs.length c ∧ xs.length ≤ c ∧ (xs = [] ∨ ∃ b off, a = some ⟨b, off, none⟩ ∧ b < w.heap.size ∧ ∀ i, i < xs.length → w.cell? ⟨b, off + i, none⟩ = some (.int .i64 (xs.getD i 0)))
theorem SlL.sl {w : World} {v : Value} {xs : List Int} (h : SlL w v xs) : SlI w v xs := by
  obtain ⟨a, c, hv, _, hr⟩ := h
  exact ⟨a, c, hv, hr⟩
theorem SlL.below {w w' : World} {v : Value} {xs : List Int} (h : SlL w v xs) (hb : Below w.heap.size w w') : SlL w' v xs := by
  obtain ⟨a, c, hv, hc0, h | ⟨b, off, ha, hlt, hc⟩⟩ := h
  · exact ⟨a, c, hv, hc0, .inl h⟩
  · exact ⟨a, c, hv, hc0, .inr ⟨b, off, ha, Nat.lt_of_lt_of_le hlt hb.size, fun i hi => (hb.cell (p := ⟨b, off + i, none⟩) hlt).trans (hc i hi)⟩⟩
theorem SlL.of_own {w : World} {base : Nat} {v : Value} {xs : List Int} (h : OwnI w base v xs) : SlL w v xs := by
  rcases h.2 with ⟨rfl, h2⟩ | ⟨g, cap, cur, rfl, hb, hg, hn, hr⟩
  · exact ⟨none, 0, by rw [h2], by omega, .inl (List.eq_nil_of_length_eq_zero h2)⟩
  · refine ⟨_, cap, rfl, hn, .inr ⟨g, 0, rfl, (Array.getElem?_eq_some_iff.1 hg).1, fun i hi => ?_⟩⟩
    have := World.ownsRow.cellAt h i (by omega)
    rw [Nat.zero_add, this]
    simp [hi]
theorem SlL.tail {w : World} {a : Option Addr} {n c : Nat} {r : Int} {xs : List Int} (h : SlL w (.slice a n c) (r :: xs)) :
    ∃ b off, a = some ⟨b, off, none⟩ ∧ b < w.heap.size ∧ n = xs.length + 1 ∧ n ≤ c ∧ w.cell? ⟨b, off + 0, none⟩ = some (.int .i64 r) ∧ ∀ a' c', xs.length ≤ c' → (0 < xs.length → a' = some ⟨b, off + 1, none⟩) → SlL w (.slice a' xs.length c') xs := by
  obtain ⟨a0, c0, hv, hc0, h | ⟨b, off, ha, hlt, hc⟩⟩ := h
  · cases h
  · simp only [Value.slice.injEq] at hv
    obtain ⟨rfl, rfl, rfl⟩ := hv
    refine ⟨b, off, ha, hlt, rfl, hc0, by simpa using hc 0 (by simp), fun a' c' h1 h2 => ⟨a', c', rfl, h1, ?_⟩⟩
    by_cases h0 : xs = []
    · exact .inl h0
    · refine .inr ⟨b, off + 1, h2 (List.length_pos_iff.2 h0), hlt, fun i hi => ?_⟩
      have := hc (i + 1) (by simp; omega)
      rw [show off + 1 + i = off + (i + 1) by omega, this]
      simp
end Go.Proofs.YtlmnhlfklbgjdaaGreatDoor
namespace Go.Proofs.YtlmnhlfklbgjdaaGreatDoor
open Go.ChangeShapes Go.WideShapes Go.ChangeAt Go.RowKit
theorem info_i64 : (Tryz.prog.info? 2).map (fun i => (i.zero, i.size, i.bytes)) = some (some (.int .i64 0), 1, 8) := by kernel_rfl
set_option maxHeartbeats 400000 in
theorem toI_copy (v : Value) (xs : List Int) (w : World) (hv : SlI w v xs) (hl : xs.length ≤ 1073741824) :
    Calls Tryz.prog 58 #[v] w fun e w' => ∃ u, e = .returned u ∧ w'.ownsRow w.heap.size 2 1 u xs.length (xs.map (Value.int .i64)) ∧ Below w.heap.size w w' := by
  obtain ⟨i0, hi, hz0, hz1, hz2⟩ := info_parts info_i64
  obtain ⟨a, c, rfl, hc⟩ := hv
  generalize hn : xs.length = n at *
  go_enter Tryz.func58, Tryz.ntmps58
  go_wp2_with (refine wpList_make_full _ rfl _ _ 29 rfl w.heap.size 2 i0 (.int .i64 0) 1 Tryz.underlying29 hi hz0 hz1 .i64 .i64 (n : Int) (n : Int) n rfl rfl rfl rfl ?c1 ?c2 ?c3 ?_)
  case c1 => rw [hz2]; omega
  case c2 => unfold maxLen; omega
  case c3 => exact Nat.le_refl _
  intro w1 ho hg
  have hb1 : Below w.heap.size w w1 := (Below.refl _ _).grown hg (Nat.le_refl _) (fun k hk => by cases hk)
  clear hg
  go_wp2
  go_loopw [4] (fun i wr => ∃ (j : Nat) (ys : List Value), j ≤ n ∧ i = .int .i64 j ∧ wr.ownsRow w.heap.size 2 1 (.slice (some ⟨w.heap.size, 0, none⟩) n n) n ys ∧ ys.length = n ∧ (∀ t, t < j → ys[t]? = some (.int .i64 (xs.getD t 0))) ∧ Below w.heap.size w wr) (fun i _ => n - (intOf i).toNat)
  case atStart => exact ⟨0, _, Nat.zero_le _, rfl, ho, by simpa using ho.1, by simp, hb1⟩
  case round =>
    obtain ⟨j, ys, hj, rfl, ho, hyl, hys, hbel⟩ := hrel
    by_cases hlt : j < n
    · rcases hc with hc | ⟨b, off, rfl, hb, hc⟩
      · rw [hc] at hn; simp at hn; omega
      · have h0 : wr.cell? ⟨b, off + j, none⟩ = some (.int .i64 (xs.getD j 0)) := (hbel.cell (p := ⟨b, off + j, none⟩) hb).trans (hc j hlt)
        have h1 : ∃ u, wr.cell? ⟨w.heap.size, j, none⟩ = some u := by
          rw [ho.cellAt j (by omega)]; exact ⟨_, List.getElem?_eq_getElem (by omega)⟩
        obtain ⟨u, h1⟩ := h1
        have h2 := ho.frozenAt j
        obtain ⟨hst1, hst2⟩ := ho.stored j (.int .i64 (xs.getD j 0))
        have hy2 : ∀ t, t < j + 1 → (ys.set j (.int .i64 (xs.getD j 0)))[t]? = some (.int .i64 (xs.getD t 0)) := by
          intro t ht
          by_cases e : t = j
          · subst e; rw [List.getElem?_set_self (by omega)]
          · rw [List.getElem?_set_ne (by omega)]; exact hys t (by omega)
        clear ho hc hys
        generalize xs.getD j 0 = x at *
        have hbs := hbel.size
        go_wp2
        go_roundw
        case rel =>
          exact ⟨j + 1, ys.set j (.int .i64 x), by omega, by go_num, hst1, by simpa using hyl, hy2, hbel.grown hst2 hbs (fun k hk => by cases hk; exact Nat.le_refl _)⟩
        case measure => simp [intOf]; omega
    · have hjn : j = n := by omega
      subst hjn
      have hye : ys = xs.map (Value.int .i64) := by
        apply List.ext_getElem?
        intro i
        by_cases hi : i < j
        · rw [hys i hi]; simp [show i < xs.length by omega]
        · rw [List.getElem?_eq_none (by omega), List.getElem?_eq_none (by simp; omega)]
      go_wp2
      go_ret
      exact ⟨_, rfl, by rw [← hye]; exact ho, hbel⟩
end Go.Proofs.YtlmnhlfklbgjdaaGreatDoor
namespace Go.Proofs.YtlmnhlfklbgjdaaGreatDoor
open Go.ChangeShapes Go.WideShapes Go.ChangeAt Go.RowKit
def Runes6 (l : List Int) : Prop := ∀ x ∈ l, runeOk x = true
theorem Runes6.tail {l : List Int} (h : Runes6 l) : Runes6 l.tail := fun x hx => h x (List.mem_of_mem_tail hx)
theorem Runes6.head {r : Int} {l : List Int} (h : Runes6 (r :: l)) : 0 ≤ r ∧ r ≤ 1114111 := runeOk_bd r (h r (List.mem_cons_self))
def acs (X : List Ax) : List Ac := X.map (·.a)
/-- The rune that comes next, of which nothing is done yet. -/
def NextR (p q : Pa) (l l' : List Int) (X X' : List Ax) (r : Int) : Prop :=
  (r = -1 ∧ l' = [] ∧ Fin p l (acs X) = Fin q [] (acs X')) ∨ (0 ≤ r ∧ runeOk r = true ∧ l'.length < l.length ∧ Fin p l (acs X) = Fin q (r :: l') (acs X'))
def Room (l l' : List Int) (X X' : List Ax) (r : Int) : Prop := (r = -1 → X'.length + l'.length ≤ X.length + l.length) ∧ (r ≠ -1 → X'.length + l'.length < X.length + l.length) ∧ Runes6 l'
/-- One rune is done with, and the next one comes. -/
theorem NextR.go {p q q' : Pa} {l l' : List Int} {X X' Y : List Ax} {r : Int} (h : NextR p q l l' X X' r) (hR : Room l l' X X' r) (h1 : r ≠ -1) (hs : (stepM q r).1 = q') (ha : acs Y = acs X' ++ (stepM q r).2) (hY : Y.length ≤ X'.length + 1) :
    NextR p q' l l'.tail X Y (l'.headD (-1)) ∧ Room l l'.tail X Y (l'.headD (-1)) := by
  obtain ⟨_, hR2, hR3⟩ := hR
  have hR2 := hR2 h1
  rcases h with ⟨h, _⟩ | ⟨h0, hk, hlt, he⟩
  · exact absurd h h1
  · rw [Fin_cons, hs, ← ha] at he
    cases l' with
    | nil => exact ⟨.inl ⟨rfl, rfl, he⟩, fun _ => by simp at hR2 ⊢; omega, fun h => absurd rfl h, hR3⟩
    | cons a l' =>
      have hl : (a :: l').length = l'.length + 1 := rfl
      exact ⟨.inr ⟨hR3.head.1, hR3 a (List.mem_cons_self), by simp; omega, he⟩, fun _ => by simp at hR2 ⊢; omega, fun _ => by simp at hR2 ⊢; omega, hR3.tail⟩
theorem NextR.end {p q : Pa} {l l' : List Int} {X X' : List Ax} (h : NextR p q l l' X X' (-1)) : l' = [] ∧ Fin p l (acs X) = Fin q [] (acs X') := by
  rcases h with ⟨_, h⟩ | ⟨h0, _⟩
  · exact h
  · omega
theorem NextR.more {p q : Pa} {l l' : List Int} {X X' : List Ax} {r : Int} (h : NextR p q l l' X X' r) (hr : r ≠ -1) : 0 ≤ r ∧ runeOk r = true ∧ l'.length < l.length ∧ Fin p l (acs X) = Fin q (r :: l') (acs X') := by
  rcases h with ⟨h, _⟩ | h
  · exact absurd h hr
  · exact h
theorem NextR.trans {p q q2 : Pa} {l l' l2 : List Int} {X X' X2 : List Ax} {r r2 : Int} (h : NextR p q l l' X X' r) (hR : Room l l' X X' r) (h1 : r ≠ -1) {Y : List Ax} (hs : (stepM q r).1 = q2) (ha : acs Y = acs X' ++ (stepM q r).2) (hY : Y.length ≤ X'.length + 1) {q3 : Pa}
    (k : NextR q2 q3 l' l2 Y X2 r2) (kR : Room l' l2 Y X2 r2) : NextR p q3 l l2 X X2 r2 ∧ Room l l2 X X2 r2 := by
  obtain ⟨h0, hk, hlt, he⟩ := h.more h1
  rw [Fin_cons, hs, ← ha] at he
  obtain ⟨_, hR2, hR3⟩ := hR
  have hR2 := hR2 h1
  obtain ⟨k1, k2, k3⟩ := kR
  refine ⟨?_, fun e => by have := k1 e; omega, fun e => by have := k2 e; omega, k3⟩
  rcases k with ⟨a, b, c⟩ | ⟨a, b, c, d⟩
  · exact .inl ⟨a, b, he.trans c⟩
  · exact .inr ⟨a, b, by omega, he.trans d⟩
end Go.Proofs.YtlmnhlfklbgjdaaGreatDoor
namespace Go.Proofs.YtlmnhlfklbgjdaaGreatDoor
open Go.ChangeShapes Go.WideShapes Go.ChangeAt Go.RowKit
section
variable {P : Program} {a : Act} {w : World} {Q : Exit → Act → World → Prop}
end
theorem cons_of_len {l : List Value} {n : Nat} (h : l.length = n + 1) : ∃ u l', l = u :: l' ∧ l'.length = n := by
  cases l with
  | nil => simp at h
  | cons u l => exact ⟨u, l, rfl, by simpa using h⟩
def FrameOk (B : Nat) (a : Act) : Prop := a.defers = [] ∧ a.tmps.size = 106 ∧ a.tmps[0]? = some (.pointer (some ⟨B, 0, none⟩))
set_option maxRecDepth 20000 in
theorem FrameOk.elim {B : Nat} {a : Act} {C : Act → Prop} (h : FrameOk B a) (k : ∀ u1 u2 u3 u4 u5 u6 u7 u8 u9 u10 u11 u12 u13 u14 u15 u16 u17 u18 u19 u20 u21 u22 u23 u24 u25 u26 u27 u28 u29 u30 u31 u32 u33 u34 u35 u36 u37 u38 u39 u40 u41 u42 u43 u44 u45 u46 u47 u48 u49 u50 u51 u52 u53 u54 u55 u56 u57 u58 u59 u60 u61 u62 u63 u64 u65 u66 u67 u68 u69 u70 u71 u72 u73 u74 u75 u76 u77 u78 u79 u80 u81 u82 u83 u84 u85 u86 u87 u88 u89 u90 u91 u92 u93 u94 u95 u96 u97 u98 u99 u100 u101 u102 u103 u104 u105, C { tmps := #[.pointer (some ⟨B, 0, none⟩), u1, u2, u3, u4, u5, u6, u7, u8, u9, u10, u11, u12, u13, u14, u15, u16, u17, u18, u19, u20, u21, u22, u23, u24, u25, u26, u27, u28, u29, u30, u31, u32, u33, u34, u35, u36, u37, u38, u39, u40, u41, u42, u43, u44, u45, u46, u47, u48, u49, u50, u51, u52, u53, u54, u55, u56, u57, u58, u59, u60, u61, u62, u63, u64, u65, u66, u67, u68, u69, u70, u71, u72, u73, u74, u75, u76, u77, u78, u79, u80, u81, u82, u83, u84, u85, u86, u87, u88, u89, u90, u91, u92, u93, u94, u95, u96, u97, u98, u99, u100, u101, u102, u103, u104, u105], defers := [] }) : C a := by
  obtain ⟨t, d⟩ := a
  obtain ⟨h1, h2, h3⟩ := h
  simp only at h1 h2 h3
  subst h1
  obtain ⟨l⟩ := t
  have hh : l.length = 105 + 1 := by simpa using h2
  obtain ⟨u0, l0, rfl, h0⟩ := cons_of_len hh
  have e0 : u0 = .pointer (some ⟨B, 0, none⟩) := by simpa using h3
  subst e0
  clear h2 h3 hh
  obtain ⟨u1, l1, rfl, h1⟩ := cons_of_len h0
  obtain ⟨u2, l2, rfl, h2⟩ := cons_of_len h1
  obtain ⟨u3, l3, rfl, h3⟩ := cons_of_len h2
  obtain ⟨u4, l4, rfl, h4⟩ := cons_of_len h3
  obtain ⟨u5, l5, rfl, h5⟩ := cons_of_len h4
  obtain ⟨u6, l6, rfl, h6⟩ := cons_of_len h5
  obtain ⟨u7, l7, rfl, h7⟩ := cons_of_len h6
  obtain ⟨u8, l8, rfl, h8⟩ := cons_of_len h7
  obtain ⟨u9, l9, rfl, h9⟩ := cons_of_len h8
  obtain ⟨u10, l10, rfl, h10⟩ := cons_of_len h9
  obtain ⟨u11, l11, rfl, h11⟩ := cons_of_len h10
  obtain ⟨u12, l12, rfl, h12⟩ := cons_of_len h11
  obtain ⟨u13, l13, rfl, h13⟩ := cons_of_len h12
  obtain ⟨u14, l14, rfl, h14⟩ := cons_of_len h13
  obtain ⟨u15, l15, rfl, h15⟩ := cons_of_len h14
  obtain ⟨u16, l16, rfl, h16⟩ := cons_of_len h15
  obtain ⟨u17, l17, rfl, h17⟩ := cons_of_len h16
  obtain ⟨u18, l18, rfl, h18⟩ := cons_of_len h17
  obtain ⟨u19, l19, rfl, h19⟩ := cons_of_len h18
  obtain ⟨u20, l20, rfl, h20⟩ := cons_of_len h19
  obtain ⟨u21, l21, rfl, h21⟩ := cons_of_len h20
  obtain ⟨u22, l22, rfl, h22⟩ := cons_of_len h21
  obtain ⟨u23, l23, rfl, h23⟩ := cons_of_len h22
  obtain ⟨u24, l24, rfl, h24⟩ := cons_of_len h23
  obtain ⟨u25, l25, rfl, h25⟩ := cons_of_len h24
  obtain ⟨u26, l26, rfl, h26⟩ := cons_of_len h25
  obtain ⟨u27, l27, rfl, h27⟩ := cons_of_len h26
  obtain ⟨u28, l28, rfl, h28⟩ := cons_of_len h27
  obtain ⟨u29, l29, rfl, h29⟩ := cons_of_len h28
  obtain ⟨u30, l30, rfl, h30⟩ := cons_of_len h29
  obtain ⟨u31, l31, rfl, h31⟩ := cons_of_len h30
  obtain ⟨u32, l32, rfl, h32⟩ := cons_of_len h31
  obtain ⟨u33, l33, rfl, h33⟩ := cons_of_len h32
  obtain ⟨u34, l34, rfl, h34⟩ := cons_of_len h33
  obtain ⟨u35, l35, rfl, h35⟩ := cons_of_len h34
  obtain ⟨u36, l36, rfl, h36⟩ := cons_of_len h35
  obtain ⟨u37, l37, rfl, h37⟩ := cons_of_len h36
  obtain ⟨u38, l38, rfl, h38⟩ := cons_of_len h37
  obtain ⟨u39, l39, rfl, h39⟩ := cons_of_len h38
  obtain ⟨u40, l40, rfl, h40⟩ := cons_of_len h39
  obtain ⟨u41, l41, rfl, h41⟩ := cons_of_len h40
  obtain ⟨u42, l42, rfl, h42⟩ := cons_of_len h41
  obtain ⟨u43, l43, rfl, h43⟩ := cons_of_len h42
  obtain ⟨u44, l44, rfl, h44⟩ := cons_of_len h43
  obtain ⟨u45, l45, rfl, h45⟩ := cons_of_len h44
  obtain ⟨u46, l46, rfl, h46⟩ := cons_of_len h45
  obtain ⟨u47, l47, rfl, h47⟩ := cons_of_len h46
  obtain ⟨u48, l48, rfl, h48⟩ := cons_of_len h47
  obtain ⟨u49, l49, rfl, h49⟩ := cons_of_len h48
  obtain ⟨u50, l50, rfl, h50⟩ := cons_of_len h49
  obtain ⟨u51, l51, rfl, h51⟩ := cons_of_len h50
  obtain ⟨u52, l52, rfl, h52⟩ := cons_of_len h51
  obtain ⟨u53, l53, rfl, h53⟩ := cons_of_len h52
  obtain ⟨u54, l54, rfl, h54⟩ := cons_of_len h53
  obtain ⟨u55, l55, rfl, h55⟩ := cons_of_len h54
  obtain ⟨u56, l56, rfl, h56⟩ := cons_of_len h55
  obtain ⟨u57, l57, rfl, h57⟩ := cons_of_len h56
  obtain ⟨u58, l58, rfl, h58⟩ := cons_of_len h57
  obtain ⟨u59, l59, rfl, h59⟩ := cons_of_len h58
  obtain ⟨u60, l60, rfl, h60⟩ := cons_of_len h59
  obtain ⟨u61, l61, rfl, h61⟩ := cons_of_len h60
  obtain ⟨u62, l62, rfl, h62⟩ := cons_of_len h61
  obtain ⟨u63, l63, rfl, h63⟩ := cons_of_len h62
  obtain ⟨u64, l64, rfl, h64⟩ := cons_of_len h63
  obtain ⟨u65, l65, rfl, h65⟩ := cons_of_len h64
  obtain ⟨u66, l66, rfl, h66⟩ := cons_of_len h65
  obtain ⟨u67, l67, rfl, h67⟩ := cons_of_len h66
  obtain ⟨u68, l68, rfl, h68⟩ := cons_of_len h67
  obtain ⟨u69, l69, rfl, h69⟩ := cons_of_len h68
  obtain ⟨u70, l70, rfl, h70⟩ := cons_of_len h69
  obtain ⟨u71, l71, rfl, h71⟩ := cons_of_len h70
  obtain ⟨u72, l72, rfl, h72⟩ := cons_of_len h71
  obtain ⟨u73, l73, rfl, h73⟩ := cons_of_len h72
  obtain ⟨u74, l74, rfl, h74⟩ := cons_of_len h73
  obtain ⟨u75, l75, rfl, h75⟩ := cons_of_len h74
  obtain ⟨u76, l76, rfl, h76⟩ := cons_of_len h75
  obtain ⟨u77, l77, rfl, h77⟩ := cons_of_len h76
  obtain ⟨u78, l78, rfl, h78⟩ := cons_of_len h77
  obtain ⟨u79, l79, rfl, h79⟩ := cons_of_len h78
  obtain ⟨u80, l80, rfl, h80⟩ := cons_of_len h79
  obtain ⟨u81, l81, rfl, h81⟩ := cons_of_len h80
  obtain ⟨u82, l82, rfl, h82⟩ := cons_of_len h81
  obtain ⟨u83, l83, rfl, h83⟩ := cons_of_len h82
  obtain ⟨u84, l84, rfl, h84⟩ := cons_of_len h83
  obtain ⟨u85, l85, rfl, h85⟩ := cons_of_len h84
  obtain ⟨u86, l86, rfl, h86⟩ := cons_of_len h85
  obtain ⟨u87, l87, rfl, h87⟩ := cons_of_len h86
  obtain ⟨u88, l88, rfl, h88⟩ := cons_of_len h87
  obtain ⟨u89, l89, rfl, h89⟩ := cons_of_len h88
  obtain ⟨u90, l90, rfl, h90⟩ := cons_of_len h89
  obtain ⟨u91, l91, rfl, h91⟩ := cons_of_len h90
  obtain ⟨u92, l92, rfl, h92⟩ := cons_of_len h91
  obtain ⟨u93, l93, rfl, h93⟩ := cons_of_len h92
  obtain ⟨u94, l94, rfl, h94⟩ := cons_of_len h93
  obtain ⟨u95, l95, rfl, h95⟩ := cons_of_len h94
  obtain ⟨u96, l96, rfl, h96⟩ := cons_of_len h95
  obtain ⟨u97, l97, rfl, h97⟩ := cons_of_len h96
  obtain ⟨u98, l98, rfl, h98⟩ := cons_of_len h97
  obtain ⟨u99, l99, rfl, h99⟩ := cons_of_len h98
  obtain ⟨u100, l100, rfl, h100⟩ := cons_of_len h99
  obtain ⟨u101, l101, rfl, h101⟩ := cons_of_len h100
  obtain ⟨u102, l102, rfl, h102⟩ := cons_of_len h101
  obtain ⟨u103, l103, rfl, h103⟩ := cons_of_len h102
  obtain ⟨u104, l104, rfl, h104⟩ := cons_of_len h103
  obtain ⟨u105, l105, rfl, h105⟩ := cons_of_len h104
  obtain rfl := List.eq_nil_of_length_eq_zero h105
  exact k u1 u2 u3 u4 u5 u6 u7 u8 u9 u10 u11 u12 u13 u14 u15 u16 u17 u18 u19 u20 u21 u22 u23 u24 u25 u26 u27 u28 u29 u30 u31 u32 u33 u34 u35 u36 u37 u38 u39 u40 u41 u42 u43 u44 u45 u46 u47 u48 u49 u50 u51 u52 u53 u54 u55 u56 u57 u58 u59 u60 u61 u62 u63 u64 u65 u66 u67 u68 u69 u70 u71 u72 u73 u74 u75 u76 u77 u78 u79 u80 u81 u82 u83 u84 u85 u86 u87 u88 u89 u90 u91 u92 u93 u94 u95 u96 u97 u98 u99 u100 u101 u102 u103 u104 u105
end Go.Proofs.YtlmnhlfklbgjdaaGreatDoor
