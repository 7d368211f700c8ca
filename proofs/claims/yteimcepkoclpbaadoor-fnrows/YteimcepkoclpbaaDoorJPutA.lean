/- Contracts of spec.l1Put, and bytes made a string. Contracts of Text. -/
import Derived.Test.YteimcepkoclpbaaDoorJBase0
import Derived.Laws.BytesArg
import Derived.Test.YteimcepkoclpbaaDoorJM2
import Derived.Test.YteimcepkoclpbaaDoorJSlDefs
import Derived.Lib.AppendStr
namespace Go.Proofs.YteimcepkoclpbaaDoor
open Go.ChangeShapes Go.WideShapes Go.ChangeAt Go.RowKit
theorem make_1 (w : World) : (Instr.makeSlice 22 (.int .i64 1) (.int .i64 1)).run Tryd.prog w = .ok (.slice (some ⟨w.heap.size, 0, none⟩) 1 1) (w.alloc (.cells #[.int .u8 0] 5)) := by kernel_rfl
theorem conv_1 (w : World) (g : Nat) (hg : g = w.heap.size) (a : Int) : (convert 22 9 (.slice (some ⟨g, 0, none⟩) 1 1)).run Tryd.prog (w.alloc (.cells #[.int .u8 a] 5)) = .ok (.string (strOfNums [a])) (w.alloc (.cells #[.int .u8 a] 5))   := by
  subst hg
  refine run_convert_bytes_arg _ 22 5 Tryd.underlying22 Tryd.underlying5 _ 0 1 1 [a] rfl ?_ _ Tryd.underlying9
  intro i hi
  match i, hi with
  | 0, _ => simp [go_sem]
theorem make_2 (w : World) : (Instr.makeSlice 22 (.int .i64 2) (.int .i64 2)).run Tryd.prog w = .ok (.slice (some ⟨w.heap.size, 0, none⟩) 2 2) (w.alloc (.cells #[.int .u8 0, .int .u8 0] 5)) := by kernel_rfl
theorem conv_2 (w : World) (g : Nat) (hg : g = w.heap.size) (a b : Int) : (convert 22 9 (.slice (some ⟨g, 0, none⟩) 2 2)).run Tryd.prog (w.alloc (.cells #[.int .u8 a, .int .u8 b] 5)) = .ok (.string (strOfNums [a, b])) (w.alloc (.cells #[.int .u8 a, .int .u8 b] 5))   := by
  subst hg
  refine run_convert_bytes_arg _ 22 5 Tryd.underlying22 Tryd.underlying5 _ 0 2 2 [a, b] rfl ?_ _ Tryd.underlying9
  intro i hi
  match i, hi with
  | 0, _ => simp [go_sem]
  | 1, _ => simp [go_sem]
theorem make_3 (w : World) : (Instr.makeSlice 22 (.int .i64 3) (.int .i64 3)).run Tryd.prog w = .ok (.slice (some ⟨w.heap.size, 0, none⟩) 3 3) (w.alloc (.cells #[.int .u8 0, .int .u8 0, .int .u8 0] 5)) := by kernel_rfl
theorem conv_3 (w : World) (g : Nat) (hg : g = w.heap.size) (a b c : Int) : (convert 22 9 (.slice (some ⟨g, 0, none⟩) 3 3)).run Tryd.prog (w.alloc (.cells #[.int .u8 a, .int .u8 b, .int .u8 c] 5)) = .ok (.string (strOfNums [a, b, c])) (w.alloc (.cells #[.int .u8 a, .int .u8 b, .int .u8 c] 5))   := by
  subst hg
  refine run_convert_bytes_arg _ 22 5 Tryd.underlying22 Tryd.underlying5 _ 0 3 3 [a, b, c] rfl ?_ _ Tryd.underlying9
  intro i hi
  match i, hi with
  | 0, _ => simp [go_sem]
  | 1, _ => simp [go_sem]
  | 2, _ => simp [go_sem]
theorem make_4 (w : World) : (Instr.makeSlice 22 (.int .i64 4) (.int .i64 4)).run Tryd.prog w = .ok (.slice (some ⟨w.heap.size, 0, none⟩) 4 4) (w.alloc (.cells #[.int .u8 0, .int .u8 0, .int .u8 0, .int .u8 0] 5)) := by kernel_rfl
theorem conv_4 (w : World) (g : Nat) (hg : g = w.heap.size) (a b c d : Int) : (convert 22 9 (.slice (some ⟨g, 0, none⟩) 4 4)).run Tryd.prog (w.alloc (.cells #[.int .u8 a, .int .u8 b, .int .u8 c, .int .u8 d] 5)) = .ok (.string (strOfNums [a, b, c, d])) (w.alloc (.cells #[.int .u8 a, .int .u8 b, .int .u8 c, .int .u8 d] 5))   := by
  subst hg
  refine run_convert_bytes_arg _ 22 5 Tryd.underlying22 Tryd.underlying5 _ 0 4 4 [a, b, c, d] rfl ?_ _ Tryd.underlying9
  intro i hi
  match i, hi with
  | 0, _ => simp [go_sem]
  | 1, _ => simp [go_sem]
  | 2, _ => simp [go_sem]
  | 3, _ => simp [go_sem]

theorem ret_str {a b : ByteArray} (h : a = b) : Ending.returned (.string a) = .returned (.string b) := by rw [h]
theorem l1PutA_1 (r : Int) (w : World) (hb : 0 ≤ r ∧ r ≤ 1114111) (h : r < 128) :
    Calls Tryd.prog 85 #[.int .i64 r] w fun e w' => e = .returned (.slice (some ⟨w.heap.size, 0, none⟩) 1 1) ∧ w' = w.alloc (.cells #[.int .u8 r] 5) := by
  go_enter Tryd.func85, Tryd.ntmps85
  go_wp2
  go_ret
  exact ⟨rfl, rfl⟩

theorem l1PutA_2 (r : Int) (w : World) (hb : 0 ≤ r ∧ r ≤ 1114111) (h0 : 128 ≤ r) (h : r < 2048) :
    Calls Tryd.prog 85 #[.int .i64 r] w fun e w' => e = .returned (.slice (some ⟨w.heap.size, 0, none⟩) 2 2) ∧ w' = w.alloc (.cells #[.int .u8 (192 + r / 64), .int .u8 (128 + r % 64)] 5) := by
  go_enter Tryd.func85, Tryd.ntmps85
  go_wp2
  go_ret
  exact ⟨rfl, rfl⟩

theorem l1PutA_3 (r : Int) (w : World) (hb : 0 ≤ r ∧ r ≤ 1114111) (h0 : 2048 ≤ r) (h : r < 65536) :
    Calls Tryd.prog 85 #[.int .i64 r] w fun e w' => e = .returned (.slice (some ⟨w.heap.size, 0, none⟩) 3 3) ∧ w' = w.alloc (.cells #[.int .u8 (224 + r / 4096), .int .u8 (128 + r / 64 % 64), .int .u8 (128 + r % 64)] 5) := by
  go_enter Tryd.func85, Tryd.ntmps85
  go_wp2
  go_ret
  exact ⟨rfl, rfl⟩

theorem l1PutA_4 (r : Int) (w : World) (hb : 0 ≤ r ∧ r ≤ 1114111) (h0 : 65536 ≤ r) :
    Calls Tryd.prog 85 #[.int .i64 r] w fun e w' => e = .returned (.slice (some ⟨w.heap.size, 0, none⟩) 4 4) ∧ w' = w.alloc (.cells #[.int .u8 (240 + r / 262144), .int .u8 (128 + r / 4096 % 64), .int .u8 (128 + r / 64 % 64), .int .u8 (128 + r % 64)] 5) := by
  go_enter Tryd.func85, Tryd.ntmps85
  go_wp2
  go_ret
  exact ⟨rfl, rfl⟩

end Go.Proofs.YteimcepkoclpbaaDoor
namespace Go.Proofs.YteimcepkoclpbaaDoor
open Go.ChangeShapes Go.WideShapes Go.ChangeAt Go.RowKit

def okR (r : Int) : Int := if runeOk r = true then r else 65533
theorem okR_ok (r : Int) : runeOk (okR r) = true := by
  unfold okR; split
  · assumption
  · decide
theorem okR_yes (r : Int) (h : runeOk r = true) : okR r = r := by simp [okR, h]
theorem okR_no (r : Int) (h : runeOk r = false) : okR r = 65533 := by simp [okR, h]
def textL (xs : List Int) : List Int := xs.flatMap fun r => putL (okR r)
def textV (xs : List Int) : ByteArray := strOfNums (textL xs)
theorem textL_len (xs : List Int) : (textL xs).length ≤ 4 * xs.length := by
  induction xs with
  | nil => simp [textL]
  | cons x xs ih =>
    have := putL_len (okR x)
    simp only [textL, List.flatMap_cons, List.length_append, List.length_cons] at *
    omega
theorem textL_snoc (xs : List Int) (k : Nat) (h : k < xs.length) : textL (xs.take (k + 1)) = textL (xs.take k) ++ putL (okR (xs.getD k 0)) := by
  rw [List.take_succ_eq_append_getElem h, textL, List.flatMap_append]
  simp [textL, h]

theorem l1Put_any (r : Int) (w : World) (h : runeOk r = true) :
    Calls Tryd.prog 85 #[.int .i64 r] w fun e w' => e = .returned (.slice (some ⟨w.heap.size, 0, none⟩) (putL r).length (putL r).length) ∧ w' = w.alloc (.cells ((putL r).map (Value.int .u8)).toArray 5) := by
  have hb := runeOk_bd r h
  by_cases h1 : r < 128
  · rw [putL, if_pos h1]; exact l1PutA_1 r w hb h1
  · by_cases h2 : r < 2048
    · rw [putL, if_neg h1, if_pos h2]; exact l1PutA_2 r w hb (by omega) h2
    · by_cases h3 : r < 65536
      · rw [putL, if_neg h1, if_neg h2, if_pos h3]; exact l1PutA_3 r w hb (by omega) h3
      · rw [putL, if_neg h1, if_neg h2, if_neg h3]; exact l1PutA_4 r w hb (by omega)

theorem info_u8 : (Tryd.prog.info? 5).map (fun i => (i.zero, i.size, i.bytes)) = some (some (.int .u8 0), 1, 1) := by kernel_rfl
/-- The text of the bytes that a slice owns. -/
theorem conv_own {w : World} {base : Nat} {v : Value} {L : List Int} (h : w.ownsRow base 5 1 v L.length (L.map (Value.int .u8))) :
    (convert 22 9 v).run Tryd.prog w = .ok (.string (strOfNums L)) w := by
  rcases h.2 with ⟨rfl, h2⟩ | ⟨g, cap, cur, rfl, _⟩
  · have : L = [] := List.eq_nil_of_length_eq_zero h2
    subst this
    exact run_convert_bytes_nil w _ _ Tryd.underlying22 Tryd.underlying5 0 0 _ Tryd.underlying9
  · refine run_convert_bytes_arg w _ _ Tryd.underlying22 Tryd.underlying5 g 0 L.length cap L rfl ?_ _ Tryd.underlying9
    intro i hi
    rw [Nat.zero_add, h.cellAt i (by omega)]
    simp [hi]

theorem new_cells (w : World) (N : List Int) (j : Nat) (u : Value) (h : (N.map (Value.int .u8))[j]? = some u) : (w.alloc (.cells (N.map (Value.int .u8)).toArray 5)).cell? ((⟨w.heap.size, 0, none⟩ : Addr).add j) = some u := by
  have e : (⟨w.heap.size, 0, none⟩ : Addr).add j = ⟨w.heap.size, j, none⟩ := by unfold Addr.add; split <;> simp_all
  rw [e, cell_of_row _ w.heap.size j _ 5 (0, 0) (heap_alloc_new w _)]
  simpa using h
set_option maxHeartbeats 1000000 in
theorem specText_any (v : Value) (xs : List Int) (w : World) (hv : SlI w v xs) (hl : xs.length ≤ 1048576) :
    Calls Tryd.prog 79 #[v] w fun e w' => e = .returned (.string (textV xs)) ∧ Below w.heap.size w w' := by
  obtain ⟨i0, hi, hz0, hz1, hz2⟩ := info_parts info_u8
  obtain ⟨a, c, rfl, hc⟩ := hv
  generalize hn : xs.length = n at *
  have HN : Hid (xs.length = n) := hn
  clear hn
  go_enter Tryd.func79, Tryd.ntmps79
  go_wp2
  go_loopw [3, 4] (fun u i wr => ∃ j : Nat, j ≤ n ∧ i = .int .i64 j ∧ wr.ownsRow w.heap.size 5 1 u (textL (xs.take j)).length ((textL (xs.take j)).map (Value.int .u8)) ∧ Below w.heap.size w wr) (fun _ i _ => n - (intOf i).toNat)
  case atStart =>
    refine ⟨0, Nat.zero_le _, rfl, ?_, (Below.refl _ _).alloc (Nat.le_refl _) _⟩
    exact World.ownsRow_lit (base := w.heap.size) (e := 5) (size := 1) w #[] 0 (Nat.le_refl _) (Nat.zero_le _) rfl
  case round =>
    obtain ⟨j, hj, rfl, ho, hbel⟩ := hrel
    by_cases hlt : j < n
    · rcases hc with hc | ⟨b, off, rfl, hb, hc⟩
      · have := HN.out; rw [hc] at this; simp at this; omega
      · have h0 : wr.cell? ⟨b, off + j, none⟩ = some (.int .i64 (xs.getD j 0)) := (hbel.cell (p := ⟨b, off + j, none⟩) hb).trans (hc j hlt)
        have hsn : Hid (textL (xs.take (j + 1)) = textL (xs.take j) ++ putL (okR (xs.getD j 0))) := textL_snoc xs j (by have := HN.out; omega)
        have hL : (textL (xs.take j)).length ≤ 4 * n := by have h := textL_len (xs.take j); rw [List.length_take] at h; omega
        have hbs := hbel.size
        clear hc
        generalize xs.getD j 0 = x at *
        generalize hT : textL (xs.take j) = T at *
        clear hT
        have hp4 := putL_len (okR x)
        by_cases hr : runeOk x = true
        · rw [okR_yes x hr] at hsn hp4
          have hlp := fun W => l1Put_any x W hr
          generalize putL x = N at *
          go_wp2_with (first
            | (go_at_call 59; refine (specRuneOk_any _ _).mono ?_; rintro e w2 ⟨rfl, rfl⟩)
            | (go_at_call 85; refine (hlp _).mono ?_; rintro e w3 ⟨rfl, rfl⟩)
            | (at_builtin; refine wpList_append_own _ rfl _ _ 22 rfl w.heap.size 5 i0 (.int .u8 0) 1 1 Tryd.underlying22 hi hz0 hz1 hz2 rfl (by decide) _ _ _ rfl (ho.alloc _) ⟨_, 0, none⟩ _ _ (N.map (Value.int .u8)) rfl ?c0 ?c1 ?c2 ?c3 ?c4 ?c5 ?_))
          case c0 => simp
          case c1 => exact fun j u hj => new_cells _ N j u hj
          case c2 => exact ints_oneCell .u8 N
          case c3 => unfold maxLen; omega
          case c4 => omega
          case c5 => simp; omega
          · intro v' w4 ho4 hg4 _
            have hbel4 : Below w.heap.size w w4 := ((hbel.alloc hbs _).grown hg4 (by simp; omega) (fun k hk => (ho.lt k hk).1))
            clear hg4 ho hlp
            go_wp2
            go_roundw
            case rel => exact ⟨j + 1, by omega, by go_num, by rw [hsn.out]; simpa using ho4, hbel4⟩
            case measure => simp [intOf]; omega
        · have hr : runeOk x = false := by simpa using hr
          rw [okR_no x hr] at hsn hp4
          have hlp := fun W => l1Put_any 65533 W (by decide)
          generalize putL 65533 = N at *
          go_wp2_with (first
            | (go_at_call 59; refine (specRuneOk_any _ _).mono ?_; rintro e w2 ⟨rfl, rfl⟩)
            | (go_at_call 85; refine (hlp _).mono ?_; rintro e w3 ⟨rfl, rfl⟩)
            | (at_builtin; refine wpList_append_own _ rfl _ _ 22 rfl w.heap.size 5 i0 (.int .u8 0) 1 1 Tryd.underlying22 hi hz0 hz1 hz2 rfl (by decide) _ _ _ rfl (ho.alloc _) ⟨_, 0, none⟩ _ _ (N.map (Value.int .u8)) rfl ?c0 ?c1 ?c2 ?c3 ?c4 ?c5 ?_))
          case c0 => simp
          case c1 => exact fun j u hj => new_cells _ N j u hj
          case c2 => exact ints_oneCell .u8 N
          case c3 => unfold maxLen; omega
          case c4 => omega
          case c5 => simp; omega
          · intro v' w4 ho4 hg4 _
            have hbel4 : Below w.heap.size w w4 := ((hbel.alloc hbs _).grown hg4 (by simp; omega) (fun k hk => (ho.lt k hk).1))
            clear hg4 ho hlp
            go_wp2
            go_roundw
            case rel => exact ⟨j + 1, by omega, by go_num, by rw [hsn.out]; simpa using ho4, hbel4⟩
            case measure => simp [intOf]; omega
    · have hjn : xs.take j = xs := List.take_of_length_le (by have := HN.out; omega)
      rw [hjn] at ho
      have hcv := conv_own ho
      clear hc
      go_wp2
      go_ret
      exact ⟨rfl, hbel⟩

end Go.Proofs.YteimcepkoclpbaaDoor
