/- The text of a row, with its blanks and without those at the end. Plain mathematics. Contracts of the program's Put. Contract of the program's RowText. Runes read are runes, and are put as what is read so again. Plain mathematics. Contract of the program's GridText. A style is like itself. The laws' own helpers on rows: two cells alike. The laws' own copy of a style. The laws' own helpers on rows: size, copy. The laws' own helpers on rows: two rows alike. A window of a row of this call's own: cleared, copied into, made anew. The laws' own helpers on rows: a row's copy. One row written anew; rows made. The laws' own helpers on grids: a grid's copy. Contract of the specification's new grids. The laws' own helpers on grids: a grid's copy whole. The laws' own helpers on grids: size, likeness. The laws' own helpers on grids: likeness. The walk of the exact law of GridText. -/
import Derived.Test.YtngbndfnhpjmjabDoorP2
import Derived.Laws.BytesArg
import Derived.Deep.RegionWith
import Derived.Laws.CopyOwn
import Derived.OwnWalk
namespace Go.Proofs.YtngbndfnhpjmjabDoor
theorem textL_app (a b : List Int) : textL (a ++ b) = textL a ++ textL b := by simp [textL]
theorem textL_byte (l : List Int) : ∀ x ∈ textL l, 0 ≤ x ∧ x < 256 := by
  intro x hx
  unfold textL at hx
  obtain ⟨r, _, hr⟩ := List.mem_flatMap.1 hx
  exact putL_bd _ (okR_ok r) x hr
theorem tN_keep (l : List Int) (n : Nat) (h : l.length = n + 1) (h2 : l.getD n 0 ≠ 32) : tN l l.length = l.length := by
  rw [h, tN, if_neg h2]
theorem tN_local (l m : List Int) : ∀ n, n ≤ l.length → tN (l ++ m) n = tN l n
  | 0, _ => rfl
  | n + 1, h => by
    have e : (l ++ m).getD n 0 = l.getD n 0 := by simp [List.getD, List.getElem?_append_left (show n < l.length by omega)]
    unfold tN
    rw [e, tN_local l m n (by omega)]
theorem putL_last (r : Int) (hr : runeOk r = true) (hne : r ≠ 32) : ∃ p x, putL r = p ++ [x] ∧ x ≠ 32 := by
  have hb := runeOk_bd r hr
  by_cases h1 : r < 128
  · exact ⟨[], r, putL_1 r h1, hne⟩
  · by_cases h2 : r < 2048
    · exact ⟨[192 + r / 64], 128 + r % 64, putL_2 r (by omega) h2, by omega⟩
    · by_cases h3 : r < 65536
      · exact ⟨[224 + r / 64 / 64, 128 + r / 64 % 64], 128 + r % 64, putL_3 r (by omega) h3, by omega⟩
      · exact ⟨[240 + r / 64 / 64 / 64, 128 + r / 64 / 64 % 64, 128 + r / 64 % 64], 128 + r % 64, putL_4 r (by omega), by omega⟩
theorem tN_last (T p : List Int) (x : Int) (hx : x ≠ 32) : tN (T ++ (p ++ [x])) (T ++ (p ++ [x])).length = (T ++ (p ++ [x])).length := by
  refine tN_keep _ (T.length + p.length) (by simp; omega) ?_
  have e : (T ++ (p ++ [x])).getD (T.length + p.length) 0 = x := by
    simp [List.getD]
  rw [e]; exact hx
theorem width_ok (r : Int) (h : widthV r ≠ 0) : runeOk r = true := by
  cases hr : runeOk r with
  | true => rfl
  | false => exact absurd (by unfold widthV; rw [if_pos (.inr (.inl hr))]) h
theorem cell_rune {c : Ce} (h : c1 c) (hp : c.part ≠ 2) : runeOk c.rune = true := by
  refine width_ok _ ?_
  rcases h.2 with ⟨_, e⟩ | ⟨_, e⟩ | ⟨e, _⟩
  · rw [e]; decide
  · rw [e]; decide
  · exact absurd e hp
theorem cell_blank {c : Ce} (h : c1 c) (hr : c.rune = 32) : c.part ≠ 2 := by
  intro hp
  rcases h.2 with ⟨e, _⟩ | ⟨e, _⟩ | ⟨_, e⟩
  · rw [e] at hp; exact absurd hp (by decide)
  · rw [e] at hp; exact absurd hp (by decide)
  · rw [e] at hr; exact absurd hr (by decide)
theorem runesUp_yes (xs : List Ce) (n : Nat) (h : (atC xs n).part = 2) : runesUp xs (n + 1) = runesUp xs n := by rw [runesUp, if_pos h]
theorem runesUp_no (xs : List Ce) (n : Nat) (h : (atC xs n).part ≠ 2) : runesUp xs (n + 1) = runesUp xs n ++ [(atC xs n).rune] := by rw [runesUp, if_neg h]
theorem trim_row {xs : List Ce} (h : Right xs) : ∀ n, n ≤ xs.length → (textL (runesUp xs n)).take (tN (textL (runesUp xs n)) (textL (runesUp xs n)).length) = textL (runesUp xs (trimN xs n)) := by
  intro n
  induction n with
  | zero => intro _; rfl
  | succ n ih =>
    intro hn
    have hc := h.1 n (by omega)
    have hstay : ∀ r, runeOk r = true → r ≠ 32 → ∀ R, runesUp xs (n + 1) = R ++ [r] → (atC xs n).rune ≠ 32 → (textL (runesUp xs (n + 1))).take (tN (textL (runesUp xs (n + 1))) (textL (runesUp xs (n + 1))).length) = textL (runesUp xs (trimN xs (n + 1))) := by
      intro r hr hne R e hx
      obtain ⟨p, x, hp, hx32⟩ := putL_last r hr hne
      have eL : textL (runesUp xs (n + 1)) = textL R ++ (p ++ [x]) := by
        rw [e, textL_app]
        have : textL [r] = p ++ [x] := by simp [textL, okR_yes r hr, hp]
        rw [this]
      have et : trimN xs (n + 1) = n + 1 := by rw [trimN, if_neg hx]
      rw [et, eL, tN_last _ _ _ hx32, List.take_length]
    by_cases h32 : (atC xs n).rune = 32
    · have hp := cell_blank hc h32
      have e : runesUp xs (n + 1) = runesUp xs n ++ [32] := by rw [runesUp_no xs n hp, h32]
      have eL : textL (runesUp xs (n + 1)) = textL (runesUp xs n) ++ [32] := by rw [e, textL_app]; rfl
      have et : trimN xs (n + 1) = trimN xs n := by rw [trimN, if_pos h32]
      rw [et, eL, ← ih (by omega)]
      generalize textL (runesUp xs n) = T
      have eg : (T ++ [(32 : Int)]).getD T.length 0 = 32 := by simp [List.getD]
      have hl : (T ++ [(32 : Int)]).length = T.length + 1 := by simp
      rw [hl, tN, if_pos eg, tN_local T [32] T.length (Nat.le_refl _), List.take_append_of_le_length (tN_le T _)]
    · by_cases hp : (atC xs n).part = 2
      · have h1 := h.2.2 n hp
        have hn1 : n - 1 + 1 = n := by omega
        have hc1 := h.1 (n - 1) (by omega)
        have hp1 : (atC xs (n - 1)).part ≠ 2 := by rw [h1.2]; decide
        have hr : runeOk (atC xs (n - 1)).rune = true := cell_rune hc1 hp1
        have hw2 : widthV (atC xs (n - 1)).rune = 2 := by
          rcases hc1.2 with ⟨e, _⟩ | ⟨_, e⟩ | ⟨e, _⟩
          · rw [h1.2] at e; exact absurd e (by decide)
          · exact e
          · exact absurd e hp1
        have hne : (atC xs (n - 1)).rune ≠ 32 := by intro e; rw [e] at hw2; exact absurd hw2 (by decide)
        refine hstay _ hr hne (runesUp xs (n - 1)) ?_ h32
        rw [runesUp_yes xs n hp]
        have := runesUp_no xs (n - 1) hp1
        rw [hn1] at this; exact this
      · exact hstay _ (cell_rune hc hp) h32 (runesUp xs n) (runesUp_no xs n hp) h32
/-- The whole text without the blanks at its end is what the specification tells. -/
theorem rowText_way {xs : List Ce} (h : rowOkB xs = true) : trimV (textV (runesUp xs xs.length)) = rowTextV xs := by
  have hR := ((right_iff xs).1 h).2
  have hn : nums (textV (runesUp xs xs.length)) = textL (runesUp xs xs.length) := nums_str _ (textL_byte _)
  have hs : (textV (runesUp xs xs.length)).size = (textL (runesUp xs xs.length)).length := by rw [← nums_len, hn]
  apply nums_inj
  unfold rowTextV
  rw [if_pos h, nums_trim, hn, hs, trim_row hR _ (Nat.le_refl _)]
  exact (nums_str _ (textL_byte _)).symm
end Go.Proofs.YtngbndfnhpjmjabDoor
namespace Go.Proofs.YtngbndfnhpjmjabDoor
open Go.ChangeShapes Go.WideShapes Go.ChangeAt Go.RowKit
set_option maxHeartbeats 400000 in
theorem implPut_1 (r : Int) (w : World) (hk : runeOk r = true) (h : r < 128) :
    Calls Tryd.prog 22 #[.int .i64 r] w fun e w' => e = .returned (.string (strOfNums (putL r))) ∧ Below w.heap.size w w' := by
  have hbd := runeOk_bd r hk
  have hpl : Hid (putL r = _) := putL_1 r h
  have hmk := make_1
  have hcv := conv_1
  go_enter Tryd.func22, Tryd.ntmps22
  go_wp2_with (first | (go_at_call 31; refine (implRuneOk_any _ _).mono ?_; rintro e w' ⟨rfl, rfl⟩) | (go_at_call 32; refine (formOf_1 _ _ (by omega)).mono ?_; rintro e w' ⟨rfl, hb⟩))
  refine wp_loop_rounds 1 ?_
  rw [rounds_succ]
  go_wp2
  go_ret
  exact ⟨ret_str (by rw [hpl.out]), ((hb.alloc hb.size _).alloc (by have := hb.size; simp; omega) _)⟩


set_option maxHeartbeats 400000 in
theorem implPut_2 (r : Int) (w : World) (hk : runeOk r = true) (h0 : 128 ≤ r) (h : r < 2048) :
    Calls Tryd.prog 22 #[.int .i64 r] w fun e w' => e = .returned (.string (strOfNums (putL r))) ∧ Below w.heap.size w w' := by
  have hbd := runeOk_bd r hk
  have hpl : Hid (putL r = _) := putL_2 r h0 h
  have hmk := make_2
  have hcv := conv_2
  go_enter Tryd.func22, Tryd.ntmps22
  go_wp2_with (first | (go_at_call 31; refine (implRuneOk_any _ _).mono ?_; rintro e w' ⟨rfl, rfl⟩) | (go_at_call 32; refine (formOf_2 _ _ (by omega) (by omega)).mono ?_; rintro e w' ⟨rfl, hb⟩))
  refine wp_loop_rounds 2 ?_
  rw [rounds_succ]
  go_wp2
  rw [rounds_succ]
  go_wp2
  go_ret
  exact ⟨ret_str (by rw [hpl.out]), ((hb.alloc hb.size _).alloc (by have := hb.size; simp; omega) _)⟩


set_option maxHeartbeats 400000 in
theorem implPut_3 (r : Int) (w : World) (hk : runeOk r = true) (h0 : 2048 ≤ r) (h : r < 65536) :
    Calls Tryd.prog 22 #[.int .i64 r] w fun e w' => e = .returned (.string (strOfNums (putL r))) ∧ Below w.heap.size w w' := by
  have hbd := runeOk_bd r hk
  have hpl : Hid (putL r = _) := putL_3 r h0 h
  have hmk := make_3
  have hcv := conv_3
  go_enter Tryd.func22, Tryd.ntmps22
  go_wp2_with (first | (go_at_call 31; refine (implRuneOk_any _ _).mono ?_; rintro e w' ⟨rfl, rfl⟩) | (go_at_call 32; refine (formOf_3 _ _ (by omega) (by omega)).mono ?_; rintro e w' ⟨rfl, hb⟩))
  refine wp_loop_rounds 3 ?_
  rw [rounds_succ]
  go_wp2
  rw [rounds_succ]
  go_wp2
  rw [rounds_succ]
  go_wp2
  go_ret
  exact ⟨ret_str (by rw [hpl.out]), ((hb.alloc hb.size _).alloc (by have := hb.size; simp; omega) _)⟩


set_option maxHeartbeats 400000 in
theorem implPut_4 (r : Int) (w : World) (hk : runeOk r = true) (h0 : 65536 ≤ r) :
    Calls Tryd.prog 22 #[.int .i64 r] w fun e w' => e = .returned (.string (strOfNums (putL r))) ∧ Below w.heap.size w w' := by
  have hbd := runeOk_bd r hk
  have hpl : Hid (putL r = _) := putL_4 r h0
  have hmk := make_4
  have hcv := conv_4
  go_enter Tryd.func22, Tryd.ntmps22
  go_wp2_with (first | (go_at_call 31; refine (implRuneOk_any _ _).mono ?_; rintro e w' ⟨rfl, rfl⟩) | (go_at_call 32; refine (formOf_4 _ _ (by omega) (by omega)).mono ?_; rintro e w' ⟨rfl, hb⟩))
  refine wp_loop_rounds 4 ?_
  rw [rounds_succ]
  go_wp2
  rw [rounds_succ]
  go_wp2
  rw [rounds_succ]
  go_wp2
  rw [rounds_succ]
  go_wp2
  go_ret
  exact ⟨ret_str (by rw [hpl.out]), ((hb.alloc hb.size _).alloc (by have := hb.size; simp; omega) _)⟩


theorem implPut_any (r : Int) (w : World) :
    Calls Tryd.prog 22 #[.int .i64 r] w fun e w' => e = .returned (.string (putS r)) ∧ Below w.heap.size w w' := by
  by_cases hk : runeOk r = true
  · rw [putS_ok r hk]
    by_cases h1 : r < 128
    · exact implPut_1 r w hk h1
    · by_cases h2 : r < 2048
      · exact implPut_2 r w hk (by omega) h2
      · by_cases h3 : r < 65536
        · exact implPut_3 r w hk (by omega) h3
        · exact implPut_4 r w hk (by omega)
  · have hk' : runeOk r = false := by simpa using hk
    have hp : Hid (putS r = ⟨#[]⟩) := by show _ = _; simp [putS, hk']
    go_enter Tryd.func22, Tryd.ntmps22
    go_wp2_with (go_at_call 31; refine (implRuneOk_any _ _).mono ?_; rintro e w' ⟨rfl, rfl⟩)
    go_ret
    exact ⟨ret_str hp.out.symm, Below.refl _ _⟩

end Go.Proofs.YtngbndfnhpjmjabDoor
namespace Go.Proofs.YtngbndfnhpjmjabDoor
open Go.ChangeShapes Go.WideShapes Go.ChangeAt Go.RowKit
theorem strCells_n (s : ByteArray) : Lib.strCells s = (nums s).map (Value.int .u8) := by
  simp [Lib.strCells, nums]
set_option maxHeartbeats 4000000 in
set_option maxRecDepth 20000 in
theorem implRowText_any (v : Value) (xs : List Ce) (w : World) (hS : SpansAt w) (hv : SlC w v xs) (hl : xs.length ≤ 1048576) :
    Calls Tryd.prog 14 #[v] w fun e w' => e = .returned (.string (rowTextV xs)) ∧ Below w.heap.size w w' := by
  have hok := implRowOk_any v xs w hS hv hl
  obtain ⟨i0, hi, hz0, hz1, hz2⟩ := info_parts info_u8
  obtain ⟨a, c, rfl, hcp, hnc, _⟩ := id hv
  cases hb : rowOkB xs
  · have hT : Hid (rowTextV xs = ⟨#[]⟩) := by show _ = _; unfold rowTextV; rw [if_neg (by rw [hb]; decide)]
    rw [hb] at hok
    go_enter Tryd.func14, Tryd.ntmps14
    go_wp2_with fail
    refine hok.mono ?_
    rintro e w1 ⟨rfl, hb1⟩
    clear hb hok
    go_wp2
    go_ret
    exact ⟨by rw [hT.out]; rfl, hb1⟩
  · have hT : Hid (trimV (textV (runesUp xs xs.length)) = rowTextV xs) := rowText_way hb
    obtain ⟨hx60, hR⟩ := (right_iff xs).1 hb
    rw [hb] at hok
    go_enter Tryd.func14, Tryd.ntmps14
    go_wp2_with fail
    refine hok.mono ?_
    rintro e w1 ⟨rfl, hb1⟩
    have hv1 := hv.below hb1
    clear hb hok hv
    go_wp2
    go_loopw [3, 12, 5] (fun u i _ wr => ∃ j : Nat, i = .int .i64 j ∧ j ≤ xs.length ∧ wr.ownsRow w1.heap.size 5 1 u (textL (runesUp xs j)).length ((textL (runesUp xs j)).map (Value.int .u8)) ∧ Below w1.heap.size w1 wr) (fun _ i _ _ => xs.length - (intOf i).toNat)
    case atStart =>
      refine ⟨0, rfl, Nat.zero_le _, ?_, (Below.refl _ _).alloc (Nat.le_refl _) _⟩
      exact World.ownsRow_lit (base := w1.heap.size) (e := 5) (size := 1) w1 #[] 0 (Nat.le_refl _) (Nat.zero_le _) rfl
    case round =>
      obtain ⟨j, rfl, hj, ho, hbel⟩ := hrel
      by_cases hlj : j < xs.length
      · have hji : (j : Int) < (xs.length : Int) := by omega
        have hj0 : (0 : Int) ≤ (j : Int) := by omega
        obtain ⟨b, off, rfl, hsrc⟩ := (hv1.below hbel).src (by omega)
        obtain ⟨c0, c1, c2, c3, c4, c5, c6⟩ := hsrc j hlj
        have hL : (textL (runesUp xs j)).length ≤ 4 * 60 := by have h := textL_len (runesUp xs j); have := runesUp_len xs j; omega
        have hX := CeF.new wr (atC xs j) 48
        have hbX := bal' wr (Obj.cells #[.int .i64 (atC xs j).rune, .int .i64 (atC xs j).st.fore, .int .i64 (atC xs j).st.back, .bool (atC xs j).st.bold, .bool (atC xs j).st.under, .bool (atC xs j).st.turned, .int .i64 (atC xs j).part] 48)
        have hob := ho.below hbX
        have hb2 := hbel.trans (hbX.mono hbel.size)
        clear hsrc
        by_cases hp : (atC xs j).part = 2
        · have bp : ((atC xs j).part != 2) = false := by simp [hp]
          have hst : Hid (runesUp xs (j + 1) = runesUp xs j) := runesUp_yes xs j hp
          clear hp hX hbX ho
          generalize atC xs j = x at *
          go_wp2
          go_roundw
          case rel => exact ⟨j + 1, by go_num, by omega, by rw [hst.out]; exact hob, hb2⟩
          case measure => simp [intOf]; omega
        · have bp : ((atC xs j).part != 2) = true := by simp [hp]
          have hst : Hid (runesUp xs (j + 1) = runesUp xs j ++ [(atC xs j).rune]) := runesUp_no xs j hp
          have hk : runeOk (atC xs j).rune = true := cell_rune (hR.1 j hlj) hp
          have hput := fun W => implPut_any (atC xs j).rune W
          have HC : Hid (Lib.strCells (putS (atC xs j).rune) = (putL (atC xs j).rune).map (Value.int .u8)) := by show _ = _; rw [strCells_n, nums_putS _ hk]
          have HL : Hid ((putS (atC xs j).rune).size = (putL (atC xs j).rune).length) := putS_size _ hk
          have HT : Hid (textL (runesUp xs (j + 1)) = textL (runesUp xs j) ++ putL (atC xs j).rune) := by
            show _ = _; rw [hst.out, textL_app]; simp [textL, okR_yes _ hk]
          have hp4 := putS_size4 (atC xs j).rune
          obtain ⟨_, ⟨d0, d1, d2, d3, d4, d5, d6⟩, _⟩ := id hX
          have hsX := hbX.size
          clear hp hX ho hk hst
          generalize putS (atC xs j).rune = p at *
          generalize putL (atC xs j).rune = P at *
          generalize textL (runesUp xs j) = T at *
          generalize atC xs j = x at *
          go_wp2_with (first
            | (go_at_call 22; refine (hput _).mono ?_; rintro e w3 ⟨rfl, hb3⟩)
            | (at_builtin; refine Lib.wpList_append_own_string _ rfl _ _ 36 9 rfl w1.heap.size 5 i0 Tryd.underlying36 Tryd.underlying9 hi hz0 hz1 hz2 _ _ _ rfl (hob.below hb3) p rfl ?c3 ?c4 ?c5 ?_))
          case c3 => unfold maxLen; omega
          case c4 => omega
          case c5 => exact Nat.le_trans hb2.size hb3.size
          · intro v' w4 ho4 hg4 _
            have hb3' := hb2.trans (hb3.mono hb2.size)
            have hbel4 : Below w1.heap.size w1 w4 := hb3'.grown hg4 hb3'.size (fun k hk => (hob.lt k hk).1)
            rw [HC.out, HL.out] at ho4
            clear hg4 hob hput
            go_wp2
            go_roundw
            case rel => exact ⟨j + 1, by go_num, by omega, by rw [HT.out, List.length_append, List.map_append]; exact ho4, hbel4⟩
            case measure => simp [intOf]; omega
      · have hjn : j = xs.length := by omega
        have hji : ¬ (j : Int) < (xs.length : Int) := by omega
        subst hjn
        have hL : (textL (runesUp xs xs.length)).length ≤ 4 * 60 := by have h := textL_len (runesUp xs xs.length); have := runesUp_len xs xs.length; omega
        have hcv := conv_own ho
        have hsz : (textV (runesUp xs xs.length)).size = (textL (runesUp xs xs.length)).length := by rw [← nums_len]; exact congrArg List.length (nums_str _ (textL_byte _))
        have hsz2 : (textV (runesUp xs xs.length)).size ≤ 1048576 := by omega
        have htr := fun W => trimRight_any (textV (runesUp xs xs.length)) W hsz2
        unfold textV at *
        clear hsz hsz2 hL ho
        generalize textL (runesUp xs xs.length) = T at *
        go_wp2_with fail
        refine (htr _).mono ?_
        rintro e w5 ⟨rfl, hw⟩
        subst hw
        go_wp2
        go_ret
        exact ⟨by rw [← hT.out]; rfl, hb1.trans (hbel.mono hb1.size)⟩
end Go.Proofs.YtngbndfnhpjmjabDoor
namespace Go.Proofs.YtngbndfnhpjmjabDoor
theorem nums_appR (a b : ByteArray) : nums (a ++ b) = nums a ++ nums b := by simp [nums, ByteArray.data_append]
end Go.Proofs.YtngbndfnhpjmjabDoor
namespace Go.Proofs.YtngbndfnhpjmjabDoor
open Go.ChangeShapes Go.WideShapes Go.ChangeAt Go.RowKit
set_option maxHeartbeats 4000000 in
set_option maxRecDepth 20000 in
theorem implGridText_any (cols : Int) (v : Value) (rows : List (List Ce)) (w : World) (hS : SpansAt w) (hv : SlG w v rows) (hl : rows.length ≤ 1048576) (hx : ∀ i, i < rows.length → (rowX rows i).length ≤ 1048576) :
    Calls Tryd.prog 7 #[gridV cols v] w fun e w' => e = .returned (.string (gridTextV cols rows)) ∧ Below w.heap.size w w' := by
  have hb0 := bal' w (Obj.cells #[.int .i64 cols, v] 29)
  have hG0 := GrN.new w cols v 29
  have hS0 := hS.below hb0 hS.lt
  have hv0 := hv.below hb0
  have hok := implGridOk_any cols v rows _ hS0 hv0 hl hx
  obtain ⟨i0, hi, hz0, hz1, hz2⟩ := info_parts info_u8
  obtain ⟨a, c, vs, rfl, hcp, _, hr, hs⟩ := id hv
  unfold gridV at *
  obtain ⟨_, g0, g1⟩ := id hG0
  clear hv
  cases hb : gridOkB cols rows
  · have hT : Hid (gridTextV cols rows = ⟨#[]⟩) := by show _ = _; unfold gridTextV; rw [if_neg (by rw [hb]; decide)]
    rw [hb] at hok
    go_enter Tryd.func7, Tryd.ntmps7
    go_wp2_with fail
    refine hok.mono ?_
    rintro e w1 ⟨rfl, hb1⟩
    clear hb hok
    go_wp2
    go_ret
    exact ⟨by rw [hT.out]; rfl, hb0.trans (hb1.mono hb0.size)⟩
  · have hT : Hid (gridTextV cols rows = gridTextUp rows rows.length) := by show _ = _; unfold gridTextV; rw [if_pos hb]
    obtain ⟨⟨hc1, hc2⟩, ⟨hr1, hr2⟩, hfit⟩ := (gridOk_iff cols rows).1 hb
    have hfl : ∀ i, i < rows.length → (rowX rows i).length ≤ 60 := fun i hi => by
      have := hfit i hi
      unfold fitB at this
      rw [Bool.and_eq_true, decide_eq_true_eq] at this
      have h2 : ((rowX rows i).length : Int) = cols := this.1
      omega
    have hrok : ∀ i, i < rows.length → rowOkB (rowX rows i) = true := fun i hi => by
      have := hfit i hi
      unfold fitB at this
      rw [Bool.and_eq_true] at this
      exact this.2
    rw [hb] at hok
    rcases hr with h | ⟨b, off, rfl, hbb, hrc⟩
    · rw [h] at hr1; simp at hr1
    go_enter Tryd.func7, Tryd.ntmps7
    go_wp2_with fail
    refine hok.mono ?_
    rintro e w1 ⟨rfl, hb1⟩
    have hG1 := hG0.below hb1
    have kb1 := hb0.trans (hb1.mono hb0.size)
    have hS1 := hS0.below hb1 hS0.lt
    clear hb hok hG0 hb0 hb1 hS0 hv0 g0 g1 hfit hx
    obtain ⟨_, g0, g1⟩ := id hG1
    go_wp2
    go_loopw [3, 5, 13] (fun u _ i wr => ∃ j : Nat, i = .int .i64 j ∧ j ≤ rows.length ∧ wr.ownsRow w1.heap.size 5 1 u (nums (gridTextUp rows j)).length ((nums (gridTextUp rows j)).map (Value.int .u8)) ∧ Below w1.heap.size w1 wr) (fun _ _ i _ => rows.length - (intOf i).toNat)
    case atStart =>
      refine ⟨0, rfl, Nat.zero_le _, ?_, (Below.refl _ _).alloc (Nat.le_refl _) _⟩
      exact World.ownsRow_lit (base := w1.heap.size) (e := 5) (size := 1) w1 #[] 0 (Nat.le_refl _) (Nat.zero_le _) rfl
    case round =>
      obtain ⟨j, rfl, hj, ho, hbel⟩ := hrel
      by_cases hlj : j < rows.length
      · have hji : (j : Int) < (rows.length : Int) := by omega
        have hj0 : (0 : Int) ≤ (j : Int) := by omega
        have kbr := kb1.trans (hbel.mono kb1.size)
        have hcj := (kbr.cell (p := ⟨b, off + j, none⟩) hbb).trans (hrc j hlj)
        have hsj := (hs j hlj).below kbr
        obtain ⟨aj, cj, ev, _⟩ := id hsj
        rw [ev] at hcj hsj
        have hrt := implRowText_any _ _ wr (hS1.below hbel hS1.lt) hsj (by have := hfl j hlj; omega)
        have hre : rowTextV (rowX rows j) = textV (rowRunes (rowX rows j)) := by unfold rowTextV; rw [if_pos (hrok j hlj)]
        rw [hre] at hrt
        have HT : Hid (nums (gridTextUp rows (j + 1)) = nums (gridTextUp rows j) ++ nums (textV (rowRunes (rowX rows j))) ++ [10]) := by
          show _ = _
          rw [gridTextUp, nums_appR, nums_appR]; rfl
        have hz1' := gridText_size rows (fun i hi => by have := hfl i hi; omega) j hj
        have hz2' := rowText_size (rowX rows j)
        have hz3' := hfl j hlj
        have hL : (nums (gridTextUp rows j)).length ≤ 200000 := by rw [nums_len]; omega
        have hP : (textV (rowRunes (rowX rows j))).size ≤ 240 := by omega
        have HC : Hid (Lib.strCells (textV (rowRunes (rowX rows j))) = (nums (textV (rowRunes (rowX rows j)))).map (Value.int .u8)) := by show _ = _; rw [strCells_n]
        have HL : Hid ((textV (rowRunes (rowX rows j))).size = (nums (textV (rowRunes (rowX rows j)))).length) := (nums_len _).symm
        clear hz1' hz2' hz3' hre ev hsj hs hrc hfl hrok
        generalize nums (gridTextUp rows j) = T at *
        generalize textV (rowRunes (rowX rows j)) = p at *
        generalize (rowX rows j).length = m at *
        go_wp2_with (first
          | (go_at_call 14; refine hrt.mono ?_; rintro e w3 ⟨rfl, hb3⟩)
          | (at_builtin; refine Lib.wpList_append_own_string _ rfl _ _ 36 9 rfl w1.heap.size 5 i0 Tryd.underlying36 Tryd.underlying9 hi hz0 hz1 hz2 _ _ _ rfl (ho.below hb3) p rfl ?c3 ?c4 ?c5 ?_))
        case c3 => unfold maxLen; omega
        case c4 => omega
        case c5 => exact Nat.le_trans hbel.size hb3.size
        · intro v' w4 ho4 hg4 _
          have hb3' := hbel.trans (hb3.mono hbel.size)
          have hbel4 : Below w1.heap.size w1 w4 := hb3'.grown hg4 hb3'.size (fun k hk => (ho.lt k hk).1)
          rw [HC.out, HL.out, ← List.map_append] at ho4
          rw [HL.out] at hP
          clear hg4 ho hrt hb3 hb3' hbel HC HL
          generalize nums p = P at *
          have hbelA := hbel4.trans ((bal' w4 (Obj.cells #[.int .u8 10] 5)).mono hbel4.size)
          have hoA := ho4.below (bal' w4 (Obj.cells #[.int .u8 10] 5))
          go_wp2_with (at_builtin; refine wpList_append_own _ (by rfl) _ _ 36 (by rfl) w1.heap.size 5 i0 (.int .u8 0) 1 1 Tryd.underlying36 hi hz0 hz1 hz2 rfl (by decide) _ _ _ (by rfl) hoA ⟨w4.heap.size, 0, none⟩ 1 1 [.int .u8 10] (by rfl) rfl ?d1 ?d2 ?d3 ?d4 ?d5 ?_)
          case d1 =>
            intro j' u hj'
            match j', hj' with
            | 0, hj' => simp at hj'; subst hj'; simp [Addr.add, go_sem]
          case d2 => intro u hu; simp at hu; subst hu; rfl
          case d3 => unfold maxLen; omega
          case d4 => omega
          case d5 => exact hbelA.size
          intro v5 w5 ho5 hg5 _
          have hbel5 := hbelA.grown hg5 hbelA.size (fun k hk => (hoA.lt k hk).1)
          clear hg5 hoA ho4 hbelA hbel4
          go_wp2
          go_roundw
          case rel => exact ⟨j + 1, by go_num, by omega, by rw [HT.out, List.length_append, List.length_append, List.map_append, List.map_append, List.append_assoc]; exact ho5, hbel5⟩
          case measure => simp [intOf]; omega
      · have hjn : j = rows.length := by omega
        have hji : ¬ (j : Int) < (rows.length : Int) := by omega
        subst hjn
        have hz1' := gridText_size rows (fun i hi => by have := hfl i hi; omega) rows.length (Nat.le_refl _)
        have hL : (nums (gridTextUp rows rows.length)).length ≤ 200000 := by rw [nums_len]; omega
        have hcv := conv_own ho
        have hse : Hid (strOfNums (nums (gridTextUp rows rows.length)) = gridTextUp rows rows.length) := str_nums _
        clear hz1' ho hs hrc hfl hrok
        generalize nums (gridTextUp rows rows.length) = T at *
        go_wp2
        go_ret
        exact ⟨by rw [hT.out, ← hse.out]; rfl, kb1.trans (hbel.mono kb1.size)⟩
end Go.Proofs.YtngbndfnhpjmjabDoor
namespace Go.Proofs.YtngbndfnhpjmjabDoor
open Go.ChangeShapes Go.WideShapes Go.ChangeAt Go.RowKit
theorem eqStyle_same (s : St) (w : World) :
    Calls Tryd.prog 46 #[stV s, stV s] w fun e w' => e = .returned (.bool true) ∧ Below w.heap.size w w' := by
  obtain ⟨f, b, bo, un, tu⟩ := s
  unfold stV
  simp only
  go_enter Tryd.func46, Tryd.ntmps46
  go_wp2
  go_ret
  exact ⟨rfl, ((Below.refl _ _).alloc (Nat.le_refl _) _).alloc (by simp) _⟩
end Go.Proofs.YtngbndfnhpjmjabDoor
namespace Go.Proofs.YtngbndfnhpjmjabDoor
open Go.ChangeShapes Go.WideShapes Go.ChangeAt Go.RowKit
def BS (a w : World) : Prop := Below a.heap.size a w ∧ a.heap.size ≤ w.heap.size
theorem BS.out {a w : World} (h : BS a w) : Below a.heap.size a w := h.1
theorem BS.set {a w : World} (h : BS a w) (g k : Nat) (u : Value) (hg : a.heap.size ≤ g) : BS a (w.setCell ⟨g, k, none⟩ u) :=
  ⟨h.1.grown (setCell_gr w g k u) h.2 (fun k hk => by cases hk; exact hg), by simpa using h.2⟩
set_option maxHeartbeats 1000000 in
theorem eqCell_same (c : Ce) (w : World) :
    Calls Tryd.prog 37 #[ceV c, ceV c] w fun e w' => e = .returned (.bool true) ∧ Below w.heap.size w w' := by
  have heq := fun W => eqStyle_same c.st W
  have b1 := bal' w (Obj.cells #[.int .i64 c.rune, .int .i64 c.st.fore, .int .i64 c.st.back, .bool c.st.bold, .bool c.st.under, .bool c.st.turned, .int .i64 c.part] 48)
  have b2 := b1.trans ((bal' _ (Obj.cells #[.int .i64 c.rune, .int .i64 c.st.fore, .int .i64 c.st.back, .bool c.st.bold, .bool c.st.under, .bool c.st.turned, .int .i64 c.part] 48)).mono b1.size)
  have s2 := (CeF.new w c 48).below (bal' _ (Obj.cells #[.int .i64 c.rune, .int .i64 c.st.fore, .int .i64 c.st.back, .bool c.st.bold, .bool c.st.under, .bool c.st.turned, .int .i64 c.part] 48))
  have r2 := CeF.new (w.alloc (Obj.cells #[.int .i64 c.rune, .int .i64 c.st.fore, .int .i64 c.st.back, .bool c.st.bold, .bool c.st.under, .bool c.st.turned, .int .i64 c.part] 48)) c 48
  have z1 : (w.alloc (Obj.cells #[.int .i64 c.rune, .int .i64 c.st.fore, .int .i64 c.st.back, .bool c.st.bold, .bool c.st.under, .bool c.st.turned, .int .i64 c.part] 48)).heap.size = w.heap.size + 1 := by simp
  rw [z1] at r2
  unfold ceV stV at *
  go_enter Tryd.func37, Tryd.ntmps37
  go_wp2_with fail
  refine (heq _).mono ?_
  rintro e w1 ⟨rfl, hb1⟩
  have s3 := s2.below hb1
  have r3 := r2.below hb1
  have b3 := b2.trans (hb1.mono b2.size)
  clear s2 r2 b1 b2 hb1 z1 heq
  obtain ⟨_, ⟨c0, c1, c2, c3, c4, c5, c6⟩, _⟩ := s3
  obtain ⟨_, ⟨d0, d1, d2, d3, d4, d5, d6⟩, _⟩ := r3
  go_wp2
  go_ret
  exact ⟨rfl, b3⟩
end Go.Proofs.YtngbndfnhpjmjabDoor
namespace Go.Proofs.YtngbndfnhpjmjabDoor
open Go.ChangeShapes Go.WideShapes Go.ChangeAt Go.RowKit
theorem toStyle_any (s : St) (w : World) :
    Calls Tryd.prog 40 #[stV s] w fun e w' => e = .returned (stV s) ∧ Below w.heap.size w w' := by
  obtain ⟨f, b, bo, un, tu⟩ := s
  unfold stV
  simp only
  go_enter Tryd.func40, Tryd.ntmps40
  go_wp2
  refine bodyPost_ret (v := .agg #[.int .i64 f, .int .i64 b, .bool bo, .bool un, .bool tu]) (by simp [results, Tryd.results40, go_sem]) rfl ⟨rfl, ?_⟩
  exact (((Below.refl _ _).alloc (Nat.le_refl _) _).alloc (by simp) _).alloc (by simp; omega) _
end Go.Proofs.YtngbndfnhpjmjabDoor
namespace Go.Proofs.YtngbndfnhpjmjabDoor
open Go.ChangeShapes Go.WideShapes Go.ChangeAt Go.RowKit
theorem szC_any (v : Value) (xs : List Ce) (left : Nat) (w : World) (hv : SlC w v xs) (hl : xs.length ≤ maxLen) (hf : left ≤ 4611686018427387904) :
    Calls Tryd.prog 16 #[v, .int .i64 left] w fun e w' => e = .returned (.int .i64 (if left < xs.length then -1 else ((left - xs.length : Nat) : Int))) ∧ w' = w := by
  unfold maxLen at hl
  obtain ⟨a, c, rfl, _⟩ := hv
  generalize xs.length = n at *
  by_cases h : left < n
  · have h2 : (left : Int) - (n : Int) < 0 := by omega
    rw [if_pos h]
    go_enter Tryd.func16, Tryd.ntmps16
    go_wp2
    go_ret
    exact ⟨rfl, rfl⟩
  · have h2 : ¬ (left : Int) - (n : Int) < 0 := by omega
    have h3 : Hid (((left - n : Nat) : Int) = (left : Int) - (n : Int)) := by show _ = _; omega
    rw [if_neg h]
    go_enter Tryd.func16, Tryd.ntmps16
    go_wp2
    go_ret
    exact ⟨by rw [h3.out]; rfl, rfl⟩
set_option maxHeartbeats 1000000 in
theorem toCell_any (c : Ce) (w : World) :
    Calls Tryd.prog 28 #[ceV c] w fun e w' => e = .returned (ceV c) ∧ Below w.heap.size w w' := by
  have hto := fun W => toStyle_any c.st W
  have b1 := bal' w (Obj.cells #[.int .i64 c.rune, .int .i64 c.st.fore, .int .i64 c.st.back, .bool c.st.bold, .bool c.st.under, .bool c.st.turned, .int .i64 c.part] 59)
  have b2 := b1.trans ((bal' _ (Obj.cells #[.int .i64 0, .int .i64 0, .int .i64 0, .bool false, .bool false, .bool false, .int .i64 0] 48)).mono b1.size)
  have b3 := b2.trans ((bal' _ (Obj.cells #[.int .i64 c.rune, .int .i64 0, .int .i64 0, .bool false, .bool false, .bool false, .int .i64 0] 48)).mono b2.size)
  have s3 := ((CeF.new w c 59).below (bal' _ (Obj.cells #[.int .i64 0, .int .i64 0, .int .i64 0, .bool false, .bool false, .bool false, .int .i64 0] 48))).below (bal' _ (Obj.cells #[.int .i64 c.rune, .int .i64 0, .int .i64 0, .bool false, .bool false, .bool false, .int .i64 0] 48))
  have r3 := (CeF.new (w.alloc (Obj.cells #[.int .i64 c.rune, .int .i64 c.st.fore, .int .i64 c.st.back, .bool c.st.bold, .bool c.st.under, .bool c.st.turned, .int .i64 c.part] 59)) Ce.zero 48).below (bal' _ (Obj.cells #[.int .i64 c.rune, .int .i64 0, .int .i64 0, .bool false, .bool false, .bool false, .int .i64 0] 48))
  have o3 := CeF.new ((w.alloc (Obj.cells #[.int .i64 c.rune, .int .i64 c.st.fore, .int .i64 c.st.back, .bool c.st.bold, .bool c.st.under, .bool c.st.turned, .int .i64 c.part] 59)).alloc (Obj.cells #[.int .i64 0, .int .i64 0, .int .i64 0, .bool false, .bool false, .bool false, .int .i64 0] 48)) ⟨c.rune, St.zero, 0⟩ 48
  have z1 : (w.alloc (Obj.cells #[.int .i64 c.rune, .int .i64 c.st.fore, .int .i64 c.st.back, .bool c.st.bold, .bool c.st.under, .bool c.st.turned, .int .i64 c.part] 59)).heap.size = w.heap.size + 1 := by simp
  have z2 : ((w.alloc (Obj.cells #[.int .i64 c.rune, .int .i64 c.st.fore, .int .i64 c.st.back, .bool c.st.bold, .bool c.st.under, .bool c.st.turned, .int .i64 c.part] 59)).alloc (Obj.cells #[.int .i64 0, .int .i64 0, .int .i64 0, .bool false, .bool false, .bool false, .int .i64 0] 48)).heap.size = w.heap.size + 1 + 1 := by simp
  rw [z1] at r3
  rw [z2] at o3
  simp only [Ce.zero, St.zero] at r3 o3
  unfold ceV stV at *
  go_enter Tryd.func28, Tryd.ntmps28
  go_wp2_with fail
  refine (hto _).mono ?_
  rintro e w1 ⟨rfl, hb1⟩
  have s4 := s3.below hb1
  have r4 := r3.below hb1
  have o4 := o3.below hb1
  have b4 := b3.trans (hb1.mono b3.size)
  clear s3 r3 o3 b1 b2 b3 hb1 z1 z2 hto
  obtain ⟨_, ⟨c0, c1, c2, c3, c4, c5, c6⟩, _⟩ := s4
  obtain ⟨_, ⟨d0, d1, d2, d3, d4, d5, d6⟩, ⟨x0, x1, x2, x3, x4, x5, x6⟩⟩ := r4
  obtain ⟨_, ⟨e0, e1, e2, e3, e4, e5, e6⟩, ⟨y0, y1, y2, y3, y4, y5, y6⟩⟩ := o4
  go_wp2
  refine bodyPost_ret (v := .agg #[.int .i64 c.rune, .int .i64 c.st.fore, .int .i64 c.st.back, .bool c.st.bold, .bool c.st.under, .bool c.st.turned, .int .i64 c.part]) (by simp [results, Tryd.results28, go_sem, setCell_ne', *]) rfl ⟨rfl, ?_⟩
  clear c0 c1 c2 c3 c4 c5 c6 d0 d1 d2 d3 d4 d5 d6 e0 e1 e2 e3 e4 e5 e6 x0 x1 x2 x3 x4 x5 x6 y0 y1 y2 y3 y4 y5 y6
  have bs : BS w w1 := ⟨b4, b4.size⟩
  refine BS.out ?_
  repeat (first | with_reducible exact bs | with_reducible refine BS.set ?_ _ _ _ (by omega))
end Go.Proofs.YtngbndfnhpjmjabDoor
namespace Go.Proofs.YtngbndfnhpjmjabDoor
open Go.ChangeShapes Go.WideShapes Go.ChangeAt Go.RowKit
set_option maxHeartbeats 1000000 in
theorem eqC_same (va vb : Value) (xs : List Ce) (w : World) (ha : SlC w va xs) (hb : SlC w vb xs) (hl : xs.length ≤ 1073741824) :
    Calls Tryd.prog 24 #[va, vb] w fun e w' => e = .returned (.bool true) ∧ Below w.heap.size w w' := by
  have heq := fun c W => eqCell_same c W
  obtain ⟨a, c, rfl, hc1, hn1, hr1⟩ := ha
  obtain ⟨a', c', rfl, hc2, hn2, hr2⟩ := hb
  rcases hr1 with h | ⟨b, off, rfl, hbb, hs1⟩
  · subst h
    go_enter Tryd.func24, Tryd.ntmps24
    go_wp2
    refine wp_loop_rounds 1 ?_
    rw [rounds_succ]
    go_wp2
    go_ret
    exact ⟨rfl, Below.refl _ _⟩
  · rcases hr2 with h | ⟨b', off', rfl, hbb', hs2⟩
    · subst h
      go_enter Tryd.func24, Tryd.ntmps24
      go_wp2
      refine wp_loop_rounds 1 ?_
      rw [rounds_succ]
      go_wp2
      go_ret
      exact ⟨rfl, Below.refl _ _⟩
    · unfold ceV at heq
      go_enter Tryd.func24, Tryd.ntmps24
      go_wp2
      go_loopw [5] (fun i wr => ∃ j : Nat, i = .int .i64 j ∧ j ≤ xs.length ∧ Below w.heap.size w wr) (fun i _ => xs.length - (intOf i).toNat)
      case atStart => exact ⟨0, rfl, Nat.zero_le _, Below.refl _ _⟩
      case round =>
        obtain ⟨j, rfl, hj, kb⟩ := hrel
        by_cases hlt : j < xs.length
        · have hji : (j : Int) < (xs.length : Int) := by omega
          have hj0 : (0 : Int) ≤ (j : Int) := by omega
          have kd : Below w.heap.size w wr.drew := kb.trans ((bdr _).mono kb.size)
          have hat1 := (hs1 j hlt).below kd hbb
          have hat2 := (hs2 j hlt).below kd hbb'
          obtain ⟨c0, c1, c2, c3, c4, c5, c6⟩ := hat1
          obtain ⟨d0, d1, d2, d3, d4, d5, d6⟩ := hat2
          clear hs1 hs2 
          go_wp2
          go_region_with (go_at_call 37; refine (heq (atC xs j) _).mono ?_; rintro e w1 ⟨rfl, hb1⟩)
          all_goals
            have kb1 := kd.trans (hb1.mono kd.size)
            clear c0 c1 c2 c3 c4 c5 c6 d0 d1 d2 d3 d4 d5 d6 kd kb hb1 heq
            go_wp2
            go_roundw
            case rel => exact ⟨j + 1, by go_num, by omega, kb1⟩
            case measure => simp [intOf]; omega
        · have hji : ¬ (j : Int) < (xs.length : Int) := by omega
          go_wp2
          go_ret
          exact ⟨rfl, kb⟩
theorem SlC.at {w : World} {a : Option Addr} {n c : Nat} {xs : List Ce} (h : SlC w (.slice a n c) xs) (j : Nat) (hj : j < xs.length) : ∃ b off, a = some ⟨b, off, none⟩ ∧ b < w.heap.size ∧ CeAt w b (off + j * 7) (atC xs j) := by
  obtain ⟨a', c', e, _, _, hr⟩ := h
  simp only [Value.slice.injEq] at e
  obtain ⟨rfl, rfl, rfl⟩ := e
  rcases hr with h | ⟨b, off, ha, hb, hi⟩
  · rw [h] at hj; simp at hj
  · exact ⟨b, off, ha, hb, hi j hj⟩
end Go.Proofs.YtngbndfnhpjmjabDoor
namespace Go.Proofs.YtngbndfnhpjmjabDoor
open Go.ChangeShapes Go.WideShapes Go.ChangeAt Go.RowKit
theorem OwnC.cur {w : World} {base g n cap : Nat} {L : List Ce} (h : OwnC w base (.slice (some ⟨g, 0, none⟩) n cap) L) (hn : L.length = n) :
    ∃ cur : Array Value, w.heap[g]? = some (.cells cur 48 (0, 0)) ∧ base ≤ g ∧ n ≤ cap ∧ cap ≤ maxLen ∧ cur.size = cap * 7 ∧ cur.toList.take (n * 7) = L.flatMap ceL := by
  subst hn
  rcases h.2 with ⟨h1, _⟩ | ⟨g', cap', cur, hv, hb, hg, hc, hm, hs, ht⟩
  · cases h1
  · simp only [Value.slice.injEq, Option.some.injEq, Addr.mk.injEq, and_true, true_and] at hv
    obtain ⟨rfl, rfl⟩ := hv
    exact ⟨cur, hg, hb, hc, hm, hs, ht⟩
/-- 'make([]Cell, n)'. -/
theorem made_zero (n : Nat) : (madeCells (ceV Ce.zero).cells (n * 7)).toList = (List.replicate n Ce.zero).flatMap ceL := by
  apply List.ext_getElem?
  intro i
  by_cases hi : i < n * 7
  · have h1 : i / 7 < n := by omega
    have h2 : i % 7 < 7 := Nat.mod_lt _ (by decide)
    have e : i = i / 7 * 7 + i % 7 := by omega
    have hr : ((List.replicate n Ce.zero).flatMap ceL)[i]? = (ceL Ce.zero)[i % 7]? := by
      conv => lhs; rw [e]
      rw [flat_get _ (i / 7) (i % 7) (by simpa using h1) h2]
      simp [atC, h1]
    rw [hr]
    simp only [madeCells, Array.toList_map, List.getElem?_map, Array.toList_range]
    rw [List.getElem?_range hi]
    generalize he : i % 7 = k at *
    have hz : (ceV Ce.zero).cells.size = 7 := rfl
    simp only [Option.map_some, hz, he]
    match k, h2 with
    | 0, _ => rfl
    | 1, _ => rfl
    | 2, _ => rfl
    | 3, _ => rfl
    | 4, _ => rfl
    | 5, _ => rfl
    | 6, _ => rfl
  · rw [List.getElem?_eq_none (by simp [size_madeCells]; omega), List.getElem?_eq_none (by rw [flat_len]; simp; omega)]
theorem make_oc {w : World} {ops : Array Oper} {rest : List Oper} {o : Oper} {ac : Act} {Q : Exit → Act → World → Prop} (hgd : o.guard = none) (x y : Operand)
    (ho : o.op = Op.makeSlice 37 x y) (n : Nat) (hx : ac.eval x = .int .i64 (n : Int)) (hy : ac.eval y = .int .i64 (n : Int)) (hn : n ≤ 1073741824)
    (h : ∀ w', OwnC w' w.heap.size (.slice (some ⟨w.heap.size, 0, none⟩) n n) (List.replicate n Ce.zero) → Below w.heap.size w w' → wpList Tryd.prog ops Q rest (ac.put o.dst (.slice (some ⟨w.heap.size, 0, none⟩) n n)) w') :
    wpList Tryd.prog ops Q (o :: rest) ac w := by
  obtain ⟨i0, hi, hz0, hz1, hz2⟩ := info_parts info_cell
  refine wpList_make_full _ hgd x y 37 ho w.heap.size 48 i0 (ceV Ce.zero) 7 Tryd.underlying37 hi hz0 hz1 .i64 .i64 (n : Int) (n : Int) n hx hy rfl rfl (by rw [hz2]; omega) (by unfold maxLen; omega) (Nat.le_refl _) (fun w' ho' hg => ?_)
  refine h w' ?_ ((Below.refl _ _).grown hg (Nat.le_refl _) (fun k hk => by cases hk))
  rw [made_zero] at ho'
  unfold OwnC
  rw [List.length_replicate]
  exact ho'
theorem ownC_none (w : World) (base : Nat) : OwnC w base (.slice none 0 0) [] := ⟨rfl, .inl ⟨rfl, rfl⟩⟩
end Go.Proofs.YtngbndfnhpjmjabDoor
namespace Go.Proofs.YtngbndfnhpjmjabDoor
open Go.ChangeShapes Go.WideShapes Go.ChangeAt Go.RowKit
set_option maxHeartbeats 2000000 in
theorem toCS_copy (v : Value) (xs : List Ce) (w : World) (hv : SlC w v xs) (hl : xs.length ≤ 1073741824) :
    Calls Tryd.prog 20 #[v] w fun e w' => ∃ u, e = .returned u ∧ OwnC w' w.heap.size u xs ∧ Below w.heap.size w w' := by
  have hto := fun c W => toCell_any c W
  unfold ceV at hto
  obtain ⟨a, c, rfl, hc0⟩ := id hv
  clear hc0
  go_enter Tryd.func20, Tryd.ntmps20
  go_wp2_with (refine make_oc rfl _ _ rfl xs.length rfl rfl hl ?_; intro w1 ho1 hb1)
  go_wp2
  go_loopw [4] (fun i wr => ∃ (j : Nat) (ys : List Ce), i = .int .i64 j ∧ j ≤ xs.length ∧ ys.length = xs.length ∧ (∀ t, t < j → atC ys t = atC xs t) ∧ OC w.heap.size (.slice (some ⟨w.heap.size, 0, none⟩) xs.length xs.length) ys w wr) (fun i _ => xs.length - (intOf i).toNat)
  case atStart => exact ⟨0, _, rfl, Nat.zero_le _, List.length_replicate, (fun t h => absurd h (Nat.not_lt_zero t)), ho1, hb1, hb1.size, Nat.le_refl _⟩
  case round =>
    clear ho1 hb1
    obtain ⟨j, ys, rfl, hj, hyl, hys, k⟩ := hrel
    by_cases hlt : j < xs.length
    · have hji : (j : Int) < (xs.length : Int) := by omega
      have hj0 : (0 : Int) ≤ (j : Int) := by omega
      obtain ⟨b, off, rfl, hbb, hat⟩ := (hv.below k.2.1).at j hlt
      obtain ⟨c0, c1, c2, c3, c4, c5, c6⟩ := hat
      go_wp2_with fail
      refine (hto (atC xs j) _).mono ?_
      rintro e w2 ⟨rfl, hb2⟩
      have k2 := k.below hb2
      have hp := k2.1.put hyl j hlt (atC xs j)
      have kk : OC w.heap.size (.slice (some ⟨w.heap.size, 0, none⟩) xs.length xs.length) (ys.set j (atC xs j)) w (putCe w2 w.heap.size (j * 7) (atC xs j)) := k2.own hp.1 hp.2
      have hys2 : ∀ t, t < j + 1 → atC (ys.set j (atC xs j)) t = atC xs t := by
        intro t ht
        rw [atC_set]
        by_cases e : t = j
        · subst e; rw [if_pos ⟨rfl, by omega⟩]
        · rw [if_neg (fun h => e h.1)]; exact hys t (by omega)
      have hyl2 : (ys.set j (atC xs j)).length = xs.length := by simpa using hyl
      have hat := k2.1.at hyl j hlt
      have f0 := k2.1.frozen hyl (j * 7)
      have f1 := k2.1.frozen hyl (j * 7 + 1)
      have f2 := k2.1.frozen hyl (j * 7 + 2)
      have f3 := k2.1.frozen hyl (j * 7 + 3)
      have f4 := k2.1.frozen hyl (j * 7 + 4)
      have f5 := k2.1.frozen hyl (j * 7 + 5)
      have f6 := k2.1.frozen hyl (j * 7 + 6)
      clear hp k hb2 hto hys c0 c1 c2 c3 c4 c5 c6 k2 hv hyl
      generalize ys.set j (atC xs j) = ys2 at *
      obtain ⟨c0, c1, c2, c3, c4, c5, c6⟩ := hat
      simp only [putCe] at kk
      go_wp2
      go_roundw
      case rel => exact ⟨j + 1, ys2, by go_num, by omega, hyl2, hys2, kk⟩
      case measure => simp [intOf]; omega
    · have hjn : j = xs.length := by omega
      have hji : ¬ (j : Int) < (xs.length : Int) := by omega
      have hye : ys = xs := ext_atC _ _ hyl (fun i hi => hys i (by omega))
      subst hye
      clear hys hyl hv hto
      go_wp2
      go_ret
      exact ⟨_, rfl, k.1, k.2.1⟩
end Go.Proofs.YtngbndfnhpjmjabDoor
namespace Go.Proofs.YtngbndfnhpjmjabDoor
open Go.ChangeShapes Go.WideShapes Go.ChangeAt Go.RowKit
theorem rowV_set {vs : List Value} {i : Nat} (hi : i < vs.length) (r : Value) (k : Nat) : rowV (vs.set i r) k = if k = i then r else rowV vs k := by
  unfold rowV
  by_cases e : k = i
  · subst e; rw [if_pos rfl]; simp [List.getD, hi]
  · rw [if_neg e]; simp [List.getD, Ne.symm e]
theorem rowX_set {rows : List (List Ce)} {i : Nat} (hi : i < rows.length) (x : List Ce) (k : Nat) : rowX (rows.set i x) k = if k = i then x else rowX rows k := by
  unfold rowX
  by_cases e : k = i
  · subst e; rw [if_pos rfl]; simp [List.getD, hi]
  · rw [if_neg e]; simp [List.getD, Ne.symm e]
/-- One row is written anew. -/
theorem OwnG.set {w : World} {base B g n cap : Nat} {rows : List (List Ce)} (h : OwnG w base B (.slice (some ⟨g, 0, none⟩) n cap) rows) (hn : rows.length = n) (i : Nat) (hi : i < n) (r : Value) (xs : List Ce) (hr : OwnC w base r xs) (hB : ∀ q, r.ownBlock = some q → B ≤ q) :
    OwnG (w.setCell ⟨g, i, none⟩ r) base (w.setCell ⟨g, i, none⟩ r).heap.size (.slice (some ⟨g, 0, none⟩) n cap) (rows.set i xs) ∧ w.grownBy (w.setCell ⟨g, i, none⟩ r) (some g) := by
  subst hn
  obtain ⟨vs, hvl, hown, hrs, hlt, hd⟩ := h
  have h0 := World.ownsRow.stored hown i r
  have hap : ∀ {u : Value} {ys : List Ce}, OwnC w base u ys → OwnC (w.setCell ⟨g, i, none⟩ r) base u ys := fun hu => hu.kept h0.2 (outer_apart hown hu)
  have hs2 := h0.2.size
  refine ⟨⟨vs.set i r, by simp [hvl], by rw [List.length_set]; exact h0.1, fun k hk => ?_, fun k hk q e => ?_, fun a b hab hb q e => ?_⟩, h0.2⟩
  · rw [List.length_set] at hk
    rw [rowV_set (by omega), rowX_set hi]
    by_cases e : k = i
    · rw [if_pos e, if_pos e]; exact hap hr
    · rw [if_neg e, if_neg e]; exact hap (hrs k hk)
  · rw [List.length_set] at hk
    rw [rowV_set (by omega)] at e
    by_cases c : k = i
    · rw [if_pos c] at e; have := (hr.lt q e).2; omega
    · rw [if_neg c] at e; have := ((hrs k hk).lt q e).2; omega
  · rw [List.length_set] at hb
    rw [rowV_set (by omega)] at e
    rw [rowV_set (by omega)]
    by_cases c : a = i
    · rw [if_pos c] at e
      rw [if_neg (by omega)]
      intro e2
      have := hlt b hb q e2
      have := hB q e
      omega
    · rw [if_neg c] at e
      by_cases c2 : b = i
      · rw [if_pos c2]
        intro e2
        have := hlt a (by omega) q e
        have := hB q e2
        omega
      · rw [if_neg c2]; exact hd a b hab hb q e
theorem made_none (n : Nat) : (madeCells (Value.slice none 0 0).cells (n * 1)).toList = List.replicate n (Value.slice none 0 0) := by
  apply List.ext_getElem?
  intro i
  by_cases hi : i < n
  · simp [madeCells, Value.cells, hi, Nat.mod_one]
  · simp [madeCells, Value.cells, hi]
theorem make_og {w : World} {ops : Array Oper} {rest : List Oper} {o : Oper} {ac : Act} {Q : Exit → Act → World → Prop} (hgd : o.guard = none) (x y : Operand)
    (ho : o.op = Op.makeSlice 27 x y) (n : Nat) (hx : ac.eval x = .int .i64 (n : Int)) (hy : ac.eval y = .int .i64 (n : Int)) (hn : n ≤ 1073741824)
    (h : ∀ w', OwnG w' w.heap.size w'.heap.size (.slice (some ⟨w.heap.size, 0, none⟩) n n) (List.replicate n []) → Below w.heap.size w w' → wpList Tryd.prog ops Q rest (ac.put o.dst (.slice (some ⟨w.heap.size, 0, none⟩) n n)) w') :
    wpList Tryd.prog ops Q (o :: rest) ac w := by
  obtain ⟨i0, hi, hz0, hz1, hz2⟩ := info_parts info_row
  refine wpList_make_full _ hgd x y 27 ho w.heap.size 37 i0 (.slice none 0 0) 1 under_rows hi hz0 hz1 .i64 .i64 (n : Int) (n : Int) n hx hy rfl rfl (by rw [hz2]; omega) (by unfold maxLen; omega) (Nat.le_refl _) (fun w' ho' hg => ?_)
  rw [made_none] at ho'
  have hv : ∀ i, rowV (List.replicate n (Value.slice none 0 0)) i = .slice none 0 0 := fun i => by
    unfold rowV; by_cases hi : i < n <;> simp [List.getD, hi]
  have hr : ∀ i, rowX (List.replicate n ([] : List Ce)) i = [] := fun i => by
    unfold rowX; by_cases hi : i < n <;> simp [List.getD, hi]
  have hG : OwnG w' w.heap.size w'.heap.size (.slice (some ⟨w.heap.size, 0, none⟩) n n) (List.replicate n []) :=
    ⟨List.replicate n (.slice none 0 0), by simp, by rw [List.length_replicate]; exact ho', fun i _ => by rw [hv, hr]; exact ownC_none _ _, (fun i _ g e => by rw [hv] at e; cases e), (fun i j _ _ g e => by rw [hv] at e; cases e)⟩
  exact h w' hG ((Below.refl _ _).grown hg (Nat.le_refl _) (fun k hk => by cases hk))
end Go.Proofs.YtngbndfnhpjmjabDoor
namespace Go.Proofs.YtngbndfnhpjmjabDoor
open Go.ChangeShapes Go.WideShapes Go.ChangeAt Go.RowKit
set_option maxHeartbeats 2000000 in
theorem toCSS_copy (v : Value) (rows : List (List Ce)) (w : World) (hv : SlG w v rows) (hl : rows.length ≤ 1073741824) (hx : ∀ i, i < rows.length → (rowX rows i).length ≤ 1073741824) :
    Calls Tryd.prog 12 #[v] w fun e w' => ∃ u, e = .returned u ∧ OwnG w' w.heap.size w'.heap.size u rows ∧ Below w.heap.size w w' := by
  obtain ⟨a, c, vs, rfl, hcp, _, hr, hs⟩ := id hv
  go_enter Tryd.func12, Tryd.ntmps12
  go_wp2_with (refine make_og rfl _ _ rfl rows.length rfl rfl hl ?_; intro w1 ho1 hb1)
  go_wp2
  go_loopw [4] (fun i wr => ∃ (j : Nat) (R : List (List Ce)), i = .int .i64 j ∧ j ≤ rows.length ∧ R.length = rows.length ∧ (∀ t, t < j → rowX R t = rowX rows t) ∧ OwnG wr w.heap.size wr.heap.size (.slice (some ⟨w.heap.size, 0, none⟩) rows.length rows.length) R ∧ Below w.heap.size w wr) (fun i _ => rows.length - (intOf i).toNat)
  case atStart => exact ⟨0, _, rfl, Nat.zero_le _, List.length_replicate, (fun t h => absurd h (Nat.not_lt_zero t)), ho1, hb1⟩
  case round =>
    clear ho1 hb1
    obtain ⟨j, R, rfl, hj, hRl, hR, k, kb⟩ := hrel
    by_cases hlt : j < rows.length
    · have hji : (j : Int) < (rows.length : Int) := by omega
      have hj0 : (0 : Int) ≤ (j : Int) := by omega
      rcases hr with h | ⟨b, off, rfl, hbb, hrc⟩
      · rw [h] at hlt; simp at hlt
      have hsj := (hs j hlt).below kb
      have hcj := (kb.cell (p := ⟨b, off + j, none⟩) hbb).trans (hrc j hlt)
      obtain ⟨aj, cj, ev, _⟩ := id hsj
      rw [ev] at hcj hsj
      have hto := toCS_copy _ _ wr hsj (hx j hlt)
      clear hs hrc ev hsj hv
      go_wp2_with fail
      refine hto.mono ?_
      rintro e w2 ⟨r, rfl, hor, hb2⟩
      have hk2 := (k.below hb2).set hRl j hlt r _ (hor.low kb.size) (fun q e => (hor.lt q e).1)
      have hw0 : ∃ cur, w2.cell? ⟨w.heap.size, j, none⟩ = some cur := by
        obtain ⟨vs2, hvl2, hown2, _⟩ := k.below hb2
        rw [hRl] at hown2
        exact ⟨_, by rw [World.ownsRow.cellAt hown2 j (by omega), rowV_get (by omega)]⟩
      have hfz : w2.frozen? ⟨w.heap.size, j, none⟩ = false := by
        obtain ⟨vs2, hvl2, hown2, _⟩ := k.below hb2
        rw [hRl] at hown2
        exact World.ownsRow.frozenAt hown2 j
      have kb3 := (kb.trans (hb2.mono kb.size)).grown hk2.2 (by have := kb.size; have := hb2.size; omega) (fun g e => by cases e; exact Nat.le_refl _)
      have hR2 : ∀ t, t < j + 1 → rowX (R.set j (rowX rows j)) t = rowX rows t := fun t ht => by
        rw [rowX_set (by omega)]
        by_cases e : t = j
        · rw [if_pos e, e]
        · rw [if_neg e]; exact hR t (by omega)
      have hRl2 : (R.set j (rowX rows j)).length = rows.length := by simpa using hRl
      have kk := hk2.1
      obtain ⟨cur, hcur⟩ := hw0
      obtain ⟨ra, rn, rc, rfl⟩ : ∃ a n c, r = Value.slice a n c := by rcases hor.shape with ⟨h, _⟩ | ⟨_, _, h, _⟩ <;> exact ⟨_, _, _, h⟩
      clear k kb hor hb2 hto hk2 hR hRl hcj
      generalize R.set j (rowX rows j) = R2 at *
      go_wp2
      go_roundw
      case rel => exact ⟨j + 1, R2, by go_num, by omega, hRl2, hR2, kk, kb3⟩
      case measure => simp [intOf]; omega
    · have hjn : j = rows.length := by omega
      have hji : ¬ (j : Int) < (rows.length : Int) := by omega
      have hye : R = rows := by
        apply List.ext_getElem hRl
        intro i h1 h2
        rw [← rowX_lt h1, ← rowX_lt h2]
        exact hR i (by omega)
      subst hye
      clear hs hr hR hv
      go_wp2
      go_ret
      exact ⟨_, rfl, k, kb⟩
end Go.Proofs.YtngbndfnhpjmjabDoor
namespace Go.Proofs.YtngbndfnhpjmjabDoor
open Go.ChangeShapes Go.WideShapes Go.ChangeAt Go.RowKit
/-- A new grid that grows beside the result's block. -/
def NG (M B : Nat) (cols : Int) (u : Value) (rows : List (List Ce)) (w0 W : World) : Prop :=
  GrW W M 0 (.slice none 0 0) ∧ GrW W (M + 1) cols u ∧ OwnG W (M + 2) B u rows ∧ M + 2 ≤ W.heap.size ∧ B ≤ W.heap.size ∧ Below M w0 W
theorem NG.below {M B : Nat} {cols : Int} {u : Value} {rows : List (List Ce)} {w0 W W' : World} (k : NG M B cols u rows w0 W) (hb : Below W.heap.size W W') : NG M B cols u rows w0 W' :=
  ⟨k.1.below hb, k.2.1.below hb, k.2.2.1.below hb, Nat.le_trans k.2.2.2.1 hb.size, Nat.le_trans k.2.2.2.2.1 hb.size, k.2.2.2.2.2.trans (hb.mono (by have := k.2.2.2.1; omega))⟩
theorem NG.drew {M B : Nat} {cols : Int} {u : Value} {rows : List (List Ce)} {w0 W : World} (k : NG M B cols u rows w0 W) : NG M B cols u rows w0 W.drew := k.below (bdr W)
/-- What NewGrid gives. -/
def newOk (cols n : Int) : Prop := (1 ≤ cols ∧ cols ≤ 60) ∧ (1 ≤ n ∧ n ≤ 30)
instance (cols n : Int) : Decidable (newOk cols n) := by unfold newOk; exact inferInstance
end Go.Proofs.YtngbndfnhpjmjabDoor
namespace Go.Proofs.YtngbndfnhpjmjabDoor
open Go.ChangeShapes Go.WideShapes Go.ChangeAt Go.RowKit
set_option maxHeartbeats 2000000 in
theorem toGrid_copy (cols : Int) (v : Value) (rows : List (List Ce)) (w : World) (hv : SlG w v rows) (hl : rows.length ≤ 1073741824) (hx : ∀ i, i < rows.length → (rowX rows i).length ≤ 1073741824) :
    Calls Tryd.prog 6 #[gridV cols v] w fun e w' => ∃ u, e = .returned (gridV cols u) ∧ OwnG w' w.heap.size w'.heap.size u rows ∧ Below w.heap.size w w' := by
  have hto := fun W h => toCSS_copy v rows W h hl hx
  have hG0 := GrN.new w cols v 24
  have hb0 := bal' w (Obj.cells #[.int .i64 cols, v] 24)
  have e0 : (w.alloc (Obj.cells #[.int .i64 cols, v] 24)).heap.size = w.heap.size + 1 := by simp
  have hvv := hv
  obtain ⟨a, c, vs, rfl, _⟩ := id hv
  have hv1 := hvv.below hb0
  unfold gridV
  generalize hw1 : w.alloc (Obj.cells #[.int .i64 cols, .slice a rows.length c] 24) = w1 at *
  have hR := GrW.new w1 0 (.slice none 0 0) 29
  have hb1 := bal' w1 (Obj.cells #[Value.int IntKind.i64 0, Value.slice none 0 0] 29)
  have e1 : (w1.alloc (Obj.cells #[Value.int IntKind.i64 0, Value.slice none 0 0] 29)).heap.size = w.heap.size + 2 := by simp; omega
  have hO := GrW.new (w1.alloc (Obj.cells #[Value.int IntKind.i64 0, Value.slice none 0 0] 29)) cols (.slice none 0 0) 29
  have hb2 := bal' (w1.alloc (Obj.cells #[Value.int IntKind.i64 0, Value.slice none 0 0] 29)) (Obj.cells #[Value.int IntKind.i64 cols, Value.slice none 0 0] 29)
  rw [e1] at hO
  rw [e0] at hR
  have hR2 := hR.below hb2
  have hbb := hb1.trans (hb2.mono hb1.size)
  have hv2 := hv1.below hbb
  have e3 : ((w1.alloc (Obj.cells #[Value.int IntKind.i64 0, Value.slice none 0 0] 29)).alloc (Obj.cells #[Value.int IntKind.i64 cols, Value.slice none 0 0] 29)).heap.size = w.heap.size + 3 := by simp; omega
  subst hw1
  obtain ⟨_, g0, g1⟩ := id hG0
  go_enter Tryd.func6, Tryd.ntmps6
  go_wp2_with fail
  refine (hto _ hv2).mono ?_
  rintro e w4 ⟨u, rfl, hou, hb4⟩
  have hR4 := hR2.below hb4
  have hO4 := hO.below hb4
  obtain ⟨ua, un, uc, rfl⟩ : ∃ a n c, u = Value.slice a n c := by rcases hou.shape with ⟨h, _⟩ | ⟨_, _, h, _⟩ <;> exact ⟨_, _, _, h⟩
  have hs4 := hb4.size
  rw [e3] at hou hs4
  have hg5 := putG_grown w4 (w.heap.size + 2) (.slice ua un uc)
  have hO5 := hO4.put (.slice ua un uc)
  have hR5 := hR4.grown hg5 (fun e => by simp at e)
  have ho5 := (hou.kept hg5 (fun g e => by cases e; omega)).up hg5.size
  have hbase := hb0.trans ((hbb.trans (hb4.mono hbb.size)).mono hb0.size)
  have hb5 := hbase.grown hg5 (by omega) (fun g e => by cases e; omega)
  have hs5 := hg5.size
  have hg6 := putG2_grown (putG w4 (w.heap.size + 2) (.slice ua un uc)) (w.heap.size + 1) cols (.slice ua un uc)
  have kF := (hR5.put2 cols (.slice ua un uc)).2.1
  have ho6 := (ho5.kept hg6 (fun g e => by cases e; omega)).up hg6.size
  have hb6 := hb5.grown hg6 (by omega) (fun g e => by cases e; omega)
  clear hG0 hb0 e0 hR hb1 e1 hO hb2 hR2 hbb hv1 hv2 hvv hto e3 hbase hb4 hs4 hs5 hg5 hg6 hb5 ho5 hou g0 g1
  obtain ⟨_, ⟨d0, d1⟩, ⟨y0, y1⟩⟩ := hR4
  obtain ⟨_, ⟨c0, c1⟩, ⟨z0, z1⟩⟩ := hO4
  obtain ⟨_, ⟨p0, p1⟩, ⟨q0, q1⟩⟩ := hO5
  obtain ⟨_, ⟨r0, r1⟩, ⟨s0, s1⟩⟩ := hR5
  obtain ⟨f0, f1⟩ := kF
  simp only [putG, putG2] at f0 f1 ho6 hb6 p0 p1 q0 q1 r0 r1 s0 s1
  go_wp2
  exact bodyPost_ret (v := .agg #[.int .i64 cols, .slice ua un uc]) (by simp [results, Tryd.results6, go_sem, f0, f1]) rfl ⟨_, rfl, ho6.low (by omega), hb6⟩
end Go.Proofs.YtngbndfnhpjmjabDoor
namespace Go.Proofs.YtngbndfnhpjmjabDoor
open Go.ChangeShapes Go.WideShapes Go.ChangeAt Go.RowKit
/-- What is left of a size behind the first rows. -/
def leftG (rows : List (List Ce)) (left : Nat) : Nat → Option Nat
  | 0 => if left < rows.length then none else some (left - rows.length)
  | j + 1 => match leftG rows left j with
    | none => none
    | some m => if m < (rowX rows j).length then none else some (m - (rowX rows j).length)
def szG (rows : List (List Ce)) (left : Nat) : Int := match leftG rows left rows.length with | none => -1 | some m => m
theorem leftG_none {rows : List (List Ce)} {left j : Nat} (h : leftG rows left j = none) : ∀ k, j ≤ k → leftG rows left k = none
  | 0, hk => by have : j = 0 := by omega
                subst this; exact h
  | k + 1, hk => by
    by_cases e : j = k + 1
    · subst e; exact h
    · have := leftG_none h k (by omega)
      rw [leftG, this]
theorem leftG_le {rows : List (List Ce)} {left : Nat} : ∀ {j m : Nat}, leftG rows left j = some m → m ≤ left ∧ rows.length ≤ left ∧ ∀ i, i < j → (rowX rows i).length ≤ left
  | 0, m, h => by
    rw [leftG] at h
    split at h
    · cases h
    · cases h; exact ⟨by omega, by omega, fun i hi => absurd hi (Nat.not_lt_zero i)⟩
  | j + 1, m, h => by
    rw [leftG] at h
    split at h
    · cases h
    · rename_i q hq
      split at h
      · cases h
      · cases h
        obtain ⟨h1, h2, h3⟩ := leftG_le hq
        refine ⟨by omega, h2, fun i hi => ?_⟩
        by_cases e : i = j
        · subst e; omega
        · exact h3 i (by omega)
set_option maxHeartbeats 2000000 in
theorem szCSS_any (v : Value) (rows : List (List Ce)) (left : Nat) (w : World) (hv : SlG w v rows) (hl : rows.length ≤ maxLen) (hx : ∀ i, i < rows.length → (rowX rows i).length ≤ maxLen) (hf : left ≤ 4611686018427387904) :
    Calls Tryd.prog 9 #[v, .int .i64 left] w fun e w' => e = .returned (.int .i64 (szG rows left)) ∧ w' = w := by
  unfold maxLen at hl
  obtain ⟨a, c, vs, rfl, hcp, _, hr, hs⟩ := id hv
  by_cases h : left < rows.length
  · have h2 : (left : Int) - (rows.length : Int) < 0 := by omega
    have hz : Hid (szG rows left = -1) := by show _ = _; unfold szG; rw [leftG_none (j := 0) (by rw [leftG, if_pos h]) _ (Nat.zero_le _)]
    clear hs hr
    go_enter Tryd.func9, Tryd.ntmps9
    go_wp2
    go_ret
    exact ⟨by rw [hz.out]; rfl, rfl⟩
  · have h2 : ¬ (left : Int) - (rows.length : Int) < 0 := by omega
    have h3 : Hid (leftG rows left 0 = some (left - rows.length)) := by show _ = _; rw [leftG, if_neg h]
    have h4 : Hid ((left : Int) - (rows.length : Int) = ((left - rows.length : Nat) : Int)) := by show _ = _; omega
    go_enter Tryd.func9, Tryd.ntmps9
    go_wp2
    go_loopw [1, 5] (fun u i wr => ∃ j m : Nat, i = .int .i64 j ∧ u = .int .i64 m ∧ j ≤ rows.length ∧ Hid (leftG rows left j = some m) ∧ wr = w) (fun _ i _ => rows.length - (intOf i).toNat)
    case atStart => exact ⟨0, left - rows.length, rfl, by rw [← h4.out], Nat.zero_le _, h3, rfl⟩
    case round =>
      clear h3 h4 h2 h
      obtain ⟨j, m, rfl, rfl, hj, hm, hw⟩ := hrel
      subst hw
      by_cases hlt : j < rows.length
      · have hji : (j : Int) < (rows.length : Int) := by omega
        have hj0 : (0 : Int) ≤ (j : Int) := by omega
        rcases hr with h | ⟨b, off, rfl, hbb, hrc⟩
        · rw [h] at hlt; simp at hlt
        have hsj := hs j hlt
        have hcj := hrc j hlt
        obtain ⟨aj, cj, ev, _⟩ := id hsj
        rw [ev] at hcj hsj
        have hsz := szC_any _ _ m wr hsj (hx j hlt) (by have := (leftG_le hm.out).1; omega)
        clear hs hrc ev hsj hv
        by_cases h5 : m < (rowX rows j).length
        · have hz : Hid (szG rows left = -1) := by show _ = _; unfold szG; rw [leftG_none (j := j + 1) (by rw [leftG, hm.out]; simp [h5]) _ hlt]
          rw [if_pos h5] at hsz
          go_wp2_with fail
          refine hsz.mono ?_
          rintro e w2 ⟨rfl, hw2⟩
          subst hw2
          go_wp2
          go_ret
          exact ⟨by rw [hz.out]; rfl, rfl⟩
        · have hm2 : Hid (leftG rows left (j + 1) = some (m - (rowX rows j).length)) := by show _ = _; rw [leftG, hm.out]; simp [h5]
          have h6 : ¬ (((m - (rowX rows j).length : Nat) : Int) < 0) := by omega
          rw [if_neg h5] at hsz
          generalize m - (rowX rows j).length = m2 at *
          go_wp2_with fail
          refine hsz.mono ?_
          rintro e w2 ⟨rfl, hw2⟩
          subst hw2
          go_wp2
          go_roundw
          case rel => exact ⟨j + 1, m2, by go_num, rfl, by omega, hm2, trivial⟩
          case measure => simp [intOf]; omega
      · have hjn : j = rows.length := by omega
        have hji : ¬ (j : Int) < (rows.length : Int) := by omega
        subst hjn
        have hz : Hid (szG rows left = (m : Int)) := by show _ = _; unfold szG; rw [hm.out]
        clear hs hr hv
        go_wp2
        go_ret
        exact ⟨by rw [hz.out]; rfl, rfl⟩
set_option maxHeartbeats 1000000 in
theorem szGrid_any (cols : Int) (v : Value) (rows : List (List Ce)) (left : Nat) (w : World) (hv : SlG w v rows) (hl : rows.length ≤ maxLen) (hx : ∀ i, i < rows.length → (rowX rows i).length ≤ maxLen) (hf : left ≤ 4611686018427387904) :
    Calls Tryd.prog 4 #[gridV cols v, .int .i64 left] w fun e w' => e = .returned (.int .i64 (szG rows left)) ∧ Below w.heap.size w w' := by
  have hb0 := bal' w (Obj.cells #[.int .i64 cols, v] 24)
  have hG0 := GrN.new w cols v 24
  have hsz := fun W h => szCSS_any v rows left W h hl hx hf
  have hv1 := hv.below hb0
  obtain ⟨a, c, vs, rfl, _⟩ := id hv
  unfold gridV
  obtain ⟨_, g0, g1⟩ := id hG0
  go_enter Tryd.func4, Tryd.ntmps4
  go_wp2_with fail
  refine (hsz _ hv1).mono ?_
  rintro e w2 ⟨rfl, hw⟩
  subst hw
  by_cases h : szG rows left < 0
  · have hz : Hid (szG rows left = -1) := by
      show _ = _
      unfold szG at *
      split at h
      · rfl
      · omega
    go_wp2
    go_ret
    exact ⟨by rw [hz.out]; rfl, hb0⟩
  · go_wp2
    go_ret
    exact ⟨rfl, hb0⟩
end Go.Proofs.YtngbndfnhpjmjabDoor
namespace Go.Proofs.YtngbndfnhpjmjabDoor
open Go.ChangeShapes Go.WideShapes Go.ChangeAt Go.RowKit
set_option maxHeartbeats 4000000 in
theorem eqCSS_same (va vb : Value) (rows : List (List Ce)) (w : World) (ha : SlG w va rows) (hb : SlG w vb rows) (hl : rows.length ≤ 1073741824) (hx : ∀ i, i < rows.length → (rowX rows i).length ≤ 1073741824) :
    Calls Tryd.prog 15 #[va, vb] w fun e w' => e = .returned (.bool true) ∧ Below w.heap.size w w' := by
  obtain ⟨a, c, vs, rfl, _, _, hr, hs⟩ := id ha
  obtain ⟨a2, c2, vs2, rfl, _, _, hr2, hs2⟩ := id hb
  clear ha hb
  go_enter Tryd.func15, Tryd.ntmps15
  go_wp2
  go_loopw [5] (fun i wr => ∃ j : Nat, i = .int .i64 j ∧ j ≤ rows.length ∧ Below w.heap.size w wr) (fun i _ => rows.length - (intOf i).toNat)
  case atStart => exact ⟨0, rfl, Nat.zero_le _, Below.refl _ _⟩
  case round =>
    obtain ⟨j, rfl, hj, kb⟩ := hrel
    by_cases hlt : j < rows.length
    · have hji : (j : Int) < (rows.length : Int) := by omega
      have hj0 : (0 : Int) ≤ (j : Int) := by omega
      rcases hr with h | ⟨b, off, rfl, hbb, hrc⟩
      · rw [h] at hlt; simp at hlt
      rcases hr2 with h | ⟨b2, off2, rfl, hbb2, hrc2⟩
      · rw [h] at hlt; simp at hlt
      have hsj := (hs j hlt).below kb
      have hsj2 := (hs2 j hlt).below kb
      have hcj := (kb.cell (p := ⟨b, off + j, none⟩) hbb).trans (hrc j hlt)
      have hcj2 := (kb.cell (p := ⟨b2, off2 + j, none⟩) hbb2).trans (hrc2 j hlt)
      obtain ⟨aj, cj, ev, _⟩ := id hsj
      obtain ⟨aj2, cj2, ev2, _⟩ := id hsj2
      rw [ev] at hcj hsj
      rw [ev2] at hcj2 hsj2
      have heq := fun W (hW : Below wr.heap.size wr W) => eqC_same _ _ _ W (hsj.below hW) (hsj2.below hW) (hx j hlt)
      clear hs hs2 hrc hrc2 ev ev2 hsj hsj2
      go_wp2
      go_region_with (go_at_call 24; refine (heq _ (bdr _)).mono ?_; rintro e w2 ⟨rfl, hb2⟩)
      all_goals
        have kb2 := (kb.trans ((bdr wr).mono kb.size)).trans (hb2.mono kb.size)
        clear kb hb2 heq
        go_wp2
        go_roundw
        case rel => exact ⟨j + 1, by go_num, by omega, by first | exact kb2 | exact kb2.drew⟩
        case measure => simp [intOf]; omega
    · have hjn : j = rows.length := by omega
      have hji : ¬ (j : Int) < (rows.length : Int) := by omega
      subst hjn
      clear hs hs2 hr hr2
      go_wp2
      go_ret
      exact ⟨rfl, kb⟩
set_option maxHeartbeats 2000000 in
theorem eqGrid_same (cols : Int) (va vb : Value) (rows : List (List Ce)) (w : World) (ha : SlG w va rows) (hb : SlG w vb rows) (hl : rows.length ≤ 1073741824) (hx : ∀ i, i < rows.length → (rowX rows i).length ≤ 1073741824) :
    Calls Tryd.prog 8 #[gridV cols va, gridV cols vb] w fun e w' => e = .returned (.bool true) ∧ Below w.heap.size w w' := by
  have hb0 := bal' w (Obj.cells #[.int .i64 cols, va] 29)
  have hb1 := bal' (w.alloc (Obj.cells #[.int .i64 cols, va] 29)) (Obj.cells #[.int .i64 cols, vb] 29)
  have hG0 := (GrN.new w cols va 29).below hb1
  have hG1 := GrN.new (w.alloc (Obj.cells #[.int .i64 cols, va] 29)) cols vb 29
  have e0 : (w.alloc (Obj.cells #[.int .i64 cols, va] 29)).heap.size = w.heap.size + 1 := by simp
  rw [e0] at hG1
  have heq := fun W h1 h2 => eqCSS_same va vb rows W h1 h2 hl hx
  have hbb := hb0.trans (hb1.mono hb0.size)
  have ha1 := ha.below hbb
  have hb2 := hb.below hbb
  obtain ⟨a, c, vs, rfl, _⟩ := id ha
  obtain ⟨a2, c2, vs2, rfl, _⟩ := id hb
  unfold gridV
  obtain ⟨_, g0, g1⟩ := id hG0
  obtain ⟨_, f0, f1⟩ := id hG1
  go_enter Tryd.func8, Tryd.ntmps8
  go_wp2_with fail
  refine (heq _ ha1 hb2).mono ?_
  rintro e w2 ⟨rfl, hw⟩
  go_wp2
  go_ret
  exact ⟨rfl, hbb.trans (hw.mono hbb.size)⟩
end Go.Proofs.YtngbndfnhpjmjabDoor
namespace Go.Proofs.YtngbndfnhpjmjabDoor
open Go.ChangeShapes Go.WideShapes Go.ChangeAt Go.RowKit
theorem slShape {w : World} {v : Value} {rows : List (List Ce)} (h : SlG w v rows) : ∃ a n c, v = Value.slice a n c := by
  obtain ⟨a, c, vs, rfl, _⟩ := h
  exact ⟨_, _, _, rfl⟩
set_option maxHeartbeats 4000000 in
set_option maxRecDepth 20000 in
theorem walk_FnExactGridText (w : World) (hS : SpansAt w) (cols : Int) (v : Value) (rows : List (List Ce)) (hv : SlG w v rows) (hl0 : rows.length ≤ maxLen) (hx0 : ∀ i, i < rows.length → (rowX rows i).length ≤ maxLen) :
    Calls Tryd.prog 3 #[gridV cols v] w fun e w' => e = .returned (.bool true) ∧ Below w.heap.size w w' := by
  have hz := fun W h => szGrid_any cols v rows 1048576 W h hl0 hx0 (by decide)
  have hbA := bal' w (Obj.cells #[.int .i64 cols, v] 24)
  have hGA := GrN.new w cols v 24
  have hvA := hv.below hbA
  have hSA := hS.below hbA hS.lt
  obtain ⟨p0, p1, p2, rfl⟩ := slShape hv
  unfold gridV at *
  have c0 := hGA.2.1
  have c1 := hGA.2.2
  by_cases hL : szG rows 1048576 < 0
  · have hzv : Hid (szG rows 1048576 = -1) := by
      show _ = _
      unfold szG at *
      split at hL
      · rfl
      · omega
    clear hS hSA
    go_enter Tryd.func3, Tryd.ntmps3
    go_wp2_with fail
    refine (hz _ hvA).mono ?_
    rintro e w1 ⟨rfl, hb⟩
    go_wp2
    go_ret
    exact ⟨rfl, hbA.trans (hb.mono hbA.size)⟩
  · have hfit : rows.length ≤ 1048576 ∧ ∀ i, i < rows.length → (rowX rows i).length ≤ 1048576 := by
      unfold szG at hL
      split at hL
      · exact absurd (by decide) hL
      · rename_i m hm; exact ⟨(leftG_le hm).2.1, (leftG_le hm).2.2⟩
    obtain ⟨hl, hx⟩ := hfit
    have hto := fun W h => toGrid_copy cols (.slice p0 p1 p2) rows W h (by omega) (fun i hi => by have := hx i hi; omega)
    have hsp := fun v W h => specGridText_any cols v rows W h (by omega) hx
    have him := fun v W hS h => implGridText_any cols v rows W hS h hl hx
    have heq := fun va vb W h1 h2 => eqGrid_same cols va vb rows W h1 h2 (by omega) (fun i hi => by have := hx i hi; omega)
    unfold gridV at hto hsp him heq
    clear hl0 hx0 hx hl hv hS
    generalize szG rows 1048576 = z at *
    generalize gridTextV cols rows = ok at *
    go_enter Tryd.func3, Tryd.ntmps3
    go_wp2_with fail
    refine (hz _ hvA).mono ?_
    rintro e w1 ⟨rfl, hb⟩
    have hb1 := hbA.trans (hb.mono hbA.size)
    have hG1 := hGA.below hb
    have hv1 := hvA.below hb
    have hS1 := hSA.below hb hSA.lt
    clear hbA hGA hvA hSA hb c0 c1
    have c0 := hG1.2.1
    have c1 := hG1.2.2
    go_wp2_with fail
    refine (hto _ hv1).mono ?_
    rintro e w2 ⟨u, rfl, ho, hb⟩
    have hb2 := hb1.trans (hb.mono hb1.size)
    have hG2 := hG1.below hb
    have hv2 := hv1.below hb
    have hS2 := hS1.below hb hS1.lt
    have hu := SlG.of_own ho
    obtain ⟨q0, q1, q2, rfl⟩ := slShape hu
    clear hb1 hG1 hv1 hS1 hb ho c0 c1
    go_wp2_with fail
    refine (hsp _ _ hu).mono ?_
    rintro e w3 ⟨rfl, hb⟩
    have hb3 := hb2.trans (hb.mono hb2.size)
    have hG3 := hG2.below hb
    have hv3 := hv2.below hb
    have hS3 := hS2.below hb hS2.lt
    clear hb2 hG2 hv2 hS2 hb hu
    have c0 := hG3.2.1
    have c1 := hG3.2.2
    go_wp2_with fail
    refine (hto _ hv3).mono ?_
    rintro e w4 ⟨x, rfl, ho, hb⟩
    have hal := bal' w4 (Obj.cells #[.int .i64 cols, x] 29)
    have hX := GrN.new w4 cols x 29
    have hb4 := (hb3.trans (hb.mono hb3.size)).trans (hal.mono (Nat.le_trans hb3.size hb.size))
    have hG4 := (hG3.below hb).below hal
    have hv4 := (hv3.below hb).below hal
    have hS4 := (hS3.below hb hS3.lt).below hal (hS3.below hb hS3.lt).lt
    have hx4 := (SlG.of_own ho).below hal
    obtain ⟨x0, x1, x2, rfl⟩ := slShape hx4
    clear hb3 hG3 hv3 hS3 hb ho hal c0 c1
    have d0 := hX.2.1
    have d1 := hX.2.2
    go_wp2_with fail
    refine (him _ _ hS4 hx4).mono ?_
    rintro e w5 ⟨rfl, hb⟩
    have hb5 := hb4.trans (hb.mono hb4.size)
    have hG5 := hG4.below hb
    have hv5 := hv4.below hb
    have hX5 := hX.below hb
    have hx5 := hx4.below hb
    clear hb4 hG4 hv4 hS4 hX hx4 hb d0 d1
    have hall : ∀ W, Below w5.heap.size w5 W → W.cell? ⟨w.heap.size, 0, none⟩ = some (.int .i64 cols) ∧ W.cell? ⟨w.heap.size, 1, none⟩ = some (.slice p0 p1 p2) ∧ W.cell? ⟨w4.heap.size, 0, none⟩ = some (.int .i64 cols) ∧ W.cell? ⟨w4.heap.size, 1, none⟩ = some (.slice x0 x1 x2) ∧ Below w5.heap.size w5 W :=
      fun W h => ⟨(hG5.below h).2.1, (hG5.below h).2.2, (hX5.below h).2.1, (hX5.below h).2.2, h⟩
    have hkd := hall _ (bdr w5)
    go_wp2
    go_region_held3 (fun W => W.cell? ⟨w.heap.size, 0, none⟩ = some (.int .i64 cols) ∧ W.cell? ⟨w.heap.size, 1, none⟩ = some (.slice p0 p1 p2) ∧ W.cell? ⟨w4.heap.size, 0, none⟩ = some (.int .i64 cols) ∧ W.cell? ⟨w4.heap.size, 1, none⟩ = some (.slice x0 x1 x2) ∧ Below w5.heap.size w5 W) (first | with_reducible assumption)
      (first
        | (go_at_call 6; refine (hto _ (hv5.below (bdr w5))).mono ?_; rintro e wa ⟨y, rfl, ho, hb⟩; have hka := hall _ ((bdr w5).trans (hb.mono (bdr w5).size)); obtain ⟨y0, y1, y2, rfl⟩ := slShape (SlG.of_own ho))
        | (go_at_call 8; refine (heq _ _ _ (hx5.below hka.2.2.2.2) (SlG.of_own ho)).mono ?_; rintro e wb ⟨rfl, hb'⟩; have hkb := hall _ (hka.2.2.2.2.trans (hb'.mono hka.2.2.2.2.size))))
    go_wp2
    go_ret
    exact ⟨rfl, hb5.trans (hkb.2.2.2.2.mono hb5.size)⟩
end Go.Proofs.YtngbndfnhpjmjabDoor
