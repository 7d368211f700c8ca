/- Contract of the program's RowText. -/
import Derived.Test.YteimcepkoclpbaaDoorRT0
import Derived.Test.YteimcepkoclpbaaDoorJRK4
import Derived.Test.YteimcepkoclpbaaDoorPutI
namespace Go.Proofs.YteimcepkoclpbaaDoor
open Go.ChangeShapes Go.WideShapes Go.ChangeAt Go.RowKit

theorem strCells_n (s : ByteArray) : Lib.strCells s = (nums s).map (Value.int .u8) := by
  simp [Lib.strCells, nums]
set_option maxHeartbeats 4000000 in
set_option maxRecDepth 20000 in
theorem implRowText_any (v : Value) (xs : List Ce) (w : World) (hS : SpansAt w) (hv : SlC w v xs) (hl : xs.length ≤ 1048576) :
    Calls Tryd.prog 21 #[v] w fun e w' => e = .returned (.string (rowTextV xs)) ∧ Below w.heap.size w w' := by
  have hok := implRowOk_any v xs w hS hv hl
  obtain ⟨i0, hi, hz0, hz1, hz2⟩ := info_parts info_u8
  obtain ⟨a, c, rfl, hcp, hnc, _⟩ := id hv
  cases hb : rowOkB xs
  · have hT : Hid (rowTextV xs = ⟨#[]⟩) := by show _ = _; unfold rowTextV; rw [if_neg (by rw [hb]; decide)]
    rw [hb] at hok
    go_enter Tryd.func21, Tryd.ntmps21
    go_wp2_with fail
    refine hok.mono ?_
    rintro e w1 ⟨rfl, hb1⟩
    clear hb hok
    go_wp2
    go_ret
    exact ⟨by rw [hT.out]; rfl, hb1⟩
  · have hT : Hid (trimV (textV (runesUp xs xs.length)) = rowTextV xs) := rowText_way hb
    obtain ⟨hx60, hR⟩ := (right_iff xs).1 hb
    rw [hb] at hok
    go_enter Tryd.func21, Tryd.ntmps21
    go_wp2_with fail
    refine hok.mono ?_
    rintro e w1 ⟨rfl, hb1⟩
    have hv1 := hv.below hb1
    clear hb hok hv
    go_wp2
    go_loopw [3, 12, 5] (fun u i _ wr => ∃ j : Nat, i = .int .i64 j ∧ j ≤ xs.length ∧ wr.ownsRow w1.heap.size 5 1 u (textL (runesUp xs j)).length ((textL (runesUp xs j)).map (Value.int .u8)) ∧ Below w1.heap.size w1 wr) (fun _ i _ _ => xs.length - (intOf i).toNat)
    case atStart =>
      refine ⟨0, rfl, Nat.zero_le _, ?_, (Below.refl _ _).alloc (Nat.le_refl _) _⟩
      exact World.ownsRow_lit (base := w1.heap.size) (e := 5) (size := 1) w1 #[] 0 (Nat.le_refl _) (Nat.zero_le _) rfl
    case round =>
      obtain ⟨j, rfl, hj, ho, hbel⟩ := hrel
      by_cases hlj : j < xs.length
      · have hji : (j : Int) < (xs.length : Int) := by omega
        have hj0 : (0 : Int) ≤ (j : Int) := by omega
        obtain ⟨b, off, rfl, hsrc⟩ := (hv1.below hbel).src (by omega)
        obtain ⟨c0, c1, c2, c3, c4, c5, c6⟩ := hsrc j hlj
        have hL : (textL (runesUp xs j)).length ≤ 4 * 60 := by have h := textL_len (runesUp xs j); have := runesUp_len xs j; omega
        have hX := CeF.new wr (atC xs j) 37
        have hbX := bal' wr (Obj.cells #[.int .i64 (atC xs j).rune, .int .i64 (atC xs j).st.fore, .int .i64 (atC xs j).st.back, .bool (atC xs j).st.bold, .bool (atC xs j).st.under, .bool (atC xs j).st.turned, .int .i64 (atC xs j).part] 37)
        have hob := ho.below hbX
        have hb2 := hbel.trans (hbX.mono hbel.size)
        clear hsrc
        by_cases hp : (atC xs j).part = 2
        · have bp : ((atC xs j).part != 2) = false := by simp [hp]
          have hst : Hid (runesUp xs (j + 1) = runesUp xs j) := runesUp_yes xs j hp
          clear hp hX hbX ho
          generalize atC xs j = x at *
          go_wp2
          go_roundw
          case rel => exact ⟨j + 1, by go_num, by omega, by rw [hst.out]; exact hob, hb2⟩
          case measure => simp [intOf]; omega
        · have bp : ((atC xs j).part != 2) = true := by simp [hp]
          have hst : Hid (runesUp xs (j + 1) = runesUp xs j ++ [(atC xs j).rune]) := runesUp_no xs j hp
          have hk : runeOk (atC xs j).rune = true := cell_rune (hR.1 j hlj) hp
          have hput := fun W => implPut_any (atC xs j).rune W
          have HC : Hid (Lib.strCells (putS (atC xs j).rune) = (putL (atC xs j).rune).map (Value.int .u8)) := by show _ = _; rw [strCells_n, nums_putS _ hk]
          have HL : Hid ((putS (atC xs j).rune).size = (putL (atC xs j).rune).length) := putS_size _ hk
          have HT : Hid (textL (runesUp xs (j + 1)) = textL (runesUp xs j) ++ putL (atC xs j).rune) := by
            show _ = _; rw [hst.out, textL_app]; simp [textL, okR_yes _ hk]
          have hp4 := putS_size4 (atC xs j).rune
          obtain ⟨_, ⟨d0, d1, d2, d3, d4, d5, d6⟩, _⟩ := id hX
          have hsX := hbX.size
          clear hp hX ho hk hst
          generalize putS (atC xs j).rune = p at *
          generalize putL (atC xs j).rune = P at *
          generalize textL (runesUp xs j) = T at *
          generalize atC xs j = x at *
          go_wp2_with (first
            | (go_at_call 56; refine (hput _).mono ?_; rintro e w3 ⟨rfl, hb3⟩)
            | (at_builtin; refine Lib.wpList_append_own_string _ rfl _ _ 22 9 rfl w1.heap.size 5 i0 Tryd.underlying22 Tryd.underlying9 hi hz0 hz1 hz2 _ _ _ rfl (hob.below hb3) p rfl ?c3 ?c4 ?c5 ?_))
          case c3 => unfold maxLen; omega
          case c4 => omega
          case c5 => exact Nat.le_trans hb2.size hb3.size
          · intro v' w4 ho4 hg4 _
            have hb3' := hb2.trans (hb3.mono hb2.size)
            have hbel4 : Below w1.heap.size w1 w4 := hb3'.grown hg4 hb3'.size (fun k hk => (hob.lt k hk).1)
            rw [HC.out, HL.out] at ho4
            clear hg4 hob hput
            go_wp2
            go_roundw
            case rel => exact ⟨j + 1, by go_num, by omega, by rw [HT.out, List.length_append, List.map_append]; exact ho4, hbel4⟩
            case measure => simp [intOf]; omega
      · have hjn : j = xs.length := by omega
        have hji : ¬ (j : Int) < (xs.length : Int) := by omega
        subst hjn
        have hL : (textL (runesUp xs xs.length)).length ≤ 4 * 60 := by have h := textL_len (runesUp xs xs.length); have := runesUp_len xs xs.length; omega
        have hcv := conv_own ho
        have hsz : (textV (runesUp xs xs.length)).size = (textL (runesUp xs xs.length)).length := by rw [← nums_len]; exact congrArg List.length (nums_str _ (textL_byte _))
        have hsz2 : (textV (runesUp xs xs.length)).size ≤ 1048576 := by omega
        have htr := fun W => trimRight_any (textV (runesUp xs xs.length)) W hsz2
        unfold textV at *
        clear hsz hsz2 hL ho
        generalize textL (runesUp xs xs.length) = T at *
        go_wp2_with fail
        refine (htr _).mono ?_
        rintro e w5 ⟨rfl, hw⟩
        subst hw
        go_wp2
        go_ret
        exact ⟨by rw [← hT.out]; rfl, hb1.trans (hbel.mono hb1.size)⟩
end Go.Proofs.YteimcepkoclpbaaDoor
